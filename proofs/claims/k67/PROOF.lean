import PyProof.Rows.All
import Wide.All
import OpenK.AllK
import Wide.FinOn
import HandS.ForMost
import HandS.Evl
import HandS.Walk
import HandS.SortKw
import HandS.DictComp
import HandS.IsInst
import HandS.ForExc
import HandS.TupAny
import HandS.Conv
import HandS.Property
import HandS.ExcIs
import HandS.Deep
import HandS.SetBool
import HandS.SetKeys
import HandS.OwnIter
import HandS.OwnEq
import HandS.IterNext
import PyProof.InstSpecial
import KE.KOwnIter
import HandS.ClsMeth
import OpenK.KDescr
import HandS.Style
import HandS.IterVal
import HandS.More
import HandS.HeadHook3
import HandS.Proxy
import HandS.Iter
import HandS.WordsDict
import KE.DataMinMax
import HandS.Text
import HandS.Wide
import PyProof.StrBlock2
import HandS.TupLe
import HandS.Zip
import KE.OsRunLaw
import PySem.Challenge.RW_appendhall_k67_whole_network_runs
set_option Elab.async false
set_option linter.all false
set_option maxRecDepth 100000
namespace Ap
open PySem PySem.Spec PyProof.Rows L2 Evl
section
variable {K : PySem.W.Frag} {σ : L2.St} {H H' : Hp} {ta tb tc te : TE} {t u : TT} {x y z v w : V} {r r' : R2}
theorem ev_chain {k m : Bool} (ha : Ev ta σ H x) (hb : Ev tb σ H y) (hr : RV r x y H (.bl k)) (hc : Ev tc σ H z) (hr' : RV r' y z H (.bl m)) : Ev (tChain r r' ta tb tc) σ H (.bl (k && m)) := fun H1 e Q q =>
  ha H1 e _ fun H2 e2 => hb H2 (e.trans e2) _ fun H3 e3 => hr H3 ((e.trans e2).trans e3) _ fun H4 e4 => ⟨k, rfl, by
    cases k with
    | true =>
      show tc σ H4 _
      exact hc H4 (((e.trans e2).trans e3).trans e4) _ fun H5 e5 => hr' H5 ((((e.trans e2).trans e3).trans e4).trans e5) Q fun H6 e6 => q H6 ((((e2.trans e3).trans e4).trans e5).trans e6)
    | false =>
      show Q (.bl false) H4
      exact q H4 ((e2.trans e3).trans e4)⟩
theorem rc_int {i : Int} : RC (fun xs H Q => (∃ i, xs = [.int i] ∧ Q (.int i) H) ∨ ∃ k, xs = [.bl k] ∧ Q (.int (if k then 1 else 0)) H) [.int i] H (.int i) := fun H1 _ _ q => Or.inl ⟨i, rfl, q H1 (Ex.refl H1)⟩
theorem rc_len {p : Addr} {xs : List V} (h : SqL K H p xs) : RC (fun xs H Q => ∃ p ys, xs = [.ref p] ∧ (SqL K H p ys ∨ SqT K H p ys) ∧ Q (.int ys.length) H) [.ref p] H (.int (xs.length : Int)) := fun H1 e _ q => ⟨p, xs, rfl, Or.inl (ex_l e h), q H1 (Ex.refl H1)⟩
theorem rc_lenT {p : Addr} {xs : List V} (h : SqT K H p xs) : RC (fun xs H Q => ∃ p ys, xs = [.ref p] ∧ (SqL K H p ys ∨ SqT K H p ys) ∧ Q (.int ys.length) H) [.ref p] H (.int (xs.length : Int)) := fun H1 e _ q => ⟨p, xs, rfl, Or.inr (ex_t e h), q H1 (Ex.refl H1)⟩
end
section
variable {K : PySem.W.Frag} {σ : L2.St} {H H' : Hp} {ta tb tc te td ty tv : TE} {t u : TT} {x y z v w : V} {D : Ends} {tz : TS}
/-- isinstance(x, T) of a plain value -/
theorem rc_isi {x : V} {T X : String} {b : Bool} (ht : ∀ H, TyX K H x (.type X)) (hb : kitB X T = some b) : RC (rIsi K) [x, .ty T] H (.bl b) := fun H1 _ _ q => ⟨x, .ty T, .type X, .type T, b, rfl, .ty T, ht H1, kit_ty hb, q H1 (Ex.refl H1)⟩
theorem given_eq {α : Type} (xs : List α) (d : α) (p : α → Bool) (g : α → V) : given xs.length (fun i => p (xs.getD i d)) (fun i => g (xs.getD i d)) = (xs.filter p).map g := by
  have e : (List.range xs.length).map (fun i => xs.getD i d) = xs := by
    refine List.ext_getElem (by simp) (fun i h1 h2 => ?_)
    rw [List.getElem_map, List.getElem_range, List.getD_eq_getElem?_getD, List.getElem?_eq_getElem h2]
    rfl
  unfold given
  conv => rhs; rw [← e]
  rw [List.filter_map, List.map_map]
  rfl
end
def Dr (ds : List Int) : Prop := ∀ d ∈ ds, 0 ≤ d ∧ d < 5040
theorem Dr.nil : Dr [] := fun _ h => nomatch h
/-- a draw: the k-th one, 0 behind the last -/
def drw (ds : List Int) (k : Nat) : Int := ds.getD k 0
def spDraw (K : PySem.W.Frag) : Sp := fun vs H Q _ => ∃ (a : Addr) (ds : List Int) (k : Nat), vs = [.ref a, .int (k : Int)] ∧ SqL K H a (ds.map V.int) ∧ RetV (.int (drw ds k)) H Q
theorem spDraw_v {K : PySem.W.Frag} {H : Hp} {a : Addr} {ds : List Int} {j : Int} {k : Nat} (h : SqL K H a (ds.map V.int)) (e : j = (k : Int)) : SpV (spDraw K) [.ref a, .int j] H (.int (drw ds k)) := fun H1 e1 Q q E =>
  ⟨a, ds, k, by rw [e], ex_l e1 h, fun H2 e2 => q H2 e2⟩
def drI (ds : List Int) (j : Int) : Int := drw ds j.toNat
theorem spDrawI {K : PySem.W.Frag} {H : Hp} {a : Addr} {ds : List Int} {j : Int} (h : SqL K H a (ds.map V.int)) (e : 0 ≤ j) : SpV (spDraw K) [.ref a, .int j] H (.int (drI ds j)) := spDraw_v h (by omega)
structure Df (K : PySem.W.Frag) (mg : Str → Option Value) (x : Str) (st : Stmt) (ps : List Str) (f : Addr) (fd : FuncData) : Prop where
  F : Fun K x x st f fd
  b : Binds K fd ps []
  g : mg x = some (.ref f)
theorem df_mk {K : PySem.W.Frag} {mg : Str → Option Value} {h : Heap} (X : K.In h) (G : h.Ns mainGlobals mg) {x : Str} {st : Stmt} {ps : List Str} {f : Addr} {oc : Value} {od an : Option Addr} {sl : Array (Option Value)} {kV dc pm cd ct : Value}
    (a : PySem.W.nsIn K mainGlobals x = some (some (.ref f))) (l : K.lookup f = some ⟨oc, od, .func (PySem.W.fnOf x x (defArgs st) (defBody st) (defScope st) .none kV dc pm an cd ct), sl⟩) (c : PySem.W.codeIn K cd x = true) (k : PySem.W.keepIn K (.ref f) = true)
    (hb : ∀ (kV doc pm : Value) (an : Option Addr) (cdv ct : Value) (us : List Value), us.length = ps.length → bindArgs (PySem.W.fnOf x x (defArgs st) (defBody st) (defScope st) .none kV doc pm an cdv ct) ⟨us, []⟩ = pure (ps.zip us)) :
    ∃ f fd, Df K mg x st ps f fd := ⟨_, _, fun_mk l c k, (fun_mk l c k).binds hb, PySem.W.mg_of X G a⟩
theorem law_mk {K : PySem.W.Frag} {mg : Str → Option Value} {h : Heap} (X : K.In h) (G : h.Ns mainGlobals mg) {st : Stmt} {fa f : Addr} {oc : Value} {od an : Option Addr} {sl : Array (Option Value)} {kV dc pm cd ct : Value} (hfa : mg "law" = some (.ref fa))
    (a : PySem.W.nsIn K mainGlobals "law" = some (some (.ref f))) (l : K.lookup f = some ⟨oc, od, .func (PySem.W.fnOf "law" "law" (defArgs st) (defBody st) (defScope st) .none kV dc pm an cd ct), sl⟩) (c : PySem.W.codeIn K cd "law" = true) (k : PySem.W.keepIn K (.ref f) = true)
    (hb : ∀ (kV doc pm : Value) (an : Option Addr) (cdv ct : Value) (s : Shared) (v : Value), BindsTo s (PySem.W.fnOf "law" "law" (defArgs st) (defBody st) (defScope st) .none kV doc pm an cdv ct) ⟨[v], []⟩ [("script", v)]) :
    ∃ fd, (∀ (s : Shared) (v : Value), BindsTo s fd ⟨[v], []⟩ [("script", v)]) ∧ Fun K "law" "law" st fa fd := by
  have e := hfa.symm.trans (PySem.W.mg_of X G a)
  cases e
  exact ⟨_, fun s v => hb kV dc pm an cd ct s v, fun_mk l c k⟩
def spLaw (K : PySem.W.Frag) : Sp := fun vs H Q _ => ∃ (a : Addr) (ns : List Int), vs = [.ref a] ∧ SqL K H a (ns.map V.int) ∧ ns.length ≤ 63 ∧ ∀ H', Q (.bl true) H'
end Ap
set_option Elab.async false
set_option linter.all false
set_option maxRecDepth 100000
namespace Ap
open PySem PySem.Spec PyProof.Rows L2 Evl
section
variable {K : PySem.W.Frag} {H H' : Hp}
mutual
theorem dp_mono (e : Ex H H') : ∀ (d : PyData) (v : V), Dp K H v d → Dp K H' v d
  | .none, _, h => by cases h; exact .non
  | .bool b, _, h => by cases h; exact .bl b
  | .int i, _, h => by cases h; exact .int i
  | .str x, _, h => by cases h; exact .str x
  | .list ds, _, h => by
    cases h with
    | lst hs ha => exact .lst (ex_l e hs) (dpa_mono e ds _ ha)
  | .tuple ds, _, h => by
    cases h with
    | tup hs ha => exact .tup (ex_t e hs) (dpa_mono e ds _ ha)
  | .dict _, _, h => by cases h
theorem dpa_mono (e : Ex H H') : ∀ (ds : List PyData) (vs : List V), DpAll K H vs ds → DpAll K H' vs ds
  | [], _, h => by cases h; exact .nil
  | d :: ds, _, h => by
    cases h with
    | cons h1 h2 => exact .cons (dp_mono e d _ h1) (dpa_mono e ds _ h2)
end
theorem dpa_len : ∀ {vs : List V} {ds : List PyData}, DpAll K H vs ds → vs.length = ds.length
  | _, _, .nil => rfl
  | _, _, .cons _ h => by rw [List.length_cons, List.length_cons, dpa_len h]
theorem dpa_at : ∀ {vs : List V} {ds : List PyData} {i : Nat} {d : PyData}, DpAll K H vs ds → ds[i]? = some d → ∃ v, vs[i]? = some v ∧ Dp K H v d
  | _, _, i, d, .nil, h => by simp at h
  | _, _, 0, d, .cons h1 _, h => ⟨_, rfl, by
    have e := Option.some.inj (show some _ = some d from h)
    rw [← e]
    exact h1⟩
  | _, _, i + 1, d, .cons _ h2, h => by
    obtain ⟨v, e, q⟩ := dpa_at (i := i) h2 (by simpa using h)
    exact ⟨v, by simpa using e, q⟩
theorem dpa_app : ∀ {vs ws : List V} {ds es : List PyData}, DpAll K H vs ds → DpAll K H ws es → DpAll K H (vs ++ ws) (ds ++ es)
  | _, _, _, _, .nil, h => h
  | _, _, _, _, .cons h1 h2, h => .cons h1 (dpa_app h2 h)
theorem dpa_one {v : V} {d : PyData} (h : Dp K H v d) : DpAll K H [v] [d] := .cons h .nil
theorem dpa_ints : ∀ (ns : List Int), DpAll K H (ns.map V.int) (ns.map PyData.int)
  | [] => .nil
  | n :: r => .cons (.int n) (dpa_ints r)
end
mutual
theorem eqv_self : ∀ d : PyData, d.canLay0 = true → PyData.eqv d d = true
  | .none, _ => by simp [PyData.eqv]
  | .bool b, _ => by simp [PyData.eqv]
  | .int i, _ => by simp [PyData.eqv]
  | .str x, _ => by simp [PyData.eqv]
  | .list ds, h => by
    show PyData.eqvAll ds ds = true
    exact eqvAll_self ds (by simpa [PyData.canLay0] using h)
  | .tuple ds, h => by
    show PyData.eqvAll ds ds = true
    exact eqvAll_self ds (by simpa [PyData.canLay0] using h)
  | .dict _, h => by simp [PyData.canLay0] at h
theorem eqvAll_self : ∀ ds : List PyData, PyData.canLayAll0 ds = true → PyData.eqvAll ds ds = true
  | [], _ => by simp [PyData.eqvAll]
  | d :: ds, h => by
    have h' : d.canLay0 = true ∧ PyData.canLayAll0 ds = true := by simpa [PyData.canLayAll0] using h
    simp [PyData.eqvAll, eqv_self d h'.1, eqvAll_self ds h'.2]
end
/-- no dict within, no text out of range, at most n deep -/
def Sd (n : Nat) (d : PyData) : Prop := d.canLay0 = true ∧ d.depth ≤ n
def Sds (n : Nat) (ds : List PyData) : Prop := ∀ d ∈ ds, Sd n d
theorem sds_lay : ∀ {n : Nat} {ds : List PyData}, Sds n ds → PyData.canLayAll0 ds = true ∧ PyData.depthAll ds ≤ n
  | _, [], _ => ⟨by simp [PyData.canLayAll0], by simp [PyData.depthAll]⟩
  | n, d :: ds, h => by
    have h1 := h d List.mem_cons_self
    have h2 := sds_lay (fun e he => h e (List.mem_cons_of_mem _ he))
    exact ⟨by simp [PyData.canLayAll0, h1.1, h2.1], by have := h1.2; have := h2.2; simp only [PyData.depthAll]; omega⟩
theorem sd_tuple {n : Nat} {ds : List PyData} (h : Sds n ds) : Sd (n + 1) (.tuple ds) := ⟨by simp [PyData.canLay0, (sds_lay h).1], by have := (sds_lay h).2; simp only [PyData.depth]; omega⟩
theorem sd_int {n : Nat} {i : Int} : Sd n (.int i) := ⟨by simp [PyData.canLay0], by simp [PyData.depth]⟩
theorem sd_none {n : Nat} : Sd n .none := ⟨by simp [PyData.canLay0], by simp [PyData.depth]⟩
theorem sd_str {n : Nat} {x : Str} (h : PyData.strOk x = true) : Sd n (.str x) := ⟨by simp [PyData.canLay0, h], by simp [PyData.depth]⟩
theorem Sds.drop {n : Nat} {ds : List PyData} (h : Sds n ds) (k : Nat) : Sds n (ds.drop k) := fun e he => h e (List.mem_of_mem_drop he)
theorem Sds.take {n : Nat} {ds : List PyData} (h : Sds n ds) (k : Nat) : Sds n (ds.take k) := fun e he => h e (List.mem_of_mem_take he)
theorem Sd.shaped {d : PyData} {n : Nat} (h : Sd n d) (l : n ≤ 64) : SeqAt.shaped d = true := by
  unfold SeqAt.shaped
  rw [h.1, decide_eq_true (Nat.le_trans h.2 l)]
  rfl
theorem Sd.self {d : PyData} {n : Nat} (h : Sd n d) : PyData.eqv d d = true := eqv_self d h.1
def ov (H H1 H2 : Hp) : Hp := fun a => match H a with
  | some o => some o
  | none => match H1 a with
    | some _ => none
    | none => H2 a
theorem ov_ex {H H1 H2 : Hp} (e : Ex H H1) (e2 : Ex H1 H2) : Ex (ov H H1 H2) H2 := fun a o h => by
  unfold ov at h
  cases h0 : H a with
  | some o' =>
    rw [h0] at h
    rw [← h]
    exact e2 a o' (e a o' h0)
  | none =>
    rw [h0] at h
    cases h1 : H1 a with
    | some o' => rw [h1] at h; cases h
    | none => rw [h1] at h; exact h
theorem ov_base {H H1 H2 : Hp} : Ex H (ov H H1 H2) := fun a o h => by
  unfold ov
  rw [h]
theorem ov_grow {H H1 H2 H3 : Hp} (e2 : Ex H2 H3) : Ex (ov H H1 H2) (ov H H1 H3) := fun a o h => by
  unfold ov at h ⊢
  cases h0 : H a with
  | some o' => rw [h0] at h; exact h
  | none =>
    rw [h0] at h
    cases h1 : H1 a with
    | some o' => rw [h1] at h; cases h
    | none =>
      rw [h1] at h
      exact e2 a o h
theorem ov_later {H H1 H2 H3 : Hp} (e1 : Ex H1 H2) : Ex (ov H H2 H3) (ov H H1 H3) := fun a o h => by
  unfold ov at h ⊢
  cases h0 : H a with
  | some o' => rw [h0] at h; exact h
  | none =>
    rw [h0] at h
    cases h2 : H2 a with
    | some o' => rw [h2] at h; cases h
    | none =>
      rw [h2] at h
      have h1 : H1 a = none := fresh_back e1 h2
      rw [h1]
      exact h
theorem ov_new {H H1 H2 : Hp} {p : Addr} (e : Ex H H1) (e2 : Ex H1 H2) (hp : H2 p = none) {u : HO} : ov H H1 (upd H2 p u) p = some u := by
  have h1 : H1 p = none := fresh_back e2 hp
  have h0 : H p = none := fresh_back e h1
  unfold ov
  rw [h0, h1]
  exact upd_same
def EvD (K : PySem.W.Frag) (te : TE) (σ : L2.St) (H : Hp) (d : PyData) : Prop := ∀ H1, Ex H H1 → ∀ Q : VK, (∀ v H2, Ex H1 H2 → Dp K (ov H H1 H2) v d → Q v H2) → te σ H1 Q
def EvDs (K : PySem.W.Frag) (ta : TA) (σ : L2.St) (H : Hp) (ds : List PyData) : Prop := ∀ H1, Ex H H1 → ∀ Q : List V → Hp → Prop, (∀ vs H2, Ex H1 H2 → DpAll K (ov H H1 H2) vs ds → Q vs H2) → ta σ H1 Q
section
variable {K : PySem.W.Frag} {σ : L2.St} {H H' : Hp} {ta tb tc te : TE} {t u : TT} {x y z v w : V} {d e : PyData} {ds es : List PyData} {r : R2}
theorem ed_of (h : Ev te σ H v) (hd : Dp K H v d) : EvD K te σ H d := fun H1 e Q q => h H1 e Q fun H2 e2 => q v H2 e2 (dp_mono ov_base d v hd)
theorem ed_int {i : Int} (h : Ev te σ H (.int i)) : EvD K te σ H (.int i) := ed_of h (.int i)
theorem ed_str {s : Str} : EvD K (tC (.str s)) σ H (.str s) := ed_of ev_c (.str s)
theorem EvD.mono (e : Ex H H') (h : EvD K te σ H d) : EvD K te σ H' d := fun H1 a Q q => h H1 (e.trans a) Q fun v H2 e2 hd => q v H2 e2 (dp_mono (fun b o hb => by
  unfold ov at hb ⊢
  cases h0 : H b with
  | some o' => rw [h0] at hb; rw [e b o' h0]; exact hb
  | none =>
    rw [h0] at hb
    cases h1 : H1 b with
    | some o' => rw [h1] at hb; cases hb
    | none =>
      rw [h1] at hb
      rw [fresh_back a h1]
      exact hb) d v hd)
theorem eds_nil : EvDs K tNil σ H [] := fun H1 _ _ q => q [] H1 (Ex.refl H1) .nil
theorem eds_cons {tr : TA} (h : EvD K te σ H d) (hr : EvDs K tr σ H ds) : EvDs K (tCons te tr) σ H (d :: ds) := fun H1 e Q q =>
  h H1 e _ fun v H2 e2 hv => hr H2 (e.trans e2) _ fun vs H3 e3 hs => q _ H3 (e2.trans e3) (.cons (dp_mono (ov_grow e3) d v hv) (dpa_mono (ov_later e2) ds vs hs))
theorem ed_tup {ta : TA} (h : EvDs K ta σ H ds) (hl : ds.length ≤ 100000) : EvD K (tTup ta) σ H (.tuple ds) := fun H1 e Q q =>
  h H1 e _ fun vs H2 e2 hs => ⟨by rw [dpa_len hs]; exact sz_of hl, fun p hp => q _ _ (e2.trans (Ex.new hp)) (.tup (st_of (ov_new e e2 hp)) (dpa_mono (ov_grow (Ex.new hp)) ds vs hs))⟩
theorem atI_len {α β : Type} {xs : List α} {ys : List β} (h : xs.length = ys.length) {i : Int} {y : β} (hy : atI ys i = some y) : ∃ j : Nat, ys[j]? = some y ∧ ∀ x, xs[j]? = some x → atI xs i = some x := by
  unfold atI at hy ⊢
  cases e : ixN ys.length i with
  | none => rw [e] at hy; cases hy
  | some j =>
    rw [e] at hy
    refine ⟨j, hy, fun x hx => ?_⟩
    rw [h, e]
    exact hx
/-- the same part of two lists of one length -/
def cutA {α : Type} (xs : List α) (lo hi : Option Int) : List α := (xs.drop (HT.sIx xs.length 0 lo)).take (HT.sIx xs.length xs.length hi - HT.sIx xs.length 0 lo)
theorem ed_catT (ha : EvD K ta σ H (.tuple ds)) (hb : EvD K tb σ H (.tuple es)) (hl : ds.length + es.length ≤ 100000) : EvD K (tOp (rCatA K) ta tb) σ H (.tuple (ds ++ es)) := fun H1 e Q q =>
  ha H1 e _ fun v H2 e2 hv => hb H2 (e.trans e2) _ fun w H3 e3 hw => by
    have e13 := e2.trans e3
    cases hv with
    | @tup a xs _ hs hd =>
      cases hw with
      | @tup b ys _ ht he =>
        have hs3 := ex_t ((ov_ex e e2).trans e3) hs
        have ht3 := ex_t (ov_ex (e.trans e2) e3) ht
        have hd3 := dpa_mono (ov_grow e3) ds xs hd
        have he3 := dpa_mono (ov_later e2) es ys he
        have ld := dpa_len hd
        have le := dpa_len he
        refine ⟨a, b, xs, ys, rfl, rfl, hs3, ht3, sz_of (by omega), fun h0 => ?_, fun _ h0 => ?_, fun _ _ p hp => q _ _ (e13.trans (Ex.new hp)) (.tup (st_of (ov_new e e13 hp)) (dpa_app (dpa_mono (ov_grow (Ex.new hp)) ds xs hd3) (dpa_mono (ov_grow (Ex.new hp)) es ys he3)))⟩
        · have z : ds = [] := List.eq_nil_of_length_eq_zero (by rw [← ld, h0]; rfl)
          subst z
          exact q _ _ e13 (.tup (ex_t (ov_later e2) ht) he3)
        · have z : es = [] := List.eq_nil_of_length_eq_zero (by rw [← le, h0]; rfl)
          subst z
          exact q _ _ e13 (.tup (ex_t (ov_grow e3) hs) (by rw [List.append_nil]; exact hd3))
variable {D : Ends} {tz : TS} {i : Nat}
theorem et_nil : EvT tYes σ H true := fun H1 _ _ q => q H1 (Ex.refl H1)
end
end Ap
set_option Elab.async false
set_option linter.all false
set_option maxRecDepth 100000
namespace Ap
open PySem PySem.Spec PyProof.Rows L2 Evl
def tMX (C : Addr) (m : Str) (sp : Sp) (E : L2.St → XK) (ta : TE) (t : TA) : TE := fun σ H Q => ta σ H fun x G => ∃ a dx fs, x = .ref a ∧ G a = some (.ins C dx fs) ∧ fs.lookup m = none ∧ t σ G fun vs G2 => sp (x :: vs) G2 Q (E σ)
theorem pe_mx {X : Cx} {CX : CXT} {k : Nat} {f C : Addr} {fd : FuncData} {ps : List Str} {sp : Sp} {E : L2.St → XK} {m : Str} {pos apos : Pos} {e o : Expr} {es : List Expr} {ta : TE} {t : TA} {pl : Sem Bool}
    (he : PE X o ta) (c : Cls X.K C) (hm : Meth X.K C m f) (F : FnOk X.prog X.w X.K X.mg X.base CX k f fd ps sp) (hr : Room k X.A) (hb : Binds X.K fd ps []) (hx : ∀ σ, PassesAt CX X σ (E σ)) (ha : PA X (e :: es) t)
    (z1 : starEach (e :: es) X.env = (false, eval e X.env) :: starEach es X.env := by rfl) (z2 : (backTo pos (starEach es X.env)).any (·.1) = false := by rfl)
    (z3 : eval (.Call (.Attribute o m apos) (e :: es) [] pos) X.env = (do { let ov ← eval o X.env; standAt apos.atName; let (f, first) ← holding [ov] (getMethod ov m pl); callWith pos f first (backTo pos (starEach (e :: es) X.env)) (backToKw pos (keywordEach [] X.env)) }) := by rfl) :
    PE X (.Call (.Attribute o m apos) (e :: es) [] pos) (tMX C m sp E ta t) := ⟨fun pins s σ H Q I h => PySem.W.methodCall_KW (pl := pl) (thn (he.run pins s σ H _ I h) fun u s1 hh => by
  obtain ⟨x, G, J, rx, a, dx, fs, ex, ea, l, q⟩ := hh
  subst ex
  cases (show u = Value.ref a from rx)
  exact getmeth_ok J ea c hm l (PySem.W.callWith_K (first := [.ref a]) (h₀ := X.base) I.ok.mod.kin hm.kp (thn (ha.run pos pins s1 σ G _ J q) fun us s2 ⟨vs, G2, J2, r, q2⟩ => ⟨J2.kIn, run_fnS (us := .ref a :: us) (vs := .ref a :: vs) F hr hb (hx σ) J2 (.cons rfl r) q2⟩) z1 z2)) z3⟩
/-- a block under a proposition -/
theorem pss_guard {X : Cx} {b : List Stmt} {t : TS} {p : Prop} (h : p → PSs X b t) : PSs X b (fun D σ H => p ∧ t D σ H) := ⟨fun pins s σ H D I q => (h q.1).run pins s σ H D I q.2⟩
/-- the same without a name -/
theorem ps_try_ownN {X : Cx} {C : Addr} {x : Str} {c : Value} {body suite : List Stmt} {b₀ : Stmt} {np pos pos' : Pos} {tb : WX → TS} {ts : Addr → TS} {Wout : WX} (hs : X.stack = X.env :: X.outer) (hf : X.env.frame = some X.env.locals) (hc : Names X x c) (tk : Takes X Wout)
    (hb : ∀ (W : WX) (pn : List (Addr × Obj)) (xe : Value → Shared → Prop), Takes (X.tr pn xe) W → PSs (X.tr pn xe) body (tb W))
    (hsu : ∀ (a : Addr) (oe : Obj) (pn : List (Addr × Obj)), Zc (.ref C) none oe → (∃ vs, oe.data = .fields vs) → PSs (X.suite a ((a, oe) :: pn)) (b₀ :: suite) (ts a)) :
    PS X (.Try body [.ExceptHandler (some (.Name x np)) none (b₀ :: suite) pos'] [] [] pos) (fun D σ H => tb (wOnly X.K c (fun a cls d D σ H => (cls = .ref C ∧ d = none) ∧ ts a D σ H) Wout D) D σ H) :=
  ps_try_only hs hf hc tk (fun W pn xe tk' _ => hb W pn xe tk') (fun a oe cls d pn hz hf => pss_guard fun h => by
    obtain ⟨h1, h2⟩ := h
    subst h1
    subst h2
    exact hsu a oe pn hz hf)
/-- an own error class C over ValueError (through B), as the top left it -/
structure Err (K : PySem.W.Frag) (mg : Str → Option Value) (x : Str) (C B : Addr) : Prop where
  g : mg x = some (.ref C)
  kp : PySem.W.keepIn K (.ref C) = true
  ex : PySem.W.excIn K C [.type "ValueError", .type "Exception", .type "BaseException", .type "object"] "ValueError.__new__" = true
  bs : PySem.W.subIn K (.ref C) (.type "BaseException") = some true
  ty : PySem.W.typeIn K (.ref C) = some (.type "type")
  me : PySem.W.exmOne K (.ref C) (.ref C) = some true
  ec : ExcC K C
  k1 : PySem.W.kitOne K (.ref C) (.ref B) = some true
  k2 : PySem.W.kitOne K (.ref C) (.type "ValueError") = some true
theorem Err.mk' {X : Cx} {x m : Str} {C B : Addr} {j : Nat} {p p2 pos : Pos} (T : Err X.K X.mg x C B) (hg : Gl X x) (hdb : (x == ("__debug__" : Str)) = false := by decide) : PMk X (.Call (.Name x p) [.Constant (.str m) j p2] [] pos) (fun _ H Q => Q (.ref C) none H) :=
  pmk_own PySem.F.excBase_ValueError T.ex T.g T.kp (raises_own T.bs T.ty) hg hdb
theorem cutA_from {α : Type} (xs : List α) (m : Nat) : cutA xs (some (m : Int)) none = xs.drop m := by
  unfold cutA
  rw [show HT.sIx xs.length 0 (some ((m : Nat) : Int)) = min m xs.length from HT.sIx_nat xs.length 0 m, HT.sIx_none]
  by_cases h : m ≤ xs.length
  · rw [Nat.min_eq_left h, ← List.length_drop, List.take_length]
  · rw [Nat.min_eq_right (by omega), List.drop_length, List.drop_eq_nil_of_le (by omega), List.take_nil]
structure Dm (K : PySem.W.Frag) (C : Addr) (x qual : Str) (st : Stmt) (ps : List Str) (f : Addr) (fd : FuncData) : Prop where
  F : Fun K x qual st f fd
  b : Binds K fd ps []
  m : Meth K C x f
theorem dm_mk {K : PySem.W.Frag} {h : Heap} (X : K.In h) {C : Addr} {x qual : Str} {st : Stmt} {ps : List Str} {f : Addr} {oc : Value} {od an : Option Addr} {sl : Array (Option Value)} {kV dc pm cd ct : Value}
    (a : PySem.W.findIn K (.ref C) x = some (some (.ref f))) (i : PySem.W.isFn K (.ref f) = true) (l : K.lookup f = some ⟨oc, od, .func (PySem.W.fnOf x qual (defArgs st) (defBody st) (defScope st) .none kV dc pm an cd ct), sl⟩) (c : PySem.W.codeIn K cd qual = true) (k : PySem.W.keepIn K (.ref f) = true)
    (hb : ∀ (kV doc pm : Value) (an : Option Addr) (cdv ct : Value) (us : List Value), us.length = ps.length → bindArgs (PySem.W.fnOf x qual (defArgs st) (defBody st) (defScope st) .none kV doc pm an cdv ct) ⟨us, []⟩ = pure (ps.zip us)) :
    ∃ f fd, Dm K C x qual st ps f fd := ⟨_, _, fun_mk l c k, (fun_mk l c k).binds hb, ⟨a, i, k⟩⟩
/-- a class of the text with an __init__ -/
structure Kl (K : PySem.W.Frag) (mg : Str → Option Value) (x : Str) (C : Addr) : Prop where
  cl : Cls K C
  g : mg x = some (.ref C)
  makes : PySem.W.makesIn K C = true
  kp : PySem.W.keepIn K (.ref C) = true
theorem Kl.make {K : PySem.W.Frag} {mg : Str → Option Value} {x : Str} {C f : Addr} {q : Str} {st : Stmt} {ps : List Str} {fd : FuncData} (L : Kl K mg x C) (D : Dm K C "__init__" q st ps f fd) : Mk K C f := ⟨L.makes, D.m.at_, D.m.fn, L.kp⟩
theorem kl_mk {K : PySem.W.Frag} {h : Heap} {mg : Str → Option Value} {x : Str} {C : Addr} (X : K.In h) (G : h.Ns mainGlobals mg) (a : PySem.W.nsIn K mainGlobals x = some (some (.ref C))) (pg : PySem.W.plainGet K C Str.empty = true) (hd : PySem.W.hasDictIn K C = true) (po : PySem.W.plainOver K C = true)
    (sa : PySem.W.findIn K (.ref C) "__setattr__" = some (some (.builtin "object.__setattr__"))) (mk : PySem.W.makesIn K C = true) (kp : PySem.W.keepIn K (.ref C) = true) : Kl K mg x C := ⟨⟨pg, hd, po, sa⟩, PySem.W.mg_of X G a, mk, kp⟩
theorem na_mk {K : PySem.W.Frag} {h : Heap} {C : Addr} {f : Str} (X : K.In h) (a : PySem.W.findIn K (.ref C) f = some none) : NoAttr K C f := a
section
variable {K : PySem.W.Frag} {σ : L2.St} {H H' : Hp} {ta tb te : TE} {ds es : List PyData}
theorem rc_max2 {i j : Int} : RC (fun xs H Q => ∃ i j, xs = [.int i, .int j] ∧ Q (.int (if j > i then j else i)) H) [.int i, .int j] H (.int (if j > i then j else i)) := fun H1 _ Q q => ⟨i, j, rfl, q H1 (Ex.refl H1)⟩
theorem rc_min2 {i j : Int} : RC (fun xs H Q => ∃ i j, xs = [.int i, .int j] ∧ Q (.int (if j < i then j else i)) H) [.int i, .int j] H (.int (if j < i then j else i)) := fun H1 _ Q q => ⟨i, j, rfl, q H1 (Ex.refl H1)⟩
end
theorem kit_own {K : PySem.W.Frag} {t : Value} {B : Addr} (hd : PySem.W.hasDictIn K B = true) (ht : PySem.W.typeIn K (.ref B) = some (.type "type")) (hs : PySem.W.subIn K t (.ref B) = some true) : PySem.W.kitOne K t (.ref B) = some true := by
  obtain ⟨cd, hc, _⟩ := PySem.W.any_some hd
  unfold PySem.W.kitOne
  split
  · rfl
  · show (if ((PySem.W.clsIn K B).isSome && PySem.W.typeIn K (.ref B) == some (.type "type")) = true then PySem.W.subIn K t (.ref B) else none) = some true
    rw [hc, ht, if_pos (by rfl)]
    exact hs
theorem kit_blt {K : PySem.W.Frag} {t : Value} {n : String} (hm : PySem.W.kitMeta n = true) (hs : PySem.W.subIn K t (.type n) = some true) : PySem.W.kitOne K t (.type n) = some true := by
  unfold PySem.W.kitOne
  split
  · rfl
  · show (if PySem.W.kitMeta n = true then PySem.W.subIn K t (.type n) else none) = some true
    rw [if_pos hm]
    exact hs
theorem err_mk {K : PySem.W.Frag} {h : Heap} {mg : Str → Option Value} {x y : Str} {C B : Addr} (X : K.In h) (G : h.Ns mainGlobals mg) (a : PySem.W.nsIn K mainGlobals x = some (some (.ref C))) (b : PySem.W.nsIn K mainGlobals y = some (some (.ref B))) (kp : PySem.W.keepIn K (.ref C) = true)
    (ex : PySem.W.excIn K C [.type "ValueError", .type "Exception", .type "BaseException", .type "object"] "ValueError.__new__" = true) (bs : PySem.W.subIn K (.ref C) (.type "BaseException") = some true) (ty : PySem.W.typeIn K (.ref C) = some (.type "type")) (ss : PySem.W.subIn K (.ref C) (.ref C) = some true)
    (hg : PySem.W.findIn K (.ref C) "__getattribute__" = some (some (.builtin "BaseException.__getattribute__"))) (hk : PySem.W.findIn K (.ref C) "__getattr__" = some none) (hd : PySem.W.hasDictIn K C = true) (ha : PySem.W.findIn K (.ref C) "__class__" = some (some (.builtin "object.__class__")))
    (hn : PySem.W.specialIn K (.builtin "object.__class__") "__get__" = some (some (.builtin "getset_descriptor.__get__"))) (ht : PySem.W.takesIn K (.builtin "object.__class__") = some true) (hm : PySem.W.mroIn K C (.type "object") = some true)
    (dB : PySem.W.hasDictIn K B = true) (tB : PySem.W.typeIn K (.ref B) = some (.type "type")) (sb : PySem.W.subIn K (.ref C) (.ref B) = some true) (sv : PySem.W.subIn K (.ref C) (.type "ValueError") = some true) : Err K mg x C B ∧ mg y = some (.ref B) :=
  ⟨⟨PySem.W.mg_of X G a, kp, ex, bs, ty, PySem.W.exm_ref bs hd ty ss, ⟨hg, hk, bs, hd, ha, hn, ht, hm⟩, kit_own dB tB sb, kit_blt (by decide +kernel) sv⟩, PySem.W.mg_of X G b⟩
end Ap
set_option Elab.async false
set_option linter.all false
set_option maxRecDepth 100000
namespace Ap
open PySem PySem.Spec PyProof.Rows L2 Evl
mutual
inductive Dx (K : PySem.W.Frag) (H : Hp) : V → PyData → Prop
  | non : Dx K H .non .none
  | bl (b : Bool) : Dx K H (.bl b) (.bool b)
  | int (i : Int) : Dx K H (.int i) (.int i)
  | str (x : Str) : Dx K H (.str x) (.str x)
  | lst {a : Addr} {xs : List V} {ds : List PyData} : SqL K H a xs → DxAll K H xs ds → Dx K H (.ref a) (.list ds)
  | tup {a : Addr} {xs : List V} {ds : List PyData} : SqT K H a xs → DxAll K H xs ds → Dx K H (.ref a) (.tuple ds)
  | dic {a : Addr} {kvs : List (Key × V)} : H a = some (.dK kvs) → Dx K H (.ref a) (.dict [])
inductive DxAll (K : PySem.W.Frag) (H : Hp) : List V → List PyData → Prop
  | nil : DxAll K H [] []
  | cons {v : V} {vs : List V} {d : PyData} {ds : List PyData} : Dx K H v d → DxAll K H vs ds → DxAll K H (v :: vs) (d :: ds)
end
mutual
theorem dx_dp {K : PySem.W.Frag} {H : Hp} : ∀ (d : PyData) (v : V), Dx K H v d → d.canLay0 = true → Dp K H v d
  | .none, _, h, _ => by cases h; exact .non
  | .bool b, _, h, _ => by cases h; exact .bl b
  | .int i, _, h, _ => by cases h; exact .int i
  | .str x, _, h, _ => by cases h; exact .str x
  | .list ds, _, h, c => by
    cases h with
    | lst hs ha => exact .lst hs (dxa_dpa ds _ ha (by simpa [PyData.canLay0] using c))
  | .tuple ds, _, h, c => by
    cases h with
    | tup hs ha => exact .tup hs (dxa_dpa ds _ ha (by simpa [PyData.canLay0] using c))
  | .dict _, _, _, c => by simp [PyData.canLay0] at c
theorem dxa_dpa {K : PySem.W.Frag} {H : Hp} : ∀ (ds : List PyData) (vs : List V), DxAll K H vs ds → PyData.canLayAll0 ds = true → DpAll K H vs ds
  | [], _, h, _ => by cases h; exact .nil
  | d :: ds, _, h, c => by
    have c' : d.canLay0 = true ∧ PyData.canLayAll0 ds = true := by simpa [PyData.canLayAll0] using c
    cases h with
    | cons h1 h2 => exact .cons (dx_dp d _ h1 c'.1) (dxa_dpa ds _ h2 c'.2)
end
section
variable {K : PySem.W.Frag} {H H' : Hp}
mutual
theorem dx_mono (e : Ex H H') : ∀ (d : PyData) (v : V), Dx K H v d → Dx K H' v d
  | .none, _, h => by cases h; exact .non
  | .bool b, _, h => by cases h; exact .bl b
  | .int i, _, h => by cases h; exact .int i
  | .str x, _, h => by cases h; exact .str x
  | .list ds, _, h => by
    cases h with
    | lst hs ha => exact .lst (Evl.ex_l e hs) (dxa_mono e ds _ ha)
  | .tuple ds, _, h => by
    cases h with
    | tup hs ha => exact .tup (ex_t e hs) (dxa_mono e ds _ ha)
  | .dict _, _, h => by
    cases h with
    | dic h => exact .dic (e _ _ h)
theorem dxa_mono (e : Ex H H') : ∀ (ds : List PyData) (vs : List V), DxAll K H vs ds → DxAll K H' vs ds
  | [], _, h => by cases h; exact .nil
  | d :: ds, _, h => by
    cases h with
    | cons h1 h2 => exact .cons (dx_mono e d _ h1) (dxa_mono e ds _ h2)
end
theorem dxa_len : ∀ {vs : List V} {ds : List PyData}, DxAll K H vs ds → vs.length = ds.length
  | _, _, .nil => rfl
  | _, _, .cons _ h => by rw [List.length_cons, List.length_cons, dxa_len h]
theorem dxa_at : ∀ {vs : List V} {ds : List PyData} {i : Nat} {d : PyData}, DxAll K H vs ds → ds[i]? = some d → ∃ v, vs[i]? = some v ∧ Dx K H v d
  | _, _, i, d, .nil, h => by simp at h
  | _, _, 0, d, .cons h1 _, h => ⟨_, rfl, by
    have e := Option.some.inj (show some _ = some d from h)
    rw [← e]
    exact h1⟩
  | _, _, i + 1, d, .cons _ h2, h => by
    obtain ⟨v, e, q⟩ := dxa_at (i := i) h2 (by simpa using h)
    exact ⟨v, by simpa using e, q⟩
theorem dxa_atV : ∀ {vs : List V} {ds : List PyData} {i : Nat} {v : V}, DxAll K H vs ds → vs[i]? = some v → ∃ d, ds[i]? = some d ∧ Dx K H v d
  | _, _, i, v, .nil, h => by simp at h
  | _, _, 0, v, .cons h1 _, h => ⟨_, rfl, by
    have e := Option.some.inj (show some _ = some v from h)
    rw [← e]
    exact h1⟩
  | _, _, i + 1, v, .cons _ h2, h => by
    obtain ⟨d, e, q⟩ := dxa_atV (i := i) h2 (by simpa using h)
    exact ⟨d, by simpa using e, q⟩
theorem dxa_drop : ∀ {vs : List V} {ds : List PyData} (n : Nat), DxAll K H vs ds → DxAll K H (vs.drop n) (ds.drop n)
  | _, _, 0, h => h
  | _, _, n + 1, .nil => .nil
  | _, _, n + 1, .cons _ h2 => dxa_drop n h2
theorem dxa_take : ∀ {vs : List V} {ds : List PyData} (n : Nat), DxAll K H vs ds → DxAll K H (vs.take n) (ds.take n)
  | _, _, 0, _ => .nil
  | _, _, n + 1, .nil => .nil
  | _, _, n + 1, .cons h1 h2 => .cons h1 (dxa_take n h2)
end
def EvX (K : PySem.W.Frag) (te : TE) (σ : L2.St) (H : Hp) (d : PyData) : Prop := ∀ H1, Ex H H1 → ∀ Q : VK, (∀ v H2, Ex H1 H2 → Dx K (ov H H1 H2) v d → Q v H2) → te σ H1 Q
def EvXs (K : PySem.W.Frag) (ta : TA) (σ : L2.St) (H : Hp) (ds : List PyData) : Prop := ∀ H1, Ex H H1 → ∀ Q : List V → Hp → Prop, (∀ vs H2, Ex H1 H2 → DxAll K (ov H H1 H2) vs ds → Q vs H2) → ta σ H1 Q
section
variable {K : PySem.W.Frag} {σ : L2.St} {H H' : Hp} {ta tb tc te : TE} {t u : TT} {x y z v w : V} {d e : PyData} {ds es : List PyData} {r : R2}
theorem ex_of (h : Ev te σ H v) (hd : Dx K H v d) : EvX K te σ H d := fun H1 e Q q => h H1 e Q fun H2 e2 => q v H2 e2 (dx_mono ov_base d v hd)
theorem ex_var {i : Nat} (h : σ[i]? = some (some v)) (hd : Dx K H v d) : EvX K (tVar i) σ H d := ex_of (ev_var h) hd
theorem EvX.mono (e : Ex H H') (h : EvX K te σ H d) : EvX K te σ H' d := fun H1 a Q q => h H1 (e.trans a) Q fun v H2 e2 hd => q v H2 e2 (dx_mono (fun b o hb => by
  unfold ov at hb ⊢
  cases h0 : H b with
  | some o' => rw [h0] at hb; rw [e b o' h0]; exact hb
  | none =>
    rw [h0] at hb
    cases h1 : H1 b with
    | some o' => rw [h1] at hb; cases hb
    | none =>
      rw [h1] at hb
      rw [fresh_back a h1]
      exact hb) d v hd)
theorem exs_nil : EvXs K tNil σ H [] := fun H1 _ _ q => q [] H1 (Ex.refl H1) .nil
theorem exs_cons {tr : TA} (h : EvX K te σ H d) (hr : EvXs K tr σ H ds) : EvXs K (tCons te tr) σ H (d :: ds) := fun H1 e Q q =>
  h H1 e _ fun v H2 e2 hv => hr H2 (e.trans e2) _ fun vs H3 e3 hs => q _ H3 (e2.trans e3) (.cons (dx_mono (ov_grow e3) d v hv) (dxa_mono (ov_later e2) ds vs hs))
theorem dxa_cut {vs : List V} {lo hi : Option Int} (h : DxAll K H vs ds) : DxAll K H (cutV vs lo hi) (cutA ds lo hi) := by
  unfold cutV cutA
  rw [dxa_len h]
  exact dxa_take _ (dxa_drop _ h)
theorem ex_slT {tl th : TO} {lo hi : Option Int} (h : EvX K te σ H (.tuple ds)) (h1 : EvO tl σ H lo) (h2 : EvO th σ H hi) : EvX K (tSl (rSlA K) te tl th) σ H (.tuple (cutA ds lo hi)) := fun H1 e Q q =>
  h H1 e _ fun v H2 e2 hv => h1 H2 (e.trans e2) _ fun H3 e3 => h2 H3 ((e.trans e2).trans e3) _ fun H4 e4 => by
    have e24 := e2.trans (e3.trans e4)
    cases hv with
    | @tup a xs _ hs hd =>
      refine ⟨a, xs, rfl, ex_t ((ov_ex e e2).trans (e3.trans e4)) hs, fun hw => q _ H4 e24 (.tup (ex_t (ov_grow (e3.trans e4)) hs) ?_), fun _ p hp => q _ _ (e24.trans (Ex.new hp)) (.tup (st_of (ov_new e e24 hp)) (dxa_cut (dxa_mono (ov_grow ((e3.trans e4).trans (Ex.new hp))) ds xs hd)))⟩
      have ec : cutA ds lo hi = ds := by
        unfold cutA
        rw [← dxa_len hd, hw.1, hw.2, List.drop_zero, Nat.sub_zero, dxa_len hd, List.take_length]
      rw [ec]
      exact dxa_mono (ov_grow (e3.trans e4)) ds xs hd
theorem ev_neX {n m : Nat} (ha : EvX K ta σ H d) (hb : EvX K tb σ H e) (sd : Sd n d) (se : Sd m e) (hn : n ≤ 64) (hm : m ≤ 64) : Ev (tOp (rNeD K) ta tb) σ H (.bl (!PyData.eqv d e)) := fun H1 a Q q =>
  ha H1 a _ fun v H2 e2 hv => hb H2 (a.trans e2) _ fun w H3 e3 hw => ⟨d, e, dx_dp _ _ (dx_mono ((ov_ex a e2).trans e3) d v hv) sd.1, dx_dp _ _ (dx_mono (ov_ex (a.trans e2) e3) e w hw) se.1, sd.shaped hn, se.shaped hm, q H3 (e2.trans e3)⟩
/-- the two sides are one: != is False -/
theorem ev_neSelfX {n : Nat} (ha : EvX K ta σ H d) (hb : EvX K tb σ H d) (sd : Sd n d) (hn : n ≤ 64) : Ev (tOp (rNeD K) ta tb) σ H (.bl false) := ev_is (ev_neX ha hb sd sd hn hn) (by rw [sd.self]; rfl)
theorem ev_lenX (ha : EvX K ta σ H (.list ds)) : Ev (tCB (fun xs H Q => ∃ p ys, xs = [.ref p] ∧ (SqL K H p ys ∨ SqT K H p ys) ∧ Q (.int ys.length) H) (tCons ta tNil)) σ H (.int (ds.length : Int)) := fun H1 e Q q =>
  ha H1 e _ fun v H2 e2 hv => by
    cases hv with
    | @lst a xs _ hs hd => exact ⟨a, xs, rfl, .inl (Evl.ex_l (ov_ex e e2) hs), by rw [dxa_len hd]; exact q H2 e2⟩
theorem ev_lenXT (ha : EvX K ta σ H (.tuple ds)) : Ev (tCB (fun xs H Q => ∃ p ys, xs = [.ref p] ∧ (SqL K H p ys ∨ SqT K H p ys) ∧ Q (.int ys.length) H) (tCons ta tNil)) σ H (.int (ds.length : Int)) := fun H1 e Q q =>
  ha H1 e _ fun v H2 e2 hv => by
    cases hv with
    | @tup a xs _ hs hd => exact ⟨a, xs, rfl, .inr (ex_t (ov_ex e e2) hs), by rw [dxa_len hd]; exact q H2 e2⟩
variable {D : Ends} {tz : TS} {i : Nat}
theorem q_asgX (h : EvX K te σ H d) (k : ∀ v H1, Ex H H1 → Dx K H1 v d → tz D (σ.set i (some v)) H1) : tSeq (tAsg te (gName i)) tz D σ H := h H (Ex.refl H) _ fun v H1 e hv => k v H1 e (dx_mono (ov_ex (Ex.refl H) e) d v hv)
end
end Ap
set_option Elab.async false
set_option linter.all false
set_option maxRecDepth 100000
set_option maxHeartbeats 2000000
set_option Elab.async false
set_option linter.all false
set_option maxRecDepth 100000
set_option maxHeartbeats 2000000
namespace Ap
open PySem PySem.Spec PyProof.Rows L2 Evl
section
variable {X : Cx} {pins : List (Addr × Obj)} {σ : L2.St} {H : Hp} {s : Shared}
theorem own_call {A1 : Around} {CX : CXT} {n : Nat} {f a : Addr} {fd : FuncData} {ps : List Str} {sp : Sp} {E : XK} {Q : VK} (sb : Sub X n A1) (I : L2.Inv X pins σ H s) (F : FnOk X.prog X.w X.K X.mg X.base CX n f fd ps sp) (b : Binds X.K fd ps []) {Z : Value → Shared → Prop} (hx : ∀ e s', CX X.stack H s E e s' → Z e s') (hsp : sp [.ref a] H Q E) :
    wpAny (model X.prog X.w) A1 (call (.ref f) [.ref a]) (fun u s' => ∃ v H', L2.Inv X pins σ H' s' ∧ RelV v u ∧ Q v H') Z s := by
  have e0 : Env0 X.prog X.w X.K X.mg X.base A1 X.stack s H := by
    have e := I.env0
    exact ⟨by rw [sb.fr]; exact e.frames, e.mod, e.bs, e.bsz, e.funs, e.frf, e.hok, e.bare⟩
  have hl := F.len _ _ _ _ hsp
  refine wpAny_call (codeAny_mono (F.run A1 X.stack s H ⟨[.ref a], []⟩ [.ref a] [.ref a] Q E sb.room e0 (by
    have := b s [.ref a] I.kIn (by simpa using hl)
    simpa using this) (.cons rfl .nil) hsp) fun r s' hq => ?_)
  cases r with
  | error e => exact hx e s' hq
  | ok fl =>
    cases fl with
    | ret u => exact I.after hq
    | next => exact False.elim hq
    | brk => exact False.elim hq
    | cont => exact False.elim hq
theorem own_len {A1 : Around} {CX : CXT} {n : Nat} {f a C dx : Addr} {fs : List (Str × V)} {fd : FuncData} {ps : List Str} {sp : Sp} {E : XK} {R : Int → Hp → Prop} (sb : Sub X n A1.in1) (I : L2.Inv X pins σ H s) (ha : H a = some (.ins C dx fs)) (m : Meth X.K C "__len__" f)
    (F : FnOk X.prog X.w X.K X.mg X.base CX n f fd ps sp) (b : Binds X.K fd ps []) {Z : Value → Shared → Prop} (hx : ∀ e s', CX X.stack H s E e s' → Z e s') (hsp : sp [.ref a] H (fun v H' => ∃ k : Int, v = .int k ∧ 0 ≤ k ∧ k < 2 ^ 63 ∧ R k H') E) :
    wpAny (model X.prog X.w) A1 (call (.builtin "len") [.ref a]) (fun r s' => ∃ (k : Int) (t : Tok) (H' : Hp), r = .int k t ∧ 0 ≤ k ∧ k < 2 ^ 63 ∧ L2.Inv X pins σ H' s' ∧ R k H') Z s := by
  obtain ⟨mA, J, _⟩ := ins_get I.hok ha
  obtain ⟨od, J, _⟩ := J.look
  refine Calls.call_function_entry kind_len plain_len entry_len (args_len1 _) ?_
  unfold Builtin.«len»
  refine wpAny_bind (m := oneArg "len" _) (wpAny_pure ?_)
  refine wpAny_bind (m := callSpecial? (.ref a) (Str.ofString "__len__")) (PySem.W.special_fn (name := "__len__") (args := []) I.kIn J m.at_ (beq_iff_eq.mp m.fn) (wpAny_mono (own_call sb I F b hx hsp) (fun u s' hr => ?_) fun _ _ y => y))
  obtain ⟨v, H', I', rv, k, rfl, h0, h1, hR⟩ := hr
  obtain ⟨t, rfl⟩ := rv
  refine wpAny_bind (wpAny_holding (wpAny_pure ?_))
  refine wpAny_bind (wpAny_letGo ?_)
  show wpAny _ _ (if k < 0 then _ else _) _ _ _
  rw [if_neg (by omega)]
  show wpAny _ _ (if k ≥ 2 ^ 63 then _ else _) _ _ _
  rw [if_neg (by omega)]
  exact wpAny_bind (wpAny_mkInt (wpAny_pure ⟨_, rfl, k, _, H', rfl, h0, h1, I'.tok _, hR⟩))
def rLenO (C : Addr) (sp : Sp) (E : XK) : List V → Hp → VK → Prop := fun xs H Q => ∃ a dx fs, xs = [V.ref a] ∧ H a = some (.ins C dx fs) ∧ sp [.ref a] H (fun v H' => ∃ k : Int, v = .int k ∧ 0 ≤ k ∧ k < 2 ^ 63 ∧ Q v H') E
theorem call_lenO {CX : CXT} {n : Nat} {f C : Addr} {fd : FuncData} {ps : List Str} {sp : Sp} {E : XK} (m : Meth X.K C "__len__" f) (F : FnOk X.prog X.w X.K X.mg X.base CX n f fd ps sp) (hr : Room (n + 1) X.A) (b : Binds X.K fd ps []) (hx : Passes CX X E) : CallR X (.builtin "len") (rLenO C sp E) := by
  intro pins s σ H xs us Q I r h
  obtain ⟨a, dx, fs, rfl, ha, hsp⟩ := h
  obtain ⟨u, rfl, rx⟩ := vals1 r
  cases rx
  refine wpAny_mono (own_len (R := fun k H' => Q (.int k) H') (Sub.in1 (⟨hr, rfl⟩ : Sub X (n + 1) X.A)) I ha m F b (fun e s' hq => hx pins σ H s e s' I hq) (by
    refine cast (congrArg (fun z => sp [.ref a] H z E) (funext fun v => funext fun H' => propext ?_)) hsp
    exact ⟨fun ⟨k, e, h0, h1, q⟩ => ⟨k, e, h0, h1, e ▸ q⟩, fun ⟨k, e, h0, h1, q⟩ => ⟨k, e, h0, h1, e ▸ q⟩⟩)) (fun r s' hr => ?_) fun _ _ y => y
  obtain ⟨k, t, H', rfl, _, _, I', q⟩ := hr
  exact ⟨.int k, H', I', ⟨t, rfl⟩, q⟩
end
end Ap
set_option Elab.async false
set_option linter.all false
set_option maxRecDepth 100000
namespace Ap
open PySem PySem.Spec PyProof.Rows L2 Evl
def tyN : PyData → String
  | .none => "NoneType"
  | .bool _ => "bool"
  | .int _ => "int"
  | .str _ => "str"
  | .list _ => "list"
  | .tuple _ => "tuple"
  | .dict _ => "dict"
theorem tyx_dx {K : PySem.W.Frag} {H : Hp} : ∀ {d : PyData} {v : V}, Dx K H v d → TyX K H v (.type (tyN d))
  | _, _, .non => .base .non
  | _, _, .bl b => .base (.bl b)
  | _, _, .int i => .base (.int i)
  | _, _, .str x => .base (.str x)
  | _, _, .lst hs _ => by
    rcases hs with (h | ⟨o, h⟩) | ⟨o, its, n, h, hc, _⟩
    · exact .base (.lst h)
    · exact .base (.frz h)
    · exact .kList h hc
  | _, _, .tup hs _ => by
    rcases hs with (h | ⟨o, h⟩) | ⟨o, its, n, h, hc, _⟩
    · exact .base (.tup h)
    · exact .fTuple h
    · exact .kTuple h hc
  | _, _, .dic h => .base (.dK h)
def isInt : PyData → Bool
  | .int _ => true
  | .bool _ => true
  | _ => false
def isBoo : PyData → Bool
  | .bool _ => true
  | _ => false
def isStr : PyData → Bool
  | .str _ => true
  | _ => false
def isTup : PyData → Bool
  | .tuple _ => true
  | _ => false
theorem kit_int : ∀ d : PyData, kitB (tyN d) "int" = some (isInt d)
  | .none => (by decide +kernel : kitB "NoneType" "int" = some false)
  | .bool _ => (by decide +kernel : kitB "bool" "int" = some true)
  | .int _ => (by decide +kernel : kitB "int" "int" = some true)
  | .str _ => (by decide +kernel : kitB "str" "int" = some false)
  | .list _ => (by decide +kernel : kitB "list" "int" = some false)
  | .tuple _ => (by decide +kernel : kitB "tuple" "int" = some false)
  | .dict _ => (by decide +kernel : kitB "dict" "int" = some false)
theorem kit_bool : ∀ d : PyData, kitB (tyN d) "bool" = some (isBoo d)
  | .none => (by decide +kernel : kitB "NoneType" "bool" = some false)
  | .bool _ => (by decide +kernel : kitB "bool" "bool" = some true)
  | .int _ => (by decide +kernel : kitB "int" "bool" = some false)
  | .str _ => (by decide +kernel : kitB "str" "bool" = some false)
  | .list _ => (by decide +kernel : kitB "list" "bool" = some false)
  | .tuple _ => (by decide +kernel : kitB "tuple" "bool" = some false)
  | .dict _ => (by decide +kernel : kitB "dict" "bool" = some false)
theorem kit_str : ∀ d : PyData, kitB (tyN d) "str" = some (isStr d)
  | .none => (by decide +kernel : kitB "NoneType" "str" = some false)
  | .bool _ => (by decide +kernel : kitB "bool" "str" = some false)
  | .int _ => (by decide +kernel : kitB "int" "str" = some false)
  | .str _ => (by decide +kernel : kitB "str" "str" = some true)
  | .list _ => (by decide +kernel : kitB "list" "str" = some false)
  | .tuple _ => (by decide +kernel : kitB "tuple" "str" = some false)
  | .dict _ => (by decide +kernel : kitB "dict" "str" = some false)
theorem kit_tup : ∀ d : PyData, kitB (tyN d) "tuple" = some (isTup d)
  | .none => (by decide +kernel : kitB "NoneType" "tuple" = some false)
  | .bool _ => (by decide +kernel : kitB "bool" "tuple" = some false)
  | .int _ => (by decide +kernel : kitB "int" "tuple" = some false)
  | .str _ => (by decide +kernel : kitB "str" "tuple" = some false)
  | .list _ => (by decide +kernel : kitB "list" "tuple" = some false)
  | .tuple _ => (by decide +kernel : kitB "tuple" "tuple" = some true)
  | .dict _ => (by decide +kernel : kitB "dict" "tuple" = some false)
section
variable {K : PySem.W.Frag} {σ : L2.St} {H : Hp} {te : TE} {d : PyData} {T : String} {b : Bool}
theorem ev_isiX (h : EvX K te σ H d) (k : kitB (tyN d) T = some b) : Ev (tCB (rIsi K) (tCons te (tCons (tC (.ty T)) tNil))) σ H (.bl b) := fun H1 e Q q => h H1 e _ fun v H2 e2 hv =>
  ⟨v, .ty T, .type (tyN d), .type T, b, rfl, .ty T, tyx_dx (dx_mono (ov_ex e e2) d v hv), kit_ty k, q H2 e2⟩
end
/-- bounded: texts, lists and tuples of at most 1000, at most n deep -/
inductive Okd : Nat → PyData → Prop
  | non {n : Nat} : Okd n .none
  | bl {n : Nat} (b : Bool) : Okd n (.bool b)
  | int {n : Nat} (i : Int) : Okd n (.int i)
  | str {n : Nat} {x : Str} (h : x.length ≤ 1000) : Okd n (.str x)
  | dic {n : Nat} {kvs : List (PyData × PyData)} : Okd n (.dict kvs)
  | lst {n : Nat} {ds : List PyData} (h : ds.length ≤ 1000) (hs : ∀ d, d ∈ ds → Okd n d) : Okd (n + 1) (.list ds)
  | tup {n : Nat} {ds : List PyData} (h : ds.length ≤ 1000) (hs : ∀ d, d ∈ ds → Okd n d) : Okd (n + 1) (.tuple ds)
  | lsa {n : Nat} {ds : List PyData} (h : ds.length ≤ 1000) : Okd n (.list ds)
def isI : PyData → Bool
  | .int i => decide (-(10 ^ 18) ≤ i) && decide (i ≤ 10 ^ 18)
  | _ => false
def chOk (c : Nat) : Bool := (decide ((32 : Int) ≤ (c : Int)) && decide ((c : Int) ≤ 126)) && !decide (V.int (c : Int) = V.int 37)
def isT : PyData → Bool
  | .str x => decide (x.length ≤ 200) && x.cps.toList.all chOk
  | _ => false
def isP (d : PyData) : Bool := isI d || isT d
mutual
def isV : PyData → Bool
  | .tuple ds => isVs ds
  | d => isP d
def isVs : List PyData → Bool
  | [] => true
  | d :: ds => isV d && isVs ds
end
theorem isVs_iff : ∀ ds : List PyData, isVs ds = ds.all isV
  | [] => rfl
  | d :: ds => by simp [isVs, isVs_iff ds]
def isN (d : PyData) : Bool := isI d && (match d with
  | .int i => decide (0 ≤ i)
  | _ => false)
section
variable {K : PySem.W.Frag} {σ : L2.St} {H : Hp} {te tl : TE} {t : TT}
/-- [f(c) for c in text] -/
theorem el_lcS {j : Nat} {vs : List Nat} {z : Str} (v : Nat → V) (h : Ev tl σ H (.str z)) (hz : z.cps.size ≤ 40000) (hw : ∀ x, wipe ((wipe σ vs).set j (some x)) vs = wipe σ vs) (ht : ∀ (c : Nat) H1, Ex H H1 → EvT t ((wipe σ vs).set j (some (.str ⟨#[c]⟩))) H1 true)
    (he : ∀ (i c : Nat) H1, Ex H H1 → z.cps[i]? = some c → Ev te ((wipe σ vs).set j (some (.str ⟨#[c]⟩))) H1 (v i)) : EvL (tLc (iStr tl) (gName j) t te vs) σ H (given z.cps.size (fun _ => true) v) := fun H0 e Q q => h H0 e _ fun H1 e1 => ⟨z, rfl, fun Dl hD =>
  lc_it walk_str (Cw H1 (fun _ => true) v Dl) ⟨hD, Ex.new hD, upd_same⟩ (fun _ _ _ _ => trivial) (fun i x H2 H' hi p y => by
    obtain ⟨rfl, c, hc, rfl⟩ := y
    exact ⟨hw _, cw_turn p (by omega) (ht c H1 (e.trans e1)) (fun _ => he i c H1 (e.trans e1) hc)⟩) (fun H' p => q Dl H' (fresh_back e1 p.1) (e1.trans p.2.1) p.2.2)⟩
theorem ev_all {bs : List Bool} (h : EvL tl σ H (bs.map V.bl)) : Ev (tCB (rAll K) (tCons tl tNil)) σ H (.bl (bs.all id)) := fun H1 e Q q => h H1 e _ fun p H2 np e2 hp => ⟨p, bs, rfl, sq_of hp, q H2 e2⟩
theorem rc_lenS {z : Str} (h : z.length ≤ 100000) : RC (fun xs H Q => ∃ z, xs = [.str z] ∧ z.length ≤ sizeLine ∧ Q (.int z.length) H) [.str z] H (.int (z.length : Int)) := fun H1 _ Q q => ⟨z, rfl, sz_of h, q H1 (Ex.refl H1)⟩
theorem rc_ordS {x : Str} {n : Nat} (h : x.length = 1) (hn : x.cps.getD 0 0 = n) : RC (fun xs H Q => ∃ x : Str, xs = [.str x] ∧ x.length = 1 ∧ Q (.int (x.cps.getD 0 0 : Nat)) H) [.str x] H (.int (n : Int)) := fun H1 _ Q q => ⟨x, rfl, h, by rw [hn]; exact q H1 (Ex.refl H1)⟩
theorem rc_ord {c : Nat} : RC (fun xs H Q => ∃ x : Str, xs = [.str x] ∧ x.length = 1 ∧ Q (.int (x.cps.getD 0 0 : Nat)) H) [.str ⟨#[c]⟩] H (.int (c : Int)) := fun H1 _ Q q => ⟨⟨#[c]⟩, rfl, rfl, q H1 (Ex.refl H1)⟩
theorem all_given (z : Str) (f : Nat → Bool) : ∃ bs : List Bool, given z.cps.size (fun _ => true) (fun i => V.bl (f (z.cps.getD i 0))) = bs.map V.bl ∧ bs.all id = z.cps.toList.all f := by
  refine ⟨z.cps.toList.map f, ?_, by rw [List.all_map]; rfl⟩
  unfold given
  rw [List.filter_eq_self.mpr (fun _ _ => rfl)]
  refine List.ext_getElem (by simp) (fun i h1 h2 => ?_)
  have h1 : i < z.cps.size := by simpa using h1
  simp [Array.getD, h1]
end
section
variable {K : PySem.W.Frag} {σ : L2.St} {H : Hp} {te tl : TE} {t : TT}
/-- [e for x in a tuple] -/
theorem el_lcT {a : Addr} {xs : List V} {j : Nat} {vs : List Nat} (v : Nat → V) (h : Ev tl σ H (.ref a)) (hx : SqT K H a xs) (hz : xs.length ≤ 40000) (hw : ∀ x, wipe ((wipe σ vs).set j (some x)) vs = wipe σ vs) (ht : ∀ (x : V) H1, Ex H H1 → EvT t ((wipe σ vs).set j (some x)) H1 true)
    (he : ∀ (i : Nat) (x : V) H1, Ex H H1 → xs[i]? = some x → Ev te ((wipe σ vs).set j (some x)) H1 (v i)) : EvL (tLc (iTup K tl) (gName j) t te vs) σ H (given xs.length (fun _ => true) v) := fun H0 e Q q => h H0 e _ fun H1 e1 => ⟨a, rfl, ⟨xs, ex_t (e.trans e1) hx⟩, fun Dl hD =>
  lc_it (walk_tup (xs := xs)) (Cw H1 (fun _ => true) v Dl) ⟨hD, Ex.new hD, upd_same⟩ (fun _ _ _ p => ex_t ((e.trans e1).trans p.2.1) hx) (fun i x H2 H' hi p y => by
    obtain ⟨rfl, hxi⟩ := y
    exact ⟨hw _, cw_turn p (by omega) (ht x H1 (e.trans e1)) (fun _ => he i x H1 (e.trans e1) hxi)⟩) (fun H' p => q Dl H' (fresh_back e1 p.1) (e1.trans p.2.1) p.2.2)⟩
theorem given_map (ds : List PyData) (g : PyData → Bool) : given ds.length (fun _ => true) (fun i => V.bl (g (ds.getD i .none))) = (ds.map g).map V.bl := by
  unfold given
  rw [List.filter_eq_self.mpr (fun _ _ => rfl)]
  refine List.ext_getElem (by simp) (fun i h1 h2 => ?_)
  have h1 : i < ds.length := by simpa using h1
  simp [h1]
theorem fn_false {P : Program} {w : World} {K : PySem.W.Frag} {mg : Str → Option Value} {base : Heap} {CX : CXT} {k : Nat} {f : Addr} {fd : FuncData} {ps : List Str} : FnOk P w K mg base CX k f fd ps (fun _ _ _ _ => False) := ⟨fun _ _ _ _ h => h.elim, fun _ _ _ _ _ _ _ _ _ _ _ _ _ h => h.elim⟩
end
def neS : PyData → Bool
  | .str x => !decide (V.str x = V.str "")
  | _ => false
def isDeed : PyData → Bool
  | .tuple ds => ((decide (1 ≤ (ds.length : Int)) && decide ((ds.length : Int) ≤ 4)) && (isT (ds.getD 0 .none) && neS (ds.getD 0 .none))) && ds.all isP
  | _ => false
def geB (k : Int) : PyData → Bool
  | .int i => decide (i ≥ k)
  | _ => false
end Ap
set_option Elab.async false
set_option linter.all false
set_option maxRecDepth 100000
namespace Ap
open PySem PySem.Spec PyProof.Rows L2 Evl ClX
theorem Okd.mono {n m : Nat} {d : PyData} (h : Okd n d) : n ≤ m → Okd m d := by
  induction h generalizing m with
  | non => exact fun _ => .non
  | bl b => exact fun _ => .bl b
  | int i => exact fun _ => .int i
  | str h => exact fun _ => .str h
  | dic => exact fun _ => .dic
  | lst h hs ih =>
    intro hl
    obtain ⟨k, rfl⟩ : ∃ k, m = k + 1 := ⟨m - 1, by omega⟩
    exact .lst h fun d hd => ih d hd (by omega)
  | tup h hs ih =>
    intro hl
    obtain ⟨k, rfl⟩ : ∃ k, m = k + 1 := ⟨m - 1, by omega⟩
    exact .tup h fun d hd => ih d hd (by omega)
  | lsa h => exact fun _ => .lsa h
theorem isV_sd {n : Nat} {d : PyData} (h : Okd n d) : isV d = true → Sd n d := by
  induction h with
  | non => exact fun h => absurd h (by simp [isV, isP, isI, isT])
  | bl b => exact fun h => absurd h (by simp [isV, isP, isI, isT])
  | lsa _ => exact fun h => absurd h (by simp [isV, isP, isI, isT])
  | int i => exact fun _ => sd_int
  | @str n x hx =>
    intro h
    have h : isT (.str x) = true := by simpa [isV, isP, isI] using h
    have h2 := (Bool.and_eq_true_iff.mp (show (decide (x.length ≤ 200) && x.cps.toList.all chOk) = true from h)).2
    refine sd_str ?_
    show x.cps.all (· < 0x110000) = true
    rw [← Array.all_toList]
    refine List.all_eq_true.mpr fun c hc => ?_
    have h3 := List.all_eq_true.mp h2 c hc
    have h4 := of_decide_eq_true (Bool.and_eq_true_iff.mp (Bool.and_eq_true_iff.mp h3).1).2
    exact decide_eq_true (by omega)
  | dic => exact fun h => absurd h (by simp [isV, isP, isI, isT])
  | lst h hs ih => exact fun h => absurd h (by simp [isV, isP, isI, isT])
  | @tup n ds h hs ih =>
    intro hv
    have hv : isVs ds = true := hv
    rw [isVs_iff] at hv
    exact sd_tuple fun d hd => ih d hd (List.all_eq_true.mp hv d hd)
theorem isP_V {d : PyData} (h : isP d = true) : isV d = true := by
  cases d <;> simp_all [isV, isP, isI, isT]
theorem isN_V {d : PyData} (h : isN d = true) : isV d = true := by
  unfold isN at h
  exact isP_V (by unfold isP; rw [(Bool.and_eq_true_iff.mp h).1]; rfl)
theorem isDeed_V {d : PyData} (h : isDeed d = true) : isV d = true := by
  cases d with
  | tuple ds =>
    have h2 := (Bool.and_eq_true_iff.mp (show (_ && ds.all isP) = true from h)).2
    show isVs ds = true
    rw [isVs_iff]
    exact List.all_eq_true.mpr fun d hd => isP_V (List.all_eq_true.mp h2 d hd)
  | _ => cases h
theorem big_lit {mg : Str → Option Value} {t : Tok} (h : mg "NUMBER_MOST" = some (.int 1000000000000000000 t)) : mg "NUMBER_MOST" = some (.int (10 ^ 18) t) := by
  rw [h, show ((10 : Int) ^ 18) = 1000000000000000000 by decide]
end Ap
set_option Elab.async false
set_option linter.all false
set_option maxRecDepth 100000
set_option Elab.async false
set_option linter.all false
set_option maxRecDepth 100000
set_option maxHeartbeats 2000000
namespace Ap
open PySem PySem.Spec PyProof.Rows L2 Evl
structure FnN (P : Program) (w : World) (K : PySem.W.Frag) (mg : Str → Option Value) (base : Heap) (CX : CXT) (k : Nat) (f : Addr) (fd : FuncData) (ps : List Str) (sp : Nat → Sp) : Prop where
  ln : ∀ n vs H Q E, sp n vs H Q E → vs.length = ps.length
  go : ∀ (A : Around) (out : List Env) (s : Shared) (H : Hp) (args : Args) (us : List Value) (vs : List V) (Q : VK) (E : XK), Room k A → Env0 P w K mg base A out s H → BindsTo s fd args (ps.zip us) → Vals vs us → sp s.heap.objs.size vs H Q E →
    codeAny (model P w) A (.call (.ref f) args) (CR CX out P w H s Q E) s
section
variable {P : Program} {w : World} {K : PySem.W.Frag} {mg : Str → Option Value} {base : Heap}
theorem okN_of {x qual : Str} {st : Stmt} {f : Addr} {fd : FuncData} {N ps : List Str} {k : Nat} {sp : Nat → Sp} (F : Fun K x qual st f fd) (S : FnScope N ps (defScope st)) (hlen : ∀ n vs H Q E, sp n vs H Q E → vs.length = ps.length)
    (body : ∀ (cdv : Value) (A : Around) (out : List Env) (s : Shared) (H : Hp) (vs : List V) (Q : VK) (E : XK), Room k (A.deeper (envOfC qual (defScope st) s.heap.objs.size f cdv)) → sp s.heap.objs.size vs H Q E →
      ∃ t, PSs (cxOf CX0 P w K mg base N qual (defScope st) f cdv A out s H E).nox (defBody st) t ∧ t { nx := fun _ H' => Q .non H', rt := Q } (start N vs) H) : FnN P w K mg base CX0 (k + 1) f fd ps sp := by
  obtain ⟨o1, o2, o3, o4, o5, o6, cdv, o7, o8, rfl, here, co⟩ := F.ex
  refine ⟨hlen, fun A out s H args us vs Q E room env bd vals hsp => ?_⟩
  have nolim : s.heap.NoLimit := env.mod.nolimit.keeps fun b o h => (env.bs b o h).1
  have inn : K.In s.heap := env.mod.kin.keeps fun b o h => (env.bs b o h).1
  have kinds : ∀ y ∈ ps.zip us, (defScope st).names.lookup y.1 = some .local ∨ ((defScope st).names.lookup y.1 = some .cell ∧ ((cellsFrom (s.heap.objs.size + 1) (defScope st).names []).lookup y.1).isSome = true) := by
    intro y hy
    rcases S.par y.1 (List.of_mem_zip (a := y.1) (b := y.2) hy).1 with h | h
    · exact .inl h
    · exact .inr ⟨h, PySem.W.cellsFrom_some _ _ _ (.inl h)⟩
  refine codeAny_call_function room.depth (inn _ _ here) rfl S.co S.gen rfl (PySem.W.codeRec_of inn co) (bd _ _ _ _ (wpAny_newFunctionEnv_cells S.kind kinds fun e1 he1 t1 x => ?_))
  subst he1
  obtain ⟨t, ht, hq⟩ := body cdv A out s H vs Q E (room.deeper _) hsp
  have I := inv_start (CX := CX0) (E := E) S room.hd env (hlen _ _ _ _ _ hsp) vals x
  refine ⟨nolim.keeps x.toInCall.keep, codeAny_func (wpAny_mono (ht.nox.run [] t1 (start N vs) H _ I hq) (fun fl t2 h => ?_) fun _ _ h => h)⟩
  cases fl with
  | next => obtain ⟨_, H', J, q⟩ := h; exact ⟨.non, H', J.os, J.bare, J.base, J.hok, rfl, q⟩
  | ret u => obtain ⟨v, _, H', J, rv, q⟩ := h; exact ⟨v, H', J.os, J.bare, J.base, J.hok, rv, q⟩
  | brk => obtain ⟨_, _, _, q⟩ := h; exact q.elim
  | cont => obtain ⟨_, _, _, q⟩ := h; exact q.elim
end
end Ap
set_option Elab.async false
set_option linter.all false
set_option maxRecDepth 100000
set_option maxHeartbeats 2000000
namespace Ap
open PySem PySem.Spec PyProof.Rows L2 Evl
def datB (K : PySem.W.Frag) : Nat → Value → Option PyData
  | 0, _ => none
  | _ + 1, .none => some .none
  | _ + 1, .bool b => some (.bool b)
  | _ + 1, .int i _ => some (.int i)
  | _ + 1, .str z _ => some (.str z)
  | n + 1, .ref a => match K.lookup a with
    | some ⟨.type c, _, .seq vs _, _⟩ => if c = "tuple" ∧ vs.size ≤ 1000 then ((vs.toList.mapM (datB K n)).map PyData.tuple) else none
    | _ => none
  | _ + 1, _ => none
theorem datB_all {K : PySem.W.Frag} {n : Nat} (ih : ∀ (v : Value) (d : PyData), datB K n v = some d → ∃ x : V, RelV x v ∧ ∀ H, Dp K H x d) : ∀ (us : List Value) (ds : List PyData), us.mapM (datB K n) = some ds → ∃ xs : List V, Vals xs us ∧ ∀ H, DpAll K H xs ds
  | [], ds, h => by
    cases (show some [] = some ds from h)
    exact ⟨[], .nil, fun H => .nil⟩
  | u :: us, ds, h => by
    rw [List.mapM_cons] at h
    cases h1 : datB K n u with
    | none => rw [h1] at h; cases h
    | some d =>
      cases h2 : us.mapM (datB K n) with
      | none => rw [h1, h2] at h; cases h
      | some es =>
        rw [h1, h2] at h
        cases (show some (d :: es) = some ds from h)
        obtain ⟨x, r, hx⟩ := ih u d h1
        obtain ⟨xs, rs, hxs⟩ := datB_all ih us es h2
        exact ⟨x :: xs, .cons r rs, fun H => .cons (hx H) (hxs H)⟩
theorem datB_dp {K : PySem.W.Frag} : ∀ (n : Nat) (v : Value) (d : PyData), datB K n v = some d → ∃ x : V, RelV x v ∧ ∀ H, Dp K H x d
  | 0, _, _, h => by cases h
  | n + 1, .none, d, h => by cases (show some PyData.none = some d from h); exact ⟨.non, rfl, fun H => .non⟩
  | n + 1, .bool b, d, h => by cases (show some (PyData.bool b) = some d from h); exact ⟨.bl b, rfl, fun H => .bl b⟩
  | n + 1, .int i t, d, h => by cases (show some (PyData.int i) = some d from h); exact ⟨.int i, ⟨t, rfl⟩, fun H => .int i⟩
  | n + 1, .str z t, d, h => by cases (show some (PyData.str z) = some d from h); exact ⟨.str z, ⟨t, rfl⟩, fun H => .str z⟩
  | n + 1, .ref a, d, h => by
    have h : (match K.lookup a with
      | some ⟨.type c, _, .seq vs _, _⟩ => if c = "tuple" ∧ vs.size ≤ 1000 then ((vs.toList.mapM (datB K n)).map PyData.tuple) else none
      | _ => none) = some d := h
    split at h
    · rename_i c od vs nn sl hk
      split at h
      · rename_i hc
        obtain ⟨rfl, hsz⟩ := hc
        cases hm : vs.toList.mapM (datB K n) with
        | none => rw [hm] at h; cases h
        | some ds =>
          rw [hm] at h
          cases (show some (PyData.tuple ds) = some d from h)
          obtain ⟨xs, rs, hxs⟩ := datB_all (datB_dp n) vs.toList ds hm
          exact ⟨.ref a, rfl, fun H => .tup (.inr ⟨_, vs, nn, hk, rfl, rfl, sz_of (by omega), rs⟩) (hxs H)⟩
      · cases h
    · cases h
  | n + 1, .builtin _, d, h => by cases h
  | n + 1, .type _, d, h => by cases h
def lookS {α : Type} : List (Str × α) → Str → Option α
  | [], _ => none
  | p :: r, z => if p.1 = z then some p.2 else lookS r z
def entB (K : PySem.W.Frag) (e : DictEntry) : Option (Str × PyData) := match e.key with
  | .str s _ => (match datB K 6 e.val with
    | some d => some (s, d)
    | none => none)
  | _ => none
def kdB (K : PySem.W.Frag) (a : Addr) : Option (List (Str × PyData)) := match K.lookup a with
  | some ⟨_, _, .dict es _, _⟩ => es.toList.mapM (entB K)
  | _ => none
theorem ents_at {K : PySem.W.Frag} : ∀ (es : List DictEntry) (L : List (Str × PyData)), es.mapM (entB K) = some L → ∀ z, (∃ e d x, es.find? (·.key.isStr z) = some e ∧ lookS L z = some d ∧ RelV x e.val ∧ ∀ H, Dp K H x d) ∨ (es.find? (·.key.isStr z) = none ∧ es.any (·.refKey) = false ∧ lookS L z = none)
  | [], L, h, z => by
    cases (show some [] = some L from h)
    exact .inr ⟨rfl, rfl, rfl⟩
  | e :: es, L, h, z => by
    rw [List.mapM_cons] at h
    cases h1 : entB K e with
    | none => rw [h1] at h; cases h
    | some p =>
      cases h2 : es.mapM (entB K) with
      | none => rw [h1, h2] at h; cases h
      | some M =>
        rw [h1, h2] at h
        cases (show some (p :: M) = some L from h)
        unfold entB at h1
        split at h1
        · rename_i s t hk
          split at h1
          · rename_i d hd
            cases h1
            obtain ⟨x, r, hx⟩ := datB_dp 6 e.val d hd
            by_cases hs : s = z
            · refine .inl ⟨e, d, x, ?_, if_pos hs, r, hx⟩
              rw [List.find?_cons, hk]
              subst hs
              have : (Value.str s t).isStr s = true := by simp [Value.isStr]
              rw [this]
            · have hne : (Value.str s t).isStr z = false := by
                simp [Value.isStr]
                exact hs
              have hl : lookS ((s, d) :: M) z = lookS M z := if_neg hs
              rcases ents_at es M h2 z with ⟨e2, d2, x2, k1, k2, k3, k4⟩ | ⟨k1, k2, k3⟩
              · refine .inl ⟨e2, d2, x2, ?_, hl.trans k2, k3, k4⟩
                rw [List.find?_cons, hk, hne]
                exact k1
              · refine .inr ⟨?_, ?_, hl.trans k3⟩
                · rw [List.find?_cons, hk, hne]
                  exact k1
                · rw [List.any_cons, k2]
                  unfold DictEntry.refKey
                  rw [hk]
                  rfl
          · cases h1
        · cases h1
/-- a constant dict of texts to nested tuples -/
structure KdC (K : PySem.W.Frag) (w : World) (mg : Str → Option Value) (x : Str) (a : Addr) (L : List (Str × PyData)) : Prop where
  g : mg x = some (.ref a)
  D : ∃ es n, KDict K w a es n
  at_ : ∀ z, (∃ d v x, PySem.W.nsIn K a z = some (some v) ∧ lookS L z = some d ∧ RelV x v ∧ ∀ H, Dp K H x d) ∨ (PySem.W.nsIn K a z = some none ∧ lookS L z = none)
theorem kdc_mk {K : PySem.W.Frag} {w : World} {h : Heap} {mg : Str → Option Value} {x : Str} {a : Addr} {L : List (Str × PyData)} (X : K.In h) (G : h.Ns mainGlobals mg) (hn : PySem.W.nsIn K mainGlobals x = some (some (.ref a))) (hd : He.dicW K a = some (He.keysIn w.params (L.map (·.1)))) (hk : kdB K a = some L) : KdC K w mg x a L := by
  refine ⟨PySem.W.mg_of X G hn, He.dicW_ok hd, fun z => ?_⟩
  unfold kdB at hk
  split at hk
  · rename_i oc od es n sl q
    have hns : PySem.W.nsIn K a z = (match es.toList.find? (·.key.isStr z) with
      | some e => some (some e.val)
      | none => if es.toList.any (·.refKey) then none else some none) := by
      unfold PySem.W.nsIn
      rw [q]
      rfl
    rcases ents_at es.toList L hk z with ⟨e, d, x, k1, k2, k3, k4⟩ | ⟨k1, k2, k3⟩
    · exact .inl ⟨d, e.val, x, by rw [hns, k1], k2, k3, k4⟩
    · exact .inr ⟨by rw [hns, k1, k2]; rfl, k3⟩
  · cases hk
theorem KdC.dict {K : PySem.W.Frag} {w : World} {mg : Str → Option Value} {x : Str} {a : Addr} {L : List (Str × PyData)} (C : KdC K w mg x a L) : ∃ es n, KDict K w a es n := C.D
/-- d[key], d a constant -/
def rKd (K : PySem.W.Frag) (d : Addr) : R2 := fun x y H Q => ∃ (z : Str) (u0 : Value) (v0 : V), x = .ref d ∧ y = .str z ∧ PySem.W.nsIn K d z = some (some u0) ∧ RelV v0 u0 ∧ Q v0 H
def rInKd (K : PySem.W.Frag) (d : Addr) (neg : Bool) : R2 := fun x y H Q => ∃ (z : Str) (r : Option Value), x = .str z ∧ y = .ref d ∧ PySem.W.nsIn K d z = some r ∧ Q (.bl (if neg = true then !r.isSome else r.isSome)) H
theorem ix_kd {X : Cx} {d : Addr} (C : ∃ es n, KDict X.K X.w d es n) : IxR X (rKd X.K d) := by
  intro value slice pins s σ H x y v u Q I rx ry h hs
  obtain ⟨es, n, D⟩ := C
  obtain ⟨z, u0, v0, rfl, rfl, e, r, q⟩ := h
  cases rx
  obtain ⟨t, rfl⟩ := ry
  refine PyProof.Rows.tail_any (kd_type D I) PySem.F.slot_dict_getitem.lookup ?_ hs
  exact wpAny_getItem_of (PySem.strKind_is X.prog X.w z t) (PySem.W.mapOf_K (prog := X.prog) I.kIn D.at_ D.lit) (PySem.W.find_K D.at_ e) ⟨v0, H, I.tok _, r, q⟩
theorem op_notInKd {X : Cx} {d : Addr} (C : ∃ es n, KDict X.K X.w d es n) : OpR X (compareOp .NotIn) (rInKd X.K d true) := by
  obtain ⟨es, n, D⟩ := C
  exact op_notIn_kd D
section
variable {K : PySem.W.Frag} {w : World} {mg : Str → Option Value} {nm : Str} {a : Addr} {L : List (Str × PyData)} {σ : L2.St} {H : Hp} {ta tb : TE} {z : Str} {d : PyData}
theorem ev_notInKd (C : KdC K w mg nm a L) (ha : Ev ta σ H (.str z)) (hb : ∀ H1, Ev tb σ H1 (.ref a)) : Ev (tOp (rInKd K a true) ta tb) σ H (.bl (!(lookS L z).isSome)) := fun H1 e Q q => ha H1 e _ fun H2 e2 => hb H2 H2 (Ex.refl H2) _ fun H3 e3 => by
  rcases C.at_ z with ⟨d, v, x, k1, k2, _, _⟩ | ⟨k1, k2⟩
  · exact ⟨z, _, rfl, rfl, k1, by rw [k2] at q; exact q H3 (e2.trans e3)⟩
  · exact ⟨z, _, rfl, rfl, k1, by rw [k2] at q; exact q H3 (e2.trans e3)⟩
end
end Ap
set_option Elab.async false
set_option linter.all false
set_option maxRecDepth 100000
set_option maxHeartbeats 2000000
namespace Ap
open PySem PySem.Spec PyProof.Rows L2 Evl
abbrev kyObj (d : Addr) (n ep : Nat) : Obj := { cls := .type "dict_keyiterator", data := .fields #[.ref d, .int 0 0, .int n 0, .int ep 0] }
/-- at it an iterator over the keys of the dict at d, as o stands there -/
def ItKy (d : Addr) (o : Obj) (n : Nat) (it : Addr) : HO := .ext fun h => ∃ (es : Array DictEntry) (ep : Nat), o.data = .dict es ep ∧ h.get? it = some (kyObj d n ep)
theorem itKy_ok {P : Program} {w : World} {H : Hp} {h : Heap} {d it : Addr} {o : Obj} {n ep : Nat} {es : Array DictEntry} (ho : o.data = .dict es ep) (e : h.get? it = some (kyObj d n ep)) : ObjOk P w H h it (ItKy d o n it) := ⟨⟨es, ep, ho, e⟩, ⟨_, e⟩, fun h1 h2 ⟨es, ep, a, q⟩ k => ⟨es, ep, a, k _ q⟩⟩
theorem call_iter_dict {prog : Program} {w : World} {A : Around} {E : Value → Shared → Prop} {s : Shared} {d : Addr} {o : Obj} {es : Array DictEntry} {ep : Nat} {Q : Value → Shared → Prop} (hd : (d == sysModules) = false) (ho : s.heap.get? d = some o) (hc : o.ExactDict) (hdat : o.data = .dict es ep)
    (h : Q (.ref s.heap.objs.size) { s with heap := s.heap.push (kyObj d es.size ep) }) : wpAny (model prog w) A (call (.builtin "iter") [.ref d]) Q E s := by
  refine Calls.call_function_entry (by decide +kernel) (by decide +kernel) PySem.W.kdk_entry_iter (PySem.W.kdk_args_iter _) ?_
  unfold Builtin.«iter»
  refine wpAny_bind (m := someArgs "iter" 1 2 _) (wpAny_of_eq (a := [Value.ref d]) (by first | rfl | kernel_rfl!) ?_)
  show wpAny _ _ (pyIter (.ref d) >>= _) _ _ _
  refine wpAny_bind (L2.iter_keys hd ho hc hdat ?_)
  exact wpAny_pure ⟨_, rfl, h⟩
def rIterK (n : Nat) : List V → Hp → VK → Prop := fun xs H Q => ∃ (d : Addr) (o : Obj) (kvs : List (Key × V)), xs = [.ref d] ∧ H d = some (.frz o (.dK kvs)) ∧ ∀ it, H it = Option.none → n ≤ it → Q (.ref it) (upd H it (ItKy d o kvs.length it))
theorem call_iterK {X : Cx} : CallR X (.builtin "iter") (rIterK X.s_0.heap.objs.size) := by
  intro pins s σ H xs us Q I r h
  obtain ⟨d, o, kvs, rfl, hq, q⟩ := h
  obtain rfl := Vals.ref1 r
  obtain ⟨hs, hgd, hx, es, ep, vs, hdt, hsz, kv, hm⟩ := I.frzK hq
  refine call_iter_dict hs hgd hx hdt ?_
  rw [hsz]
  exact ⟨.ref s.heap.objs.size, _, I.laid (t' := s.toks) (fun b u e => Heap.get?_push_of_some _ e) (Nat.le_refl _) (itKy_ok hdt (Heap.get?_push_size _ rfl)), rfl, q _ (I.hok.fresh (Nat.le_refl _)) I.sz⟩
section
variable {X : Cx} {tg : Expr}
def iOwnK (K : PySem.W.Frag) (C : Addr) (sp : Nat → Sp) (te : TE) : TI := fun σ H R => te σ H fun x H1 => ∃ a dx fs, x = .ref a ∧ H1 a = some (.ins C dx fs) ∧
  ∀ n, sp n [.ref a] H1 (fun v H2 => ∃ (it d : Addr) (o : Obj) (kvs : List (Key × V)), v = .ref it ∧ n ≤ it ∧ H2 it = some (ItKy d o kvs.length it) ∧ R (Itk d o kvs) (ItX.dropH H2 it)) fun _ _ _ => False
theorem pi_ownK {o : Expr} {te : TE} {C f : Addr} {fd : FuncData} {ps : List Str} {sp : Nat → Sp} {k : Nat} (he : PE X o te) (m : Meth X.K C "__iter__" f) (F : FnN X.prog X.w X.K X.mg X.base CX0 k f fd ps sp) (hr : Room k X.A) (b : Binds X.K fd ps []) : PI X tg o (iOwnK X.K C sp te) := by
  refine ⟨fun pins s σ H R I h => ?_⟩
  refine thn (he.run pins s σ H _ I h) fun u s1 ⟨x, H1, I1, rx, a, dx, fs, ex, ha, q⟩ => ?_
  subst ex
  cases (show u = Value.ref a from rx)
  obtain ⟨mA, J, _⟩ := ins_get I1.hok ha
  obtain ⟨od, J, _⟩ := J.look
  obtain ⟨m0, hF⟩ := I1.fr
  have hsp := q s1.heap.objs.size
  have hl := F.ln _ _ _ _ _ hsp
  refine PySem.W.owit_iter hF I1.ok.mod.kin J m.at_ m.fn (wpAny_call (codeAny_mono (F.go X.A X.stack s1 H1 ⟨[.ref a], []⟩ [.ref a] [.ref a] _ _ hr I1.env0 (by simpa using b s1 [.ref a] I1.kIn (by simpa using hl)) (.cons rfl .nil) hsp) fun r s2 hq => ?_))
  cases r with
  | error e => exact absurd hq (fun h => h.elim)
  | ok fl =>
    cases fl with
    | next => exact hq.elim
    | brk => exact hq.elim
    | cont => exact hq.elim
    | ret u2 =>
      obtain ⟨v, H2, I2, rv, it, d, o, kvs, rfl, hn, hit, hR⟩ := I1.after hq
      cases (show u2 = Value.ref it from rv)
      obtain ⟨es, ep, hod, eo⟩ := (I2.hok it _ hit).1
      have st : s2.heap.IsKeyIter it d 0 kvs.length ep := ⟨_, eo, rfl, rfl⟩
      have hit' := hit
      unfold ItKy at hit'
      unfold PySem.W.OwitIt
      refine wpAny_specialOf (name := Str.ofString "__next__") (T := "dict_keyiterator") ⟨_, eo, rfl⟩ PySem.F.slot_dict_keyiterator_next.lookup ?_
      refine ⟨it, [it], _, Itk d o kvs, ItX.dropH H2 it, rfl, ItX.inv_drop I2 hit', turn_keys it hod, st, fun c hc => ?_, hR⟩
      have e : c = it := by simpa using hc
      rw [e]
      exact ItX.inv_fp I2 hit (Nat.le_trans I1.sz hn)
end
end Ap
set_option Elab.async false
set_option linter.all false
set_option maxRecDepth 100000
namespace Ap
open PySem PySem.Spec PyProof.Rows L2 Evl
section
variable {K : PySem.W.Frag} {σ : L2.St} {H H' : Hp} {ta tb tc te : TE} {t u : TT} {x y z v w : V}
theorem et_orF (h1 : EvT t σ H false) (h2 : EvT u σ H false) : EvT (tOr t u) σ H false := et_or (a := false) (b := false) h1 (fun _ => h2)
theorem et_orL (h1 : EvT t σ H true) : EvT (tOr t u) σ H true := fun H1 e Q q => h1 H1 e _ fun H2 e2 => (q H2 e2 : Q true H2)
theorem et_orR (h1 : EvT t σ H false) (h2 : EvT u σ H true) : EvT (tOr t u) σ H true := et_or (a := false) (b := true) h1 (fun _ => h2)
theorem et_andT (h1 : EvT t σ H true) (h2 : EvT u σ H true) : EvT (tAnd t u) σ H true := et_and (a := true) (b := true) h1 (fun _ => h2)
theorem et_andL (h1 : EvT t σ H false) : EvT (tAnd t u) σ H false := fun H1 e Q q => h1 H1 e _ fun H2 e2 => (q H2 e2 : Q false H2)
theorem et_nt (h : EvT t σ H true) : EvT (tNot t) σ H false := et_not h
theorem et_nf (h : EvT t σ H false) : EvT (tNot t) σ H true := et_not h
theorem ev_andT (h1 : Ev ta σ H (.bl true)) (h2 : Ev tb σ H (.bl true)) : Ev (tAndV ta tb) σ H (.bl true) := ev_andV (a := true) (b := true) h1 (fun _ => h2)
theorem ev_andR {b : Bool} (h1 : Ev ta σ H (.bl true)) (h2 : Ev tb σ H (.bl b)) : Ev (tAndV ta tb) σ H (.bl b) := by
  have h := ev_andV (a := true) (b := b) h1 (fun _ => h2)
  rwa [Bool.true_and] at h
theorem ev_orF (h1 : Ev ta σ H (.bl false)) (h2 : Ev tb σ H (.bl false)) : Ev (tOrV ta tb) σ H (.bl false) := ev_orV (a := false) (b := false) h1 (fun _ => h2)
theorem ev_nt (h : Ev ta σ H (.bl true)) : Ev (tNotV ta) σ H (.bl false) := ev_notV h
theorem ev_nf (h : Ev ta σ H (.bl false)) : Ev (tNotV ta) σ H (.bl true) := ev_notV h
theorem rc_isiI : RC (rIsi K) [.int x', .ty "int"] H (.bl true) := rc_isi (X := "int") (fun _ => .base (.int _)) (by decide +kernel)
theorem rc_isiIB : RC (rIsi K) [.int x', .ty "bool"] H (.bl false) := rc_isi (X := "int") (fun _ => .base (.int _)) (by decide +kernel)
theorem rc_isiB : RC (rIsi K) [.bl x', .ty "bool"] H (.bl true) := rc_isi (X := "bool") (fun _ => .base (.bl _)) (by decide +kernel)
theorem rc_isiBI : RC (rIsi K) [.bl x', .ty "int"] H (.bl true) := rc_isi (X := "bool") (fun _ => .base (.bl _)) (by decide +kernel)
theorem rv_eqI {i j : Int} : RV rEq (.int i) (.int j) H (.bl (decide (i = j))) := by
  have h := rv_eq (x := .int i) (y := .int j) (H := H) rfl
  have e : decide (V.int i = V.int j) = decide (i = j) := by
    by_cases q : i = j
    · rw [decide_eq_true q, decide_eq_true (by rw [q])]
    · rw [decide_eq_false q, decide_eq_false (fun h => q (V.int.inj h))]
  rwa [e] at h
theorem rv_neI {i j : Int} : RV rNe (.int i) (.int j) H (.bl (!decide (i = j))) := by
  have h := rv_ne (x := .int i) (y := .int j) (H := H) rfl
  have e : decide (V.int i = V.int j) = decide (i = j) := by
    by_cases q : i = j
    · rw [decide_eq_true q, decide_eq_true (by rw [q])]
    · rw [decide_eq_false q, decide_eq_false (fun h => q (V.int.inj h))]
  rwa [e] at h
end
end Ap
set_option Elab.async false
set_option linter.all false
set_option maxRecDepth 100000
namespace Ap
open PySem PySem.Spec PyProof.Rows L2 Evl
structure MP where
  p : Hp → Hp → Prop
  m : ∀ B B' H H', Ex B B' → Ex H H' → p B H → p B' H'
def cutIn (S : Addr → Bool) (H : Hp) : Hp := fun a => if S a = true then H a else none
theorem cutIn_ex {S : Addr → Bool} {H H' : Hp} (e : Ex H H') : Ex (cutIn S H) (cutIn S H') := fun a o h => by
  unfold cutIn at h ⊢
  split at h
  · rename_i q
    rw [if_pos q]
    exact e a o h
  · cases h
theorem cutIn_sub {S : Addr → Bool} {H : Hp} : Ex (cutIn S H) H := fun a o h => by
  unfold cutIn at h
  split at h
  · exact h
  · cases h
theorem cutIn_at {S : Addr → Bool} {H : Hp} {a : Addr} {o : HO} (h : cutIn S H a = some o) : S a = true ∧ H a = some o := by
  unfold cutIn at h
  split at h
  · rename_i q
    exact ⟨q, h⟩
  · cases h
theorem cutIn_yes {S : Addr → Bool} {H : Hp} {a : Addr} (h : S a = true) : cutIn S H a = H a := by
  unfold cutIn
  rw [if_pos h]
theorem cutIn_no {S : Addr → Bool} {H : Hp} {a : Addr} (h : S a = false) : cutIn S H a = none := by
  unfold cutIn
  rw [if_neg (by rw [h]; decide)]
def Emp : MP := ⟨fun _ _ => True, fun _ _ _ _ _ _ _ => trivial⟩
def Pt (a : Addr) (o : HO) : MP := ⟨fun _ H => H a = some o, fun _ _ _ _ _ e h => e _ _ h⟩
def Star (P Q : MP) : MP := ⟨fun B H => ∃ S : Addr → Bool, P.p B (cutIn S H) ∧ Q.p B (cutIn (fun a => !S a) H), fun _ _ _ _ b e ⟨S, h1, h2⟩ => ⟨S, P.m _ _ _ _ b (cutIn_ex e) h1, Q.m _ _ _ _ b (cutIn_ex e) h2⟩⟩
def Stars : List MP → MP
  | [] => Emp
  | P :: l => Star P (Stars l)
def ExM {α : Type} (f : α → MP) : MP := ⟨fun B H => ∃ x, (f x).p B H, fun _ _ _ _ b e ⟨x, h⟩ => ⟨x, (f x).m _ _ _ _ b e h⟩⟩
def AndM (φ : Prop) (P : MP) : MP := ⟨fun B H => φ ∧ P.p B H, fun _ _ _ _ b e ⟨a, h⟩ => ⟨a, P.m _ _ _ _ b e h⟩⟩
/-- what is known of the base besides -/
def DpM (K : PySem.W.Frag) (vs : List V) (ds : List PyData) (P : MP) : MP := ⟨fun B H => DpAll K B vs ds ∧ P.p B H, fun _ _ _ _ b e ⟨a, h⟩ => ⟨dpa_mono b _ _ a, P.m _ _ _ _ b e h⟩⟩
theorem cut_cut {S T : Addr → Bool} {H : Hp} : cutIn S (cutIn T H) = cutIn (fun a => T a && S a) H := by
  funext a
  unfold cutIn
  cases hs : S a <;> cases ht : T a <;> simp [hs, ht]
theorem cut_all {H : Hp} : cutIn (fun _ => true) H = H := funext fun a => cutIn_yes rfl
theorem cut_all' {H : Hp} : cutIn (fun a => !((fun _ => false) a)) H = H := funext fun a => cutIn_yes rfl
theorem star_comm {P Q : MP} {B H : Hp} (h : (Star P Q).p B H) : (Star Q P).p B H := by
  obtain ⟨S, h1, h2⟩ := h
  refine ⟨fun a => !S a, h2, ?_⟩
  have e : (fun a => !!S a) = S := by
    funext a
    exact Bool.not_not _
  show P.p B (cutIn (fun a => !!S a) H)
  rw [e]
  exact h1
theorem star_l {P Q : MP} {B H : Hp} (h : (Star P Q).p B H) : P.p B H := by
  obtain ⟨S, h1, h2⟩ := h
  exact P.m _ _ _ _ (Ex.refl B) cutIn_sub h1
theorem star_r {P Q : MP} {B H : Hp} (h : (Star P Q).p B H) : Q.p B H := by
  obtain ⟨S, h1, h2⟩ := h
  exact Q.m _ _ _ _ (Ex.refl B) cutIn_sub h2
theorem star_mono {P P' Q Q' : MP} {B H : Hp} (hp : ∀ H, P.p B H → P'.p B H) (hq : ∀ H, Q.p B H → Q'.p B H) (h : (Star P Q).p B H) : (Star P' Q').p B H := by
  obtain ⟨S, h1, h2⟩ := h
  exact ⟨S, hp _ h1, hq _ h2⟩
theorem star_swap {P Q R : MP} {B H : Hp} (h : (Star P (Star Q R)).p B H) : (Star Q (Star P R)).p B H := by
  obtain ⟨S, h1, T, h2, h3⟩ := h
  rw [cut_cut] at h2 h3
  refine ⟨fun a => !S a && T a, h2, fun a => S a, ?_, ?_⟩
  · rw [cut_cut]
    refine P.m _ _ _ _ (Ex.refl B) (fun a o h => ?_) h1
    obtain ⟨q, h⟩ := cutIn_at h
    rw [cutIn_yes (by show (!(!S a && T a) && S a) = true; rw [q]; rfl)]
    exact h
  · rw [cut_cut]
    refine R.m _ _ _ _ (Ex.refl B) (fun a o h => ?_) h3
    obtain ⟨q, h⟩ := cutIn_at h
    have q : (!S a && !T a) = true := q
    rw [cutIn_yes (by
      show (!(!S a && T a) && !S a) = true
      cases hs : S a <;> cases ht : T a <;> rw [hs, ht] at q <;> first | rfl | cases q)]
    exact h
theorem star_assoc {P Q R : MP} {B H : Hp} (h : (Star (Star P Q) R).p B H) : (Star P (Star Q R)).p B H := star_mono (fun _ h => h) (fun _ h => star_comm h) (star_swap (star_mono (P' := R) (fun _ h => h) (fun _ h => h) (star_comm h)) |> star_mono (fun _ h => h) (fun _ h => h))
theorem star_assoc' {P Q R : MP} {B H : Hp} (h : (Star P (Star Q R)).p B H) : (Star (Star P Q) R).p B H := by
  have h1 : (Star R (Star P Q)).p B H := by
    have h2 : (Star P (Star R Q)).p B H := star_mono (fun _ h => h) (fun _ h => star_comm h) h
    exact star_swap h2
  exact star_comm h1
theorem stars_app : ∀ {l k : List MP} {B H : Hp}, (Star (Stars l) (Stars k)).p B H → (Stars (l ++ k)).p B H
  | [], _, _, _, h => star_r h
  | P :: l, k, _, _, h => star_mono (fun _ h => h) (fun _ h => stars_app h) (star_assoc h)
theorem stars_app' : ∀ {l k : List MP} {B H : Hp}, (Stars (l ++ k)).p B H → (Star (Stars l) (Stars k)).p B H
  | [], _, _, _, h => ⟨fun _ => false, trivial, by
    rw [cut_all']
    exact h⟩
  | P :: l, k, _, _, h => star_assoc' (star_mono (fun _ h => h) (fun _ h => stars_app' h) h)
theorem stars_pull : ∀ (l : List MP) (i : Nat) {B H : Hp} {P : MP}, l[i]? = some P → (Stars l).p B H → (Stars (P :: l.eraseIdx i)).p B H
  | [], i, _, _, _, e, _ => by simp at e
  | Q :: l, 0, _, _, _, e, h => by
    cases (show some Q = some _ from e)
    exact h
  | Q :: l, i + 1, _, _, P, e, h => star_swap (star_mono (P := Q) (Q := Stars l) (Q' := Stars (P :: l.eraseIdx i)) (fun _ h => h) (fun _ h => stars_pull l i (by simpa using e) h) h)
theorem stars_put : ∀ (l : List MP) (i : Nat) {B H : Hp} {P P' : MP}, l[i]? = some P → (Stars (P' :: l.eraseIdx i)).p B H → (Stars (l.set i P')).p B H
  | [], i, _, _, _, _, e, _ => by simp at e
  | Q :: l, 0, _, _, _, _, e, h => h
  | Q :: l, i + 1, _, _, P, P', e, h => star_mono (P := Q) (Q := Stars (P' :: l.eraseIdx i)) (Q' := Stars (l.set i P')) (fun _ h => h) (fun _ h => stars_put l i (P := P) (by simpa using e) h) (star_swap h)
theorem stars_at {l : List MP} {i : Nat} {B H : Hp} {P : MP} (e : l[i]? = some P) (h : (Stars l).p B H) : P.p B H := star_l (stars_pull l i e h)
/-- the base (what never changes), and what stands apart from it -/
def At (B : Hp) (l : List MP) (H : Hp) : Prop := ∃ S : Addr → Bool, Ex B (cutIn S H) ∧ (Stars l).p B (cutIn (fun a => !S a) H)
section
variable {K : PySem.W.Frag} {B H H1 : Hp} {l l' : List MP} {P Q : MP} {i : Nat} {a p : Addr} {o u : HO}
theorem at_map (f : ∀ H, (Stars l).p B H → (Stars l').p B H) (h : At B l H) : At B l' H := by
  obtain ⟨S, h1, h2⟩ := h
  exact ⟨S, h1, f _ h2⟩
theorem at_base (h : At B l H) : Ex B H := by
  obtain ⟨S, h1, h2⟩ := h
  exact h1.trans cutIn_sub
theorem at_ex (h : At B l H) (e : Ex H H1) : At B l H1 := by
  obtain ⟨S, h1, h2⟩ := h
  exact ⟨S, h1.trans (cutIn_ex e), (Stars l).m _ _ _ _ (Ex.refl B) (cutIn_ex e) h2⟩
theorem at_p (i : Nat) (e : l[i]? = some P) (h : At B l H) : P.p B H := by
  obtain ⟨S, h1, h2⟩ := h
  exact P.m _ _ _ _ (Ex.refl B) cutIn_sub (stars_at e h2)
theorem at_get (i : Nat) (e : l[i]? = some (Pt a o)) (h : At B l H) : H a = some o := at_p i e h
theorem at_start : At H [] H := ⟨fun _ => true, by
  rw [cut_all]
  exact Ex.refl H, trivial⟩
theorem at_drop (h : At B (P :: l) H) : At B l H := at_map (l := P :: l) (fun _ h => star_r h) h
theorem at_pull (i : Nat) (e : l[i]? = some P) (h : At B l H) : At B (P :: l.eraseIdx i) H := at_map (fun _ h => stars_pull l i e h) h
theorem at_put (i : Nat) (e : l[i]? = some P) (h : At B (Q :: l.eraseIdx i) H) : At B (l.set i Q) H := at_map (fun _ h => stars_put l i e h) h
theorem at_swap {R : MP} (h : At B (P :: R :: l) H) : At B (R :: P :: l) H := at_map (l := P :: R :: l) (l' := R :: P :: l) (fun _ h => star_swap h) h
theorem at_stars {k : List MP} (h : At B (Stars k :: l) H) : At B (k ++ l) H := at_map (l := Stars k :: l) (fun _ h => stars_app h) h
theorem at_stars' (k : List MP) (h : At B (k ++ l) H) : At B (Stars k :: l) H := at_map (l' := Stars k :: l) (fun _ h => stars_app' h) h
theorem at_exm {α : Type} {f : α → MP} (h : At B (ExM f :: l) H) : ∃ x, At B (f x :: l) H := by
  obtain ⟨S, h1, T, ⟨x, h2⟩, h3⟩ := h
  exact ⟨x, S, h1, T, h2, h3⟩
theorem at_exm' {α : Type} {f : α → MP} (x : α) (h : At B (f x :: l) H) : At B (ExM f :: l) H := by
  obtain ⟨S, h1, T, h2, h3⟩ := h
  exact ⟨S, h1, T, ⟨x, h2⟩, h3⟩
theorem at_and {φ : Prop} (h : At B (AndM φ P :: l) H) : φ ∧ At B (P :: l) H := by
  obtain ⟨S, h1, T, ⟨x, h2⟩, h3⟩ := h
  exact ⟨x, S, h1, T, h2, h3⟩
theorem at_and' {φ : Prop} (x : φ) (h : At B (P :: l) H) : At B (AndM φ P :: l) H := by
  obtain ⟨S, h1, T, h2, h3⟩ := h
  exact ⟨S, h1, T, ⟨x, h2⟩, h3⟩
theorem at_dpm {vs : List V} {ds : List PyData} (h : At B (DpM K vs ds P :: l) H) : DpAll K B vs ds ∧ At B (P :: l) H := by
  obtain ⟨S, h1, T, ⟨x, h2⟩, h3⟩ := h
  exact ⟨x, S, h1, T, h2, h3⟩
theorem at_dpm' {vs : List V} {ds : List PyData} (x : DpAll K B vs ds) (h : At B (P :: l) H) : At B (DpM K vs ds P :: l) H := by
  obtain ⟨S, h1, T, h2, h3⟩ := h
  exact ⟨S, h1, T, ⟨x, h2⟩, h3⟩
theorem upd_cut {S : Addr → Bool} (hS : S a = false) : cutIn S (upd H a o) = cutIn S H := by
  funext b
  by_cases q : b = a
  · rw [q, cutIn_no hS, cutIn_no hS]
  · unfold cutIn
    rw [upd_ne q]
/-- what stands at one of the places is written -/
theorem star_upd (h : (Star (Pt a o) P).p B H) : (Star (Pt a u) P).p B (upd H a u) := by
  obtain ⟨S, h1, h2⟩ := h
  have hs := (cutIn_at (show cutIn S H a = some o from h1)).1
  refine ⟨S, ?_, ?_⟩
  · show cutIn S (upd H a u) a = some u
    rw [cutIn_yes hs, upd_same]
  · rw [upd_cut (S := fun b => !S b) (by rw [hs]; rfl)]
    exact h2
theorem cut_upd {S : Addr → Bool} (hS : S a = true) : cutIn S (upd H a o) = upd (cutIn S H) a o := by
  funext b
  by_cases q : b = a
  · rw [q, cutIn_yes hS, upd_same, upd_same]
  · rw [upd_ne q]
    unfold cutIn
    rw [upd_ne q]
theorem at_upd (i : Nat) (e : l[i]? = some (Pt a o)) (h : At B l H) : At B (l.set i (Pt a u)) (upd H a u) := by
  obtain ⟨S, h1, h2⟩ := h
  have hs : (!S a) = true := (cutIn_at (show cutIn (fun a => !S a) H a = some o from stars_at e h2)).1
  have hs' : S a = false := by
    cases q : S a
    · rfl
    · rw [q] at hs; cases hs
  refine ⟨S, by rw [upd_cut hs']; exact h1, ?_⟩
  rw [cut_upd hs]
  exact stars_put l i e (star_upd (stars_pull l i e h2))
/-- something new -/
theorem star_new (h : P.p B H) (np : H p = none) (e : Ex H H1) (hp : H1 p = some o) : (Star (Pt p o) P).p B H1 := by
  refine ⟨fun a => decide (a = p), ?_, P.m _ _ _ _ (Ex.refl B) (fun a u h => ?_) h⟩
  · show cutIn (fun a => decide (a = p)) H1 p = some o
    rw [cutIn_yes (decide_eq_true rfl)]
    exact hp
  · have ne : a ≠ p := ne_of_none h np
    rw [cutIn_yes (by show (!decide (a = p)) = true; rw [decide_eq_false ne]; rfl)]
    exact e a u h
theorem at_new (h : At B l H) (np : H p = none) (e : Ex H H1) (hp : H1 p = some o) : At B (Pt p o :: l) H1 := by
  obtain ⟨S, h1, h2⟩ := h
  refine ⟨fun a => S a && !decide (a = p), fun a u ha => ?_, ?_⟩
  · obtain ⟨q, hh⟩ := cutIn_at (h1 a u ha)
    rw [cutIn_yes (by show (S a && !decide (a = p)) = true; rw [q, decide_eq_false (ne_of_none hh np)]; rfl)]
    exact e a u hh
  · refine star_new (P := Stars l) (H := cutIn (fun a => !S a) H) h2 ?_ (fun a u ha => ?_) ?_
    · unfold cutIn
      split
      · exact np
      · rfl
    · obtain ⟨q, hh⟩ := cutIn_at ha
      rw [cutIn_yes (by
        show (!(S a && !decide (a = p))) = true
        cases hs : S a
        · rfl
        · rw [hs] at q; cases q)]
      exact e a u hh
    · rw [cutIn_yes (by show (!(S p && !decide (p = p))) = true; rw [decide_eq_true rfl]; simp)]
      exact hp
/-- a new thing that belongs to the base from now on: all that is new does -/
theorem at_grow (h : At B l H) (e : Ex H H1) : At (ov B H H1) l H1 := by
  obtain ⟨S, h1, h2⟩ := h
  refine ⟨fun a => S a || (H a).isNone, ?_, (Stars l).m _ _ _ _ ov_base (fun a o ha => ?_) h2⟩
  · intro a o ha
    unfold ov at ha
    cases hb : B a with
    | some o' =>
      rw [hb] at ha
      have hc := h1 a o' hb
      obtain ⟨q, hh⟩ := cutIn_at hc
      rw [cutIn_yes (by show (S a || (H a).isNone) = true; rw [q]; rfl), ← ha]
      exact e a o' hh
    | none =>
      rw [hb] at ha
      cases h0 : H a with
      | some o' => rw [h0] at ha; cases ha
      | none =>
        rw [h0] at ha
        rw [cutIn_yes (by show (S a || (H a).isNone) = true; rw [h0]; simp)]
        exact ha
  · obtain ⟨q, hh⟩ := cutIn_at ha
    rw [cutIn_yes (by
      show (!(S a || (H a).isNone)) = true
      rw [hh]
      cases hs : S a
      · rfl
      · rw [hs] at q; cases q)]
    exact e a o hh
end
theorem stars_perm {l l' : List MP} (h : l.Perm l') : ∀ {B H : Hp}, (Stars l).p B H → (Stars l').p B H := by
  induction h with
  | nil => exact fun h => h
  | cons x _ ih => exact fun h => star_mono (P := x) (fun _ h => h) (fun _ h => ih h) h
  | swap x y l => exact fun h => star_swap h
  | trans _ _ ih1 ih2 => exact fun h => ih2 (ih1 h)
theorem at_perm {B H : Hp} {l l' : List MP} (p : l.Perm l') (h : At B l H) : At B l' H := at_map (fun _ h => stars_perm p h) h
theorem range_get {α : Type} (d : α) : ∀ l : List α, (List.range l.length).map (fun i => l.getD i d) = l := fun l => by
  refine List.ext_getElem (by simp) fun i h1 h2 => ?_
  simp [List.getD_eq_getElem?_getD, List.getElem?_eq_getElem h2]
theorem at_ix {B H : Hp} {l : List MP} (n : Nat) (is : List Nat) (h : At B l H) (hp : is.isPerm (List.range n) = true := by decide) (hn : n ≤ l.length := by simp) : At B (is.map (fun i => l.getD i Emp) ++ l.drop n) H := by
  refine at_perm ?_ h
  have p := List.isPerm_iff.mp hp
  have e : (List.range n).map (fun i => l.getD i Emp) = l.take n := by
    have e1 := range_get Emp (l.take n)
    rw [List.length_take, Nat.min_eq_left hn] at e1
    refine Eq.trans (List.map_congr_left fun i hi => ?_) e1
    have hi := List.mem_range.mp hi
    rw [List.getD_eq_getElem?_getD, List.getD_eq_getElem?_getD, List.getElem?_take_of_lt hi]
  have q := (p.map (fun i => l.getD i Emp)).append_right (l.drop n)
  rw [e, List.take_append_drop] at q
  exact q.symm
end Ap
set_option Elab.async false
set_option linter.all false
set_option maxRecDepth 100000
namespace Ap
open PySem PySem.Spec PyProof.Rows L2 Evl
structure Rr where
  r : V → Hp → Prop
  m : ∀ {v : V} {B B' : Hp}, Ex B B' → r v B → r v B'
def rV (x : V) : Rr := ⟨fun v _ => v = x, fun _ h => h⟩
def rD (K : PySem.W.Frag) (d : PyData) : Rr := ⟨fun v B => Dp K B v d, fun e h => dp_mono e _ _ h⟩
def rN (φ : Int → Prop) : Rr := ⟨fun v _ => ∃ i, v = .int i ∧ φ i, fun _ h => h⟩
def Wv (te : TE) (σ : L2.St) (B : Hp) (l : List MP) (R : Rr) : Prop := ∀ B1 H, Ex B B1 → At B1 l H → ∀ Q : VK, (∀ v B2 H2, Ex B1 B2 → At B2 l H2 → R.r v B2 → Q v H2) → te σ H Q
section
variable {K : PySem.W.Frag} {σ : L2.St} {B B' H H' : Hp} {l l' : List MP} {ta tb te : TE} {t : TT} {x y v : V} {d : PyData} {ds : List PyData} {R R' : Rr} {P : MP} {i j : Nat} {a p : Addr} {o u : HO}
theorem Wv.to (hr : ∀ v B, R.r v B → R'.r v B) (h : Wv te σ B l R) : Wv te σ B l R' := fun B1 H1 e1 hA Q q => h B1 H1 e1 hA Q fun v B2 H2 e2 hA2 hv => q v B2 H2 e2 hA2 (hr v B2 hv)
/-- what is known without the base growing -/
theorem wv_of (h : ∀ B1 H, Ex B B1 → At B1 l H → Ev te σ H x) : Wv te σ B l (rV x) := fun B1 H1 e1 hA Q q => h B1 H1 e1 hA H1 (Ex.refl H1) Q fun H2 e2 => q x B1 H2 (Ex.refl B1) (at_ex hA e2) rfl
theorem wv_dp (h : Wv te σ B l (rV x)) (hd : Dp K B x d) : Wv te σ B l (rD K d) := fun B1 H1 e1 hA Q q => h B1 H1 e1 hA Q fun v B2 H2 e2 hA2 hv => q v B2 H2 e2 hA2 (by
  have hv : v = x := hv
  rw [hv]
  exact dp_mono (e1.trans e2) _ _ hd)
theorem wv_var (h : σ[i]? = some (some v)) (hd : Dp K B v d) : Wv (tVar i) σ B l (rD K d) := wv_dp (wv_of fun _ _ _ _ => ev_var h) hd
/-- data over the whole heap of now, told over the base -/
theorem wv_ed (h : ∀ B1, Ex B B1 → EvD K te σ B1 d) : Wv te σ B l (rD K d) := fun B1 H1 e1 hA Q q => h B1 e1 H1 (at_base hA) Q fun v H2 e2 hv => q v (ov B1 H1 H2) H2 ov_base (at_grow hA e2) hv
theorem at_tup {vs : List V} (hA : At B l H) (hp : H p = none) : Ex B (ov B H (upd H p (.tup vs))) ∧ At (ov B H (upd H p (.tup vs))) l (upd H p (.tup vs)) ∧ ov B H (upd H p (.tup vs)) p = some (.tup vs) :=
  ⟨ov_base, at_grow hA (Ex.new hp), ov_new (at_base hA) (Ex.refl H) hp⟩
variable {D : Ends} {tz tu tw : TS}
theorem qe_asg (hA : At B l H) (h : Ev te σ H x) (k : ∀ H1, At B l H1 → tz D (σ.set i (some x)) H1) : tSeq (tAsg te (gName i)) tz D σ H := q_asg h fun H1 e => k H1 (at_ex hA e)
theorem se_asg (hA : At B l H) (h : Ev te σ H x) (k : ∀ H1, At B l H1 → D.nx (σ.set i (some x)) H1) : tAsg te (gName i) D σ H := s_asg h fun H1 e => k H1 (at_ex hA e)
theorem qw_asg (hA : At B l H) (h : Wv te σ B l R) (k : ∀ v B1 H1, Ex B B1 → At B1 l H1 → R.r v B1 → tz D (σ.set i (some v)) H1) : tSeq (tAsg te (gName i)) tz D σ H := h B H (Ex.refl B) hA _ fun v B1 H1 e1 hA1 hv => k v B1 H1 e1 hA1 hv
theorem sw_asg (hA : At B l H) (h : Wv te σ B l R) (k : ∀ v B1 H1, Ex B B1 → At B1 l H1 → R.r v B1 → D.nx (σ.set i (some v)) H1) : tAsg te (gName i) D σ H := h B H (Ex.refl B) hA _ fun v B1 H1 e1 hA1 hv => k v B1 H1 e1 hA1 hv
theorem qe_lst {xs : List V} (hA : At B l H) (h : EvL te σ H xs) (k : ∀ p H1, At B (Pt p (.lst xs) :: l) H1 → tz D (σ.set i (some (.ref p))) H1) : tSeq (tAsg te (gName i)) tz D σ H := q_asgL h fun p H1 np e hp => k p H1 (at_new hA np e hp)
theorem sw_ret (hA : At B l H) (h : Wv te σ B l R) (k : ∀ v B1 H1, Ex B B1 → At B1 l H1 → R.r v B1 → D.rt v H1) : tRet te D σ H := h B H (Ex.refl B) hA _ fun v B1 H1 e1 hA1 hv => k v B1 H1 e1 hA1 hv
theorem se_ret (hA : At B l H) (h : Ev te σ H x) (k : ∀ H1, At B l H1 → D.rt x H1) : tRet te D σ H := s_ret h fun H1 e => k H1 (at_ex hA e)
theorem qe_when {b : Bool} (hA : At B l H) (h : EvT t σ H b) (h1 : b = true → ∀ H1, At B l H1 → tu { D with nx := tz D } σ H1) (h2 : b = false → ∀ H1, At B l H1 → tz D σ H1) : tSeq (tIfS t tu tNext) tz D σ H := q_when h (fun hb H1 e => h1 hb H1 (at_ex hA e)) (fun hb H1 e => h2 hb H1 (at_ex hA e))
theorem se_when {b : Bool} (hA : At B l H) (h : EvT t σ H b) (h1 : b = true → ∀ H1, At B l H1 → tu D σ H1) (h2 : b = false → ∀ H1, At B l H1 → D.nx σ H1) : tIfS t tu tNext D σ H := s_when h (fun hb H1 e => h1 hb H1 (at_ex hA e)) (fun hb H1 e => h2 hb H1 (at_ex hA e))
theorem ev_fld {C dx : Addr} {fs : List (Str × V)} {f : Str} (h : Ev ta σ H (.ref a)) (ha : H a = some (.ins C dx fs)) (c : Cls K C) (n : NoAttr K C f) (hl : fs.lookup f = some v) : Ev (tFld K ta f) σ H v := fun H1 e Q q => h H1 e _ fun H2 e2 => ⟨a, C, dx, fs, v, rfl, (e.trans e2) _ _ ha, c, n, hl, q H2 e2⟩
theorem ev_dni {ty td : TE} {kvs : List (Key × V)} {k : Key} (hk : Ev ty σ H (kV k)) (hd : Ev td σ H (.ref a)) (h : H a = some (.dK kvs)) : Ev (tDNotIn ty td) σ H (.bl (!(valV kvs k).isSome)) := fun H1 e Q q => hk H1 e _ fun H2 e2 => hd H2 (e.trans e2) _ fun H3 e3 => ⟨a, valV kvs k, rfl, .inl ⟨kvs, k, .inl (((e.trans e2).trans e3) _ _ h), rfl, rfl⟩, q H3 (e2.trans e3)⟩
theorem qe_fld {C dx : Addr} {fs : List (Str × V)} {f : Str} (k : Nat) (hk : l[k]? = some (Pt a (.ins C dx fs))) (hA : At B l H) (hv : Ev tb σ H y) (ho : ∀ H1, Ev ta σ H1 (.ref a)) (c : Cls K C) (n : NoAttr K C f) (hl : fs.length < 1000) (g : ∀ H1, At B (l.set k (Pt a (.ins C dx (putF f y fs)))) H1 → tz D σ H1) : tSeq (sFld K ta tb f) tz D σ H :=
  hv H (Ex.refl H) _ fun H1 e1 => ho H1 H1 (Ex.refl H1) _ fun H2 e2 => ⟨a, C, dx, fs, rfl, at_get k hk (at_ex hA (e1.trans e2)), c, n, hl, g _ (at_upd k hk (at_ex hA (e1.trans e2)))⟩
/-- o.f = {} -/
theorem qe_fldD {C dx : Addr} {fs : List (Str × V)} {f : Str} (k : Nat) (hk : l[k]? = some (Pt a (.ins C dx fs))) (hA : At B l H) (ho : ∀ H1, Ev ta σ H1 (.ref a)) (c : Cls K C) (n : NoAttr K C f) (hl : fs.length < 1000) (g : ∀ p H1, At B (Pt p (.dK []) :: l.set k (Pt a (.ins C dx (putF f (.ref p) fs)))) H1 → tz D σ H1) : tSeq (sFld K ta tDNewK f) tz D σ H := fun p hp =>
  have hA1 := at_new hA hp (Ex.new hp) upd_same
  ho _ _ (Ex.refl _) _ fun H2 e2 => ⟨a, C, dx, fs, rfl, at_get (k + 1) (by simpa using hk) (at_ex hA1 e2), c, n, hl, g p _ (by
    have h := at_upd (u := .ins C dx (putF f (.ref p) fs)) (k + 1) (by simpa using hk) (at_ex hA1 e2)
    simpa using h)⟩
theorem se_fldD {C dx : Addr} {fs : List (Str × V)} {f : Str} (k : Nat) (hk : l[k]? = some (Pt a (.ins C dx fs))) (hA : At B l H) (ho : ∀ H1, Ev ta σ H1 (.ref a)) (c : Cls K C) (n : NoAttr K C f) (hl : fs.length < 1000) (g : ∀ p H1, At B (Pt p (.dK []) :: l.set k (Pt a (.ins C dx (putF f (.ref p) fs)))) H1 → D.nx σ H1) : sFld K ta tDNewK f D σ H :=
  qe_fldD (tz := fun D => D.nx) k hk hA ho c n hl g
/-- C(..) -/
theorem make_at {C : Addr} {sp : Sp} {E : XK} {ta : TA} {vs : List V} {Q : VK} (hA : At B l H) (h : EvA ta σ H vs) (k : ∀ x dx H1, At B (Pt x (.ins C dx []) :: l) H1 → sp (.ref x :: (vs ++ [])) H1 (fun v H2 => v = .non ∧ Q (.ref x) H2) E) : tMake C sp [] E ta σ H Q := h H (Ex.refl H) _ fun H1 e1 x dx nx ndx ne => by
  have h1 := at_new (at_ex hA e1) ndx (Ex.new ndx) (upd_same (o := .own x))
  have nx' : upd H1 dx (.own x) x = none := by rw [upd_ne (Ne.symm ne)]; exact nx
  have h2 := at_new h1 nx' (Ex.new nx') (upd_same (o := .ins C dx []))
  exact k x dx _ (at_drop (at_swap h2))
end
mutual
theorem dp_dx {K : PySem.W.Frag} {H : Hp} : ∀ (d : PyData) (v : V), Dp K H v d → Dx K H v d
  | .none, _, h => by cases h; exact .non
  | .bool b, _, h => by cases h; exact .bl b
  | .int i, _, h => by cases h; exact .int i
  | .str x, _, h => by cases h; exact .str x
  | .list ds, _, h => by
    cases h with
    | lst hs ha => exact .lst hs (dpa_dxa ds _ ha)
  | .tuple ds, _, h => by
    cases h with
    | tup hs ha => exact .tup hs (dpa_dxa ds _ ha)
  | .dict _, _, h => by cases h
theorem dpa_dxa {K : PySem.W.Frag} {H : Hp} : ∀ (ds : List PyData) (vs : List V), DpAll K H vs ds → DxAll K H vs ds
  | [], _, h => by cases h; exact .nil
  | d :: ds, _, h => by
    cases h with
    | cons h1 h2 => exact .cons (dp_dx d _ h1) (dpa_dxa ds _ h2)
end
def isLst : PyData → Bool
  | .list _ => true
  | _ => false
theorem kit_lst : ∀ d : PyData, kitB (tyN d) "list" = some (isLst d)
  | .none => (by decide +kernel : kitB "NoneType" "list" = some false)
  | .bool _ => (by decide +kernel : kitB "bool" "list" = some false)
  | .int _ => (by decide +kernel : kitB "int" "list" = some false)
  | .str _ => (by decide +kernel : kitB "str" "list" = some false)
  | .list _ => (by decide +kernel : kitB "list" "list" = some true)
  | .tuple _ => (by decide +kernel : kitB "tuple" "list" = some false)
  | .dict _ => (by decide +kernel : kitB "dict" "list" = some false)
section
variable {K : PySem.W.Frag} {σ : L2.St} {H : Hp} {te ta tb : TE} {d : PyData} {ds : List PyData} {T T1 T2 : String} {b b1 b2 : Bool}
theorem ev_lenX2 (h : d = .list ds ∨ d = .tuple ds) (ha : EvX K ta σ H d) : Ev (tCB (fun xs H Q => ∃ p ys, xs = [.ref p] ∧ (SqL K H p ys ∨ SqT K H p ys) ∧ Q (.int ys.length) H) (tCons ta tNil)) σ H (.int (ds.length : Int)) := by
  rcases h with rfl | rfl
  · exact ev_lenX ha
  · exact ev_lenXT ha
theorem ex_ix2 {i : Int} {e : PyData} (h : d = .list ds ∨ d = .tuple ds) (ha : EvX K ta σ H d) (hb : Ev tb σ H (.int i)) (hi : atI ds i = some e) : EvX K (tOp (rIx K) ta tb) σ H e := fun H1 e1 Q q =>
  ha H1 e1 _ fun v H2 e2 hv => hb H2 (e1.trans e2) _ fun H3 e3 => by
    rcases h with rfl | rfl
    · cases hv with
      | lst hs hd =>
        obtain ⟨j, hj, hx⟩ := atI_len (dxa_len hd) hi
        obtain ⟨x, ex, dx⟩ := dxa_at hd hj
        exact .inl ⟨_, _, i, x, rfl, rfl, Evl.ex_l ((ov_ex e1 e2).trans e3) hs, hx x ex, q x H3 (e2.trans e3) (dx_mono (ov_grow e3) _ x dx)⟩
    · cases hv with
      | tup hs hd =>
        obtain ⟨j, hj, hx⟩ := atI_len (dxa_len hd) hi
        obtain ⟨x, ex, dx⟩ := dxa_at hd hj
        exact .inr (.inl ⟨_, _, i, x, rfl, rfl, ex_t ((ov_ex e1 e2).trans e3) hs, hx x ex, q x H3 (e2.trans e3) (dx_mono (ov_grow e3) _ x dx)⟩)
/-- a call on data: its arguments known as data alone -/
theorem ev_callD {sp : Sp} {E : XK} {ta : TA} {x : V} (h : EvXs K ta σ H ds) (hs : ∀ vs H1, Ex H H1 → DxAll K H1 vs ds → ∀ Q : VK, (∀ H2, Ex H1 H2 → Q x H2) → sp (vs ++ []) H1 Q E) : Ev (tCall sp [] E ta) σ H x := fun H1 e Q q => h H1 e _ fun vs H2 e2 hv => hs vs H2 (e.trans e2) (dxa_mono (ov_ex e e2) _ _ hv) Q fun H3 e3 => q H3 (e2.trans e3)
end
/-- bounded, and no dict within -/
inductive Okn : Nat → PyData → Prop
  | non {n : Nat} : Okn n .none
  | bl {n : Nat} (b : Bool) : Okn n (.bool b)
  | int {n : Nat} (i : Int) : Okn n (.int i)
  | str {n : Nat} (x : Str) : Okn n (.str x)
  | lst {n : Nat} {ds : List PyData} (h : ds.length ≤ 50000) (hs : ∀ d, d ∈ ds → Okn n d) : Okn (n + 1) (.list ds)
  | tup {n : Nat} {ds : List PyData} (h : ds.length ≤ 50000) (hs : ∀ d, d ∈ ds → Okn n d) : Okn (n + 1) (.tuple ds)
theorem Okn.mono {n m : Nat} {d : PyData} (h : Okn n d) : n ≤ m → Okn m d := by
  induction h generalizing m with
  | non => exact fun _ => .non
  | bl b => exact fun _ => .bl b
  | int i => exact fun _ => .int i
  | str x => exact fun _ => .str x
  | lst h hs ih =>
    intro hl
    obtain ⟨k, rfl⟩ : ∃ k, m = k + 1 := ⟨m - 1, by omega⟩
    exact .lst h fun d hd => ih d hd (by omega)
  | tup h hs ih =>
    intro hl
    obtain ⟨k, rfl⟩ : ∃ k, m = k + 1 := ⟨m - 1, by omega⟩
    exact .tup h fun d hd => ih d hd (by omega)
theorem rv_eqT {H : Hp} {x : V} (h : scal x x = true) : RV rEq x x H (.bl true) := by
  have := rv_eq (H := H) h
  rwa [decide_eq_true rfl] at this
section
variable {K : PySem.W.Frag} {σ : L2.St} {B H : Hp} {l : List MP} {ta td ty tv : TE} {x y v : V} {R : Rr} {a : Addr} {D : Ends} {tz : TS}
/-- o.f += e -/
theorem qe_faug {C dx : Addr} {fs : List (Str × V)} {f : Str} {i j : Int} (k : Nat) (hk : l[k]? = some (Pt a (.ins C dx fs))) (hA : At B l H) (ho : Ev ta σ H (.ref a)) (hv : ∀ H1, Ev tv σ H1 (.int j)) (c : Cls K C) (n : NoAttr K C f) (hf : fs.lookup f = some (.int i)) (hl : fs.length < 1000)
    (g : ∀ H1, At B (l.set k (Pt a (.ins C dx (putF f (.int (i + j)) fs)))) H1 → tz D σ H1) : tSeq (sFldAug K ta tv rAdd f) tz D σ H :=
  ho H (Ex.refl H) _ fun H1 e1 => ⟨a, C, dx, fs, .int i, rfl, at_get k hk (at_ex hA e1), c, n, hf, hv H1 H1 (Ex.refl H1) _ fun H2 e2 => ⟨i, j, rfl, rfl, dx, fs, at_get k hk (at_ex hA (e1.trans e2)), hl, g _ (at_upd k hk (at_ex hA (e1.trans e2)))⟩⟩
end
theorem List.set_getElem?_self' {α : Type} : ∀ {l : List α} {i : Nat} {x : α}, l[i]? = some x → l.set i x = l
  | [], _, _, _ => rfl
  | y :: r, 0, x, h => by
    have e : y = x := by simpa using h
    rw [e, List.set_cons_zero]
  | y :: r, i + 1, x, h => by rw [List.set_cons_succ, List.set_getElem?_self' (by simpa using h)]
/-- what an expression does, its value set to a name | dropped | tested -/
theorem q_do {σ : L2.St} {H : Hp} {D : Ends} {tz : TS} {te : TE} {i : Nat} (h : te σ H (fun v H' => tz D (σ.set i (some v)) H')) : tSeq (tAsg te (gName i)) tz D σ H := h
section
variable {K : PySem.W.Frag} {σ : L2.St} {H : Hp} {te ta tb : TE} {tr : TA} {v : V} {D : Ends} {tz : TS} {E : XK} {sp : Sp} {r : R2}
theorem go_cons {Q : List V → Hp → Prop} (h : Ev te σ H v) (k : ∀ H1, Ex H H1 → tr σ H1 fun xs H2 => Q (v :: xs) H2) : tCons te tr σ H Q := h H (Ex.refl H) _ k
theorem go_cons' {Q : List V → Hp → Prop} (h : te σ H fun v H1 => tr σ H1 fun xs H2 => Q (v :: xs) H2) : tCons te tr σ H Q := h
theorem go_nil {Q : List V → Hp → Prop} (h : Q [] H) : tNil σ H Q := h
theorem go_lst {Q : VK} (h : tr σ H fun xs H1 => xs.length ≤ sizeLine ∧ ∀ p, H1 p = none → Q (.ref p) (upd H1 p (.lst xs))) : tLst tr σ H Q := h
theorem go_tup {Q : VK} (h : tr σ H fun xs H1 => xs.length ≤ sizeLine ∧ ∀ p, H1 p = none → Q (.ref p) (upd H1 p (.tup xs))) : tTup tr σ H Q := h
theorem go_call {Q : VK} (h : tr σ H fun vs H1 => sp (vs ++ []) H1 Q E) : tCall sp [] E tr σ H Q := h
theorem go_op {Q : VK} (h : ta σ H fun x H1 => tb σ H1 fun y H2 => r x y H2 Q) : tOp r ta tb σ H Q := h
theorem go_ev {Q : VK} (h : Ev te σ H v) (k : ∀ H1, Ex H H1 → Q v H1) : te σ H Q := h H (Ex.refl H) Q k
theorem q_drop0 (h : te σ H fun _ H1 => tz D σ H1) : tSeq (tDrop te) tz D σ H := h
theorem s_drop0 (h : te σ H fun _ H1 => D.nx σ H1) : tDrop te D σ H := h
end
end Ap
set_option Elab.async false
set_option linter.all false
set_option maxRecDepth 100000
namespace Ap
open PySem PySem.Spec PyProof.Rows L2 Evl PySem.W
/-- a list whose items stand for these data -/
def LstM (K : PySem.W.Frag) (a : Addr) (ds : List PyData) : MP := ExM fun xs : List V => DpM K xs ds (Pt a (.lst xs))
abbrev DI := List (Int × PyData)
def kvD (l : DI) (vs : List V) : List (Key × V) := (l.zip vs).map fun p => (Sum.inl p.1.1, p.2)
/-- a dict from integers to data -/
def DctM (K : PySem.W.Frag) (a : Addr) (l : DI) : MP := ExM fun vs : List V => DpM K vs (l.map (·.2)) (Pt a (.dK (kvD l vs)))
def look (l : DI) (k : Int) : Option PyData := (l.find? fun p => decide (p.1 = k)).map (·.2)
def putL (l : DI) (k : Int) (d : PyData) : DI := if (l.any fun p => decide (p.1 = k)) = true then l.map (fun p => if p.1 = k then (p.1, d) else p) else l ++ [(k, d)]
def dropL (l : DI) (k : Int) : DI := l.filter fun p => decide (p.1 ≠ k)
section
variable {K : PySem.W.Frag} {B H : Hp}
theorem look_cons (p : Int × PyData) (r : DI) (k : Int) : look (p :: r) k = if p.1 = k then some p.2 else look r k := by
  unfold look
  rw [List.find?_cons]
  by_cases h : p.1 = k
  · rw [decide_eq_true h, if_pos h]
    rfl
  · rw [decide_eq_false h, if_neg h]
theorem kvD_cons (p : Int × PyData) (r : DI) (v : V) (vs : List V) : kvD (p :: r) (v :: vs) = (Sum.inl p.1, v) :: kvD r vs := rfl
/-- looking up: in the dict and in what it stands for -/
theorem kv_look : ∀ {l : DI} {vs : List V} (k : Int), DpAll K B vs (l.map (·.2)) → (look l k = none ∧ valV (kvD l vs) (Sum.inl k) = none) ∨ ∃ v d, look l k = some d ∧ valV (kvD l vs) (Sum.inl k) = some v ∧ Dp K B v d
  | [], [], k, _ => .inl ⟨rfl, rfl⟩
  | p :: r, v :: vs, k, h => by
    cases h with
    | cons h1 h2 =>
      rw [look_cons, kvD_cons]
      by_cases e : p.1 = k
      · rw [if_pos e]
        exact .inr ⟨v, p.2, rfl, by rw [valV_pos (p := ((Sum.inl p.1 : Key), v)) (by show (Sum.inl p.1 : Key) = Sum.inl k; rw [e])], h1⟩
      · rw [if_neg e, valV_neg (p := ((Sum.inl p.1 : Key), v)) (fun h => e (Sum.inl.inj h))]
        exact kv_look k h2
theorem kv_any : ∀ {l : DI} {vs : List V} (k : Int), DpAll K B vs (l.map (·.2)) → ((kvD l vs).any fun kv => decide (kv.1 = Sum.inl k)) = l.any fun p => decide (p.1 = k)
  | [], [], _, _ => rfl
  | p :: r, v :: vs, k, h => by
    cases h with
    | cons h1 h2 =>
      rw [kvD_cons, List.any_cons, List.any_cons, kv_any k h2]
      congr 1
      by_cases e : p.1 = k
      · rw [decide_eq_true e, decide_eq_true (by show (Sum.inl p.1 : Key) = _; rw [e])]
      · rw [decide_eq_false e, decide_eq_false (fun h => e (Sum.inl.inj h))]
theorem kv_len {l : DI} {vs : List V} (h : DpAll K B vs (l.map (·.2))) : (kvD l vs).length = l.length := by
  have := dpa_len h
  rw [List.length_map] at this
  unfold kvD
  rw [List.length_map, List.length_zip, this, Nat.min_self]
theorem kv_keys : ∀ {l : DI} {vs : List V}, DpAll K B vs (l.map (·.2)) → (kvD l vs).map (·.1) = (l.map (·.1)).map Sum.inl
  | [], [], _ => rfl
  | p :: r, v :: vs, h => by
    cases h with
    | cons h1 h2 =>
      rw [kvD_cons, List.map_cons, List.map_cons, List.map_cons, kv_keys h2]
/-- one more, or one in its place -/
theorem kv_put {l : DI} {vs : List V} {k : Int} {v : V} {d : PyData} (h : DpAll K B vs (l.map (·.2))) (hv : Dp K B v d) : ∃ vs', putK (kvD l vs) (Sum.inl k) v = kvD (putL l k d) vs' ∧ DpAll K B vs' ((putL l k d).map (·.2)) := by
  unfold putK putL
  rw [kv_any k h]
  by_cases e : (l.any fun p => decide (p.1 = k)) = true
  · rw [if_pos e, if_pos e]
    clear e
    induction l generalizing vs with
    | nil => cases h; exact ⟨[], rfl, .nil⟩
    | cons p r ih =>
      cases h with
      | @cons w ws _ _ h1 h2 =>
        obtain ⟨vs', a, b⟩ := ih h2
        rw [kvD_cons, List.map_cons, List.map_cons, a]
        by_cases q : p.1 = k
        · rw [if_pos q, if_pos (by show (Sum.inl p.1 : Key) = _; rw [q])]
          exact ⟨v :: vs', rfl, .cons hv b⟩
        · rw [if_neg q, if_neg (fun h => q (Sum.inl.inj h))]
          exact ⟨w :: vs', rfl, .cons h1 b⟩
  · rw [if_neg e, if_neg e]
    refine ⟨vs ++ [v], ?_, ?_⟩
    · have hl := dpa_len h
      rw [List.length_map] at hl
      unfold kvD
      rw [List.zip_append hl.symm, List.map_append]
      rfl
    · rw [List.map_append]
      exact dpa_app h (dpa_one hv)
theorem kv_drop {l : DI} {vs : List V} {k : Int} (h : DpAll K B vs (l.map (·.2))) : ∃ vs', dropK (kvD l vs) (Sum.inl k) = kvD (dropL l k) vs' ∧ DpAll K B vs' ((dropL l k).map (·.2)) := by
  unfold dropK dropL
  induction l generalizing vs with
  | nil => cases h; exact ⟨[], rfl, .nil⟩
  | cons p r ih =>
    cases h with
    | @cons w ws _ _ h1 h2 =>
      obtain ⟨vs', a, b⟩ := ih h2
      rw [kvD_cons, List.filter_cons, List.filter_cons, a]
      by_cases q : p.1 = k
      · rw [if_neg (by simp [q]), if_neg (by simp [q])]
        exact ⟨vs', rfl, b⟩
      · rw [if_pos (by simp [q]), if_pos (by simp [q])]
        exact ⟨w :: vs', rfl, .cons h1 b⟩
end
end Ap
set_option Elab.async false
set_option linter.all false
set_option maxRecDepth 100000
namespace Ap
open PySem PySem.Spec PyProof.Rows L2 Evl PySem.W
section
variable {K : PySem.W.Frag} {σ : L2.St} {B B' H H' H1 : Hp} {l : List MP} {ta tb tc te td ty tv : TE} {t : TT} {x y v : V} {d : PyData} {ds es : List PyData} {R : Rr} {a p : Addr} {xs vs : List V} {m : DI} {D : Ends} {tz tu : TS} {i j n : Nat} {k : Int}
theorem lst_at (n : Nat) (e : l[n]? = some (LstM K a ds)) (h : At B l H) : ∃ xs, DpAll K B xs ds ∧ H a = some (.lst xs) := at_p n e h
theorem dct_at (n : Nat) (e : l[n]? = some (DctM K a m)) (h : At B l H) : ∃ vs, DpAll K B vs (m.map (·.2)) ∧ H a = some (.dK (kvD m vs)) := at_p n e h
theorem lst_new (h : At B l H) (np : H p = none) (e : Ex H H1) (hp : H1 p = some (.lst xs)) (hd : DpAll K B xs ds) : At B (LstM K p ds :: l) H1 := at_exm' xs (at_dpm' hd (at_new h np e hp))
theorem lst_upd {xs' : List V} (n : Nat) (e : l[n]? = some (LstM K a ds)) (h : At B l H) (hd : DpAll K B xs' es) : At B (l.set n (LstM K a es)) (upd H a (.lst xs')) := by
  obtain ⟨xs, h1⟩ := at_exm (at_pull n e h)
  obtain ⟨_, h2⟩ := at_dpm h1
  exact at_put n e (at_exm' xs' (at_dpm' hd (at_upd 0 rfl h2)))
theorem dct_upd {vs' : List V} {m' : DI} (n : Nat) (e : l[n]? = some (DctM K a m)) (h : At B l H) (hd : DpAll K B vs' (m'.map (·.2))) : At B (l.set n (DctM K a m')) (upd H a (.dK (kvD m' vs'))) := by
  obtain ⟨xs, h1⟩ := at_exm (at_pull n e h)
  obtain ⟨_, h2⟩ := at_dpm h1
  exact at_put n e (at_exm' vs' (at_dpm' hd (at_upd 0 rfl h2)))
theorem ev_lenM (n : Nat) (e : l[n]? = some (LstM K a ds)) (hA : At B l H) (ha : Ev ta σ H (.ref a)) : Ev (tCB (fun xs H Q => ∃ p ys, xs = [.ref p] ∧ (SqL K H p ys ∨ SqT K H p ys) ∧ Q (.int ys.length) H) (tCons ta tNil)) σ H (.int (ds.length : Int)) := by
  obtain ⟨xs, h1, h2⟩ := lst_at n e hA
  rw [← dpa_len h1]
  exact ev_len ha (sq_of h2)
theorem ev_dniM (n : Nat) (e : l[n]? = some (DctM K a m)) (hA : At B l H) (hk : Ev ty σ H (.int k)) (hd : Ev td σ H (.ref a)) : Ev (tDNotIn ty td) σ H (.bl (!(look m k).isSome)) := by
  obtain ⟨vs, h1, h2⟩ := dct_at n e hA
  have h3 := ev_dni (k := Sum.inl k) hk hd h2
  rcases kv_look k h1 with ⟨a1, a2⟩ | ⟨v, d, a1, a2, _⟩
  · rw [a2] at h3
    rw [a1]
    exact h3
  · rw [a2] at h3
    rw [a1]
    exact h3
/-- m[k], there -/
theorem wv_dgetM (n : Nat) (e : l[n]? = some (DctM K a m)) (hd : ∀ B1 H, Ex B B1 → At B1 l H → Ev td σ H (.ref a)) (hy : ∀ B1 H, Ex B B1 → At B1 l H → Ev ty σ H (.int k)) (h : look m k = some d) : Wv (tDGet td ty) σ B l (rD K d) := fun B1 H e1 hA Q q =>
  hd B1 H e1 hA H (Ex.refl H) _ fun H2 e2 => hy B1 H2 e1 (at_ex hA e2) H2 (Ex.refl H2) _ fun H3 e3 => by
    have hA3 := at_ex hA (e2.trans e3)
    obtain ⟨vs, h1, h2⟩ := dct_at n e hA3
    rcases kv_look k h1 with ⟨a1, a2⟩ | ⟨v, d', a1, a2, a3⟩
    · rw [a1] at h; cases h
    · rw [a1] at h
      cases h
      exact ⟨a, v, rfl, .inl ⟨_, Sum.inl k, .inl h2, rfl, a2.symm⟩, q v B1 H3 (Ex.refl B1) hA3 a3⟩
theorem sm_app (n : Nat) (e : l[n]? = some (LstM K a ds)) (hA : At B l H) (ha : ∀ H1, Ev ta σ H1 (.ref a)) (h : Wv te σ B l (rD K d)) (hz : ds.length < 100000) (c : ∀ B1 H1, Ex B B1 → At B1 (l.set n (LstM K a (ds ++ [d]))) H1 → D.nx σ H1) : tDrop (tBM K "list" rAppend ta (tCons te tNil)) D σ H :=
  ha H H (Ex.refl H) _ fun H1 e1 => by
    have hA1 := at_ex hA e1
    obtain ⟨xs, h1, h2⟩ := lst_at n e hA1
    refine ⟨.inl ⟨rfl, xs, sq_of h2⟩, h B H1 (Ex.refl B) hA1 _ fun v B2 H2 b2 hA2 hv => ?_⟩
    obtain ⟨xs, h1, h2⟩ := lst_at n e hA2
    exact ⟨a, xs, v, rfl, rfl, h2, sz_lt (by rw [dpa_len h1]; exact hz), c B2 _ b2 (lst_upd n e hA2 (dpa_app h1 (dpa_one hv)))⟩
theorem qm_app (n : Nat) (e : l[n]? = some (LstM K a ds)) (hA : At B l H) (ha : ∀ H1, Ev ta σ H1 (.ref a)) (h : Wv te σ B l (rD K d)) (hz : ds.length < 100000) (c : ∀ B1 H1, Ex B B1 → At B1 (l.set n (LstM K a (ds ++ [d]))) H1 → tz D σ H1) : tSeq (tDrop (tBM K "list" rAppend ta (tCons te tNil))) tz D σ H :=
  sm_app (D := { D with nx := tz D }) n e hA ha h hz c
theorem sm_put (n : Nat) (e : l[n]? = some (DctM K a m)) (hA : At B l H) (hv : Wv tv σ B l (rD K d)) (hd : ∀ B1 H1, Ex B B1 → At B1 l H1 → Ev td σ H1 (.ref a)) (hy : ∀ B1 H1, Ex B B1 → At B1 l H1 → Ev ty σ H1 (.int k)) (hz : m.length < 100000)
    (g : ∀ B1 H1, Ex B B1 → At B1 (l.set n (DctM K a (putL m k d))) H1 → D.nx σ H1) : sDPut td ty tv D σ H :=
  hv B H (Ex.refl B) hA _ fun v B1 H1 b1 hA1 hr => hd B1 H1 b1 hA1 H1 (Ex.refl H1) _ fun H2 e2 => hy B1 H2 b1 (at_ex hA1 e2) H2 (Ex.refl H2) _ fun H3 e3 => by
    have hA3 := at_ex hA1 (e2.trans e3)
    obtain ⟨vs, h1, h2⟩ := dct_at n e hA3
    obtain ⟨vs', a1, a2⟩ := kv_put (k := k) h1 hr
    refine ⟨a, _, rfl, DPut.k (k := Sum.inl k) h2 (sz_lt (by rw [kv_len h1]; exact hz)), ?_⟩
    rw [a1]
    exact g B1 _ b1 (dct_upd n e hA3 a2)
theorem qm_put (n : Nat) (e : l[n]? = some (DctM K a m)) (hA : At B l H) (hv : Wv tv σ B l (rD K d)) (hd : ∀ B1 H1, Ex B B1 → At B1 l H1 → Ev td σ H1 (.ref a)) (hy : ∀ B1 H1, Ex B B1 → At B1 l H1 → Ev ty σ H1 (.int k)) (hz : m.length < 100000)
    (g : ∀ B1 H1, Ex B B1 → At B1 (l.set n (DctM K a (putL m k d))) H1 → tz D σ H1) : tSeq (sDPut td ty tv) tz D σ H := sm_put (D := { D with nx := tz D }) n e hA hv hd hy hz g
theorem at_closeL (n : Nat) (e : l[n]? = some (Pt a (.lst xs))) (hd : DpAll K B xs ds) (h : At B l H) : At B (l.set n (LstM K a ds)) H := at_put n e (at_exm' xs (at_dpm' hd (at_pull n e h)))
theorem at_openD (n : Nat) (e : l[n]? = some (DctM K a m)) (h : At B l H) : ∃ vs, DpAll K B vs (m.map (·.2)) ∧ At B (l.set n (Pt a (.dK (kvD m vs)))) H := by
  obtain ⟨xs, h1⟩ := at_exm (at_pull n e h)
  obtain ⟨h2, h3⟩ := at_dpm h1
  exact ⟨xs, h2, at_put n e h3⟩
theorem at_closeD (n : Nat) (e : l[n]? = some (Pt a (.dK (kvD m vs)))) (hd : DpAll K B vs (m.map (·.2))) (h : At B l H) : At B (l.set n (DctM K a m)) H := at_put n e (at_exm' vs (at_dpm' hd (at_pull n e h)))
end
end Ap
namespace Ap
open PySem PySem.Spec PyProof.Rows L2
/-- the law's end, the ground's own word handed on -/
theorem walk_ofX {l : PySem.W.OpenLaw} {n k : Nat} {q : Program} {loose : List Str} {XP : (Str → Option Value) → Heap → Prop} {YP : World → Heap → Prop} {d : DefRec} {K : Params → PySem.W.Frag} {CX : World → CXT} {sp : World → Sp} {x : Str}
    (hn : l.most = some n) (hn2 : n ≤ sizeLine) (hdf : d.params.defaults = []) (hr : Room k callerA) (hY : ∀ (w : World) (h : Heap), YP w h → (K w.params).In h)
    (F : ∀ (w : World) (mg : Str → Option Value) (fa : Addr) (h : Heap), (K w.params).In h → h.Ns mainGlobals mg → XP mg h → mg d.name = some (.ref fa) →
      ∃ fd : FuncData, (∀ (s : Shared) (u : Value), BindsTo s fd ⟨[u], []⟩ [(x, u)]) ∧ ∀ base : Heap, (K w.params).In base → base.Ns mainGlobals mg → FnOk l.prog w (K w.params) mg base (CX w) k fa fd [x] (sp w))
    (hsp : ∀ (w : World) (H : Hp) (a : Addr) (ns : List Int), ns.length ≤ n → Only H → SqL (K w.params) H a (ns.map V.int) → sp w [.ref a] H (fun v _ => v = .bl true) fun _ _ _ => False)
    (hCX : ∀ (w : World) (H : Hp) (s : Shared) (e : Value) (s' : Shared), CX w [] H s (fun _ _ _ => False) e s' → False) :
    PySem.W.WalkO q loose XP YP l.row.toRowW d [] (fun f vs => PySem.call f vs) := by
  refine Att.attach_call hn hdf fun w s₀ s₁ mg mb fa o pm cd doc a vs ns G Y ho hd hcd hmg hobj hints hlen hg => ?_
  have KX := hY w _ Y
  obtain ⟨fd, hb, hF⟩ := F w mg fa _ KX G.T.g G.X hmg
  exact law_call KX G.T.g G.T.b G.T.builtins G.T.nolimit hg hobj hints (Nat.le_trans hlen hn2) hr hF hb (fun H hO hS => hsp w H a ns hlen hO hS) fun H e s' => hCX w H s₁ e s'
end Ap
set_option Elab.async false
set_option linter.all false
set_option maxRecDepth 100000
namespace Ap
open PySem PySem.Spec PyProof.Rows L2 Evl PySem.W
def StM (s : Addr) : MP := ExM fun p : Int × Int => AndM (0 ≤ p.1 ∧ 0 ≤ p.2 ∧ p.2 < 2147483648) (Pt s (.lst [.int p.1, .int p.2]))
def spNext : Sp := fun vs H Q _ => ∃ (s : Addr) (n : Int) (B : Hp) (F : List MP), vs = [.ref s, .int n] ∧ At B (StM s :: F) H ∧ 0 < n ∧ n ≤ 10 ^ 20 ∧ ∀ r H1, 0 ≤ r → r < n → At B (StM s :: F) H1 → Q (.int r) H1
section
variable {K : PySem.W.Frag} {σ : L2.St} {B H : Hp} {l : List MP} {ta td te tn : TE} {t : TT} {x y v : V} {R : Rr} {s : Addr} {D : Ends} {tz tu : TS} {i j : Nat} {n : Int} {E : XK}
theorem wv_next (j : Nat) (hj : l[j]? = some (StM s)) (hs : σ[i]? = some (some (.ref s))) (hn : ∀ H1, Ev tn σ H1 (.int n)) (h0 : 0 < n) (h1 : n ≤ 10 ^ 20) : Wv (tCall spNext [] E (tCons (tVar i) (tCons tn tNil))) σ B l (rN fun r => 0 ≤ r ∧ r < n) := fun B1 H e1 hA Q q =>
  go_call (go_cons (ev_var hs) fun H1 e2 => go_cons (hn H1) fun H2 e3 => go_nil ⟨s, n, B1, l.eraseIdx j, rfl, at_pull j hj (at_ex hA (e2.trans e3)), h0, h1, fun r H3 a b hA3 => q _ B1 H3 (Ex.refl B1) (by
    have := at_put j hj hA3
    rwa [List.set_getElem?_self' hj] at this) ⟨r, rfl, a, b⟩⟩)
theorem et_andT' {tq tr : TT} {b : Bool} (h1 : EvT tq σ H true) (h2 : EvT tr σ H b) : EvT (tAnd tq tr) σ H b := et_is (et_and (a := true) (b := b) h1 (fun _ => h2)) (Bool.true_and b)
theorem st_mk {a b : Int} (h0 : 0 ≤ a) (h1 : 0 ≤ b) (h2 : b < 2147483648) (h : At B (Pt s (.lst [.int a, .int b]) :: l) H) : At B (StM s :: l) H := at_exm' (a, b) (at_and' ⟨h0, h1, h2⟩ h)
theorem st_open (h : At B (StM s :: l) H) : ∃ a b, 0 ≤ a ∧ 0 ≤ b ∧ b < 2147483648 ∧ At B (Pt s (.lst [.int a, .int b]) :: l) H := by
  obtain ⟨⟨a, b⟩, h⟩ := at_exm h
  obtain ⟨⟨h0, h1, h2⟩, h⟩ := at_and h
  exact ⟨a, b, h0, h1, h2, h⟩
/-- return a new list -/
theorem re_lst {xs : List V} (hA : At B l H) (h : EvL te σ H xs) (k : ∀ p H1, At B (Pt p (.lst xs) :: l) H1 → D.rt (.ref p) H1) : tRet te D σ H := h H (Ex.refl H) _ fun p H1 np e1 hp => k p H1 (at_new hA np e1 hp)
/-- xs[i] = e -/
theorem qe_set {ti : TE} {q : Addr} {xs : List V} {m : Nat} (k : Nat) (hk : l[k]? = some (Pt q (.lst xs))) (hA : At B l H) (hv : Ev te σ H v) (ha : ∀ H1, Ev ta σ H1 (.ref q)) (hi : ∀ H1, Ev ti σ H1 (.int i)) (hx : ixN xs.length i = some m) (c : ∀ H1, At B (l.set k (Pt q (.lst (xs.set m v)))) H1 → tz D σ H1) : tSeq (tAsg te (gSub ta ti rSetL)) tz D σ H :=
  hv H (Ex.refl H) _ fun H1 e1 => ha H1 H1 (Ex.refl H1) _ fun H2 e2 => hi H2 H2 (Ex.refl H2) _ fun H3 e3 => ⟨q, xs, i, m, rfl, rfl, at_get k hk (at_ex hA ((e1.trans e2).trans e3)), hx, c _ (at_upd k hk (at_ex hA ((e1.trans e2).trans e3)))⟩
/-- for x in range(what is drawn) -/
theorem s_forR1W {φ : Int → Prop} (hA : At B l H) (h : Wv te σ B l (rN φ)) (hφ : ∀ n, φ n → 0 ≤ n ∧ n ≤ 100000) (Pv : Int → Nat → L2.St → Hp → Prop) (h0 : ∀ n B1 H1, φ n → Ex B B1 → At B1 l H1 → Pv n 0 σ H1)
    (hs : ∀ (n : Int) (i : Nat) σ' H', φ n → (i : Int) < n → Pv n i σ' H' → tu { D with nx := Pv n (i + 1), ct := Pv n (i + 1), bk := D.nx } (σ'.set j (some (.int (i : Int)))) H') (hd : ∀ n σ' H', φ n → Pv n n.toNat σ' H' → D.nx σ' H') : tFor (iRng1 (tCons te tNil)) (gName j) tu D σ H :=
  h B H (Ex.refl B) hA _ fun v B1 H1 e1 hA1 ⟨n, hv, hn⟩ => by
    subst hv
    exact ⟨n, rfl, by have := hφ n hn; omega, by have := hφ n hn; omega, for_range (lo := 0) (n := n.toNat) (Pv n) (h0 n B1 H1 hn e1 hA1) (fun i σ' H' hi p => by
      have e0 : (0 : Int) + (i : Int) = (i : Int) := Int.zero_add _
      show tu { D with nx := Pv n (i + 1), ct := Pv n (i + 1), bk := D.nx } (σ'.set j (some (.int ((0 : Int) + (i : Int))))) H'
      rw [e0]
      exact hs n i σ' H' hn (by omega) p) (fun σ' H' p => hd n σ' H' hn p)⟩
theorem q_forR1W {φ : Int → Prop} (hA : At B l H) (h : Wv te σ B l (rN φ)) (hφ : ∀ n, φ n → 0 ≤ n ∧ n ≤ 100000) (Pv : Int → Nat → L2.St → Hp → Prop) (h0 : ∀ n B1 H1, φ n → Ex B B1 → At B1 l H1 → Pv n 0 σ H1)
    (hs : ∀ (n : Int) (i : Nat) σ' H', φ n → (i : Int) < n → Pv n i σ' H' → tu { D with nx := Pv n (i + 1), ct := Pv n (i + 1), bk := tz D } (σ'.set j (some (.int (i : Int)))) H') (hd : ∀ n σ' H', φ n → Pv n n.toNat σ' H' → tz D σ' H') : tSeq (tFor (iRng1 (tCons te tNil)) (gName j) tu) tz D σ H :=
  s_forR1W (D := { D with nx := tz D }) hA h hφ Pv h0 hs hd
theorem look_isSome {l : DI} {p : Int × PyData} (h : p ∈ l) : ∃ d, look l p.1 = some d := by
  induction l with
  | nil => cases h
  | cons q r ih =>
    rw [look_cons]
    by_cases e : q.1 = p.1
    · rw [if_pos e]
      exact ⟨_, rfl⟩
    · rw [if_neg e]
      rcases List.mem_cons.mp h with h | h
      · rw [h] at e
        exact absurd rfl e
      · exact ih h
theorem look_mem {l : DI} {k : Int} {d : PyData} (h : look l k = some d) : (k, d) ∈ l := by
  induction l with
  | nil => cases h
  | cons q r ih =>
    rw [look_cons] at h
    by_cases e : q.1 = k
    · rw [if_pos e] at h
      have h := Option.some.inj h
      refine List.mem_cons.mpr (.inl ?_)
      rw [← e, ← h]
    · rw [if_neg e] at h
      exact List.mem_cons_of_mem _ (ih h)
variable {φ ψ χ : Int → Prop} {tb : TE} {tw : TS}
theorem wv_i {m : Int} (h : ∀ H1, Ev te σ H1 (.int m)) : Wv te σ B l (rN fun r => r = m) := fun B1 H1 e1 hA Q q => h H1 H1 (Ex.refl H1) _ fun H2 e2 => q _ B1 H2 (Ex.refl B1) (at_ex hA e2) ⟨m, rfl, rfl⟩
theorem wv_opW {r : R2} (ha : Wv ta σ B l (rN φ)) (hb : Wv tb σ B l (rN ψ)) (hr : ∀ i j, φ i → ψ j → ∀ H (Q : VK), (∀ k, χ k → Q (.int k) H) → r (.int i) (.int j) H Q) : Wv (tOp r ta tb) σ B l (rN χ) := fun B1 H1 e1 hA Q q =>
  ha B1 H1 e1 hA _ fun v B2 H2 e2 hA2 ⟨i, hv, hi⟩ => hb B2 H2 (e1.trans e2) hA2 _ fun w B3 H3 e3 hA3 ⟨j, hw, hj⟩ => by
    subst hv hw
    exact hr i j hi hj H3 _ fun k hk => q _ B3 H3 (e2.trans e3) hA3 ⟨k, rfl, hk⟩
theorem wv_addW (ha : Wv ta σ B l (rN φ)) (hb : Wv tb σ B l (rN ψ)) (hr : ∀ i j, φ i → ψ j → χ (i + j)) : Wv (tOp (rI0 fun i j => .int (i + j)) ta tb) σ B l (rN χ) := wv_opW ha hb fun i j hi hj H Q q => ⟨i, j, rfl, rfl, q _ (hr i j hi hj)⟩
theorem wv_subW (ha : Wv ta σ B l (rN φ)) (hb : Wv tb σ B l (rN ψ)) (hr : ∀ i j, φ i → ψ j → χ (i - j)) : Wv (tOp (rI0 fun i j => .int (i - j)) ta tb) σ B l (rN χ) := wv_opW ha hb fun i j hi hj H Q q => ⟨i, j, rfl, rfl, q _ (hr i j hi hj)⟩
theorem wv_mulW (ha : Wv ta σ B l (rN φ)) (hb : Wv tb σ B l (rN ψ)) (hr : ∀ i j, φ i → ψ j → CMul i j ∧ χ (i * j)) : Wv (tOp (rI CMul fun i j => .int (i * j)) ta tb) σ B l (rN χ) := wv_opW ha hb fun i j hi hj H Q q => ⟨i, j, rfl, rfl, (hr i j hi hj).1, q _ (hr i j hi hj).2⟩
/-- te == c, te drawn -/
theorem eqc_do {c : Int} {Q : Bool → Hp → Prop} (hA : At B l H) (h : Wv te σ B l (rN φ)) (k : ∀ n B1 H1, φ n → Ex B B1 → At B1 l H1 → Q (decide (n = c)) H1) : tTest (tOp rEq te (tC (.int c))) σ H Q := h B H (Ex.refl B) hA _ fun v B1 H1 e1 hA1 ⟨n, hv, hn⟩ => by
  subst hv
  exact ev_c (σ := σ) H1 (Ex.refl H1) _ fun H2 e2 => rv_eqI H2 (Ex.refl H2) _ fun H3 e3 => ⟨_, rfl, k n B1 H3 hn e1 (at_ex hA1 (e2.trans e3))⟩
theorem sw_ifEq {c : Int} (hA : At B l H) (h : Wv te σ B l (rN φ)) (h1 : ∀ B1 H1, Ex B B1 → At B1 l H1 → tu D σ H1) (h2 : ∀ B1 H1, Ex B B1 → At B1 l H1 → tw D σ H1) : tIfS (tTest (tOp rEq te (tC (.int c)))) tu tw D σ H := eqc_do hA h fun n B1 H1 hn e1 hA1 => by
  by_cases e : n = c
  · rw [if_pos (decide_eq_true e)]
    exact h1 B1 H1 e1 hA1
  · rw [if_neg (by rw [decide_eq_false e]; decide)]
    exact h2 B1 H1 e1 hA1
theorem qw_ifEq {c : Int} (hA : At B l H) (h : Wv te σ B l (rN φ)) (h1 : ∀ B1 H1, Ex B B1 → At B1 l H1 → tu { D with nx := tz D } σ H1) (h2 : ∀ B1 H1, Ex B B1 → At B1 l H1 → tw { D with nx := tz D } σ H1) : tSeq (tIfS (tTest (tOp rEq te (tC (.int c)))) tu tw) tz D σ H := sw_ifEq (D := { D with nx := tz D }) hA h h1 h2
theorem qw_whenEq {c : Int} (hA : At B l H) (h : Wv te σ B l (rN φ)) (h1 : ∀ B1 H1, Ex B B1 → At B1 l H1 → tu { D with nx := tz D } σ H1) (h2 : ∀ B1 H1, Ex B B1 → At B1 l H1 → tz D σ H1) : tSeq (tIfS (tTest (tOp rEq te (tC (.int c)))) tu tNext) tz D σ H := qw_ifEq hA h h1 h2
/-- what is drawn of a tuple of ints -/
theorem wv_ixTW {tt : TA} {ns : List Int} (ht : ∀ H1, EvA tt σ H1 (ns.map V.int)) (hz : ns.length ≤ 100000) (hb : ∀ p, Wv tb σ B (Pt p (.tup (ns.map V.int)) :: l) (rN φ)) (hr : ∀ j, φ j → ∃ k, atI ns j = some k ∧ χ k) : Wv (tOp (rIxT K) (tTup tt) tb) σ B l (rN χ) := fun B1 H1 e1 hA Q q =>
  go_op (go_tup (ht H1 H1 (Ex.refl H1) _ fun H2 e2 => ⟨by rw [List.length_map]; exact sz_of hz, fun p hp => hb p B1 _ e1 (at_new (at_ex hA e2) hp (Ex.new hp) upd_same) _ fun v B3 H3 e3 hA3 ⟨j, hv, hj⟩ => by
    subst hv
    obtain ⟨k, hk, hχ⟩ := hr j hj
    obtain ⟨m, hm, hx⟩ := atI_len (xs := ns.map V.int) (ys := ns) (List.length_map _) hk
    exact ⟨p, _, j, .int k, rfl, rfl, st_of (at_get 0 rfl hA3), hx _ (by rw [List.getElem?_map, hm]; rfl), q _ B3 H3 e3 (at_drop hA3) ⟨k, rfl, hχ⟩⟩⟩))
theorem isP_cases {e : PyData} (h : isP e = true) : (∃ i, e = .int i ∧ isI e = true) ∨ ∃ z, e = .str z ∧ isT e = true := by
  cases e <;> simp_all [isP, isI, isT]
theorem isT_len {z : Str} (h : isT (.str z) = true) : z.length ≤ 200 := of_decide_eq_true (Bool.and_eq_true_iff.mp (show (decide (z.length ≤ 200) && z.cps.toList.all chOk) = true from h)).1
theorem isP_okd {n : Nat} {e : PyData} (h : isP e = true) : Okd n e := by
  rcases isP_cases h with ⟨i, rfl, _⟩ | ⟨z, rfl, hz⟩
  · exact .int i
  · exact .str (by have := isT_len hz; omega)
end
end Ap
set_option Elab.async false
set_option linter.all false
set_option maxRecDepth 100000
set_option maxHeartbeats 4000000
namespace Ap
open PySem PySem.Spec PyProof.Rows L2 Evl PySem.W
local macro_rules | `(tactic| walk_at "sq") => `(tactic| first | assumption | (refine Evl.ex_l (by assumption) ?_; walk_at "sq"))
local macro_rules | `(tactic| walk_at "st") => `(tactic| first | assumption | (refine Evl.ex_t (by assumption) ?_; walk_at "st"))
local macro_rules | `(tactic| walk_at "ev") => `(tactic| (repeat' (first
  | (with_reducible first
    | exact ev_c
    | refine' ev_var ?_
    | exact ea_nil
    | refine' ea_cons ?_ ?_
    | refine' ev_op ?_ ?_ ?_
    | refine' ev_chain ?_ ?_ ?_ ?_ ?_
    | refine' ev_un ?_ ?_
    | exact rv_I0
    | refine' rv_I ?_
    | refine' ev_cb ?_ ?_
    | refine' ev_call ?_ ?_
    | exact rc_int
    | exact rc_max2
    | exact rc_min2
    | exact ru_neg
    | exact rc_isiI
    | exact rc_isiIB
    | exact rc_isiB
    | exact rc_isiBI
    | exact rv_eqI
    | exact rv_neI
    | refine' et_test ?_
    | refine' et_B ?_)
  | ((with_reducible show _ = _); rfl)
  | ((with_reducible show SqL _ _ _ _); walk_at "sq")
  | ((with_reducible show SqT _ _ _ _); walk_at "st")
  | ((with_reducible show CPow _ _); exact ⟨by decide, by decide, by decide⟩)
  | ((with_reducible show CDiv _ _); first | exact ⟨by decide, by decide⟩ | exact ⟨by omega, by omega⟩)
  | ((with_reducible show CMul _ _); first | exact .inr (by decide) | exact .inl (by decide) | exact .inr ⟨by omega, by omega⟩ | exact .inl ⟨by omega, by omega⟩)
  | ((with_reducible show SpV (spDraw _) _ _ _); refine' spDrawI ?_ ?_)
  | ((with_reducible show SpV _ _ _ _); walk_at "sp")
  | ((with_reducible show RC _ _ _ _); refine' rc_len ?_)
  | ((with_reducible show RV _ _ _ _ _); first | exact rv_eq rfl | exact rv_ne rfl | (refine' rv_ixL ?hq ?eq; (case hq => walk_at "sq"); (case eq => rfl)))
  | ((with_reducible show _ ≤ _); first | decide | omega)
  | ((with_reducible show _ < _); first | decide | omega)
  | decide)))
local macro_rules | `(tactic| walk_at "bo") => `(tactic| first | rfl | exact decide_eq_true (by omega) | exact decide_eq_false (by omega) | (rw [decide_eq_true (by omega)]; done) | (rw [decide_eq_false (by omega)]; done) | (simp; omega) | (simp; done))
local macro_rules | `(tactic| walk_at "tf") => `(tactic| first
  | ((with_reducible refine' et_orF ?_ ?_) <;> walk_at "tf")
  | ((with_reducible refine' et_andT ?_ ?_) <;> walk_at "tf")
  | ((with_reducible refine' et_nt ?_) <;> walk_at "tf")
  | ((with_reducible refine' et_nf ?_) <;> walk_at "tf")
  | (refine' et_is ?c ?d; (case c => walk_at "ev"); (case d => walk_at "bo")))
local macro_rules | `(tactic| walk_at "vt") => `(tactic| first
  | ((with_reducible refine' ev_andT ?_ ?_) <;> walk_at "vt")
  | ((with_reducible refine' ev_orF ?_ ?_) <;> walk_at "vt")
  | ((with_reducible refine' ev_nt ?_) <;> walk_at "vt")
  | ((with_reducible refine' ev_nf ?_) <;> walk_at "vt")
  | (refine' ev_is ?c ?d; (case c => walk_at "ev"); (case d => first | rfl | (refine congrArg V.bl ?_; walk_at "bo"))))
def topS (i : Nat) : Stmt := PySem.Challenge.pw_appendhall_k67_whole_network_runs.main.body.getD i (.Pass ⟨0, 0, 0, 0⟩)
abbrev s_is_integer : Stmt := topS 11
abbrev N_is_integer : List Str := ["thing"]
theorem sc_is_integer : FnScope N_is_integer ["thing"] (defScope s_is_integer) := ⟨rfl, rfl, rfl, by decide +kernel, rfl, by decide +kernel, by decide +kernel⟩
abbrev s_is_number : Stmt := topS 12
abbrev N_is_number : List Str := ["thing"]
theorem sc_is_number : FnScope N_is_number ["thing"] (defScope s_is_number) := ⟨rfl, rfl, rfl, by decide +kernel, rfl, by decide +kernel, by decide +kernel⟩
abbrev s_is_text : Stmt := topS 13
abbrev N_is_text : List Str := ["thing", "char"]
theorem sc_is_text : FnScope N_is_text ["thing"] (defScope s_is_text) := ⟨rfl, rfl, rfl, by decide +kernel, rfl, by decide +kernel, by decide +kernel⟩
abbrev s__may_stand_in_text : Stmt := topS 14
abbrev N__may_stand_in_text : List Str := ["code"]
theorem sc__may_stand_in_text : FnScope N__may_stand_in_text ["code"] (defScope s__may_stand_in_text) := ⟨rfl, rfl, rfl, by decide +kernel, rfl, by decide +kernel, by decide +kernel⟩
abbrev s_is_plain : Stmt := topS 15
abbrev N_is_plain : List Str := ["thing"]
theorem sc_is_plain : FnScope N_is_plain ["thing"] (defScope s_is_plain) := ⟨rfl, rfl, rfl, by decide +kernel, rfl, by decide +kernel, by decide +kernel⟩
abbrev s_is_deed : Stmt := topS 18
abbrev N_is_deed : List Str := ["thing", "item"]
theorem sc_is_deed : FnScope N_is_deed ["thing"] (defScope s_is_deed) := ⟨rfl, rfl, rfl, by decide +kernel, rfl, by decide +kernel, by decide +kernel⟩
abbrev s_is_machine : Stmt := topS 21
abbrev N_is_machine : List Str := ["thing", "kind", "number"]
theorem sc_is_machine : FnScope N_is_machine ["thing"] (defScope s_is_machine) := ⟨rfl, rfl, rfl, by decide +kernel, rfl, by decide +kernel, by decide +kernel⟩
abbrev s_is_body : Stmt := topS 22
abbrev N_is_body : List Str := ["sender", "receiver", "body", "source", "target", "kinds", "items", "item", "kind"]
theorem sc_is_body : FnScope N_is_body ["sender", "receiver", "body"] (defScope s_is_body) := ⟨rfl, rfl, rfl, by decide +kernel, rfl, by decide +kernel, by decide +kernel⟩
abbrev s_is_message : Stmt := topS 23
abbrev N_is_message : List Str := ["thing", "sender", "receiver", "body"]
theorem sc_is_message : FnScope N_is_message ["thing"] (defScope s_is_message) := ⟨rfl, rfl, rfl, by decide +kernel, rfl, by decide +kernel, by decide +kernel⟩
abbrev s__fits : Stmt := topS 24
abbrev N__fits : List Str := ["item", "kind"]
theorem sc__fits : FnScope N__fits ["item", "kind"] (defScope s__fits) := ⟨rfl, rfl, rfl, by decide +kernel, rfl, by decide +kernel, by decide +kernel⟩
abbrev s__is_log_value : Stmt := topS 25
abbrev N__is_log_value : List Str := ["thing"]
theorem sc__is_log_value : FnScope N__is_log_value ["thing"] (defScope s__is_log_value) := ⟨rfl, rfl, rfl, by decide +kernel, rfl, by decide +kernel, by decide +kernel⟩
abbrev s_Network___init__ : Stmt := inClass (topS 27) 0
abbrev N_Network___init__ : List Str := ["self"]
theorem sc_Network___init__ : FnScope N_Network___init__ ["self"] (defScope s_Network___init__) := ⟨rfl, rfl, rfl, by decide +kernel, rfl, by decide +kernel, by decide +kernel⟩
abbrev s_Network_send : Stmt := inClass (topS 27) 1
abbrev N_Network_send : List Str := ["self", "message"]
theorem sc_Network_send : FnScope N_Network_send ["self", "message"] (defScope s_Network_send) := ⟨rfl, rfl, rfl, by decide +kernel, rfl, by decide +kernel, by decide +kernel⟩
abbrev s_Network_message : Stmt := inClass (topS 27) 2
abbrev N_Network_message : List Str := ["self", "number"]
theorem sc_Network_message : FnScope N_Network_message ["self", "number"] (defScope s_Network_message) := ⟨rfl, rfl, rfl, by decide +kernel, rfl, by decide +kernel, by decide +kernel⟩
abbrev s_Network_drop : Stmt := inClass (topS 27) 3
abbrev N_Network_drop : List Str := ["self", "number"]
theorem sc_Network_drop : FnScope N_Network_drop ["self", "number"] (defScope s_Network_drop) := ⟨rfl, rfl, rfl, by decide +kernel, rfl, by decide +kernel, by decide +kernel⟩
abbrev s_Network_numbers : Stmt := inClass (topS 27) 4
abbrev N_Network_numbers : List Str := ["self"]
theorem sc_Network_numbers : FnScope N_Network_numbers ["self"] (defScope s_Network_numbers) := ⟨rfl, rfl, rfl, by decide +kernel, rfl, by decide +kernel, by decide +kernel⟩
abbrev s_Network___len__ : Stmt := inClass (topS 27) 5
abbrev N_Network___len__ : List Str := ["self"]
theorem sc_Network___len__ : FnScope N_Network___len__ ["self"] (defScope s_Network___len__) := ⟨rfl, rfl, rfl, by decide +kernel, rfl, by decide +kernel, by decide +kernel⟩
abbrev s_Network___iter__ : Stmt := inClass (topS 27) 6
abbrev N_Network___iter__ : List Str := ["self"]
theorem sc_Network___iter__ : FnScope N_Network___iter__ ["self"] (defScope s_Network___iter__) := ⟨rfl, rfl, rfl, by decide +kernel, rfl, by decide +kernel, by decide +kernel⟩
abbrev s_Network__check_number : Stmt := inClass (topS 27) 7
abbrev N_Network__check_number : List Str := ["self", "number"]
theorem sc_Network__check_number : FnScope N_Network__check_number ["self", "number"] (defScope s_Network__check_number) := ⟨rfl, rfl, rfl, by decide +kernel, rfl, by decide +kernel, by decide +kernel⟩
abbrev s__law_stream : Stmt := topS 29
abbrev N__law_stream : List Str := ["cell", "k", "digits"]
theorem sc__law_stream : FnScope N__law_stream ["cell", "k"] (defScope s__law_stream) := ⟨rfl, rfl, rfl, by decide +kernel, rfl, by decide +kernel, by decide +kernel⟩
abbrev s__law_next : Stmt := topS 30
abbrev N__law_next : List Str := ["stream", "size", "drawn"]
theorem sc__law_next : FnScope N__law_next ["stream", "size"] (defScope s__law_next) := ⟨rfl, rfl, rfl, by decide +kernel, rfl, by decide +kernel, by decide +kernel⟩
abbrev s__law_machine : Stmt := topS 31
abbrev N__law_machine : List Str := ["stream", "kind", "number"]
theorem sc__law_machine : FnScope N__law_machine ["stream"] (defScope s__law_machine) := ⟨rfl, rfl, rfl, by decide +kernel, rfl, by decide +kernel, by decide +kernel⟩
abbrev s__law_forms : Stmt := topS 32
abbrev N__law_forms : List Str := ["rows"]
theorem sc__law_forms : FnScope N__law_forms [] (defScope s__law_forms) := ⟨rfl, rfl, rfl, by decide +kernel, rfl, by decide +kernel, by decide +kernel⟩
abbrev s__law_number : Stmt := topS 33
abbrev N__law_number : List Str := ["stream"]
theorem sc__law_number : FnScope N__law_number ["stream"] (defScope s__law_number) := ⟨rfl, rfl, rfl, by decide +kernel, rfl, by decide +kernel, by decide +kernel⟩
abbrev s__law_deed : Stmt := topS 34
abbrev N__law_deed : List Str := ["stream", "items", "k"]
theorem sc__law_deed : FnScope N__law_deed ["stream"] (defScope s__law_deed) := ⟨rfl, rfl, rfl, by decide +kernel, rfl, by decide +kernel, by decide +kernel⟩
abbrev s__law_thing : Stmt := topS 35
abbrev N__law_thing : List Str := ["stream", "deep"]
theorem sc__law_thing : FnScope N__law_thing ["stream"] (defScope s__law_thing) := ⟨rfl, rfl, rfl, by decide +kernel, rfl, by decide +kernel, by decide +kernel⟩
abbrev s__law_field : Stmt := topS 36
abbrev N__law_field : List Str := ["stream", "mark", "k"]
theorem sc__law_field : FnScope N__law_field ["stream", "mark"] (defScope s__law_field) := ⟨rfl, rfl, rfl, by decide +kernel, rfl, by decide +kernel, by decide +kernel⟩
abbrev s__law_body : Stmt := topS 37
abbrev N__law_body : List Str := ["stream", "row", "mark"]
theorem sc__law_body : FnScope N__law_body ["stream", "row"] (defScope s__law_body) := ⟨rfl, rfl, rfl, by decide +kernel, rfl, by decide +kernel, by decide +kernel⟩
abbrev s__law_is : Stmt := topS 38
abbrev N__law_is : List Str := ["actual", "due"]
theorem sc__law_is : FnScope N__law_is ["actual", "due"] (defScope s__law_is) := ⟨rfl, rfl, rfl, by decide +kernel, rfl, by decide +kernel, by decide +kernel⟩
abbrev s__law_equal : Stmt := topS 39
abbrev N__law_equal : List Str := ["actual", "due", "k"]
theorem sc__law_equal : FnScope N__law_equal ["actual", "due"] (defScope s__law_equal) := ⟨rfl, rfl, rfl, by decide +kernel, rfl, by decide +kernel, by decide +kernel⟩
abbrev s__law_message : Stmt := topS 40
abbrev N__law_message : List Str := ["stream", "row"]
theorem sc__law_message : FnScope N__law_message ["stream"] (defScope s__law_message) := ⟨rfl, rfl, rfl, by decide +kernel, rfl, by decide +kernel, by decide +kernel⟩
abbrev s__law_dropped : Stmt := topS 41
abbrev N__law_dropped : List Str := ["network", "number"]
theorem sc__law_dropped : FnScope N__law_dropped ["network", "number"] (defScope s__law_dropped) := ⟨rfl, rfl, rfl, by decide +kernel, rfl, by decide +kernel, by decide +kernel⟩
abbrev s__law_asked : Stmt := topS 42
abbrev N__law_asked : List Str := ["network", "number"]
theorem sc__law_asked : FnScope N__law_asked ["network", "number"] (defScope s__law_asked) := ⟨rfl, rfl, rfl, by decide +kernel, rfl, by decide +kernel, by decide +kernel⟩
abbrev s__law_refused : Stmt := topS 43
abbrev N__law_refused : List Str := ["network"]
theorem sc__law_refused : FnScope N__law_refused ["network"] (defScope s__law_refused) := ⟨rfl, rfl, rfl, by decide +kernel, rfl, by decide +kernel, by decide +kernel⟩
abbrev s__law_holds : Stmt := topS 44
abbrev N__law_holds : List Str := ["network", "messages", "there", "number", "due"]
theorem sc__law_holds : FnScope N__law_holds ["network", "messages"] (defScope s__law_holds) := ⟨rfl, rfl, rfl, by decide +kernel, rfl, by decide +kernel, by decide +kernel⟩
abbrev s__law_step : Stmt := topS 45
abbrev N__law_step : List Str := ["network", "messages", "stream", "deed", "number", "due", "message", "there", "old"]
theorem sc__law_step : FnScope N__law_step ["network", "messages", "stream"] (defScope s__law_step) := ⟨rfl, rfl, rfl, by decide +kernel, rfl, by decide +kernel, by decide +kernel⟩
abbrev s_law : Stmt := topS 46
abbrev N_law : List Str := ["script", "networks", "sent", "k", "stream", "which"]
theorem sc_law : FnScope N_law ["script"] (defScope s_law) := ⟨rfl, rfl, rfl, by decide +kernel, rfl, by decide +kernel, by decide +kernel⟩
section
variable {P : Program} {w : World} {K : PySem.W.Frag} {mg : Str → Option Value} {base : Heap}
structure Glo (mg : Str → Option Value) : Prop where
  len : mg "len" = none
  int : mg "int" = none
  range : mg "range" = none
  max : mg "max" = none
  min : mg "min" = none
  iter : mg "iter" = none
  isinstance : mg "isinstance" = none
  bool : mg "bool" = none
  tuple : mg "tuple" = none
  list : mg "list" = none
  str : mg "str" = none
  all : mg "all" = none
  ord : mg "ord" = none
  zip : mg "zip" = none
  ValueError : mg "ValueError" = none
def spB (K : PySem.W.Frag) (n : Nat) (g : PyData → Bool) : Sp := fun vs H Q _ => ∃ (v : V) (d : PyData), vs = [v] ∧ Dx K H v d ∧ Okd n d ∧ RetV (.bl (g d)) H Q
theorem spB_v {H : Hp} {n : Nat} {g : PyData → Bool} {v : V} {d : PyData} (h : Dx K H v d) (ok : Okd n d) : SpV (spB K n g) [v] H (.bl (g d)) := fun H1 e Q q _ => ⟨v, d, rfl, dx_mono e _ _ h, ok, fun H2 e2 => q H2 e2⟩
theorem isI_not {d : PyData} (h : (!isInt d || isBoo d) = true) : isI d = false := by
  cases d <;> simp_all [isInt, isBoo, isI]
theorem int_of {d : PyData} (h : (!isInt d || isBoo d) = false) : ∃ i, d = .int i := by
  cases d <;> simp_all [isInt, isBoo]
theorem isT_not {d : PyData} (h : isStr d = false) : isT d = false := by
  cases d <;> simp_all [isStr, isT]
theorem str_of {d : PyData} (h : isStr d = true) : ∃ x, d = .str x := by
  cases d <;> simp_all [isStr]
theorem tup_of {d : PyData} (h : isTup d = true) : ∃ ds, d = .tuple ds := by
  cases d <;> simp_all [isTup]
theorem ok_is_integer {n : Nat} {tN : Tok} {f : Addr} {fd : FuncData} (F : Fun K "is_integer" "is_integer" s_is_integer f fd) (c_NUMBER_MOST : mg "NUMBER_MOST" = some (.int (10 ^ 18) tN)) (T : Glo mg) : FnOk P w K mg base CX0 1 f fd ["thing"] (spB K n isI) := by
  refine F.ok sc_is_integer (fun vs H Q E h => ?_) (fun cdv A outer s H vs Q E hr h => ?_)
  · obtain ⟨v, d, rfl, _⟩ := h
    rfl
  · obtain ⟨v, d, rfl, hd, ok, q⟩ := h
    refine ⟨_, (pss_cons (ps_if (PW.pt (pw_or (pt_not (pt_val (pe_callB call_isi (by rfl) T.isinstance (by decide +kernel) (pa_cons (pv 0) (pa_cons (pe_bltn (v := .ty "int") (u := .type "int") (by rfl) T.int (by decide +kernel) rfl) pa_nil))))) (pw_or1 (pt_val (pe_callB call_isi (by rfl) T.isinstance (by decide +kernel) (pa_cons (pv 0) (pa_cons (pe_bltn (v := .ty "bool") (u := .type "bool") (by rfl) T.bool (by decide +kernel) rfl) pa_nil)))))))
  (pss_one (ps_ret pe_bl))
  pss_nil)
  (pss_one (ps_ret (pe_chain op_le op_le (pe_un un_neg (pe_glob (v := .int (10 ^ 18)) rfl c_NUMBER_MOST ⟨_, rfl⟩)) (pv 0) (pe_glob (v := .int (10 ^ 18)) rfl c_NUMBER_MOST ⟨_, rfl⟩))))), ?_⟩
    refine' q_when (b := !isInt d || isBoo d) (et_or (a := !isInt d) (b := isBoo d) (et_not (et_B (ev_isiX (K := K) (ex_var rfl hd) (kit_int d)))) (fun _ => et_B (ev_isiX (K := K) (ex_var rfl hd) (kit_bool d)))) (fun hb H1 e1 => ?_) (fun hb H1 e1 => ?_)
    · rw [isI_not hb] at q
      exact s_ret ev_c (fun H2 e2 => q H2 (e1.trans e2))
    · obtain ⟨i, rfl⟩ := int_of hb
      cases hd
      exact s_ret (ev_chain (ev_un ev_c ru_neg) (ev_var rfl) rv_I0 ev_c rv_I0) (fun H2 e2 => q H2 (e1.trans e2))
theorem ok_is_number {n : Nat} {tN : Tok} {f f_i : Addr} {fd fd_i : FuncData} (F : Fun K "is_number" "is_number" s_is_number f fd) (D_is_integer : Df K mg "is_integer" s_is_integer ["thing"] f_i fd_i) (c_NUMBER_MOST : mg "NUMBER_MOST" = some (.int (10 ^ 18) tN)) (T : Glo mg) : FnOk P w K mg base CX0 2 f fd ["thing"] (spB K n isN) := by
  have G_is_integer : FnOk P w K mg base CX0 1 f_i fd_i _ _ := ok_is_integer (n := n) D_is_integer.F c_NUMBER_MOST T
  refine F.ok sc_is_number (fun vs H Q E h => ?_) (fun cdv A outer s H vs Q E hr h => ?_)
  · obtain ⟨v, d, rfl, _⟩ := h
    rfl
  · obtain ⟨v, d, rfl, hd, ok, q⟩ := h
    refine ⟨_, (pss_one (ps_ret (pe_and (pe_call G_is_integer (hr.mono (by decide)) (by rfl) D_is_integer.g D_is_integer.F.kp D_is_integer.b .nil pass0 (pa_cons (pv 0) pa_nil)) (pe_one (pe_cmpR op_ge (pv 0) pe_int (nomark _)))))), ?_⟩
    refine s_ret (ev_andV (a := isI d) (ev_call (ea_cons (ev_var rfl) ea_nil) (spB_v hd ok)) (fun h => ?_)) q
    cases hd with
    | int i => exact ev_op (ev_var rfl) ev_c rv_I0
    | _ => exact absurd h (by simp [isI])
def spCh : Sp := fun vs H Q _ => ∃ c : Nat, vs = [.int (c : Int)] ∧ RetV (.bl (chOk c)) H Q
theorem ok_ch {tP : Tok} {f : Addr} {fd : FuncData} (F : Fun K "_may_stand_in_text" "_may_stand_in_text" s__may_stand_in_text f fd) (c__PERCENT : mg "_PERCENT" = some (.int 37 tP)) (T : Glo mg) : FnOk P w K mg base CX0 1 f fd ["code"] spCh := by
  refine F.ok sc__may_stand_in_text (fun vs H Q E h => ?_) (fun cdv A outer s H vs Q E hr h => ?_)
  · obtain ⟨c, rfl, _⟩ := h
    rfl
  · obtain ⟨c, rfl, q⟩ := h
    refine ⟨_, (pss_one (ps_ret (pe_and (pe_chain op_le op_le (pe_callB call_ord (by rfl) T.ord (by decide +kernel) (pa_cons pe_str pa_nil)) (pv 0) (pe_callB call_ord (by rfl) T.ord (by decide +kernel) (pa_cons pe_str pa_nil))) (pe_one (pe_cmpR op_ne (pv 0) (pe_glob (v := .int 37) rfl c__PERCENT ⟨_, rfl⟩) (nomark _)))))), ?_⟩
    exact s_ret (ev_andV (ev_chain (ev_cb (ea_cons ev_c ea_nil) (rc_ordS (n := 32) (by decide +kernel) (by decide +kernel))) (ev_var rfl) rv_I0 (ev_cb (ea_cons ev_c ea_nil) (rc_ordS (n := 126) (by decide +kernel) (by decide +kernel))) rv_I0) (fun _ => ev_op (ev_var rfl) ev_c (rv_ne rfl))) q
theorem spCh_v {H : Hp} {c : Nat} : SpV spCh [.int (c : Int)] H (.bl (chOk c)) := fun H1 _ Q q _ => ⟨c, rfl, fun H2 e2 => q H2 e2⟩
theorem ok_is_text {n : Nat} {tT tP : Tok} {f f_c : Addr} {fd fd_c : FuncData} (F : Fun K "is_text" "is_text" s_is_text f fd) (D__may_stand_in_text : Df K mg "_may_stand_in_text" s__may_stand_in_text ["code"] f_c fd_c) (c_TEXT_MOST : mg "TEXT_MOST" = some (.int 200 tT)) (c__PERCENT : mg "_PERCENT" = some (.int 37 tP)) (T : Glo mg) : FnOk P w K mg base CX0 2 f fd ["thing"] (spB K n isT) := by
  have G__may_stand_in_text : FnOk P w K mg base CX0 1 f_c fd_c _ _ := ok_ch D__may_stand_in_text.F c__PERCENT T
  refine F.ok sc_is_text (fun vs H Q E h => ?_) (fun cdv A outer s H vs Q E hr h => ?_)
  · obtain ⟨v, d, rfl, _⟩ := h
    rfl
  · obtain ⟨v, d, rfl, hd, ok, q⟩ := h
    refine ⟨_, (pss_cons (ps_if (PW.pt (pw_or (pt_not (pt_val (pe_callB call_isi (by rfl) T.isinstance (by decide +kernel) (pa_cons (pv 0) (pa_cons (pe_bltn (v := .ty "str") (u := .type "str") (by rfl) T.str (by decide +kernel) rfl) pa_nil))))) (pw_or1 (pt_cmpR op_gt (pe_callB call_len_str (by rfl) T.len PySem.boot_len (pa_cons (pv 0) pa_nil)) (pe_glob (v := .int 200) rfl c_TEXT_MOST ⟨_, rfl⟩) (nomark _)))))
  (pss_one (ps_ret pe_bl))
  pss_nil)
  (pss_one (ps_ret (pe_callB (cr_all rfl) (by rfl) T.all (by decide +kernel) (pa_cons (pe_lc (own := [("char", 1)]) (g := gName 1) rfl sc_is_text.nd (pi_str (pv 0)) (blkOk_by (N := N_is_text) (sc := defScope s_is_text) (by decide +kernel)) (fun _ _ _ _ _ => (pg_name (i := 1) sc_is_text.nd rfl (.inl rfl))) (fun _ _ _ _ _ => pts_nil) (fun _ _ _ _ _ => (pe_call G__may_stand_in_text (hr.mono (by decide)) (by rfl) D__may_stand_in_text.g D__may_stand_in_text.F.kp D__may_stand_in_text.b .nil pass0 (pa_cons (pe_callB call_ord (by rfl) T.ord (by decide +kernel) (pa_cons (pv 1) pa_nil)) pa_nil)))) pa_nil))))), ?_⟩
    by_cases hS : isStr d = true
    · obtain ⟨x, rfl⟩ := str_of hS
      have hxl : x.length ≤ 1000 := by
        cases ok
        assumption
      have hd' := hd
      cases hd
      refine' q_when (b := decide ((x.length : Int) > 200)) (et_is (et_or (a := false) (b := decide ((x.length : Int) > 200)) (et_is (et_not (et_B (ev_isiX (K := K) (ex_var rfl hd') (kit_str _)))) rfl) (fun _ => et_test (ev_op (ev_cb (ea_cons (ev_var rfl) ea_nil) (rc_lenS (by omega))) ev_c rv_I0))) (Bool.false_or _)) (fun hb H1 e1 => ?_) (fun hb H1 e1 => ?_)
      · have hb := of_decide_eq_true hb
        have : isT (.str x) = false := by
          show (decide (x.length ≤ 200) && _) = false
          rw [decide_eq_false (by omega)]
          rfl
        rw [this] at q
        exact s_ret ev_c (fun H2 e2 => q H2 (e1.trans e2))
      · have hb := of_decide_eq_false hb
        have : isT (.str x) = x.cps.toList.all chOk := by
          show (decide (x.length ≤ 200) && _) = _
          rw [decide_eq_true (by omega)]
          rfl
        rw [this] at q
        obtain ⟨bs, h1, h2⟩ := all_given x chOk
        rw [← h2] at q
        have hsz : x.cps.size ≤ 1000 := hxl
        refine s_ret (ev_all (K := K) (bs := bs) (h1 ▸ el_lcS (fun i => V.bl (chOk (x.cps.getD i 0))) (ev_var rfl) (by omega) (fun _ => rfl) (fun c H1 e1 => et_nil) (fun i c H2 e2 hc => ?_))) (fun H2 e2 => q H2 (e1.trans e2))
        have hg : x.cps.getD i 0 = c := by
          rw [Array.getD_eq_getD_getElem?, hc]
          rfl
        rw [hg]
        exact ev_call (ea_cons (ev_cb (ea_cons (ev_var rfl) ea_nil) rc_ord) ea_nil) spCh_v
    · have hS : isStr d = false := by simpa using hS
      rw [isT_not hS] at q
      refine' q_when (b := true) (et_is (et_or (a := true) (b := true) (et_is (et_not (et_B (ev_isiX (K := K) (ex_var rfl hd) (kit_str d)))) (by rw [hS]; rfl)) (fun h => nomatch h)) rfl) (fun hb H1 e1 => s_ret ev_c (fun H2 e2 => q H2 (e1.trans e2))) (fun hb => nomatch hb)
theorem ok_is_plain {n : Nat} {tN tT tP : Tok} {f f_i f_t f_c : Addr} {fd fd_i fd_t fd_c : FuncData} (F : Fun K "is_plain" "is_plain" s_is_plain f fd) (D_is_integer : Df K mg "is_integer" s_is_integer ["thing"] f_i fd_i) (D_is_text : Df K mg "is_text" s_is_text ["thing"] f_t fd_t) (D__may_stand_in_text : Df K mg "_may_stand_in_text" s__may_stand_in_text ["code"] f_c fd_c)
    (c_NUMBER_MOST : mg "NUMBER_MOST" = some (.int (10 ^ 18) tN)) (c_TEXT_MOST : mg "TEXT_MOST" = some (.int 200 tT)) (c__PERCENT : mg "_PERCENT" = some (.int 37 tP)) (T : Glo mg) : FnOk P w K mg base CX0 3 f fd ["thing"] (spB K n isP) := by
  have G_is_integer : FnOk P w K mg base CX0 1 f_i fd_i _ _ := ok_is_integer (n := n) D_is_integer.F c_NUMBER_MOST T
  have G_is_text : FnOk P w K mg base CX0 2 f_t fd_t _ _ := ok_is_text (n := n) D_is_text.F D__may_stand_in_text c_TEXT_MOST c__PERCENT T
  refine F.ok sc_is_plain (fun vs H Q E h => ?_) (fun cdv A outer s H vs Q E hr h => ?_)
  · obtain ⟨v, d, rfl, _⟩ := h
    rfl
  · obtain ⟨v, d, rfl, hd, ok, q⟩ := h
    refine ⟨_, (pss_one (ps_ret (pe_or (pe_call G_is_integer (hr.mono (by decide)) (by rfl) D_is_integer.g D_is_integer.F.kp D_is_integer.b .nil pass0 (pa_cons (pv 0) pa_nil)) (pe_one (pe_call G_is_text (hr.mono (by decide)) (by rfl) D_is_text.g D_is_text.F.kp D_is_text.b .nil pass0 (pa_cons (pv 0) pa_nil)))))), ?_⟩
    exact s_ret (ev_orV (a := isI d) (b := isT d) (ev_call (ea_cons (ev_var rfl) ea_nil) (spB_v hd ok)) (fun _ => ev_call (ea_cons (ev_var rfl) ea_nil) (spB_v hd ok))) q
theorem bnot_t {b : Bool} (h : (!b) = true) : b = false := by
  cases b with
  | false => rfl
  | true => cases h
theorem bnot_f {b : Bool} (h : (!b) = false) : b = true := by
  cases b with
  | true => rfl
  | false => cases h
theorem ok_is_deed {n : Nat} {tN tT tP tM : Tok} {f f_p f_i f_t f_c : Addr} {fd fd_p fd_i fd_t fd_c : FuncData} (F : Fun K "is_deed" "is_deed" s_is_deed f fd) (D_is_plain : Df K mg "is_plain" s_is_plain ["thing"] f_p fd_p) (D_is_integer : Df K mg "is_integer" s_is_integer ["thing"] f_i fd_i) (D_is_text : Df K mg "is_text" s_is_text ["thing"] f_t fd_t)
    (D__may_stand_in_text : Df K mg "_may_stand_in_text" s__may_stand_in_text ["code"] f_c fd_c) (c_NUMBER_MOST : mg "NUMBER_MOST" = some (.int (10 ^ 18) tN)) (c_TEXT_MOST : mg "TEXT_MOST" = some (.int 200 tT)) (c__PERCENT : mg "_PERCENT" = some (.int 37 tP)) (c__DEED_MOST : mg "_DEED_MOST" = some (.int 4 tM)) (T : Glo mg) : FnOk P w K mg base CX0 4 f fd ["thing"] (spB K (n + 1) isDeed) := by
  have G_is_plain : FnOk P w K mg base CX0 3 f_p fd_p _ _ := ok_is_plain (n := n) D_is_plain.F D_is_integer D_is_text D__may_stand_in_text c_NUMBER_MOST c_TEXT_MOST c__PERCENT T
  have G_is_text : FnOk P w K mg base CX0 2 f_t fd_t _ _ := ok_is_text (n := n) D_is_text.F D__may_stand_in_text c_TEXT_MOST c__PERCENT T
  refine F.ok sc_is_deed (fun vs H Q E h => ?_) (fun cdv A outer s H vs Q E hr h => ?_)
  · obtain ⟨v, d, rfl, _⟩ := h
    rfl
  · obtain ⟨v, d, rfl, hd, ok, q⟩ := h
    refine ⟨_, (pss_cons (ps_if (PW.pt (pw_or (pt_not (pt_val (pe_callB call_isi (by rfl) T.isinstance (by decide +kernel) (pa_cons (pv 0) (pa_cons (pe_bltn (v := .ty "tuple") (u := .type "tuple") (by rfl) T.tuple (by decide +kernel) rfl) pa_nil))))) (pw_or1 (pt_not (pt_chain op_le op_le pe_int (pe_callB call_len_seq (by rfl) T.len PySem.boot_len (pa_cons (pv 0) pa_nil)) (pe_glob (v := .int 4) rfl c__DEED_MOST ⟨_, rfl⟩))))))
  (pss_one (ps_ret pe_bl))
  pss_nil)
  (pss_cons (ps_if (PW.pt (pw_or (pt_not (pt_val (pe_call G_is_text (hr.mono (by decide)) (by rfl) D_is_text.g D_is_text.F.kp D_is_text.b .nil pass0 (pa_cons (pe_ix ix_tup (pv 0) pe_int (fun _ _ => rfl)) pa_nil)))) (pw_or1 (pt_cmpR op_eq (pe_ix ix_tup (pv 0) pe_int (fun _ _ => rfl)) pe_str (nomark _)))))
  (pss_one (ps_ret pe_bl))
  pss_nil)
  (pss_one (ps_ret (pe_callB (cr_all rfl) (by rfl) T.all (by decide +kernel) (pa_cons (pe_lc (own := [("item", 1)]) (g := gName 1) rfl sc_is_deed.nd (pi_tup (pv 0)) (blkOk_by (N := N_is_deed) (sc := defScope s_is_deed) (by decide +kernel)) (fun _ _ _ _ _ => (pg_name (i := 1) sc_is_deed.nd rfl (.inl rfl))) (fun _ _ _ _ _ => pts_nil) (fun _ _ _ _ _ => (pe_call G_is_plain (hr.mono (by decide)) (by rfl) D_is_plain.g D_is_plain.F.kp D_is_plain.b .nil pass0 (pa_cons (pv 1) pa_nil)))) pa_nil)))))), ?_⟩
    by_cases hT : isTup d = true
    · obtain ⟨ds, rfl⟩ := tup_of hT
      have hd' := hd
      cases ok with
      | tup hds hall =>
        have q : RetV (.bl (((decide (1 ≤ (ds.length : Int)) && decide ((ds.length : Int) ≤ 4)) && (isT (ds.getD 0 .none) && neS (ds.getD 0 .none))) && ds.all isP)) H Q := q
        refine' q_when (b := !(decide (1 ≤ (ds.length : Int)) && decide ((ds.length : Int) ≤ 4))) (et_is (et_or (a := false) (b := !(decide (1 ≤ (ds.length : Int)) && decide ((ds.length : Int) ≤ 4))) (et_is (et_not (et_B (ev_isiX (K := K) (ex_var rfl hd') (kit_tup _)))) rfl) (fun _ => et_not (et_test (ev_chain ev_c (ev_lenXT (K := K) (ex_var rfl hd)) rv_I0 ev_c rv_I0)))) (Bool.false_or _)) (fun hb H1 e1 => ?_) (fun hb H1 e1 => ?_)
        · have hb' : (decide (1 ≤ (ds.length : Int)) && decide ((ds.length : Int) ≤ 4)) = false := bnot_t hb
          rw [hb', Bool.false_and, Bool.false_and] at q
          exact s_ret ev_c (fun H2 e2 => q H2 (e1.trans e2))
        · have hb' : (decide (1 ≤ (ds.length : Int)) && decide ((ds.length : Int) ≤ 4)) = true := bnot_f hb
          rw [hb', Bool.true_and] at q
          have hlen : 1 ≤ (ds.length : Int) := of_decide_eq_true (Bool.and_eq_true_iff.mp hb').1
          cases hd with
          | @tup ta ys _ hs hda =>
            have hyl := dxa_len hda
            obtain ⟨d0, hd0⟩ : ∃ d0, ds[0]? = some d0 := ⟨ds[0]'(by omega), List.getElem?_eq_getElem (by omega)⟩
            have hg0 : ds.getD 0 .none = d0 := by rw [List.getD_eq_getElem?_getD, hd0]; rfl
            obtain ⟨x0, hx0, hdx0⟩ := dxa_at hda hd0
            have ok0 := hall d0 (List.mem_of_getElem? hd0)
            have hix : atI ys 0 = some x0 := atI_nat hx0
            rw [hg0] at q
            have hs1 := ex_t e1 hs
            refine' q_when (b := !isT d0 || !neS d0) (et_or (a := !isT d0) (b := !neS d0) (et_not (et_B (ev_call (ea_cons (ev_op (ev_var rfl) ev_c (rv_ixT hs1 hix)) ea_nil) (spB_v (dx_mono e1 _ _ hdx0) ok0)))) (fun hx => ?_)) (fun hb H2 e2 => ?_) (fun hb H2 e2 => ?_)
            · have hT0 : isT d0 = true := by simpa using hx
              obtain ⟨x, rfl⟩ : ∃ x, d0 = .str x := by
                cases d0 <;> simp_all [isT]
              cases hdx0
              refine et_is (et_test (ev_op (ev_op (ev_var rfl) ev_c (rv_ixT hs1 hix)) ev_c (rv_eq rfl))) ?_
              show _ = !(!decide (V.str x = V.str ""))
              rw [Bool.not_not]
            · have : (isT d0 && neS d0) = false := by
                cases h1 : isT d0 <;> cases h2 : neS d0 <;> simp_all
              rw [this, Bool.false_and] at q
              exact s_ret ev_c (fun H3 e3 => q H3 ((e1.trans e2).trans e3))
            · have : (isT d0 && neS d0) = true := by
                cases h1 : isT d0 <;> cases h2 : neS d0 <;> simp_all
              rw [this, Bool.true_and] at q
              have hmap := given_map ds isP
              have q2 : RetV (.bl ((ds.map isP).all id)) H Q := by
                rw [List.all_map]
                exact q
              refine s_ret (ev_all (K := K) (bs := ds.map isP) (hmap ▸ hyl ▸ el_lcT (K := K) (fun i => V.bl (isP (ds.getD i .none))) (ev_var rfl) (ex_t (e1.trans e2) hs) (by omega) (fun _ => rfl) (fun x H3 e3 => et_nil) (fun i x H3 e3 hx => ?_))) (fun H3 e3 => q2 H3 ((e1.trans e2).trans e3))
              obtain ⟨di, hdi, hdx⟩ := dxa_atV hda hx
              rw [List.getD_eq_getElem?_getD, hdi]
              exact ev_call (ea_cons (ev_var rfl) ea_nil) (spB_v (dx_mono ((e1.trans e2).trans e3) _ _ hdx) (hall di (List.mem_of_getElem? hdi)))
    · have hT : isTup d = false := by simpa using hT
      have : isDeed d = false := by
        cases d <;> simp_all [isTup, isDeed]
      rw [this] at q
      exact q_when (b := true) (et_is (et_or (a := true) (b := true) (et_is (et_not (et_B (ev_isiX (K := K) (ex_var rfl hd) (kit_tup d)))) (by rw [hT]; rfl)) (fun h => nomatch h)) rfl) (fun hb H1 e1 => s_ret ev_c (fun H2 e2 => q H2 (e1.trans e2))) (fun hb => nomatch hb)
def spLStream : Sp := fun vs H Q _ => ∃ (c k : Int) (B : Hp) (F : List MP), vs = [.int c, .int k] ∧ At B F H ∧ 0 ≤ k ∧ k < 1000 ∧ ∀ s H1, At B (StM s :: F) H1 → Q (.ref s) H1
theorem ok_lstream {f : Addr} {fd : FuncData} (F : Fun K "_law_stream" "_law_stream" s__law_stream f fd) (T : Glo mg) : FnOk P w K mg base CX0 1 f fd ["cell", "k"] spLStream := by
  refine F.ok sc__law_stream (fun vs H Q E h => ?_) (fun cdv A outer s H vs Q E hr h => ?_)
  · obtain ⟨c, k, B, F, rfl, _⟩ := h
    rfl
  · obtain ⟨c, k, B, Fr, rfl, hA, hk, hk2, q⟩ := h
    refine ⟨_, (pss_cons (ps_set (i := 2) sc__law_stream.nd rfl (.inl rfl) pe_int)
  (pss_cons (ps_if (pt_cmpR op_ge (pv 0) (pe_op op_pow pe_int pe_int) (nomark _))
  (pss_one (ps_set (i := 2) sc__law_stream.nd rfl (.inl rfl) (pv 0)))
  pss_nil)
  (pss_one (ps_ret (pe_lst (pa_cons (pv 2) (pa_cons (pe_op op_mod (pe_callTy call_int1 (by rfl) T.int (by decide +kernel) (pa_cons (pe_op op_add (pe_op op_add (pe_op op_mul (pv 0) pe_int) (pe_op op_mul (pv 1) pe_int)) pe_int) pa_nil)) pe_int) pa_nil))))))), ?_⟩
    refine q_asg ev_c fun H1 e1 => ?_
    have hA1 := at_ex hA e1
    have m0 : (0 : Int) ≤ (c * 48271 + k * 69621 + 77) % 2147483647 := Int.emod_nonneg _ (by decide)
    have m1 : (c * 48271 + k * 69621 + 77) % 2147483647 < 2147483647 := Int.emod_lt_of_pos _ (by decide)
    refine' qe_when hA1 ?c (fun hb H2 hA => ?_) (fun hb H2 hA => ?_)
    case c => walk_at "ev"
    · have hb := of_decide_eq_true hb
      have hp : (10 : Int) ^ (18 : Int).toNat = 1000000000000000000 := by decide
      refine se_asg hA (ev_var rfl) fun H3 hA => ?_
      dsimp only
      refine' re_lst hA (el_lst ?c1 ?len1) (fun p H4 hA => ?_)
      case c1 => walk_at "ev"
      case len1 => show (2 : Nat) ≤ 100000; decide
      exact q p H4 (st_mk (by omega) m0 (by omega) hA)
    · refine' re_lst hA (el_lst ?c2 ?len2) (fun p H4 hA => ?_)
      case c2 => walk_at "ev"
      case len2 => show (2 : Nat) ≤ 100000; decide
      exact q p H4 (st_mk (by decide) m0 (by omega) hA)
theorem ok_lnext {f : Addr} {fd : FuncData} (F : Fun K "_law_next" "_law_next" s__law_next f fd) (T : Glo mg) : FnOk P w K mg base CX0 1 f fd ["stream", "size"] spNext := by
  refine F.ok sc__law_next (fun vs H Q E h => ?_) (fun cdv A outer s H vs Q E hr h => ?_)
  · obtain ⟨s, n, B, F, rfl, _⟩ := h
    rfl
  · obtain ⟨s, n, B, Fr, rfl, hA, hn, hn2, q⟩ := h
    refine ⟨_, (pss_cons (ps_if (pt_cmpR op_gt (pe_ix ix_list (pv 0) pe_int (fun _ _ => rfl)) pe_int (nomark _))
  (pss_cons (ps_set (i := 2) sc__law_next.nd rfl (.inl rfl) (pe_op op_mod (pe_callTy call_int1 (by rfl) T.int (by decide +kernel) (pa_cons (pe_ix ix_list (pv 0) pe_int (fun _ _ => rfl)) pa_nil)) (pv 1)))
  (pss_cons (ps_asg (pe_op op_fdivW (pe_ix ix_list (pv 0) pe_int (fun _ _ => rfl)) (pv 1)) (pg_sub (pv 0) pe_int set_list))
  (pss_one (ps_ret (pv 2)))))
  pss_nil)
  (pss_cons (ps_asg (pe_op op_mod (pe_callTy call_int1 (by rfl) T.int (by decide +kernel) (pa_cons (pe_op op_add (pe_op op_mul (pe_ix ix_list (pv 0) pe_int (fun _ _ => rfl)) pe_int) pe_int) pa_nil)) pe_int) (pg_sub (pv 0) pe_int set_list))
  (pss_one (ps_ret (pe_op op_mod (pe_callTy call_int1 (by rfl) T.int (by decide +kernel) (pa_cons (pe_op op_fdiv (pe_op op_mod (pe_callTy call_int1 (by rfl) T.int (by decide +kernel) (pa_cons (pe_op op_add (pe_op op_mul (pe_ix ix_list (pv 0) pe_int (fun _ _ => rfl)) pe_int) pe_int) pa_nil)) pe_int) pe_int) pa_nil)) (pv 1)))))), ?_⟩
    obtain ⟨a, b, ha, hb0, hb1, hA⟩ := st_open hA
    have hS := sq_of (K := K) (at_get 0 rfl hA)
    refine' qe_when hA ?c (fun hb H2 hA => ?_) (fun hb H2 hA => ?_)
    case c => walk_at "ev"
    · have hS := sq_of (K := K) (at_get 0 rfl hA)
      have cw : CDivW a n := wide_div hn (b := 100) (by omega) (by decide) (by decide)
      refine' qe_asg hA ?c (fun H3 hA => ?_)
      case c => walk_at "ev"
      have hS := sq_of (K := K) (at_get 0 rfl hA)
      refine' qe_set (i := 0) (m := 0) 0 rfl hA ?c (fun H1 => ev_var rfl) (fun H1 => ev_c) rfl (fun H4 hA => ?_)
      case c => exact ev_op (by walk_at "ev") (ev_var rfl) (rv_I cw)
      exact se_ret hA (ev_var rfl) fun H5 hA => q _ H5 (Int.emod_nonneg _ (by omega)) (Int.emod_lt_of_pos _ hn) (st_mk (Int.ediv_nonneg ha (by omega)) hb0 hb1 hA)
    · have hS := sq_of (K := K) (at_get 0 rfl hA)
      have m0 : (0 : Int) ≤ (b * 48271 + 12820163) % 2147483647 := Int.emod_nonneg _ (by decide)
      have m1 : (b * 48271 + 12820163) % 2147483647 < 2147483647 := Int.emod_lt_of_pos _ (by decide)
      refine' qe_set (i := 1) (m := 1) 0 rfl hA ?c (fun H1 => ev_var rfl) (fun H1 => ev_c) rfl (fun H4 hA => ?_)
      case c => walk_at "ev"
      have hS := sq_of (K := K) (at_get 0 rfl hA)
      refine' se_ret hA ?c (fun H5 hA => ?_)
      case c => exact ev_op (by walk_at "ev") (ev_var rfl) (rv_I hn)
      exact q _ H5 (Int.emod_nonneg _ (by omega)) (Int.emod_lt_of_pos _ hn) (st_mk ha m0 (by omega) hA)
theorem isI_iff {i : Int} (h0 : -1000000000000000000 ≤ i) (h1 : i ≤ 1000000000000000000) : isI (.int i) = true := by
  show (decide (-(10 ^ 18) ≤ i) && decide (i ≤ 10 ^ 18)) = true
  rw [decide_eq_true (by omega), decide_eq_true (by omega)]
  rfl
theorem wv_p9 {σ : L2.St} {B : Hp} {l : List MP} : Wv (tOp (rI CPow fun i j => .int (i ^ j.toNat)) (tC (.int 10)) (tC (.int 9))) σ B l (rN fun r => r = 1000000000) := wv_i fun H => by
  refine' ev_is ?c ?d
  case c => walk_at "ev"
  case d => rfl
theorem wv_p18 {σ : L2.St} {B : Hp} {l : List MP} : Wv (tOp (rI CPow fun i j => .int (i ^ j.toNat)) (tC (.int 10)) (tC (.int 18))) σ B l (rN fun r => r = 1000000000000000000) := wv_i fun H => by
  refine' ev_is ?c ?d
  case c => walk_at "ev"
  case d => rfl
theorem ev_p9 {σ : L2.St} {H : Hp} : Ev (tOp (rI CPow fun i j => .int (i ^ j.toNat)) (tC (.int 10)) (tC (.int 9))) σ H (.int 1000000000) := by
  refine' ev_is ?c ?d
  case c => walk_at "ev"
  case d => rfl
/-- a number below 10 ** 18, of two draws -/
theorem wv_big {σ : L2.St} {B : Hp} {l : List MP} {s : Addr} {E : XK} (j : Nat) (hj : l[j]? = some (StM s)) {i : Nat} (hs : σ[i]? = some (some (.ref s))) : Wv (tOp (rI0 fun i j => .int (i + j)) (tOp (rI CMul fun i j => .int (i * j)) (tCall spNext [] E (tCons (tVar i) (tCons (tOp (rI CPow fun i j => .int (i ^ j.toNat)) (tC (.int 10)) (tC (.int 9))) tNil))) (tOp (rI CPow fun i j => .int (i ^ j.toNat)) (tC (.int 10)) (tC (.int 9))))
    (tCall spNext [] E (tCons (tVar i) (tCons (tOp (rI CPow fun i j => .int (i ^ j.toNat)) (tC (.int 10)) (tC (.int 9))) tNil)))) σ B l (rN fun r => 0 ≤ r ∧ r < 1000000000000000000) :=
  wv_addW (φ := fun r => 0 ≤ r ∧ r ≤ 999999999000000000) (wv_mulW (wv_next j hj hs (fun H => ev_p9) (by decide) (by decide)) wv_p9 fun i j hi hj => by
    have hj : j = 1000000000 := hj
    have hi : 0 ≤ i ∧ i < 1000000000 := hi
    subst hj
    exact ⟨.inr ⟨by omega, by omega⟩, by omega, by omega⟩) (wv_next j hj hs (fun H => ev_p9) (by decide) (by decide)) fun i j hi hj => by
    have hi : 0 ≤ i ∧ i ≤ 999999999000000000 := hi
    have hj : 0 ≤ j ∧ j < 1000000000 := hj
    exact ⟨by omega, by omega⟩
def kOk : PyData → Bool
  | .str x => inV (.str x) [.str "journal", .str "manager", .str "client"]
  | _ => false
def isMach : PyData → Bool
  | .tuple ds => decide (ds.length = 2) && (kOk (ds.getD 0 .none) && isN (ds.getD 1 .none))
  | _ => false
def isLogV : PyData → Bool
  | .tuple ds => decide (ds.length = 3) && (isN (ds.getD 0 .none) && isTup (ds.getD 2 .none))
  | _ => false
def fitK (k : Str) (d : PyData) : Bool := if decide (V.str k = V.str "number") = true then isN d else if decide (V.str k = V.str "count") = true then isN d && geB 1 d else if decide (V.str k = V.str "deed") = true then isDeed d else if decide (V.str k = V.str "log") = true then isLogV d else if decide (V.str k = V.str "tuple") = true then isTup d else true
theorem ev_notInT {σ : L2.St} {H : Hp} {ta : TE} {tb : TA} {x : V} {vs : List V} (ha : Ev ta σ H x) (hb : ∀ H1, EvA tb σ H1 vs) (fx : flatV x = true) (fs : vs.all flatV = true) (hl : vs.length ≤ 100000) : Ev (tOp (rIn K true) ta (tTup tb)) σ H (.bl (!inV x vs)) := fun H1 e Q q => ha H1 e _ fun H2 e2 => hb H2 H2 (Ex.refl H2) _ fun H3 e3 => ⟨sz_of hl, fun p np => ⟨p, vs, rfl, .inr (st_of upd_same), fx, fs, q _ ((e2.trans e3).trans (Ex.new np))⟩⟩
theorem okd_up {n : Nat} {ds : List PyData} (hall : ∀ d, d ∈ ds → Okd n d) : ∀ d, d ∈ ds → Okd (n + 1) d := fun d hd => (hall d hd).mono (Nat.le_succ n)
/-- not a tuple: False at once -/
theorem q_notT {σ : L2.St} {H : Hp} {D : Ends} {tz tu : TS} {te : TE} {tr : TT} {d : PyData} (h : EvX K te σ H d) (hT : isTup d = false) (k : ∀ H1, Ex H H1 → tu { D with nx := tz D } σ H1) : tSeq (tIfS (tOr (tNot (tB (tCB (rIsi K) (tCons te (tCons (tC (.ty "tuple")) tNil))))) tr) tu tNext) tz D σ H :=
  q_when (b := true) (et_is (et_or (a := true) (b := true) (et_is (et_not (et_B (ev_isiX (K := K) h (kit_tup d)))) (by rw [hT]; rfl)) (fun h => nomatch h)) rfl) (fun hb H1 e1 => k H1 e1) (fun hb => nomatch hb)
theorem q_isT {σ : L2.St} {H : Hp} {D : Ends} {tz tu : TS} {te : TE} {tr : TT} {b : Bool} {ds : List PyData} (h : EvX K te σ H (.tuple ds)) (hr : EvT tr σ H b) (k1 : b = true → ∀ H1, Ex H H1 → tu { D with nx := tz D } σ H1) (k2 : b = false → ∀ H1, Ex H H1 → tz D σ H1) : tSeq (tIfS (tOr (tNot (tB (tCB (rIsi K) (tCons te (tCons (tC (.ty "tuple")) tNil))))) tr) tu tNext) tz D σ H :=
  q_when (b := b) (et_is (et_or (a := false) (b := b) (et_is (et_not (et_B (ev_isiX (K := K) h (kit_tup _)))) rfl) (fun _ => hr)) (Bool.false_or b)) k1 k2
theorem et_lenNe {σ : L2.St} {H : Hp} {te : TE} {ds : List PyData} {n : Nat} (h : EvX K te σ H (.tuple ds)) : EvT (tTest (tOp rNe (tCB (fun xs H Q => ∃ p ys, xs = [.ref p] ∧ (SqL K H p ys ∨ SqT K H p ys) ∧ Q (.int ys.length) H) (tCons te tNil)) (tC (.int (n : Int))))) σ H (!decide (ds.length = n)) :=
  et_is (et_test (ev_op (ev_lenXT (K := K) h) ev_c (rv_ne rfl))) (by
    by_cases e : ds.length = n
    · rw [e]; simp
    · rw [decide_eq_false e, decide_eq_false (fun h => by have := V.int.inj h; omega)])
theorem ok_is_machine {tN tJ tMa tC : Tok} {f f_i f_n : Addr} {fd fd_i fd_n : FuncData} (F : Fun K "is_machine" "is_machine" s_is_machine f fd) (D_is_integer : Df K mg "is_integer" s_is_integer ["thing"] f_i fd_i) (D_is_number : Df K mg "is_number" s_is_number ["thing"] f_n fd_n)
    (c_NUMBER_MOST : mg "NUMBER_MOST" = some (.int (10 ^ 18) tN)) (c_JOURNAL : mg "JOURNAL" = some (.str "journal" tJ)) (c_MANAGER : mg "MANAGER" = some (.str "manager" tMa)) (c_CLIENT : mg "CLIENT" = some (.str "client" tC)) (T : Glo mg) : FnOk P w K mg base CX0 3 f fd ["thing"] (spB K 8 isMach) := by
  have G_is_number : FnOk P w K mg base CX0 2 f_n fd_n _ _ := ok_is_number (n := 8) D_is_number.F D_is_integer c_NUMBER_MOST T
  refine F.ok sc_is_machine (fun vs H Q E h => ?_) (fun cdv A outer s H vs Q E hr h => ?_)
  · obtain ⟨v, d, rfl, _⟩ := h
    rfl
  · obtain ⟨v, d, rfl, hd, ok, q⟩ := h
    refine ⟨_, (pss_cons (ps_if (PW.pt (pw_or (pt_not (pt_val (pe_callB call_isi (by rfl) T.isinstance (by decide +kernel) (pa_cons (pv 0) (pa_cons (pe_bltn (v := .ty "tuple") (u := .type "tuple") (by rfl) T.tuple (by decide +kernel) rfl) pa_nil))))) (pw_or1 (pt_cmpR op_ne (pe_callB call_len_seq (by rfl) T.len PySem.boot_len (pa_cons (pv 0) pa_nil)) pe_int (nomark _)))))
  (pss_one (ps_ret pe_bl))
  pss_nil)
  (pss_cons (ps_asg (pv 0) (pg_tup (by rfl) (pgs_cons (pg_name (i := 1) sc_is_machine.nd rfl (.inl rfl)) (pgs_cons (pg_name (i := 2) sc_is_machine.nd rfl (.inl rfl)) pgs_nil))))
  (pss_cons (ps_if (PW.pt (pw_or (pt_not (pt_val (pe_callB call_isi (by rfl) T.isinstance (by decide +kernel) (pa_cons (pv 1) (pa_cons (pe_bltn (v := .ty "str") (u := .type "str") (by rfl) T.str (by decide +kernel) rfl) pa_nil))))) (pw_or1 (pt_cmpR (show OpR _ _ (rIn K true) from op_notIn_seq) (pv 1) (pe_tup (pa_cons (pe_glob (v := .str "journal") rfl c_JOURNAL ⟨_, rfl⟩) (pa_cons (pe_glob (v := .str "manager") rfl c_MANAGER ⟨_, rfl⟩) (pa_cons (pe_glob (v := .str "client") rfl c_CLIENT ⟨_, rfl⟩) pa_nil)))) (by rfl)))))
  (pss_one (ps_ret pe_bl))
  pss_nil)
  (pss_one (ps_ret (pe_call G_is_number (hr.mono (by decide)) (by rfl) D_is_number.g D_is_number.F.kp D_is_number.b .nil pass0 (pa_cons (pv 2) pa_nil))))))), ?_⟩
    by_cases hT : isTup d = true
    · obtain ⟨ds, rfl⟩ := tup_of hT
      have hd' := hd
      cases ok with
      | tup hds hall =>
        have hall := okd_up hall
        have q : RetV (.bl (decide (ds.length = 2) && (kOk (ds.getD 0 .none) && isN (ds.getD 1 .none)))) H Q := q
        refine q_isT (K := K) (ex_var rfl hd') (et_lenNe (K := K) (n := 2) (ex_var rfl hd')) (fun hb H1 e1 => ?_) (fun hb H1 e1 => ?_)
        · rw [bnot_t hb, Bool.false_and] at q
          exact s_ret ev_c (fun H2 e2 => q H2 (e1.trans e2))
        · rw [bnot_f hb, Bool.true_and] at q
          have h2 : ds.length = 2 := of_decide_eq_true (bnot_f hb)
          cases hd with
          | @tup ta ys _ hs hda =>
            obtain ⟨d0, d1, rfl⟩ : ∃ d0 d1, ds = [d0, d1] := by
              match ds, h2 with
              | [a, b], _ => exact ⟨a, b, rfl⟩
            have o0 := hall d0 List.mem_cons_self
            have o1 := hall d1 (List.mem_cons_of_mem _ List.mem_cons_self)
            cases hda with
            | @cons x0 _ _ _ g0 r0 => cases r0 with
              | @cons x1 _ _ _ g1 r1 =>
                cases r1
                refine ⟨.ref ta, rfl, ta, _, rfl, ex_t e1 hs, rfl, x0, _, rfl, x1, _, rfl, rfl, ?_⟩
                have f0 := dx_mono e1 _ _ g0
                have f1 := dx_mono e1 _ _ g1
                have q : RetV (.bl (kOk d0 && isN d1)) H Q := q
                by_cases hS : isStr d0 = true
                · obtain ⟨x, rfl⟩ := str_of hS
                  cases f0
                  have q : RetV (.bl (inV (.str x) [.str "journal", .str "manager", .str "client"] && isN d1)) H Q := q
                  refine' q_when (b := !inV (.str x) [.str "journal", .str "manager", .str "client"]) (et_is (et_or (a := false) (b := !inV (.str x) [.str "journal", .str "manager", .str "client"]) (et_is (et_not (et_B (ev_isiX (K := K) (ex_var rfl (.str x)) (kit_str _)))) rfl) (fun _ => et_test (ev_notInT (K := K) (ev_var rfl) (fun H => ea_cons ev_c (ea_cons ev_c (ea_cons ev_c ea_nil))) rfl rfl (by show 3 ≤ 100000; decide)))) (Bool.false_or _)) (fun hb H2 e2 => ?_) (fun hb H2 e2 => ?_)
                  · rw [bnot_t hb, Bool.false_and] at q
                    exact s_ret ev_c (fun H3 e3 => q H3 ((e1.trans e2).trans e3))
                  · rw [bnot_f hb, Bool.true_and] at q
                    exact s_ret (ev_call (ea_cons (ev_var rfl) ea_nil) (spB_v (dx_mono e2 _ _ f1) o1)) (fun H3 e3 => q H3 ((e1.trans e2).trans e3))
                · have hS : isStr d0 = false := by simpa using hS
                  have : kOk d0 = false := by
                    cases d0 <;> simp_all [isStr, kOk]
                  rw [this, Bool.false_and] at q
                  exact q_when (b := true) (et_is (et_or (a := true) (b := true) (et_is (et_not (et_B (ev_isiX (K := K) (ex_var rfl f0) (kit_str d0)))) (by rw [hS]; rfl)) (fun h => nomatch h)) rfl) (fun hb H2 e2 => s_ret ev_c (fun H3 e3 => q H3 ((e1.trans e2).trans e3))) (fun hb => nomatch hb)
    · have hT : isTup d = false := by simpa using hT
      have : isMach d = false := by
        cases d <;> simp_all [isTup, isMach]
      rw [this] at q
      exact q_notT (K := K) (ex_var rfl hd) hT (fun H1 e1 => s_ret ev_c (fun H2 e2 => q H2 (e1.trans e2)))
theorem ok_is_logv {tN : Tok} {f f_i f_n : Addr} {fd fd_i fd_n : FuncData} (F : Fun K "_is_log_value" "_is_log_value" s__is_log_value f fd) (D_is_integer : Df K mg "is_integer" s_is_integer ["thing"] f_i fd_i) (D_is_number : Df K mg "is_number" s_is_number ["thing"] f_n fd_n)
    (c_NUMBER_MOST : mg "NUMBER_MOST" = some (.int (10 ^ 18) tN)) (T : Glo mg) : FnOk P w K mg base CX0 3 f fd ["thing"] (spB K 8 isLogV) := by
  have G_is_number : FnOk P w K mg base CX0 2 f_n fd_n _ _ := ok_is_number (n := 8) D_is_number.F D_is_integer c_NUMBER_MOST T
  refine F.ok sc__is_log_value (fun vs H Q E h => ?_) (fun cdv A outer s H vs Q E hr h => ?_)
  · obtain ⟨v, d, rfl, _⟩ := h
    rfl
  · obtain ⟨v, d, rfl, hd, ok, q⟩ := h
    refine ⟨_, (pss_cons (ps_if (PW.pt (pw_or (pt_not (pt_val (pe_callB call_isi (by rfl) T.isinstance (by decide +kernel) (pa_cons (pv 0) (pa_cons (pe_bltn (v := .ty "tuple") (u := .type "tuple") (by rfl) T.tuple (by decide +kernel) rfl) pa_nil))))) (pw_or1 (pt_cmpR op_ne (pe_callB call_len_seq (by rfl) T.len PySem.boot_len (pa_cons (pv 0) pa_nil)) pe_int (nomark _)))))
  (pss_one (ps_ret pe_bl))
  pss_nil)
  (pss_one (ps_ret (pe_and (pe_call G_is_number (hr.mono (by decide)) (by rfl) D_is_number.g D_is_number.F.kp D_is_number.b .nil pass0 (pa_cons (pe_ix ix_tup (pv 0) pe_int (fun _ _ => rfl)) pa_nil)) (pe_one (pe_callB call_isi (by rfl) T.isinstance (by decide +kernel) (pa_cons (pe_ix ix_tup (pv 0) pe_int (fun _ _ => rfl)) (pa_cons (pe_bltn (v := .ty "tuple") (u := .type "tuple") (by rfl) T.tuple (by decide +kernel) rfl) pa_nil)))))))), ?_⟩
    by_cases hT : isTup d = true
    · obtain ⟨ds, rfl⟩ := tup_of hT
      have hd' := hd
      cases ok with
      | tup hds hall =>
        have hall := okd_up hall
        have q : RetV (.bl (decide (ds.length = 3) && (isN (ds.getD 0 .none) && isTup (ds.getD 2 .none)))) H Q := q
        refine q_isT (K := K) (ex_var rfl hd') (et_lenNe (K := K) (n := 3) (ex_var rfl hd')) (fun hb H1 e1 => ?_) (fun hb H1 e1 => ?_)
        · rw [bnot_t hb, Bool.false_and] at q
          exact s_ret ev_c (fun H2 e2 => q H2 (e1.trans e2))
        · rw [bnot_f hb, Bool.true_and] at q
          have h3 : ds.length = 3 := of_decide_eq_true (bnot_f hb)
          cases hd with
          | @tup ta ys _ hs hda =>
            obtain ⟨d0, d1, d2, rfl⟩ : ∃ d0 d1 d2, ds = [d0, d1, d2] := by
              match ds, h3 with
              | [a, b, c], _ => exact ⟨a, b, c, rfl⟩
            have o0 := hall d0 List.mem_cons_self
            have hs1 := ex_t e1 hs
            cases hda with
            | @cons x0 _ _ _ g0 r0 => cases r0 with
              | @cons x1 _ _ _ g1 r1 => cases r1 with
                | @cons x2 _ _ _ g2 r2 =>
                  cases r2
                  exact s_ret (ev_andV (a := isN d0) (b := isTup d2) (ev_call (ea_cons (ev_op (ev_var rfl) ev_c (rv_ixT hs1 rfl)) ea_nil) (spB_v (dx_mono e1 _ _ g0) o0)) (fun _ => ev_isiX (K := K) (ex_of (ev_op (ev_var rfl) ev_c (rv_ixT hs1 rfl)) (dx_mono e1 _ _ g2)) (kit_tup d2))) (fun H2 e2 => q H2 (e1.trans e2))
    · have hT : isTup d = false := by simpa using hT
      have : isLogV d = false := by
        cases d <;> simp_all [isTup, isLogV]
      rw [this] at q
      exact q_notT (K := K) (ex_var rfl hd) hT (fun H1 e1 => s_ret ev_c (fun H2 e2 => q H2 (e1.trans e2)))
def spFits (K : PySem.W.Frag) : Sp := fun vs H Q _ => ∃ (v : V) (d : PyData) (k : Str), vs = [v, .str k] ∧ Dx K H v d ∧ Okd 8 d ∧ RetV (.bl (fitK k d)) H Q
theorem spFits_v {H : Hp} {v : V} {d : PyData} {k : Str} (h : Dx K H v d) (ok : Okd 8 d) : SpV (spFits K) [v, .str k] H (.bl (fitK k d)) := fun H1 e Q q _ => ⟨v, d, k, rfl, dx_mono e _ _ h, ok, fun H2 e2 => q H2 e2⟩
theorem ok_fits {tN tT tP tM : Tok} {f f_l f_d f_p f_i f_n f_t f_c : Addr} {fd fd_l fd_d fd_p fd_i fd_n fd_t fd_c : FuncData} (F : Fun K "_fits" "_fits" s__fits f fd) (D__is_log_value : Df K mg "_is_log_value" s__is_log_value ["thing"] f_l fd_l) (D_is_deed : Df K mg "is_deed" s_is_deed ["thing"] f_d fd_d) (D_is_plain : Df K mg "is_plain" s_is_plain ["thing"] f_p fd_p) (D_is_integer : Df K mg "is_integer" s_is_integer ["thing"] f_i fd_i) (D_is_number : Df K mg "is_number" s_is_number ["thing"] f_n fd_n) (D_is_text : Df K mg "is_text" s_is_text ["thing"] f_t fd_t)
    (D__may_stand_in_text : Df K mg "_may_stand_in_text" s__may_stand_in_text ["code"] f_c fd_c) (c_NUMBER_MOST : mg "NUMBER_MOST" = some (.int (10 ^ 18) tN)) (c_TEXT_MOST : mg "TEXT_MOST" = some (.int 200 tT)) (c__PERCENT : mg "_PERCENT" = some (.int 37 tP)) (c__DEED_MOST : mg "_DEED_MOST" = some (.int 4 tM)) (T : Glo mg) : FnOk P w K mg base CX0 5 f fd ["item", "kind"] (spFits K) := by
  have G_is_number : FnOk P w K mg base CX0 2 f_n fd_n _ _ := ok_is_number (n := 8) D_is_number.F D_is_integer c_NUMBER_MOST T
  have G_is_deed : FnOk P w K mg base CX0 4 f_d fd_d _ _ := ok_is_deed (n := 7) D_is_deed.F D_is_plain D_is_integer D_is_text D__may_stand_in_text c_NUMBER_MOST c_TEXT_MOST c__PERCENT c__DEED_MOST T
  have G__is_log_value : FnOk P w K mg base CX0 3 f_l fd_l _ _ := ok_is_logv D__is_log_value.F D_is_integer D_is_number c_NUMBER_MOST T
  refine F.ok sc__fits (fun vs H Q E h => ?_) (fun cdv A outer s H vs Q E hr h => ?_)
  · obtain ⟨v, d, k, rfl, _⟩ := h
    rfl
  · obtain ⟨v, d, k, rfl, hd, ok, q⟩ := h
    refine ⟨_, (pss_cons (ps_if (pt_cmpR op_eq (pv 1) pe_str (nomark _))
  (pss_one (ps_ret (pe_call G_is_number (hr.mono (by decide)) (by rfl) D_is_number.g D_is_number.F.kp D_is_number.b .nil pass0 (pa_cons (pv 0) pa_nil))))
  pss_nil)
  (pss_cons (ps_if (pt_cmpR op_eq (pv 1) pe_str (nomark _))
  (pss_one (ps_ret (pe_and (pe_call G_is_number (hr.mono (by decide)) (by rfl) D_is_number.g D_is_number.F.kp D_is_number.b .nil pass0 (pa_cons (pv 0) pa_nil)) (pe_one (pe_cmpR op_ge (pv 0) pe_int (nomark _))))))
  pss_nil)
  (pss_cons (ps_if (pt_cmpR op_eq (pv 1) pe_str (nomark _))
  (pss_one (ps_ret (pe_call G_is_deed (hr.mono (by decide)) (by rfl) D_is_deed.g D_is_deed.F.kp D_is_deed.b .nil pass0 (pa_cons (pv 0) pa_nil))))
  pss_nil)
  (pss_cons (ps_if (pt_cmpR op_eq (pv 1) pe_str (nomark _))
  (pss_one (ps_ret (pe_call G__is_log_value (hr.mono (by decide)) (by rfl) D__is_log_value.g D__is_log_value.F.kp D__is_log_value.b .nil pass0 (pa_cons (pv 0) pa_nil))))
  pss_nil)
  (pss_cons (ps_if (pt_cmpR op_eq (pv 1) pe_str (nomark _))
  (pss_one (ps_ret (pe_callB call_isi (by rfl) T.isinstance (by decide +kernel) (pa_cons (pv 0) (pa_cons (pe_bltn (v := .ty "tuple") (u := .type "tuple") (by rfl) T.tuple (by decide +kernel) rfl) pa_nil)))))
  pss_nil)
  (pss_one (ps_ret pe_bl))))))), ?_⟩
    unfold fitK at q
    refine q_when (b := decide (V.str k = V.str "number")) (et_test (ev_op (ev_var rfl) ev_c (rv_eq rfl))) (fun hb H1 e1 => ?_) (fun hb H1 e1 => ?_)
    · rw [hb, if_pos rfl] at q
      exact s_ret (ev_call (ea_cons (ev_var rfl) ea_nil) (spB_v (dx_mono e1 _ _ hd) ok)) (fun H2 e2 => q H2 (e1.trans e2))
    rw [hb, if_neg (by decide)] at q
    have hd := dx_mono e1 _ _ hd
    refine q_when (b := decide (V.str k = V.str "count")) (et_test (ev_op (ev_var rfl) ev_c (rv_eq rfl))) (fun hb H2 e2 => ?_) (fun hb H2 e2 => ?_)
    · rw [hb, if_pos rfl] at q
      have hd := dx_mono e2 _ _ hd
      refine s_ret (ev_andV (a := isN d) (b := geB 1 d) (ev_call (ea_cons (ev_var rfl) ea_nil) (spB_v hd ok)) (fun hN => ?_)) (fun H3 e3 => q H3 ((e1.trans e2).trans e3))
      cases hd with
      | int i => exact ev_op (ev_var rfl) ev_c rv_I0
      | _ => exact absurd hN (by simp [isN, isI])
    rw [hb, if_neg (by decide)] at q
    have hd := dx_mono e2 _ _ hd
    refine q_when (b := decide (V.str k = V.str "deed")) (et_test (ev_op (ev_var rfl) ev_c (rv_eq rfl))) (fun hb H3 e3 => ?_) (fun hb H3 e3 => ?_)
    · rw [hb, if_pos rfl] at q
      exact s_ret (ev_call (ea_cons (ev_var rfl) ea_nil) (spB_v (dx_mono e3 _ _ hd) ok)) (fun H4 e4 => q H4 (((e1.trans e2).trans e3).trans e4))
    rw [hb, if_neg (by decide)] at q
    have hd := dx_mono e3 _ _ hd
    refine q_when (b := decide (V.str k = V.str "log")) (et_test (ev_op (ev_var rfl) ev_c (rv_eq rfl))) (fun hb H4 e4 => ?_) (fun hb H4 e4 => ?_)
    · rw [hb, if_pos rfl] at q
      exact s_ret (ev_call (ea_cons (ev_var rfl) ea_nil) (spB_v (dx_mono e4 _ _ hd) ok)) (fun H5 e5 => q H5 ((((e1.trans e2).trans e3).trans e4).trans e5))
    rw [hb, if_neg (by decide)] at q
    have hd := dx_mono e4 _ _ hd
    refine q_when (b := decide (V.str k = V.str "tuple")) (et_test (ev_op (ev_var rfl) ev_c (rv_eq rfl))) (fun hb H5 e5 => ?_) (fun hb H5 e5 => ?_)
    · rw [hb, if_pos rfl] at q
      exact s_ret (ev_isiX (K := K) (ex_var rfl (dx_mono e5 _ _ hd)) (kit_tup d)) (fun H6 e6 => q H6 (((((e1.trans e2).trans e3).trans e4).trans e5).trans e6))
    rw [hb, if_neg (by decide)] at q
    exact s_ret ev_c (fun H6 e6 => q H6 (((((e1.trans e2).trans e3).trans e4).trans e5).trans e6))
def kindN (c : Nat) : Str := if c = 110 then "number" else if c = 99 then "count" else if c = 100 then "deed" else if c = 108 then "log" else if c = 114 then "tuple" else "any"
def rowsL : List (Str × Str × Str × Str) := [("promise", "manager", "journal", "n"), ("sync", "manager", "journal", "nl"), ("edit", "manager", "journal", "ncr"), ("purge", "manager", "journal", "nnx"), ("ping", "manager", "journal", "nn"), ("promised", "journal", "manager", "nnl"), ("synced", "journal", "manager", "nn"), ("ponged", "journal", "manager", "nn"), ("refused", "journal", "manager", "nn"), ("request", "client", "manager", "cd"), ("read", "client", "manager", "cd"), ("answer", "manager", "client", "cx"), ("value", "manager", "client", "cnx")]
def frm (r : Str × Str × Str) : PyData := .tuple [.str r.1, .str r.2.1, .tuple ((r.2.2.cps.toList.map kindN).map PyData.str)]
def FRM : List (Str × PyData) := rowsL.map fun p => (p.1, frm p.2)
theorem lookS_map {α β : Type} (f : α → β) (z : Str) : ∀ L : List (Str × α), lookS (L.map fun p => (p.1, f p.2)) z = (lookS L z).map f
  | [] => rfl
  | p :: r => by
    show (if p.1 = z then some (f p.2) else lookS (r.map fun p => (p.1, f p.2)) z) = Option.map f (if p.1 = z then some p.2 else lookS r z)
    by_cases h : p.1 = z
    · rw [if_pos h, if_pos h]; rfl
    · rw [if_neg h, if_neg h]; exact lookS_map f z r
def fitC (c : Nat) (d : PyData) : Bool := fitK (kindN c) d
def fitsR (fs : List PyData) (cs : List Nat) : Bool := decide (fs.length = cs.length) && (fs.zip cs).all fun p => fitC p.2 p.1
def isBody (s r : Str) : PyData → Bool
  | .tuple (.str k :: fs) => match lookS rowsL k with
    | some (a, b, m) => decide (s = a) && (decide (r = b) && fitsR fs m.cps.toList)
    | none => false
  | _ => false
theorem walk_zipT {K : PySem.W.Frag} {a b : Addr} {xs ys : List V} {n : Nat} (hn : n = min xs.length ys.length) : Walk (RZ.ItzT K a b) n (fun H => SqT K H a xs ∧ SqT K H b ys) (YPair (fun i => xs[i]?) (fun i => ys[i]?)) := by
  subst hn
  refine ⟨fun i _ hi q => ?_, fun _ q => ⟨xs, ys, q.1, q.2, by omega⟩, fun i H v H' _ q y => ?_⟩
  · have h1 : i < xs.length := by omega
    have h2 : i < ys.length := by omega
    exact ⟨xs, ys, xs[i], ys[i], q.1, q.2, by simp [h1], by simp [h2]⟩
  · obtain ⟨T, x, z, h1, h2, h3, h4, h5⟩ := y
    exact ⟨T, x, z, h1, h2, h3, h4 xs q.1, h5 ys q.2⟩
/-- [e for x, y in zip of tuples] -/
theorem el_lcZ {σ : L2.St} {H : Hp} {ta : TA} {te : TE} {a b : Addr} {xs ys : List V} {i j : Nat} {vs : List Nat} (v : Nat → V) (ha : EvA ta σ H [.ref a, .ref b]) (hx : SqT K H a xs) (hy : SqT K H b ys) (hl : ys.length = xs.length) (hz : xs.length ≤ 40000) (hw : ∀ x y, wipe (((wipe σ vs).set i (some x)).set j (some y)) vs = wipe σ vs)
    (he : ∀ (n : Nat) (x y : V) H1, Ex H H1 → xs[n]? = some x → ys[n]? = some y → Ev te (((wipe σ vs).set i (some x)).set j (some y)) H1 (v n)) : EvL (tLc (RZ.iZipA K ta) (gTup K 2 (gCons (gName i) (gCons (gName j) gNil))) tYes te vs) σ H (Evl.given xs.length (fun _ => true) v) := fun H0 e Q q => ha H0 e _ fun H1 e1 => ⟨a, b, xs, ys, rfl, .inr ⟨ex_t (e.trans e1) hx, ex_t (e.trans e1) hy, fun Dl hD =>
  lc_it (walk_zipT (K := K) (xs := xs) (ys := ys) (n := xs.length) (by omega)) (Cw H1 (fun _ => true) v Dl) ⟨hD, Ex.new hD, upd_same⟩ (fun _ _ _ p => ⟨ex_t ((e.trans e1).trans p.2.1) hx, ex_t ((e.trans e1).trans p.2.1) hy⟩) (fun n x H2 H' hi p y => by
    obtain ⟨T, x1, y1, rfl, hT, rfl, hx1, hy1⟩ := y
    have p' : Cw H1 (fun _ => true) v Dl n (upd H2 T (.tup [x1, y1])) := ⟨p.1, p.2.1.trans (Ex.new hT), by
      rw [upd_ne (show Dl ≠ T from fun h => by have := p.2.2; rw [h, hT] at this; cases this)]
      exact p.2.2⟩
    exact ⟨T, [x1, y1], rfl, st_of upd_same, rfl, x1, _, rfl, y1, _, rfl, rfl, hw _ _, cw_turn p' (by omega) (fun H1 _ _ q => q H1 (Ex.refl H1)) (fun _ => he n x1 y1 H1 (e.trans e1) hx1 hy1)⟩) (fun H' p => q Dl H' (fresh_back e1 p.1) (e1.trans p.2.1) p.2.2)⟩⟩
theorem zip_given (fs : List PyData) (cs : List Nat) (h : fs.length = cs.length) : Evl.given fs.length (fun _ => true) (fun i => V.bl (fitC (cs.getD i 0) (fs.getD i .none))) = ((fs.zip cs).map fun p => fitC p.2 p.1).map V.bl := by
  unfold Evl.given
  rw [List.filter_eq_self.mpr (fun _ _ => rfl)]
  refine List.ext_getElem (by simp [h]) (fun i h1 h2 => ?_)
  have h1 : i < fs.length := by simpa using h1
  have h3 : i < cs.length := by omega
  simp [h1, h3]
def spBody (K : PySem.W.Frag) : Sp := fun vs H Q _ => ∃ (s r : Str) (v : V) (d : PyData), vs = [.str s, .str r, v] ∧ Dx K H v d ∧ Okd 8 d ∧ RetV (.bl (isBody s r d)) H Q
theorem spBody_v {H : Hp} {s r : Str} {v : V} {d : PyData} (h : Dx K H v d) (ok : Okd 8 d) : SpV (spBody K) [.str s, .str r, v] H (.bl (isBody s r d)) := fun H1 e Q q _ => ⟨s, r, v, d, rfl, dx_mono e _ _ h, ok, fun H2 e2 => q H2 e2⟩
theorem dec_str (a b : Str) : decide (V.str a = V.str b) = decide (a = b) := by
  by_cases h : a = b
  · rw [h, decide_eq_true rfl, decide_eq_true rfl]
  · rw [decide_eq_false h, decide_eq_false (fun e => h (V.str.inj e))]
theorem dp_strs {H : Hp} : ∀ {ks : List Str} {ys : List V}, DpAll K H ys (ks.map PyData.str) → ys = ks.map V.str
  | [], _, h => by cases h; rfl
  | k :: r, _, h => by
    cases h with
    | cons h1 h2 =>
      cases h1
      rw [dp_strs h2]
      rfl
theorem body_no {s r : Str} {d : PyData} (h : isStr ((match d with | .tuple ds => ds.getD 0 .none | _ => .none)) = false) : isBody s r d = false := by
  cases d with
  | tuple ds =>
    cases ds with
    | nil => rfl
    | cons d0 fs => cases d0 <;> first | rfl | cases h
  | _ => rfl
theorem all_map_id {α : Type} (f : α → Bool) (l : List α) : (l.map f).all id = l.all f := by
  rw [List.all_map]; rfl
theorem ed_ixKdE {w : World} {nm : Str} {a : Addr} {L : List (Str × PyData)} {σ : L2.St} {H : Hp} {ta tb : TE} {z : Str} {d : PyData} (C : KdC K w mg nm a L) (ha : Ev ta σ H (.ref a)) (hb : ∀ H1, Ex H H1 → Ev tb σ H1 (.str z)) (h : lookS L z = some d) : EvD K (tOp (rKd K a) ta tb) σ H d := fun H1 e Q q => ha H1 e _ fun H2 e2 => hb H2 (e.trans e2) H2 (Ex.refl H2) _ fun H3 e3 => by
  rcases C.at_ z with ⟨d', v, x, k1, k2, k3, k4⟩ | ⟨k1, k2⟩
  · rw [h] at k2
    cases k2
    exact ⟨z, v, x, rfl, rfl, k1, k3, q x H3 (e2.trans e3) (k4 _)⟩
  · rw [h] at k2
    cases k2
theorem ok_is_body {tN tT tP tM : Tok} {f f_fi f_l f_d f_p f_i f_n f_t f_c A__FORMS : Addr} {fd fd_fi fd_l fd_d fd_p fd_i fd_n fd_t fd_c : FuncData} (F : Fun K "is_body" "is_body" s_is_body f fd) (D__fits : Df K mg "_fits" s__fits ["item", "kind"] f_fi fd_fi) (D__is_log_value : Df K mg "_is_log_value" s__is_log_value ["thing"] f_l fd_l) (D_is_deed : Df K mg "is_deed" s_is_deed ["thing"] f_d fd_d) (D_is_plain : Df K mg "is_plain" s_is_plain ["thing"] f_p fd_p) (D_is_integer : Df K mg "is_integer" s_is_integer ["thing"] f_i fd_i) (D_is_number : Df K mg "is_number" s_is_number ["thing"] f_n fd_n) (D_is_text : Df K mg "is_text" s_is_text ["thing"] f_t fd_t)
    (D__may_stand_in_text : Df K mg "_may_stand_in_text" s__may_stand_in_text ["code"] f_c fd_c) (c_NUMBER_MOST : mg "NUMBER_MOST" = some (.int (10 ^ 18) tN)) (c_TEXT_MOST : mg "TEXT_MOST" = some (.int 200 tT)) (c__PERCENT : mg "_PERCENT" = some (.int 37 tP)) (c__DEED_MOST : mg "_DEED_MOST" = some (.int 4 tM)) (D__FORMS : KdC K w mg "_FORMS" A__FORMS FRM) (T : Glo mg) : FnOk P w K mg base CX0 6 f fd ["sender", "receiver", "body"] (spBody K) := by
  have G__fits : FnOk P w K mg base CX0 5 f_fi fd_fi _ _ := ok_fits D__fits.F D__is_log_value D_is_deed D_is_plain D_is_integer D_is_number D_is_text D__may_stand_in_text c_NUMBER_MOST c_TEXT_MOST c__PERCENT c__DEED_MOST T
  refine F.ok sc_is_body (fun vs H Q E h => ?_) (fun cdv A outer s H vs Q E hr h => ?_)
  · obtain ⟨s, r, v, d, rfl, _⟩ := h
    rfl
  · obtain ⟨s, r, v, d, rfl, hd, ok, q⟩ := h
    refine ⟨_, (pss_cons (ps_if (PW.pt (pw_or (pt_not (pt_val (pe_callB call_isi (by rfl) T.isinstance (by decide +kernel) (pa_cons (pv 2) (pa_cons (pe_bltn (v := .ty "tuple") (u := .type "tuple") (by rfl) T.tuple (by decide +kernel) rfl) pa_nil))))) (pw_or (pt_not (pt_truth (pv 2) (by intro _; rfl))) (pw_or1 (pt_not (pt_val (pe_callB call_isi (by rfl) T.isinstance (by decide +kernel) (pa_cons (pe_ix ix_tup (pv 2) pe_int (fun _ _ => rfl)) (pa_cons (pe_bltn (v := .ty "str") (u := .type "str") (by rfl) T.str (by decide +kernel) rfl) pa_nil)))))))))
  (pss_one (ps_ret pe_bl))
  pss_nil)
  (pss_cons (ps_if (pt_cmpR (op_notInKd D__FORMS.D) (pe_ix ix_tup (pv 2) pe_int (fun _ _ => rfl)) (pe_glob (v := .ref A__FORMS) rfl D__FORMS.g rfl) (by rfl))
  (pss_one (ps_ret pe_bl))
  pss_nil)
  (pss_cons (ps_asg (pe_ix (ix_kd D__FORMS.D) (pe_glob (v := .ref A__FORMS) rfl D__FORMS.g rfl) (pe_ix ix_tup (pv 2) pe_int (fun _ _ => rfl)) (fun _ _ => rfl)) (pg_tup (by rfl) (pgs_cons (pg_name (i := 3) sc_is_body.nd rfl (.inl rfl)) (pgs_cons (pg_name (i := 4) sc_is_body.nd rfl (.inl rfl)) (pgs_cons (pg_name (i := 5) sc_is_body.nd rfl (.inl rfl)) pgs_nil)))))
  (pss_cons (ps_set (i := 6) sc_is_body.nd rfl (.inl rfl) (pe_slice sl_tupA (pv 2) (po_some pe_int) po_none))
  (pss_cons (ps_if (PW.pt (pw_or (pt_cmpR op_ne (pv 0) (pv 3) (nomark _)) (pw_or (pt_cmpR op_ne (pv 1) (pv 4) (nomark _)) (pw_or1 (pt_cmpR op_ne (pe_callB call_len_seq (by rfl) T.len PySem.boot_len (pa_cons (pv 6) pa_nil)) (pe_callB call_len_seq (by rfl) T.len PySem.boot_len (pa_cons (pv 5) pa_nil)) (nomark _))))))
  (pss_one (ps_ret pe_bl))
  pss_nil)
  (pss_one (ps_ret (pe_callB (cr_all rfl) (by rfl) T.all (by decide +kernel) (pa_cons (pe_lc (own := [("item", 7), ("kind", 8)]) (g := gTup K 2 (gCons (gName 7) (gCons (gName 8) gNil))) rfl sc_is_body.nd (RZ.pi_zipA (by rfl) T.zip (pa_cons (pv 6) (pa_cons (pv 5) pa_nil))) (blkOk_by (N := N_is_body) (sc := defScope s_is_body) (by decide +kernel)) (fun _ _ _ _ _ => (pg_tup (by rfl) (pgs_cons (pg_name (i := 7) sc_is_body.nd rfl (.inl rfl)) (pgs_cons (pg_name (i := 8) sc_is_body.nd rfl (.inl rfl)) pgs_nil)))) (fun _ _ _ _ _ => pts_nil) (fun _ _ _ _ _ => (pe_call G__fits (hr.mono (by decide)) (by rfl) D__fits.g D__fits.F.kp D__fits.b .nil pass0 (pa_cons (pv 7) (pa_cons (pv 8) pa_nil))))) pa_nil))))))))), ?_⟩
    by_cases hT : isTup d = true
    · obtain ⟨ds, rfl⟩ := tup_of hT
      have hd' := hd
      cases ok with
      | tup hds hall =>
        have hall := okd_up hall
        cases hd with
        | @tup ta ys _ hs hda =>
          have hlz : ys.length ≤ 50000 := by rw [dxa_len hda]; omega
          cases hda with
          | nil =>
            refine q_isT (K := K) (b := true) (ex_var rfl hd') (et_orL (et_nf fun H1 e1 Q' q' => ev_var rfl H1 e1 _ fun H2 e2 => ⟨false, (show TruV K (.ref ta) H2 false from .inr (.inl ⟨[], ex_t (e1.trans e2) hs, rfl⟩)), q' H2 e2⟩)) (fun _ H1 e1 => s_ret ev_c (fun H2 e2 => q H2 (e1.trans e2))) (fun hb => nomatch hb)
          | @cons x0 xr d0 fs g0 gr =>
            have o0 := hall d0 List.mem_cons_self
            have tru : ∀ {σ : L2.St} {te : TE}, Ev te σ H (.ref ta) → EvT (fun σ H Q => te σ H fun x H' => ∃ k, TruV K x H' k ∧ Q k H') σ H true := fun h H1 e1 Q' q' => h H1 e1 _ fun H2 e2 => ⟨true, (show TruV K (.ref ta) H2 true from .inr (.inl ⟨x0 :: xr, ex_t (e1.trans e2) hs, rfl⟩)), q' H2 e2⟩
            have a0 : ∀ (x : V), atI (x :: xr) 0 = some x := fun x => atI_nat (show (x :: xr)[0]? = some x from rfl)
            by_cases hS : isStr d0 = true
            · obtain ⟨k, rfl⟩ := str_of hS
              cases g0
              refine q_isT (K := K) (b := false) (ex_var rfl hd') (et_orF (et_nt (tru (ev_var rfl))) (et_nt (et_B (ev_isiX (K := K) (ex_of (ev_op (ev_var rfl) ev_c (rv_ixT hs (a0 _))) (.str k)) (kit_str _))))) (fun hb => nomatch hb) (fun _ H1 e1 => ?_)
              have hs1 := ex_t e1 hs
              refine q_when (et_test (ev_notInKd (K := K) D__FORMS (ev_op (ev_var rfl) ev_c (rv_ixT hs1 (a0 _))) (fun H => ev_c))) (fun hb H2 e2 => ?_) (fun hb H2 e2 => ?_)
              · have hN : lookS FRM k = none := by
                  cases hl : lookS FRM k with
                  | none => rfl
                  | some x => rw [hl] at hb; cases hb
                have : isBody s r (.tuple (.str k :: fs)) = false := by
                  have h2 : (lookS rowsL k).map frm = none := by rw [← lookS_map]; exact hN
                  cases hl : lookS rowsL k with
                  | none => show (match lookS rowsL k with | some (a, b, m) => _ | none => false) = false; rw [hl]
                  | some x => rw [hl] at h2; cases h2
                rw [this] at q
                exact s_ret ev_c (fun H3 e3 => q H3 ((e1.trans e2).trans e3))
              · obtain ⟨rw3, hl⟩ : ∃ x, lookS rowsL k = some x := by
                  cases hl : lookS rowsL k with
                  | some x => exact ⟨x, rfl⟩
                  | none =>
                    have h2 : lookS FRM k = none := by
                      show lookS (rowsL.map fun p => (p.1, frm p.2)) k = none
                      rw [lookS_map, hl]; rfl
                    rw [h2] at hb; cases hb
                obtain ⟨a, b, m⟩ := rw3
                have hF : lookS FRM k = some (frm (a, b, m)) := by
                  show lookS (rowsL.map fun p => (p.1, frm p.2)) k = _
                  rw [lookS_map, hl]; rfl
                have q : RetV (.bl (decide (s = a) && (decide (r = b) && fitsR fs m.cps.toList))) H Q := by
                  have : isBody s r (.tuple (.str k :: fs)) = (decide (s = a) && (decide (r = b) && fitsR fs m.cps.toList)) := by
                    show (match lookS rowsL k with | some (a, b, m) => _ | none => false) = _
                    rw [hl]
                  rwa [this] at q
                have hs2 := ex_t e2 hs1
                refine ed_ixKdE (K := K) D__FORMS ev_c (fun H6 e6 => ev_op (ev_var rfl) ev_c (rv_ixT (ex_t e6 hs2) (a0 _))) hF H2 (Ex.refl H2) _ fun v H3 e3 hv => ?_
                have hv : Dp K H3 v (.tuple [.str a, .str b, .tuple ((m.cps.toList.map kindN).map PyData.str)]) := dp_mono (ov_ex (Ex.refl H2) e3) _ _ hv
                cases hv with
                | @tup tb zs _ hz hzs =>
                  cases hzs with
                  | @cons z0 _ _ _ p0 hzs => cases hzs with
                    | @cons z1 _ _ _ p1 hzs => cases hzs with
                      | @cons z2 _ _ _ p2 hzs =>
                        cases hzs
                        cases p0
                        cases p1
                        cases p2 with
                        | @tup tk ks _ hk hks =>
                          have hks := dp_strs hks
                          subst hks
                          refine ⟨tb, _, rfl, hz, rfl, .str a, _, rfl, .str b, _, rfl, .ref tk, _, rfl, rfl, ?_⟩
                          have hd3 := dx_mono ((e1.trans e2).trans e3) _ _ hd'
                          refine q_asgX (K := K) (ex_slT (K := K) (ex_var rfl hd3) (eo_some ev_c) eo_none) fun vi H4 e4 hvi => ?_
                          rw [show cutA (PyData.str k :: fs) (some (1 : Int)) none = fs from cutA_from (PyData.str k :: fs) 1] at hvi
                          have hk4 := ex_t e4 hk
                          have e14 := ((e1.trans e2).trans e3).trans e4
                          have hkl : ((m.cps.toList.map kindN).map V.str).length = m.cps.toList.length := by rw [List.length_map, List.length_map]
                          refine q_when (b := !decide (s = a) || (!decide (r = b) || !decide (fs.length = m.cps.toList.length))) (et_or (et_is (et_test (ev_op (ev_var rfl) (ev_var rfl) (rv_ne rfl))) (by rw [dec_str])) (fun _ => et_or (et_is (et_test (ev_op (ev_var rfl) (ev_var rfl) (rv_ne rfl))) (by rw [dec_str])) (fun _ => et_is (et_test (ev_op (ev_lenXT (K := K) (ex_var rfl hvi)) (ev_cb (ea_cons (ev_var rfl) ea_nil) (rc_lenT hk4)) (rv_ne rfl))) (by
                            rw [hkl]
                            by_cases e : fs.length = m.cps.toList.length
                            · rw [e]; simp
                            · rw [decide_eq_false e, decide_eq_false (fun h => e (by have := V.int.inj h; omega))])))) (fun hb H5 e5 => ?_) (fun hb H5 e5 => ?_)
                          · have : (decide (s = a) && (decide (r = b) && fitsR fs m.cps.toList)) = false := by
                              unfold fitsR
                              cases h1 : decide (s = a) <;> cases h2 : decide (r = b) <;> cases h3 : decide (fs.length = m.cps.toList.length) <;> simp_all
                            rw [this] at q
                            exact s_ret ev_c (fun H6 e6 => q H6 (e14.trans (e5.trans e6)))
                          · obtain ⟨h1, h2, h3⟩ : decide (s = a) = true ∧ decide (r = b) = true ∧ decide (fs.length = m.cps.toList.length) = true := by
                              cases h1 : decide (s = a) <;> cases h2 : decide (r = b) <;> cases h3 : decide (fs.length = m.cps.toList.length) <;> simp_all
                            have hl3 := of_decide_eq_true h3
                            unfold fitsR at q
                            rw [h1, h2, h3, Bool.true_and, Bool.true_and, Bool.true_and, ← all_map_id] at q
                            have hgi := zip_given fs m.cps.toList hl3
                            cases hvi with
                            | @tup ti iv _ hi hid =>
                              have hil := dxa_len hid
                              refine s_ret (ev_all (K := K) (hgi ▸ hil ▸ el_lcZ (K := K) (fun i => V.bl (fitC (m.cps.toList.getD i 0) (fs.getD i .none))) (ea_cons (ev_var rfl) (ea_cons (ev_var rfl) ea_nil)) (ex_t e5 hi) (ex_t e5 hk4) (by rw [hkl, hil]; exact hl3.symm) (by have := hds; rw [List.length_cons] at this; omega) (fun _ _ => rfl) (fun n x y H6 e6 hx hy => ?_))) (fun H6 e6 => q H6 (e14.trans (e5.trans e6)))
                              obtain ⟨di, hdi, hdx⟩ := dxa_atV hid hx
                              rw [List.map_map, List.getElem?_map] at hy
                              cases hc : m.cps.toList[n]? with
                              | none => rw [hc] at hy; cases hy
                              | some c =>
                                rw [hc] at hy
                                cases hy
                                have g1 : m.cps.toList.getD n 0 = c := by rw [List.getD_eq_getElem?_getD, hc]; rfl
                                have g2 : fs.getD n .none = di := by rw [List.getD_eq_getElem?_getD, hdi]; rfl
                                rw [g1, g2]
                                exact ev_call (ea_cons (ev_var rfl) (ea_cons (ev_var rfl) ea_nil)) (spFits_v (dx_mono (e5.trans e6) _ _ hdx) (hall di (List.mem_cons_of_mem _ (List.mem_of_getElem? hdi))))
            · have hS : isStr d0 = false := by simpa using hS
              have : isBody s r (.tuple (d0 :: fs)) = false := body_no hS
              rw [this] at q
              refine q_isT (K := K) (b := true) (ex_var rfl hd') (et_orR (et_nt (tru (ev_var rfl))) (et_is (et_not (et_B (ev_isiX (K := K) (ex_of (ev_op (ev_var rfl) ev_c (rv_ixT hs (a0 _))) g0) (kit_str _)))) (by rw [hS]; rfl))) (fun _ H1 e1 => s_ret ev_c (fun H2 e2 => q H2 (e1.trans e2))) (fun hb => nomatch hb)
    · have hT : isTup d = false := by simpa using hT
      have : isBody s r d = false := by
        cases d <;> first | rfl | (cases hT)
      rw [this] at q
      exact q_notT (K := K) (ex_var rfl hd) hT (fun H1 e1 => s_ret ev_c (fun H2 e2 => q H2 (e1.trans e2)))
def strOf : PyData → Str
  | .tuple (.str x :: _) => x
  | _ => ""
def isMsg : PyData → Bool
  | .tuple [a, b, c] => isMach a && (isMach b && isBody (strOf a) (strOf b) c)
  | _ => false
theorem mach_of {d : PyData} (h : isMach d = true) : ∃ (k : Str) (i : Int), d = .tuple [.str k, .int i] := by
  cases d with
  | tuple ds =>
    have h : (decide (ds.length = 2) && (kOk (ds.getD 0 .none) && isN (ds.getD 1 .none))) = true := h
    obtain ⟨h1, h2⟩ := Bool.and_eq_true_iff.mp h
    obtain ⟨h2, h3⟩ := Bool.and_eq_true_iff.mp h2
    have h1 := of_decide_eq_true h1
    match ds, h1 with
    | [a, b], _ =>
      have h2 : kOk a = true := h2
      have h3 : isN b = true := h3
      obtain ⟨k, rfl⟩ : ∃ k, a = .str k := by
        cases a <;> first | exact ⟨_, rfl⟩ | cases h2
      obtain ⟨i, rfl⟩ : ∃ i, b = .int i := by
        cases b <;> first | exact ⟨_, rfl⟩ | cases h3
      exact ⟨k, i, rfl⟩
  | _ => cases h
theorem ok_is_message {tN tT tP tM tJ tMa tC : Tok} {f f_b f_m f_fi f_l f_d f_p f_i f_n f_t f_c A__FORMS : Addr} {fd fd_b fd_m fd_fi fd_l fd_d fd_p fd_i fd_n fd_t fd_c : FuncData} (F : Fun K "is_message" "is_message" s_is_message f fd) (D_is_body : Df K mg "is_body" s_is_body ["sender", "receiver", "body"] f_b fd_b) (D_is_machine : Df K mg "is_machine" s_is_machine ["thing"] f_m fd_m) (D__fits : Df K mg "_fits" s__fits ["item", "kind"] f_fi fd_fi) (D__is_log_value : Df K mg "_is_log_value" s__is_log_value ["thing"] f_l fd_l) (D_is_deed : Df K mg "is_deed" s_is_deed ["thing"] f_d fd_d) (D_is_plain : Df K mg "is_plain" s_is_plain ["thing"] f_p fd_p) (D_is_integer : Df K mg "is_integer" s_is_integer ["thing"] f_i fd_i) (D_is_number : Df K mg "is_number" s_is_number ["thing"] f_n fd_n) (D_is_text : Df K mg "is_text" s_is_text ["thing"] f_t fd_t)
    (D__may_stand_in_text : Df K mg "_may_stand_in_text" s__may_stand_in_text ["code"] f_c fd_c) (c_NUMBER_MOST : mg "NUMBER_MOST" = some (.int (10 ^ 18) tN)) (c_TEXT_MOST : mg "TEXT_MOST" = some (.int 200 tT)) (c__PERCENT : mg "_PERCENT" = some (.int 37 tP)) (c__DEED_MOST : mg "_DEED_MOST" = some (.int 4 tM)) (D__FORMS : KdC K w mg "_FORMS" A__FORMS FRM)
    (c_JOURNAL : mg "JOURNAL" = some (.str "journal" tJ)) (c_MANAGER : mg "MANAGER" = some (.str "manager" tMa)) (c_CLIENT : mg "CLIENT" = some (.str "client" tC)) (T : Glo mg) : FnOk P w K mg base CX0 7 f fd ["thing"] (spB K 8 isMsg) := by
  have G_is_body : FnOk P w K mg base CX0 6 f_b fd_b _ _ := ok_is_body D_is_body.F D__fits D__is_log_value D_is_deed D_is_plain D_is_integer D_is_number D_is_text D__may_stand_in_text c_NUMBER_MOST c_TEXT_MOST c__PERCENT c__DEED_MOST D__FORMS T
  have G_is_machine : FnOk P w K mg base CX0 3 f_m fd_m _ _ := ok_is_machine D_is_machine.F D_is_integer D_is_number c_NUMBER_MOST c_JOURNAL c_MANAGER c_CLIENT T
  refine F.ok sc_is_message (fun vs H Q E h => ?_) (fun cdv A outer s H vs Q E hr h => ?_)
  · obtain ⟨v, d, rfl, _⟩ := h
    rfl
  · obtain ⟨v, d, rfl, hd, ok, q⟩ := h
    refine ⟨_, (pss_cons (ps_if (PW.pt (pw_or (pt_not (pt_val (pe_callB call_isi (by rfl) T.isinstance (by decide +kernel) (pa_cons (pv 0) (pa_cons (pe_bltn (v := .ty "tuple") (u := .type "tuple") (by rfl) T.tuple (by decide +kernel) rfl) pa_nil))))) (pw_or1 (pt_cmpR op_ne (pe_callB call_len_seq (by rfl) T.len PySem.boot_len (pa_cons (pv 0) pa_nil)) pe_int (nomark _)))))
  (pss_one (ps_ret pe_bl))
  pss_nil)
  (pss_cons (ps_asg (pv 0) (pg_tup (by rfl) (pgs_cons (pg_name (i := 1) sc_is_message.nd rfl (.inl rfl)) (pgs_cons (pg_name (i := 2) sc_is_message.nd rfl (.inl rfl)) (pgs_cons (pg_name (i := 3) sc_is_message.nd rfl (.inl rfl)) pgs_nil)))))
  (pss_cons (ps_if (PW.pt (pw_or (pt_not (pt_val (pe_call G_is_machine (hr.mono (by decide)) (by rfl) D_is_machine.g D_is_machine.F.kp D_is_machine.b .nil pass0 (pa_cons (pv 1) pa_nil)))) (pw_or1 (pt_not (pt_val (pe_call G_is_machine (hr.mono (by decide)) (by rfl) D_is_machine.g D_is_machine.F.kp D_is_machine.b .nil pass0 (pa_cons (pv 2) pa_nil)))))))
  (pss_one (ps_ret pe_bl))
  pss_nil)
  (pss_one (ps_ret (pe_call G_is_body (hr.mono (by decide)) (by rfl) D_is_body.g D_is_body.F.kp D_is_body.b .nil pass0 (pa_cons (pe_ix ix_tup (pv 1) pe_int (fun _ _ => rfl)) (pa_cons (pe_ix ix_tup (pv 2) pe_int (fun _ _ => rfl)) (pa_cons (pv 3) pa_nil))))))))), ?_⟩
    by_cases hT : isTup d = true
    · obtain ⟨ds, rfl⟩ := tup_of hT
      have hd' := hd
      cases ok with
      | tup hds hall =>
        have hall := okd_up hall
        refine q_isT (K := K) (ex_var rfl hd') (et_lenNe (K := K) (n := 3) (ex_var rfl hd')) (fun hb H1 e1 => ?_) (fun hb H1 e1 => ?_)
        · have hb := of_decide_eq_false (bnot_t hb)
          have : isMsg (.tuple ds) = false := by
            match ds, hb with
            | [], _ => rfl
            | [_], _ => rfl
            | [_, _], _ => rfl
            | [_, _, _], hb => exact absurd rfl hb
            | _ :: _ :: _ :: _ :: _, _ => rfl
          rw [this] at q
          exact s_ret ev_c (fun H2 e2 => q H2 (e1.trans e2))
        · have h3 : ds.length = 3 := of_decide_eq_true (bnot_f hb)
          cases hd with
          | @tup ta ys _ hs hda =>
            obtain ⟨d0, d1, d2, rfl⟩ : ∃ d0 d1 d2, ds = [d0, d1, d2] := by
              match ds, h3 with
              | [a, b, c], _ => exact ⟨a, b, c, rfl⟩
            have o0 := hall d0 List.mem_cons_self
            have o1 := hall d1 (List.mem_cons_of_mem _ List.mem_cons_self)
            have o2 := hall d2 (List.mem_cons_of_mem _ (List.mem_cons_of_mem _ List.mem_cons_self))
            have q : RetV (.bl (isMach d0 && (isMach d1 && isBody (strOf d0) (strOf d1) d2))) H Q := q
            cases hda with
            | @cons x0 _ _ _ g0 r0 => cases r0 with
              | @cons x1 _ _ _ g1 r1 => cases r1 with
                | @cons x2 _ _ _ g2 r2 =>
                  cases r2
                  refine ⟨.ref ta, rfl, ta, _, rfl, ex_t e1 hs, rfl, x0, _, rfl, x1, _, rfl, x2, _, rfl, rfl, ?_⟩
                  have g0 := dx_mono e1 _ _ g0
                  have g1 := dx_mono e1 _ _ g1
                  have g2 := dx_mono e1 _ _ g2
                  refine q_when (b := !isMach d0 || !isMach d1) (et_or (et_not (et_B (ev_call (ea_cons (ev_var rfl) ea_nil) (spB_v g0 o0)))) (fun _ => et_not (et_B (ev_call (ea_cons (ev_var rfl) ea_nil) (spB_v g1 o1))))) (fun hb H2 e2 => ?_) (fun hb H2 e2 => ?_)
                  · have : (isMach d0 && (isMach d1 && isBody (strOf d0) (strOf d1) d2)) = false := by
                      cases h1 : isMach d0 <;> cases h2 : isMach d1 <;> simp_all
                    rw [this] at q
                    exact s_ret ev_c (fun H3 e3 => q H3 ((e1.trans e2).trans e3))
                  · obtain ⟨h1, h2⟩ : isMach d0 = true ∧ isMach d1 = true := by
                      cases h1 : isMach d0 <;> cases h2 : isMach d1 <;> simp_all
                    rw [h1, h2, Bool.true_and, Bool.true_and] at q
                    obtain ⟨k0, i0, rfl⟩ := mach_of h1
                    obtain ⟨k1, i1, rfl⟩ := mach_of h2
                    have q : RetV (.bl (isBody k0 k1 d2)) H Q := q
                    cases g0 with
                    | @tup a0 _ _ s0 t0 => cases t0 with
                      | cons u0 _ =>
                        cases u0
                        cases g1 with
                        | @tup a1 _ _ s1 t1 => cases t1 with
                          | cons u1 _ =>
                            cases u1
                            have z0 : ∀ (x : V) (r : List V), atI (x :: r) 0 = some x := fun x r => atI_nat (show (x :: r)[0]? = some x from rfl)
                            exact s_ret (ev_call (ea_cons (ev_op (ev_var rfl) ev_c (rv_ixT (ex_t e2 s0) (z0 _ _))) (ea_cons (ev_op (ev_var rfl) ev_c (rv_ixT (ex_t e2 s1) (z0 _ _))) (ea_cons (ev_var rfl) ea_nil))) (spBody_v (dx_mono e2 _ _ g2) o2)) (fun H3 e3 => q H3 ((e1.trans e2).trans e3))
    · have hT : isTup d = false := by simpa using hT
      have : isMsg d = false := by
        cases d <;> first | rfl | (cases hT)
      rw [this] at q
      exact q_notT (K := K) (ex_var rfl hd) hT (fun H1 e1 => s_ret ev_c (fun H2 e2 => q H2 (e1.trans e2)))
theorem r_do {σ : L2.St} {H : Hp} {D : Ends} {te : TE} (h : te σ H D.rt) : tRet te D σ H := h
def nF (n : Int) (d : Addr) : List (Str × V) := [("sent", .int n), ("_messages", .ref d)]
structure NwC (K : PySem.W.Frag) (C : Addr) : Prop where
  cl : Cls K C
  nS : NoAttr K C "sent"
  nM : NoAttr K C "_messages"
def NwM (K : PySem.W.Frag) (C nw : Addr) (n : Int) (l : DI) : MP := ExM fun x : Addr × Addr => Stars [Pt nw (.ins C x.1 (nF n x.2)), DctM K x.2 l]
theorem nw_open {B H : Hp} {C nw : Addr} {n : Int} {l : DI} {F : List MP} (h : At B (NwM K C nw n l :: F) H) : ∃ dx d, At B (Pt nw (.ins C dx (nF n d)) :: DctM K d l :: F) H := by
  obtain ⟨⟨dx, d⟩, h⟩ := at_exm h
  exact ⟨dx, d, at_stars h⟩
theorem nw_close {B H : Hp} {C nw dx d : Addr} {n : Int} {l : DI} {F : List MP} (h : At B (Pt nw (.ins C dx (nF n d)) :: DctM K d l :: F) H) : At B (NwM K C nw n l :: F) H := at_exm' (dx, d) (at_stars' [_, _] h)
theorem nw_ins {B H : Hp} {C nw : Addr} {n : Int} {l : DI} {F : List MP} (h : At B (NwM K C nw n l :: F) H) : ∃ dx fs, H nw = some (.ins C dx fs) ∧ ∀ m : Str, (m == ("sent" : Str)) = false → (m == ("_messages" : Str)) = false → fs.lookup m = none := by
  obtain ⟨dx, d, h⟩ := nw_open h
  refine ⟨dx, _, at_get 0 rfl h, fun m h1 h2 => ?_⟩
  unfold nF
  rw [List.lookup_cons, h1, List.lookup_cons, h2]
  rfl
def spNInit (K : PySem.W.Frag) (C : Addr) : Sp := fun vs H Q _ => ∃ (d dx : Addr) (B : Hp) (F : List MP), vs = [.ref d] ∧ At B (Pt d (.ins C dx []) :: F) H ∧ ∀ H', At B (NwM K C d 0 [] :: F) H' → Q .non H'
theorem ok_ninit {f C : Addr} {fd : FuncData} (F : Fun K "__init__" "Network.__init__" s_Network___init__ f fd) (L : NwC K C) : FnOk P w K mg base CX0 1 f fd ["self"] (spNInit K C) := by
  refine F.ok sc_Network___init__ (fun vs H Q E h => ?_) (fun cdv A outer s H vs Q E hr h => ?_)
  · obtain ⟨d, dx, B, F, rfl, _⟩ := h
    rfl
  · obtain ⟨d, dx, B, Fr, rfl, hA, q⟩ := h
    refine ⟨_, (pss_cons (ps_fld (pv 0) pe_int rfl)
  (pss_one (ps_fld (pv 0) pe_dnewK rfl))), ?_⟩
    refine qe_fld (K := K) 0 rfl hA ev_c (fun _ => ev_var rfl) L.cl L.nS (by show 0 < 1000; decide) fun H4 hA => ?_
    refine se_fldD (K := K) 0 rfl hA (fun _ => ev_var rfl) L.cl L.nM (by show 1 < 1000; decide) fun dd H5 hA => ?_
    have hA : At B (Pt dd (.dK (kvD [] [])) :: Pt d (.ins C dx (nF 0 dd)) :: Fr) H5 := hA
    have hA := at_closeD (K := K) (m := []) 0 rfl .nil hA
    exact q H5 (nw_close (at_swap hA))
def spCN (K : PySem.W.Frag) (C CU : Addr) : Sp := fun vs H Q E => ∃ (nw : Addr) (i n : Int) (l : DI) (B : Hp) (F : List MP), vs = [.ref nw, .int i] ∧ At B (NwM K C nw n l :: F) H ∧ ((look l i).isSome = true → ∀ H1, At B (NwM K C nw n l :: F) H1 → Q .non H1) ∧ (look l i = none → ∀ H1, At B (NwM K C nw n l :: F) H1 → E (.ref CU) none H1)
theorem ok_ncheck {f C C_Unknown Bx : Addr} {fd : FuncData} (F : Fun K "_check_number" "Network._check_number" s_Network__check_number f fd) (L : NwC K C) (E_Unknown : Err K mg "Unknown" C_Unknown Bx) (T : Glo mg) : FnOk P w K mg base (L2.CX P w) 2 f fd ["self", "number"] (spCN K C C_Unknown) := by
  refine F.okX sc_Network__check_number (fun vs H Q E h => ?_) (fun cdv A outer s H vs Q E hr h => ?_)
  · obtain ⟨nw, i, n, l, B, F, rfl, _⟩ := h
    rfl
  · obtain ⟨nw, i, n, l, B, Fr, rfl, hA, q1, q2⟩ := h
    refine ⟨_, (pss_one (ps_if (pt_cmp (pc_dnotin (hu_of hr) (pv 1) (pe_fld (pv 0) rfl)))
  (pss_one (ps_raise rfl (takes_of rfl rfl rfl rfl) (Err.mk' E_Unknown rfl)))
  pss_nil)), ?_⟩
    obtain ⟨dx, d, hA⟩ := nw_open hA
    refine se_when (b := !(look l i).isSome) hA (et_B (ev_dniM (K := K) 1 rfl hA (ev_var rfl) (ev_fld (K := K) (ev_var rfl) (at_get 0 rfl hA) L.cl L.nM rfl))) (fun hb H1 hA => q2 ?_ H1 (nw_close hA)) (fun hb H1 hA => q1 (bnot_f hb) H1 (nw_close hA))
    cases h : look l i with
    | none => rfl
    | some x => rw [h] at hb; cases hb
theorem go_check {σ : L2.St} {B H : Hp} {F : List MP} {C CU nw : Addr} {n i : Int} {l : DI} {E : XK} {ta : TE} {tr : TA} {Q : VK} (hA : At B (NwM K C nw n l :: F) H) (ho : Ev ta σ H (.ref nw)) (hr : ∀ H1, Ex H H1 → EvA tr σ H1 [.int i]) (q1 : (look l i).isSome = true → ∀ H1, At B (NwM K C nw n l :: F) H1 → Q .non H1) (q2 : look l i = none → ∀ H1, At B (NwM K C nw n l :: F) H1 → E (.ref CU) none H1) : tMeth C "_check_number" (spCN K C CU) [] E ta tr σ H Q := ho H (Ex.refl H) _ fun H1 e1 => by
  have hA1 := at_ex hA e1
  obtain ⟨dx, fs, hd, hf⟩ := nw_ins hA1
  exact ⟨nw, dx, _, rfl, hd, hf _ rfl rfl, hr H1 e1 H1 (Ex.refl H1) _ fun H2 e2 => ⟨nw, i, n, l, B, F, rfl, at_ex hA1 e2, q1, q2⟩⟩
def spSend (K : PySem.W.Frag) (C CB : Addr) : Sp := fun vs H Q E => ∃ (nw : Addr) (v : V) (dv : PyData) (n : Int) (l : DI) (B : Hp) (F : List MP), vs = [.ref nw, v] ∧ At B (NwM K C nw n l :: F) H ∧ Dx K H v dv ∧ Okd 8 dv ∧ (isMsg dv = true → Dp K B v dv ∧ l.length < 100000 ∧ ∀ B1 H1, Ex B B1 → At B1 (NwM K C nw (n + 1) (putL l (n + 1) dv) :: F) H1 → Q (.int (n + 1)) H1) ∧ (isMsg dv = false → ∀ H1, At B (NwM K C nw n l :: F) H1 → E (.ref CB) none H1)
theorem ok_nsend {f f_m C C_BadValue Bx : Addr} {fd fd_m : FuncData} (F : Fun K "send" "Network.send" s_Network_send f fd) (L : NwC K C) (D_is_message : Df K mg "is_message" s_is_message ["thing"] f_m fd_m) (G_is_message : FnOk P w K mg base CX0 7 f_m fd_m ["thing"] (spB K 8 isMsg)) (E_BadValue : Err K mg "BadValue" C_BadValue Bx) (T : Glo mg) : FnOk P w K mg base (L2.CX P w) 8 f fd ["self", "message"] (spSend K C C_BadValue) := by
  refine F.okX sc_Network_send (fun vs H Q E h => ?_) (fun cdv A outer s H vs Q E hr h => ?_)
  · obtain ⟨nw, v, dv, n, l, B, F, rfl, _⟩ := h
    rfl
  · obtain ⟨nw, v, dv, n, l, B, Fr, rfl, hA, hv, okv, q1, q2⟩ := h
    refine ⟨_, (pss_cons (ps_if (pt_not (pt_val (pe_call G_is_message (hr.mono (by decide)) (by rfl) D_is_message.g D_is_message.F.kp D_is_message.b .nil pass0 (pa_cons (pv 1) pa_nil))))
  (pss_one (ps_raise rfl (takes_of rfl rfl rfl rfl) (Err.mk' E_BadValue rfl)))
  pss_nil)
  (pss_cons (ps_fldaug (pv 0) pe_int in_add)
  (pss_cons (ps_dput (hu_of hr) (pe_fld (pv 0) rfl) (pe_fld (pv 0) rfl) (pv 1) rfl)
  (pss_one (ps_ret (pe_fld (pv 0) rfl)))))), ?_⟩
    refine qe_when (b := !isMsg dv) hA (et_not (et_B (ev_call (ea_cons (ev_var rfl) ea_nil) (spB_v hv okv)))) (fun hb H1 hA => q2 (bnot_t hb) H1 hA) (fun hb H1 hA => ?_)
    obtain ⟨hvp, hl, q⟩ := q1 (bnot_f hb)
    obtain ⟨dx, d, hA⟩ := nw_open hA
    refine qe_faug (K := K) (i := n) (j := 1) 0 rfl hA (ev_var rfl) (fun _ => ev_c) L.cl L.nS rfl (by show 2 < 1000; decide) fun H2 hA => ?_
    have hA : At B (Pt nw (.ins C dx (nF (n + 1) d)) :: DctM K d l :: Fr) H2 := hA
    refine qm_put (K := K) (k := n + 1) (d := dv) 1 rfl hA (wv_var rfl hvp) (fun _ _ _ h => ev_fld (K := K) (ev_var rfl) (at_get 0 rfl h) L.cl L.nM rfl) (fun _ _ _ h => ev_fld (K := K) (ev_var rfl) (at_get 0 rfl h) L.cl L.nS rfl) hl fun B2 H3 b2 hA => ?_
    have hA : At B2 (Pt nw (.ins C dx (nF (n + 1) d)) :: DctM K d (putL l (n + 1) dv) :: Fr) H3 := hA
    exact se_ret hA (ev_fld (K := K) (ev_var rfl) (at_get 0 rfl hA) L.cl L.nS rfl) fun H4 hA => q B2 H4 b2 (nw_close hA)
def spNMsg (K : PySem.W.Frag) (C CU : Addr) : Sp := fun vs H Q E => ∃ (nw : Addr) (i n : Int) (l : DI) (B : Hp) (F : List MP), vs = [.ref nw, .int i] ∧ At B (NwM K C nw n l :: F) H ∧ (∀ d, look l i = some d → ∀ v B1 H1, Ex B B1 → At B1 (NwM K C nw n l :: F) H1 → Dp K B1 v d → Q v H1) ∧ (look l i = none → ∀ H1, At B (NwM K C nw n l :: F) H1 → E (.ref CU) none H1)
theorem ok_nmessage {f f_c C C_Unknown : Addr} {fd fd_c : FuncData} (F : Fun K "message" "Network.message" s_Network_message f fd) (L_Network : NwC K C) (D_Network__check_number : Dm K C "_check_number" "Network._check_number" s_Network__check_number ["self", "number"] f_c fd_c) (G_Network__check_number : FnOk P w K mg base (L2.CX P w) 2 f_c fd_c ["self", "number"] (spCN K C C_Unknown)) (T : Glo mg) : FnOk P w K mg base (L2.CX P w) 3 f fd ["self", "number"] (spNMsg K C C_Unknown) := by
  refine F.okX sc_Network_message (fun vs H Q E h => ?_) (fun cdv A outer s H vs Q E hr h => ?_)
  · obtain ⟨nw, i, n, l, B, F, rfl, _⟩ := h
    rfl
  · obtain ⟨nw, i, n, l, B, Fr, rfl, hA, q1, q2⟩ := h
    refine ⟨_, (pss_cons (ps_expr (pe_mx (pv 0) L_Network.cl D_Network__check_number.m G_Network__check_number (hr.mono (by decide)) D_Network__check_number.b (fun σ => passAt (takes_of rfl rfl rfl rfl) σ) (pa_cons (pv 1) pa_nil)))
  (pss_one (ps_ret (pe_dget (hu_of hr) (pe_fld (pv 0) rfl) (pv 1) (fun _ _ => rfl))))), ?_⟩
    refine q_drop0 (go_check (K := K) hA (ev_var rfl) (fun H1 e1 => ea_cons (ev_var rfl) ea_nil) (fun hs H1 hA => ?_) q2)
    obtain ⟨d, hd⟩ := Option.isSome_iff_exists.mp hs
    obtain ⟨dx, dd, hA⟩ := nw_open hA
    exact sw_ret hA (wv_dgetM (K := K) (k := i) (d := d) 1 rfl (fun _ _ _ h => ev_fld (K := K) (ev_var rfl) (at_get 0 rfl h) L_Network.cl L_Network.nM rfl) (fun _ _ _ _ => ev_var rfl) hd) fun x B1 H4 b1 hA hx => q1 d hd x B1 H4 b1 (nw_close hA) hx
def spNDrop (K : PySem.W.Frag) (C CU : Addr) : Sp := fun vs H Q E => ∃ (nw : Addr) (i n : Int) (l : DI) (B : Hp) (F : List MP), vs = [.ref nw, .int i] ∧ At B (NwM K C nw n l :: F) H ∧ ((look l i).isSome = true → ∀ H1, At B (NwM K C nw n (dropL l i) :: F) H1 → Q .non H1) ∧ (look l i = none → ∀ H1, At B (NwM K C nw n l :: F) H1 → E (.ref CU) none H1)
theorem sm_del {σ : L2.St} {B H : Hp} {l : List MP} {D : Ends} {td ty : TE} {a : Addr} {m : DI} {k : Int} (n : Nat) (e : l[n]? = some (DctM K a m)) (hA : At B l H) (hd : Ev td σ H (.ref a)) (hy : ∀ H1, Ev ty σ H1 (.int k)) (hk : (look m k).isSome = true) (g : ∀ H1, At B (l.set n (DctM K a (dropL m k))) H1 → D.nx σ H1) : sDDel td ty D σ H :=
  hd H (Ex.refl H) _ fun H1 e1 => hy H1 H1 (Ex.refl H1) _ fun H2 e2 => by
    have hA2 := at_ex hA (e1.trans e2)
    obtain ⟨vs, h1, h2⟩ := dct_at n e hA2
    obtain ⟨vs', g1, g2⟩ := kv_drop (k := k) h1
    refine ⟨a, kvD m vs, Sum.inl k, rfl, h2, rfl, ?_, ?_⟩
    · rcases kv_look k h1 with ⟨a1, a2⟩ | ⟨v, d, a1, a2, _⟩
      · rw [a1] at hk; cases hk
      · rw [a2]; rfl
    · rw [g1]
      exact g _ (dct_upd n e hA2 g2)
theorem ok_ndrop {f f_c C C_Unknown : Addr} {fd fd_c : FuncData} (F : Fun K "drop" "Network.drop" s_Network_drop f fd) (L_Network : NwC K C) (D_Network__check_number : Dm K C "_check_number" "Network._check_number" s_Network__check_number ["self", "number"] f_c fd_c) (G_Network__check_number : FnOk P w K mg base (L2.CX P w) 2 f_c fd_c ["self", "number"] (spCN K C C_Unknown)) (T : Glo mg) : FnOk P w K mg base (L2.CX P w) 3 f fd ["self", "number"] (spNDrop K C C_Unknown) := by
  refine F.okX sc_Network_drop (fun vs H Q E h => ?_) (fun cdv A outer s H vs Q E hr h => ?_)
  · obtain ⟨nw, i, n, l, B, F, rfl, _⟩ := h
    rfl
  · obtain ⟨nw, i, n, l, B, Fr, rfl, hA, q1, q2⟩ := h
    refine ⟨_, (pss_cons (ps_expr (pe_mx (pv 0) L_Network.cl D_Network__check_number.m G_Network__check_number (hr.mono (by decide)) D_Network__check_number.b (fun σ => passAt (takes_of rfl rfl rfl rfl) σ) (pa_cons (pv 1) pa_nil)))
  (pss_one (ps_ddel (pe_fld (pv 0) rfl) (pv 1)))), ?_⟩
    refine q_drop0 (go_check (K := K) hA (ev_var rfl) (fun H1 e1 => ea_cons (ev_var rfl) ea_nil) (fun hs H1 hA => ?_) q2)
    obtain ⟨dx, dd, hA⟩ := nw_open hA
    exact sm_del (K := K) 1 rfl hA (ev_fld (K := K) (ev_var rfl) (at_get 0 rfl hA) L_Network.cl L_Network.nM rfl) (fun _ => ev_var rfl) hs fun H2 hA => q1 hs H2 (nw_close hA)
def keyL (l : DI) : List PyData := (l.map (·.1)).map PyData.int
def spNNum (K : PySem.W.Frag) (C : Addr) : Sp := fun vs H Q _ => ∃ (nw : Addr) (n : Int) (l : DI) (B : Hp) (F : List MP), vs = [.ref nw] ∧ At B (NwM K C nw n l :: F) H ∧ ∀ p H1, At B (LstM K p (keyL l) :: NwM K C nw n l :: F) H1 → Q (.ref p) H1
theorem kv_keysV {B : Hp} {l : DI} {vs : List V} (h : DpAll K B vs (l.map (·.2))) : (kvD l vs).map (fun kv => kV kv.1) = (l.map (·.1)).map V.int := by
  have := kv_keys h
  have e : (kvD l vs).map (fun kv => kV kv.1) = ((kvD l vs).map (·.1)).map kV := by rw [List.map_map]; rfl
  rw [e, this, List.map_map]
  rfl
theorem ok_nnum {f C : Addr} {fd : FuncData} (F : Fun K "numbers" "Network.numbers" s_Network_numbers f fd) (L_Network : NwC K C) (T : Glo mg) : FnOk P w K mg base CX0 1 f fd ["self"] (spNNum K C) := by
  refine F.ok sc_Network_numbers (fun vs H Q E h => ?_) (fun cdv A outer s H vs Q E hr h => ?_)
  · obtain ⟨nw, n, l, B, F, rfl, _⟩ := h
    rfl
  · obtain ⟨nw, n, l, B, Fr, rfl, hA, q⟩ := h
    refine ⟨_, (pss_one (ps_ret (pe_callTy (call_listD rfl) (by rfl) T.list (by decide +kernel) (pa_cons (pe_fld (pv 0) rfl) pa_nil)))), ?_⟩
    obtain ⟨dx, d, hA⟩ := nw_open hA
    refine r_do (go_cons (ev_fld (K := K) (ev_var rfl) (at_get 0 rfl hA) L_Network.cl L_Network.nM rfl) fun H1 e1 => go_nil ?_)
    have hA := at_ex hA e1
    obtain ⟨vs, h1, h2⟩ := dct_at (K := K) 1 rfl hA
    refine ⟨d, kvD l vs, rfl, .inl h2, fun p hp => ?_⟩
    rw [kv_keysV h1]
    have hA2 := lst_new (K := K) hA hp (Ex.new hp) upd_same (dpa_ints (K := K) (H := B) (l.map (·.1)))
    exact q p _ (at_swap (nw_close (at_ix 3 [1, 2, 0] hA2)))
def spNLen (K : PySem.W.Frag) (C : Addr) : Sp := fun vs H Q _ => ∃ (nw : Addr) (n : Int) (l : DI) (B : Hp) (F : List MP), vs = [.ref nw] ∧ At B (NwM K C nw n l :: F) H ∧ ∀ H1, Ex H H1 → Q (.int (l.length : Int)) H1
theorem ok_nlen {f C : Addr} {fd : FuncData} (F : Fun K "__len__" "Network.__len__" s_Network___len__ f fd) (L_Network : NwC K C) (T : Glo mg) : FnOk P w K mg base CX0 1 f fd ["self"] (spNLen K C) := by
  refine F.ok sc_Network___len__ (fun vs H Q E h => ?_) (fun cdv A outer s H vs Q E hr h => ?_)
  · obtain ⟨nw, n, l, B, F, rfl, _⟩ := h
    rfl
  · obtain ⟨nw, n, l, B, Fr, rfl, hA, q⟩ := h
    refine ⟨_, (pss_one (ps_ret (pe_callB call_lenD (by rfl) T.len PySem.boot_len (pa_cons (pe_fld (pv 0) rfl) pa_nil)))), ?_⟩
    obtain ⟨dx, d, hA⟩ := nw_open hA
    refine r_do (go_cons (ev_fld (K := K) (ev_var rfl) (at_get 0 rfl hA) L_Network.cl L_Network.nM rfl) fun H1 e1 => go_nil ?_)
    obtain ⟨vs, h1, h2⟩ := dct_at (K := K) 1 rfl (at_ex hA e1)
    refine ⟨d, kvD l vs, rfl, h2, ?_⟩
    rw [kv_len h1]
    exact q H1 e1
def spNIter (K : PySem.W.Frag) (C : Addr) (n : Nat) : Sp := fun vs H Q _ => ∃ (nw d dx : Addr) (c : Int) (o : Obj) (kvs : List (Key × V)), vs = [.ref nw] ∧ H nw = some (.ins C dx (nF c d)) ∧ H d = some (.frz o (.dK kvs)) ∧ ∀ it H1, Ex H H1 → H1 it = none → n ≤ it → Q (.ref it) (upd H1 it (ItKy d o kvs.length it))
theorem ok_niter {f C : Addr} {fd : FuncData} (F : Fun K "__iter__" "Network.__iter__" s_Network___iter__ f fd) (L_Network : NwC K C) (T : Glo mg) : FnN P w K mg base CX0 1 f fd ["self"] (spNIter K C) := by
  refine okN_of F sc_Network___iter__ (fun n vs H Q E h => ?_) (fun cdv A outer s H vs Q E hr h => ?_)
  · obtain ⟨nw, d, dx, c, o, kvs, rfl, _⟩ := h
    rfl
  · obtain ⟨nw, d, dx, c, o, kvs, rfl, ht, hs, q⟩ := h
    refine ⟨_, (pss_one (ps_ret (pe_callB call_iterK (by rfl) T.iter (by decide +kernel) (pa_cons (pe_fld (pv 0) rfl) pa_nil)))), ?_⟩
    refine r_do (go_cons (ev_fld (K := K) (ev_var rfl) ht L_Network.cl L_Network.nM rfl) fun H1 e1 => go_nil ⟨d, o, kvs, rfl, e1 _ _ hs, fun it hit hn => ?_⟩)
    exact q it H1 e1 hit hn
def rG (K : PySem.W.Frag) (φ : PyData → Prop) : Rr := ⟨fun v B => ∃ d, Dp K B v d ∧ φ d, fun e ⟨d, h, k⟩ => ⟨d, dp_mono e _ _ h, k⟩⟩
section
variable {σ : L2.St} {B H : Hp} {l : List MP} {ta tb te tn : TE} {tt : TA} {D : Ends} {tz tu : TS} {s : Addr} {E : XK} {φ ψ : PyData → Prop} {ρ : Int → Prop} {i j : Nat} {ds es : List PyData} {m : Nat}
theorem wg_ed {d : PyData} (h : ∀ B1, Ex B B1 → EvD K te σ B1 d) (hd : φ d) : Wv te σ B l (rG K φ) := Wv.to (R := rD K d) (R' := rG K φ) (fun v B hv => ⟨d, hv, hd⟩) (wv_ed h)
theorem wg_n (h : Wv te σ B l (rN ρ)) (hφ : ∀ i, ρ i → φ (.int i)) : Wv te σ B l (rG K φ) := Wv.to (R := rN ρ) (R' := rG K φ) (fun v B ⟨i, hv, hi⟩ => ⟨.int i, by subst hv; exact .int i, hφ i hi⟩) h
theorem wg_to (h : Wv te σ B l (rG K φ)) (hφ : ∀ d, φ d → ψ d) : Wv te σ B l (rG K ψ) := Wv.to (R := rG K φ) (R' := rG K ψ) (fun v B ⟨d, h1, h2⟩ => ⟨d, h1, hφ d h2⟩) h
/-- what is drawn of a tuple, of a list that is written out -/
theorem wv_ixTG (hz : ds.length ≤ 100000) (ht : ∀ B1, Ex B B1 → EvDs K tt σ B1 ds) (hb : Wv tb σ B l (rN ρ)) (hr : ∀ j, ρ j → 0 ≤ j ∧ j < (ds.length : Int)) (hψ : ∀ d ∈ ds, ψ d) : Wv (tOp (rIxT K) (tTup tt) tb) σ B l (rG K ψ) := fun B1 H1 e1 hA Q q =>
  go_op ((ed_tup (ht B1 e1) hz) H1 (at_base hA) _ fun v H2 e2 hv => by
    have hA2 := at_grow hA e2
    have bb : Ex B1 (ov B1 H1 H2) := ov_base
    generalize ov B1 H1 H2 = B2 at hA2 hv bb
    cases hv with
    | @tup a xs _ hs hd =>
      exact hb B2 H2 (e1.trans bb) hA2 _ fun w B3 H3 e3 hA3 ⟨j, hw, hj⟩ => by
        subst hw
        obtain ⟨h0, h1⟩ := hr j hj
        obtain ⟨k, rfl⟩ : ∃ k : Nat, j = (k : Int) := ⟨j.toNat, by omega⟩
        have hk : k < ds.length := by omega
        obtain ⟨x, hx, hxd⟩ := dpa_at hd (List.getElem?_eq_getElem hk)
        exact ⟨a, xs, (k : Int), x, rfl, rfl, ex_t (e3.trans (at_base hA3)) hs, atI_nat hx, q x B3 H3 (bb.trans e3) hA3 ⟨_, dp_mono e3 _ _ hxd, hψ _ (List.getElem_mem hk)⟩⟩)
/-- of a list of its own -/
theorem wv_ixMG {a : Addr} (n : Nat) (e : l[n]? = some (LstM K a ds)) (ha : σ[i]? = some (some (.ref a))) (hb : Wv tb σ B l (rN ρ)) (hr : ∀ j, ρ j → 0 ≤ j ∧ j < (ds.length : Int)) (hψ : ∀ d ∈ ds, ψ d) : Wv (tOp (rIxL K) (tVar i) tb) σ B l (rG K ψ) := fun B1 H1 e1 hA Q q =>
  go_op (go_ev (ev_var ha) fun H2 e2 => hb B1 H2 e1 (at_ex hA e2) _ fun w B3 H3 e3 hA3 ⟨j, hw, hj⟩ => by
    subst hw
    obtain ⟨h0, h1⟩ := hr j hj
    obtain ⟨k, rfl⟩ : ∃ k : Nat, j = (k : Int) := ⟨j.toNat, by omega⟩
    have hk : k < ds.length := by omega
    obtain ⟨xs, hd, hx⟩ := lst_at n e hA3
    obtain ⟨x, hx2, hxd⟩ := dpa_at hd (List.getElem?_eq_getElem hk)
    exact ⟨a, xs, (k : Int), x, rfl, rfl, sq_of hx, atI_nat hx2, q x B3 H3 e3 hA3 ⟨_, hxd, hψ _ (List.getElem_mem hk)⟩⟩)
theorem sm_appG {a : Addr} (n : Nat) (e : l[n]? = some (LstM K a ds)) (hA : At B l H) (ha : ∀ H1, Ev ta σ H1 (.ref a)) (h : Wv te σ B l (rG K φ)) (hz : ds.length < 100000) (c : ∀ d B1 H1, φ d → Ex B B1 → At B1 (l.set n (LstM K a (ds ++ [d]))) H1 → D.nx σ H1) : tDrop (tBM K "list" rAppend ta (tCons te tNil)) D σ H :=
  ha H H (Ex.refl H) _ fun H1 e1 => by
    have hA1 := at_ex hA e1
    obtain ⟨xs, h1, h2⟩ := lst_at n e hA1
    refine ⟨.inl ⟨rfl, xs, sq_of h2⟩, h B H1 (Ex.refl B) hA1 _ fun v B2 H2 b2 hA2 ⟨d, hv, hd⟩ => ?_⟩
    obtain ⟨xs, h1, h2⟩ := lst_at n e hA2
    exact ⟨a, xs, v, rfl, rfl, h2, sz_lt (by rw [dpa_len h1]; exact hz), c d B2 _ hd b2 (lst_upd n e hA2 (dpa_app h1 (dpa_one hv)))⟩
/-- a row of things of one kind -/
def WaP (K : PySem.W.Frag) (ta : TA) (σ : L2.St) (B : Hp) (l : List MP) (φ : PyData → Prop) (m : Nat) : Prop := ∀ B1 H, Ex B B1 → At B1 l H → ∀ Q : List V → Hp → Prop, (∀ vs ds B2 H2, Ex B1 B2 → At B2 l H2 → DpAll K B2 vs ds → ds.length = m → (∀ d ∈ ds, φ d) → Q vs H2) → ta σ H Q
theorem wap_nil : WaP K tNil σ B l φ 0 := fun B1 H1 _ hA Q q => q [] [] B1 H1 (Ex.refl B1) hA .nil rfl (fun _ h => nomatch h)
theorem wap_cons {tr : TA} (h : Wv te σ B l (rG K φ)) (hr : WaP K tr σ B l φ m) : WaP K (tCons te tr) σ B l φ (m + 1) := fun B1 H1 e1 hA Q q =>
  h B1 H1 e1 hA _ fun v B2 H2 e2 hA2 ⟨d, hv, hd⟩ => hr B2 H2 (e1.trans e2) hA2 _ fun vs ds B3 H3 e3 hA3 hvs hl hds => q (v :: vs) (d :: ds) B3 H3 (e2.trans e3) hA3 (.cons (dp_mono e3 _ _ hv) hvs) (by rw [List.length_cons, hl]) (fun e he => by
    rcases List.mem_cons.mp he with rfl | he
    · exact hd
    · exact hds e he)
/-- a new list of them -/
theorem go_lstG {Q : VK} (hA : At B l H) (h : WaP K tt σ B l φ m) (hm : m ≤ 100000) (k : ∀ p ds B1 H1, Ex B B1 → At B1 (LstM K p ds :: l) H1 → ds.length = m → (∀ d ∈ ds, φ d) → Q (.ref p) H1) : tLst tt σ H Q :=
  go_lst (h B H (Ex.refl B) hA _ fun vs ds B1 H1 e1 hA1 hv hl hd => ⟨by rw [dpa_len hv, hl]; exact sz_of hm, fun p hp => k p ds B1 _ e1 (lst_new hA1 hp (Ex.new hp) upd_same hv) hl hd⟩)
/-- a list of its own and a new one -/
theorem go_catG {Q : VK} {a : Addr} (n : Nat) (e : l[n]? = some (LstM K a ds)) (hA : At B l H) (ha : σ[i]? = some (some (.ref a))) (h : WaP K tt σ B l φ m) (hm : ds.length + m ≤ 100000) (hd : ∀ d ∈ ds, φ d) (k : ∀ p es B1 H1, Ex B B1 → At B1 (LstM K p es :: l) H1 → es.length = ds.length + m → (∀ d ∈ es, φ d) → Q (.ref p) H1) : tOp rCat (tVar i) (tLst tt) σ H Q :=
  go_op (go_ev (ev_var ha) fun H1 e1 => go_lstG (at_ex hA e1) h (by omega) fun p es B2 H2 b2 hA2 hl hes => by
    obtain ⟨xs, h1, h2⟩ := lst_at (n + 1) (by rw [List.getElem?_cons_succ]; exact e) hA2
    obtain ⟨ys, g1, g2⟩ := lst_at 0 rfl hA2
    have hz : xs.length + ys.length ≤ 100000 := by rw [dpa_len h1, dpa_len g1, hl]; exact hm
    exact ⟨a, p, xs, ys, rfl, rfl, h2, g2, sz_of hz, fun q hq => k q (ds ++ es) B2 _ b2 (lst_new (at_drop hA2) hq (Ex.new hq) upd_same (dpa_app h1 g1)) (by rw [List.length_append, hl]) (fun d hd' => by
      rcases List.mem_append.mp hd' with hd' | hd'
      · exact hd d hd'
      · exact hes d hd')⟩)
/-- if what is drawn is c: .., then on -/
theorem qw_ifJ {c : Int} {J : L2.St → Hp → Prop} (hA : At B l H) (h : Wv te σ B l (rN ρ)) (h1 : ∀ B1 H1, Ex B B1 → At B1 l H1 → ∀ Dn : Ends, (∀ σ' H', J σ' H' → Dn.nx σ' H') → tu Dn σ H1) (h2 : ∀ B1 H1, Ex B B1 → At B1 l H1 → J σ H1) (k : ∀ σ' H', J σ' H' → tz D σ' H') : tSeq (tIfS (tTest (tOp rEq te (tC (.int c)))) tu tNext) tz D σ H :=
  qw_whenEq hA h (fun B1 H1 b1 hA => h1 B1 H1 b1 hA { D with nx := tz D } k) (fun B1 H1 b1 hA => k σ H1 (h2 B1 H1 b1 hA))
def spG (K : PySem.W.Frag) (φ : PyData → Prop) : Sp := fun vs H Q _ => ∃ (s : Addr) (B : Hp) (F : List MP), vs = [.ref s] ∧ At B (StM s :: F) H ∧ ∀ v d B1 H1, Ex B B1 → Dp K B1 v d → φ d → At B1 (StM s :: F) H1 → Q v H1
theorem wv_g (j : Nat) (hj : l[j]? = some (StM s)) (hs : σ[i]? = some (some (.ref s))) : Wv (tCall (spG K φ) [] E (tCons (tVar i) tNil)) σ B l (rG K φ) := fun B1 H e1 hA Q q =>
  go_call (go_cons (ev_var hs) fun H1 e2 => go_nil ⟨s, B1, l.eraseIdx j, rfl, at_pull j hj (at_ex hA e2), fun v d B3 H3 b3 hv hd hA3 => q v B3 H3 b3 (by
    have := at_put j hj hA3
    rwa [List.set_getElem?_self' hj] at this) ⟨d, hv, hd⟩⟩)
end
theorem wv_tupM {σ : L2.St} {B : Hp} {l : List MP} {ta : TE} {a : Addr} {ds : List PyData} (n : Nat) (hk : l[n]? = some (LstM K a ds)) (ha : ∀ B1 H, Ex B B1 → At B1 l H → Ev ta σ H (.ref a)) : Wv (tThen ta (kTup K)) σ B l (rD K (.tuple ds)) := fun B1 H e1 hA Q q =>
  ha B1 H e1 hA H (Ex.refl H) _ fun H1 e2 => by
    have hA1 := at_ex hA e2
    obtain ⟨xs, h1, h2⟩ := lst_at n hk hA1
    exact .inl ⟨a, xs, rfl, sq_of h2, fun p hp => q _ (ov B1 H1 (upd H1 p (.tup xs))) _ ov_base (at_grow hA1 (Ex.new hp)) (.tup (st_of (ov_new (at_base hA1) (Ex.refl H1) hp)) (dpa_mono ov_base _ _ h1))⟩
theorem k_tup {B H : Hp} {l : List MP} {p : Addr} {ds : List PyData} {Q : VK} (n : Nat) (hn : l[n]? = some (LstM K p ds)) (hA : At B l H) (q : ∀ v B1 H1, Ex B B1 → At B1 l H1 → Dp K B1 v (.tuple ds) → Q v H1) : kTup K (.ref p) H Q := by
  obtain ⟨xs, hxs, hp⟩ := lst_at (K := K) n hn hA
  refine .inl ⟨p, xs, rfl, sq_of hp, fun o ho => ?_⟩
  obtain ⟨k1, k2, k3⟩ := Ap.at_tup (vs := xs) hA ho
  exact q _ _ _ k1 k2 (.tup (st_of k3) (dpa_mono k1 _ _ hxs))
def jmc : List Str := ["journal", "manager", "client"]
def MchP (d : PyData) : Prop := ∃ (k : Str) (i : Int), d = .tuple [.str k, .int i] ∧ k ∈ jmc ∧ 0 ≤ i ∧ i ≤ 1000000000000000000
theorem isN_of {i : Int} (h0 : 0 ≤ i) (h1 : i ≤ 1000000000000000000) : isN (.int i) = true := by
  show (isI (.int i) && decide (0 ≤ i)) = true
  rw [isI_iff (by omega) h1, decide_eq_true h0]
  rfl
theorem jmc_ok {k : Str} (h : k ∈ jmc) : kOk (.str k) = true ∧ k.length ≤ 1000 := by
  simp only [jmc, List.mem_cons, List.not_mem_nil, or_false] at h
  rcases h with rfl | rfl | rfl <;> exact ⟨by decide +kernel, by decide +kernel⟩
theorem mchP_is {d : PyData} (h : MchP d) : isMach d = true := by
  obtain ⟨k, i, rfl, hk, h0, h1⟩ := h
  show (decide (([PyData.str k, .int i]).length = 2) && (kOk (.str k) && isN (.int i))) = true
  rw [(jmc_ok hk).1, isN_of h0 h1]
  rfl
theorem mchP_okd {n : Nat} {d : PyData} (h : MchP d) : Okd (n + 1) d := by
  obtain ⟨k, i, rfl, hk, h0, h1⟩ := h
  refine .tup (by show 2 ≤ 1000; decide) fun d hd => ?_
  simp only [List.mem_cons, List.not_mem_nil, or_false] at hd
  rcases hd with rfl | rfl
  · exact .str (jmc_ok hk).2
  · exact .int _
theorem ok_lmachine {f f_n : Addr} {fd fd_n : FuncData} (F : Fun K "_law_machine" "_law_machine" s__law_machine f fd) (D__law_next : Df K mg "_law_next" s__law_next ["stream", "size"] f_n fd_n) (G__law_next : FnOk P w K mg base CX0 1 f_n fd_n ["stream", "size"] spNext) (T : Glo mg) : FnOk P w K mg base CX0 2 f fd ["stream"] (spG K MchP) := by
  refine F.ok sc__law_machine (fun vs H Q E h => ?_) (fun cdv A outer s H vs Q E hr h => ?_)
  · obtain ⟨s, B, F, rfl, _⟩ := h
    rfl
  · obtain ⟨s, B, Fr, rfl, hA, q⟩ := h
    refine ⟨_, (pss_cons (ps_set (i := 1) sc__law_machine.nd rfl (.inl rfl) (pe_ix ix_tup (pe_tup (pa_cons pe_str (pa_cons pe_str (pa_cons pe_str pa_nil)))) (pe_call G__law_next (hr.mono (by decide)) (by rfl) D__law_next.g D__law_next.F.kp D__law_next.b .nil pass0 (pa_cons (pv 0) (pa_cons pe_int pa_nil))) (fun _ _ => rfl)))
  (pss_cons (ps_set (i := 2) sc__law_machine.nd rfl (.inl rfl) (pe_call G__law_next (hr.mono (by decide)) (by rfl) D__law_next.g D__law_next.F.kp D__law_next.b .nil pass0 (pa_cons (pv 0) (pa_cons pe_int pa_nil))))
  (pss_cons (ps_if (pt_cmpR op_eq (pe_call G__law_next (hr.mono (by decide)) (by rfl) D__law_next.g D__law_next.F.kp D__law_next.b .nil pass0 (pa_cons (pv 0) (pa_cons pe_int pa_nil))) pe_int (nomark _))
  (pss_one (ps_set (i := 2) sc__law_machine.nd rfl (.inl rfl) (pe_op op_add (pe_op op_mul (pe_call G__law_next (hr.mono (by decide)) (by rfl) D__law_next.g D__law_next.F.kp D__law_next.b .nil pass0 (pa_cons (pv 0) (pa_cons (pe_op op_pow pe_int pe_int) pa_nil))) (pe_op op_pow pe_int pe_int)) (pe_call G__law_next (hr.mono (by decide)) (by rfl) D__law_next.g D__law_next.F.kp D__law_next.b .nil pass0 (pa_cons (pv 0) (pa_cons (pe_op op_pow pe_int pe_int) pa_nil))))))
  pss_nil)
  (pss_cons (ps_if (pt_cmpR op_eq (pe_call G__law_next (hr.mono (by decide)) (by rfl) D__law_next.g D__law_next.F.kp D__law_next.b .nil pass0 (pa_cons (pv 0) (pa_cons pe_int pa_nil))) pe_int (nomark _))
  (pss_one (ps_set (i := 2) sc__law_machine.nd rfl (.inl rfl) (pe_op op_pow pe_int pe_int)))
  pss_nil)
  (pss_one (ps_ret (pe_tup (pa_cons (pv 1) (pa_cons (pv 2) pa_nil))))))))), ?_⟩
    refine qw_asg hA (wv_ixTG (K := K) (ds := [.str "journal", .str "manager", .str "client"]) (ψ := fun d => ∃ k, d = .str k ∧ k ∈ jmc) (by decide) (fun B1 b1 => eds_cons ed_str (eds_cons ed_str (eds_cons ed_str eds_nil))) (wv_next 0 rfl rfl (fun H => ev_c) (by decide) (by decide)) (fun j hj => hj) (fun d hd => by
      simp only [List.mem_cons, List.not_mem_nil, or_false] at hd
      rcases hd with rfl | rfl | rfl
      · exact ⟨_, rfl, by decide +kernel⟩
      · exact ⟨_, rfl, by decide +kernel⟩
      · exact ⟨_, rfl, by decide +kernel⟩)) fun v B1 H1 b1 hA ⟨d, hd, k, hk, hj⟩ => ?_
    subst hk
    cases hd
    refine qw_asg hA (wv_next 0 rfl rfl (fun H => ev_c) (by decide) (by decide)) fun v B2 H2 b2 hA ⟨n, hv, hn⟩ => ?_
    subst hv
    refine qw_ifJ (J := fun σ' H' => ∃ (n : Int) (B' : Hp), σ' = [some (V.ref s), some (.str k), some (.int n)] ∧ Ex B2 B' ∧ At B' (StM s :: Fr) H' ∧ 0 ≤ n ∧ n ≤ 1000000000000000000) hA (wv_next 0 rfl rfl (fun H => ev_c) (by decide) (by decide)) (fun B3 H3 b3 hA Dn hn => sw_asg hA (wv_big 0 rfl rfl) fun v B4 H4 b4 hA ⟨m, hv, hm⟩ => ?_) (fun B3 H3 b3 hA => ⟨n, B3, rfl, b3, hA, hn.1, by have := hn.2; omega⟩) (fun σ' H3 ⟨m, B3, hσ, b3, hA, m0, m1⟩ => ?_)
    · subst hv
      exact hn _ _ ⟨m, B4, rfl, b3.trans b4, hA, hm.1, by have := hm.2; omega⟩
    subst hσ
    refine qw_ifJ (J := fun σ' H' => ∃ (n : Int) (B' : Hp), σ' = [some (V.ref s), some (.str k), some (.int n)] ∧ Ex B3 B' ∧ At B' (StM s :: Fr) H' ∧ 0 ≤ n ∧ n ≤ 1000000000000000000) hA (wv_next 0 rfl rfl (fun H => ev_c) (by decide) (by decide)) (fun B4 H4 b4 hA Dn hn => sw_asg hA wv_p18 fun v B5 H5 b5 hA ⟨m, hv, hm⟩ => ?_) (fun B4 H4 b4 hA => ⟨m, B4, rfl, b4, hA, m0, m1⟩) (fun σ' H4 ⟨m, B4, hσ, b4, hA, m0, m1⟩ => ?_)
    · subst hv
      have hm : m = 1000000000000000000 := hm
      exact hn _ _ ⟨m, B5, rfl, b4.trans b5, hA, by omega, by omega⟩
    subst hσ
    exact sw_ret hA (wg_ed (K := K) (φ := MchP) (fun B1 b1 => ed_tup (eds_cons (ed_of (ev_var rfl) (.str k)) (eds_cons (ed_int (ev_var rfl)) eds_nil)) (by show 2 ≤ 100000; decide)) ⟨k, m, rfl, hj, m0, m1⟩) fun v B5 H5 b5 hA ⟨d, hd, hP⟩ => q v d B5 H5 (b1.trans (b2.trans (b3.trans (b4.trans b5)))) hd hP hA
def NumP (d : PyData) : Prop := ∃ i, d = .int i ∧ 0 ≤ i ∧ i ≤ 1000000000000000000
theorem ok_lnumber {f f_n : Addr} {fd fd_n : FuncData} (F : Fun K "_law_number" "_law_number" s__law_number f fd) (D__law_next : Df K mg "_law_next" s__law_next ["stream", "size"] f_n fd_n) (G__law_next : FnOk P w K mg base CX0 1 f_n fd_n ["stream", "size"] spNext) (T : Glo mg) : FnOk P w K mg base CX0 2 f fd ["stream"] (spG K NumP) := by
  refine F.ok sc__law_number (fun vs H Q E h => ?_) (fun cdv A outer s H vs Q E hr h => ?_)
  · obtain ⟨s, B, F, rfl, _⟩ := h
    rfl
  · obtain ⟨s, B, Fr, rfl, hA, q⟩ := h
    refine ⟨_, (pss_cons (ps_if (pt_cmpR op_eq (pe_call G__law_next (hr.mono (by decide)) (by rfl) D__law_next.g D__law_next.F.kp D__law_next.b .nil pass0 (pa_cons (pv 0) (pa_cons pe_int pa_nil))) pe_int (nomark _))
  (pss_one (ps_ret (pe_op op_sub (pe_op op_pow pe_int pe_int) (pe_call G__law_next (hr.mono (by decide)) (by rfl) D__law_next.g D__law_next.F.kp D__law_next.b .nil pass0 (pa_cons (pv 0) (pa_cons pe_int pa_nil))))))
  pss_nil)
  (pss_one (ps_ret (pe_call G__law_next (hr.mono (by decide)) (by rfl) D__law_next.g D__law_next.F.kp D__law_next.b .nil pass0 (pa_cons (pv 0) (pa_cons (pe_op op_pow pe_int pe_int) pa_nil)))))), ?_⟩
    refine qw_whenEq hA (wv_next 0 rfl rfl (fun H => ev_c) (by decide) (by decide)) (fun B5 H5 b5 hA => ?_) (fun B5 H5 b5 hA => ?_)
    · exact sw_ret hA (wv_subW wv_p18 (wv_next 0 rfl rfl (fun H => ev_c) (by decide) (by decide)) (χ := fun i => 0 ≤ i ∧ i ≤ 1000000000000000000) fun i j hi hj => by
        have hi : i = 1000000000000000000 := hi
        have := hj.1
        have := hj.2
        omega) fun v B6 H6 b6 hA ⟨i, hv, hi⟩ => by
        subst hv
        exact q _ _ B6 H6 (b5.trans b6) (.int i) ⟨i, rfl, hi⟩ hA
    · exact sw_ret hA (wv_next 0 rfl rfl (n := 1000000) (fun H => by
        refine' ev_is ?c ?d
        case c => walk_at "ev"
        case d => rfl) (by decide) (by decide)) fun v B6 H6 b6 hA ⟨i, hv, hi⟩ => by
        subst hv
        exact q _ _ B6 H6 (b5.trans b6) (.int i) ⟨i, rfl, hi.1, by have := hi.2; omega⟩ hA
theorem neS_str {x : Str} (h : x ≠ "") : neS (.str x) = true := by
  show (!decide (V.str x = V.str "")) = true
  rw [decide_eq_false (fun e => h (V.str.inj e))]
  rfl
def DeedP (d : PyData) : Prop := isDeed d = true
theorem isDeed_mk {x : Str} {r : List PyData} (h1 : isT (.str x) = true) (h2 : x ≠ "") (hl : r.length ≤ 3) (hr : ∀ d ∈ r, isP d = true) : isDeed (.tuple (.str x :: r)) = true := by
  show (((decide (1 ≤ (((PyData.str x :: r).length : Nat) : Int)) && decide ((((PyData.str x :: r).length : Nat) : Int) ≤ 4)) && (isT (.str x) && neS (.str x))) && (PyData.str x :: r).all isP) = true
  rw [decide_eq_true (by rw [List.length_cons]; omega), decide_eq_true (by rw [List.length_cons]; omega), h1, neS_str h2, List.all_eq_true.mpr fun d hd => by
    rcases List.mem_cons.mp hd with rfl | hd
    · show (isI (.str x) || isT (.str x)) = true
      rw [h1, Bool.or_true]
    · exact hr d hd]
  rfl
theorem deed_okd {n : Nat} {d : PyData} (h : isDeed d = true) : Okd (n + 1) d := by
  cases d with
  | tuple ds =>
    have h : (((decide (1 ≤ (ds.length : Int)) && decide ((ds.length : Int) ≤ 4)) && (isT (ds.getD 0 .none) && neS (ds.getD 0 .none))) && ds.all isP) = true := h
    obtain ⟨h1, h2⟩ := Bool.and_eq_true_iff.mp h
    have h3 := of_decide_eq_true (Bool.and_eq_true_iff.mp (Bool.and_eq_true_iff.mp h1).1).2
    exact .tup (by omega) fun d hd => isP_okd (List.all_eq_true.mp h2 d hd)
  | _ => cases h
def deedHs : List PyData := [.str "append", .str "seal", .str "x", .str "limit", .str "zz"]
def deedIs : List PyData := [.str "/a", .int 0, .int (-1000000000000000000), .str "", .int 1000000000000000000, .str "b c"]
theorem deedHs_ok : ∀ d ∈ deedHs, ∃ x, d = .str x ∧ isT (.str x) = true ∧ x ≠ "" := by
  intro d hd
  simp only [deedHs, List.mem_cons, List.not_mem_nil, or_false] at hd
  rcases hd with rfl | rfl | rfl | rfl | rfl <;> exact ⟨_, rfl, by decide +kernel, by decide +kernel⟩
theorem deedIs_ok : ∀ d ∈ deedIs, isP d = true := by
  intro d hd
  simp only [deedIs, List.mem_cons, List.not_mem_nil, or_false] at hd
  rcases hd with rfl | rfl | rfl | rfl | rfl | rfl <;> decide +kernel
theorem ok_ldeed {f f_n : Addr} {fd fd_n : FuncData} (F : Fun K "_law_deed" "_law_deed" s__law_deed f fd) (D__law_next : Df K mg "_law_next" s__law_next ["stream", "size"] f_n fd_n) (G__law_next : FnOk P w K mg base CX0 1 f_n fd_n ["stream", "size"] spNext) (T : Glo mg) : FnOk P w K mg base CX0 2 f fd ["stream"] (spG K DeedP) := by
  refine F.ok sc__law_deed (fun vs H Q E h => ?_) (fun cdv A outer s H vs Q E hr h => ?_)
  · obtain ⟨s, B, F, rfl, _⟩ := h
    rfl
  · obtain ⟨s, B, Fr, rfl, hA, q⟩ := h
    refine ⟨_, (pss_cons (ps_set (i := 1) sc__law_deed.nd rfl (.inl rfl) (pe_lst (pa_cons (pe_ix ix_tup (pe_tup (pa_cons pe_str (pa_cons pe_str (pa_cons pe_str (pa_cons pe_str (pa_cons pe_str pa_nil)))))) (pe_call G__law_next (hr.mono (by decide)) (by rfl) D__law_next.g D__law_next.F.kp D__law_next.b .nil pass0 (pa_cons (pv 0) (pa_cons pe_int pa_nil))) (fun _ _ => rfl)) pa_nil)))
  (pss_cons (ps_for PassesOwn.never rfl (pi_range1 (by rfl) T.range (pa_cons (pe_call G__law_next (hr.mono (by decide)) (by rfl) D__law_next.g D__law_next.F.kp D__law_next.b .nil pass0 (pa_cons (pv 0) (pa_cons pe_int pa_nil))) pa_nil)) (pg_name (i := 2) sc__law_deed.nd rfl (.inl rfl))
  (pss_one (ps_expr (pe_bm PySem.F.plainAttrs_list PySem.F.slot_list_append PySem.F.type_list_append mt_append (pv 1) (pa_cons (pe_ix ix_tup (pe_tup (pa_cons pe_str (pa_cons pe_int (pa_cons (pe_un un_neg (pe_op op_pow pe_int pe_int)) (pa_cons pe_str (pa_cons (pe_op op_pow pe_int pe_int) (pa_cons pe_str pa_nil))))))) (pe_call G__law_next (hr.mono (by decide)) (by rfl) D__law_next.g D__law_next.F.kp D__law_next.b .nil pass0 (pa_cons (pv 0) (pa_cons pe_int pa_nil))) (fun _ _ => rfl)) pa_nil)))))
  (pss_one (ps_ret (pe_tupleOf (by rfl) T.tuple (pv 1)))))), ?_⟩
    refine q_do (go_lstG (K := K) (φ := fun d => d ∈ deedHs) (m := 1) hA (wap_cons (wv_ixTG (K := K) (ds := deedHs) (by decide) (fun B1 b1 => eds_cons ed_str (eds_cons ed_str (eds_cons ed_str (eds_cons ed_str (eds_cons ed_str eds_nil))))) (wv_next 0 rfl rfl (fun H => ev_c) (by decide) (by decide)) (fun j hj => hj) (fun d hd => hd)) wap_nil) (by decide) fun p ds B1 H1 b1 hA hl hds => ?_)
    obtain ⟨x, rfl, hx, hx0⟩ : ∃ x, ds = [.str x] ∧ isT (.str x) = true ∧ x ≠ "" := by
      match ds, hl with
      | [d], _ =>
        obtain ⟨x, rfl, h1, h2⟩ := deedHs_ok d (hds d List.mem_cons_self)
        exact ⟨x, rfl, h1, h2⟩
    have hA := at_swap hA
    refine q_forR1W hA (wv_next 0 rfl rfl (n := 4) (fun H => ev_c) (by decide) (by decide)) (fun n hn => ⟨hn.1, by have := hn.2; omega⟩) (fun n i σ' H' => ∃ (r : List PyData) (B' : Hp) (y : Option V), σ' = [some (.ref s), some (.ref p), y] ∧ Ex B1 B' ∧ At B' (StM s :: LstM K p (.str x :: r) :: Fr) H' ∧ r.length = i ∧ ∀ d ∈ r, isP d = true) (fun n B2 H2 hn b2 hA => ⟨[], B2, none, rfl, b2, hA, rfl, (fun _ h => nomatch h)⟩) (fun n i σ' H' hn hi pp => ?_) (fun n σ' H' hn pp => ?_)
    · obtain ⟨r, B', y, rfl, b0, hA, hl, hall⟩ := pp
      have hi3 : i < 4 := by have := hn.2; omega
      exact sm_appG (K := K) (φ := fun d => isP d = true) 1 rfl hA (fun _ => ev_var rfl) (wv_ixTG (K := K) (ds := deedIs) (by decide) (fun B1 b1 => eds_cons ed_str (eds_cons (ed_int ev_c) (eds_cons (ed_int (by
          refine' ev_is ?c ?d
          case c => walk_at "ev"
          case d => rfl)) (eds_cons ed_str (eds_cons (ed_int (by
          refine' ev_is ?c ?d
          case c => walk_at "ev"
          case d => rfl)) (eds_cons ed_str eds_nil)))))) (wv_next 0 rfl rfl (fun H => ev_c) (by decide) (by decide)) (fun j hj => hj) deedIs_ok) (by rw [List.length_cons, hl]; omega) fun d B2 H5 hd b2 hA => ⟨r ++ [d], B2, _, rfl, b0.trans b2, hA, by rw [List.length_append, hl]; rfl, fun e he => by
            rcases List.mem_append.mp he with he | he
            · exact hall e he
            · rw [List.mem_singleton.mp he]; exact hd⟩
    · obtain ⟨r, B', y, rfl, b0, hA, hl, hall⟩ := pp
      have hr3 : r.length ≤ 3 := by rw [hl]; have := hn.2; omega
      have hA := at_swap hA
      exact sw_ret hA (wv_tupM (K := K) 0 rfl (fun B H b hA => ev_var rfl)) fun v B3 H3 b3 hA hd => q v _ B3 H3 (b1.trans (b0.trans b3)) hd (isDeed_mk hx hx0 hr3 hall) (at_drop hA)
section
variable {σ : L2.St} {B H : Hp} {l : List MP} {ta tb te tn tl : TE} {tt : TA} {D : Ends} {tz tu : TS} {s : Addr} {E : XK} {φ ψ : PyData → Prop} {ρ : Int → Prop} {i j : Nat} {ds es : List PyData} {m : Nat}
/-- a row whose things are each of its own kind -/
def WaL (K : PySem.W.Frag) (ta : TA) (σ : L2.St) (B : Hp) (l : List MP) (Φ : List PyData → Prop) : Prop := ∀ B1 H, Ex B B1 → At B1 l H → ∀ Q : List V → Hp → Prop, (∀ vs ds B2 H2, Ex B1 B2 → At B2 l H2 → DpAll K B2 vs ds → Φ ds → Q vs H2) → ta σ H Q
theorem wal_nil : WaL K tNil σ B l (fun ds => ds = []) := fun B1 H1 _ hA Q q => q [] [] B1 H1 (Ex.refl B1) hA .nil rfl
theorem wal_cons {tr : TA} {Φ : List PyData → Prop} (h : Wv te σ B l (rG K φ)) (hr : WaL K tr σ B l Φ) : WaL K (tCons te tr) σ B l (fun ds => ∃ d r, ds = d :: r ∧ φ d ∧ Φ r) := fun B1 H1 e1 hA Q q =>
  h B1 H1 e1 hA _ fun v B2 H2 e2 hA2 ⟨d, hv, hd⟩ => hr B2 H2 (e1.trans e2) hA2 _ fun vs ds B3 H3 e3 hA3 hvs hds => q (v :: vs) (d :: ds) B3 H3 (e2.trans e3) hA3 (.cons (dp_mono e3 _ _ hv) hvs) ⟨d, ds, rfl, hd, hds⟩
theorem wv_tupL {Φ : List PyData → Prop} (h : WaL K tt σ B l Φ) (hl : ∀ ds, Φ ds → ds.length ≤ 100000) : Wv (tTup tt) σ B l (rG K fun d => ∃ ds, d = .tuple ds ∧ Φ ds) := fun B1 H1 e1 hA Q q =>
  go_tup (h B1 H1 e1 hA _ fun vs ds B2 H2 e2 hA2 hv hΦ => ⟨by rw [dpa_len hv]; exact sz_of (hl ds hΦ), fun p hp => by
    obtain ⟨b3, hA4, h5⟩ := at_tup (vs := vs) hA2 hp
    exact q _ _ _ (e2.trans b3) hA4 ⟨_, .tup (st_of h5) (dpa_mono b3 _ _ hv), ds, rfl, hΦ⟩⟩)
/-- [e for c in a text], e drawn -/
theorem go_lcSG {Q : VK} {z : Str} {vs : List Nat} {Φ : Nat → List PyData → Prop} (hA : At B l H) (ha : Ev tl σ H (.str z)) (hz : z.cps.size ≤ 40000) (hw : ∀ x, wipe ((wipe σ vs).set j (some x)) vs = wipe σ vs) (h0 : Φ 0 [])
    (hl : ∀ i ds, Φ i ds → ds.length = i) (he : ∀ i c ds p B1 H1, Ex B B1 → z.cps[i]? = some c → Φ i ds → At B1 (LstM K p ds :: l) H1 → ∀ Q : VK, (∀ v d B2 H2, Ex B1 B2 → Dp K B2 v d → Φ (i + 1) (ds ++ [d]) → At B2 (LstM K p ds :: l) H2 → Q v H2) → te ((wipe σ vs).set j (some (.str ⟨#[c]⟩))) H1 Q)
    (k : ∀ p ds B1 H1, Ex B B1 → Φ z.cps.size ds → At B1 (LstM K p ds :: l) H1 → Q (.ref p) H1) : tLc (iStr tl) (gName j) tYes te vs σ H Q := ha H (Ex.refl H) _ fun H1 e1 => ⟨z, rfl, fun Dl hD =>
  lc_it walk_str (fun i H' => ∃ B' ds, Ex B B' ∧ Φ i ds ∧ At B' (LstM K Dl ds :: l) H') ⟨B, [], Ex.refl B, h0, lst_new (at_ex hA e1) hD (Ex.new hD) upd_same .nil⟩ (fun _ _ _ _ => trivial) (fun i x H2 H' hi p y => by
    obtain ⟨rfl, c, hc, rfl⟩ := y
    obtain ⟨B', ds, b1, hΦ, hA'⟩ := p
    refine ⟨hw _, et_nil H' (Ex.refl H') _ fun H3 e3 => ?_⟩
    rw [if_pos rfl]
    refine he i c ds Dl B' H3 b1 hc hΦ (at_ex hA' e3) _ fun v d B2 H3 b2 hv hΦ2 hA2 => ?_
    obtain ⟨xs, g1, g2⟩ := lst_at 0 rfl hA2
    exact ⟨xs, g2, sz_lt (by rw [dpa_len g1, hl i ds hΦ]; omega), B2, ds ++ [d], b1.trans b2, hΦ2, lst_upd 0 rfl hA2 (dpa_app g1 (dpa_one hv))⟩) (fun H' p => by
    obtain ⟨B', ds, b1, hΦ, hA'⟩ := p
    exact k Dl ds B' H' b1 hΦ hA')⟩
/-- [e for j in range(what is drawn)], e of a kind -/
theorem go_lcRG {Q : VK} {vs : List Nat} (hA : At B l H) (h : Wv tn σ B l (rN ρ)) (hρ : ∀ n, ρ n → 0 ≤ n ∧ n ≤ (m : Int)) (hm : m ≤ 40000) (hw : ∀ x, wipe ((wipe σ vs).set j (some x)) vs = wipe σ vs)
    (he : ∀ (i : Nat) p es B1, i ≤ m → Ex B B1 → Wv te ((wipe σ vs).set j (some (.int (i : Int)))) B1 (LstM K p es :: l) (rG K φ))
    (k : ∀ p ds B1 H1, Ex B B1 → ds.length ≤ m → (∀ d ∈ ds, φ d) → At B1 (LstM K p ds :: l) H1 → Q (.ref p) H1) : tLc (iRng1 (tCons tn tNil)) (gName j) tYes te vs σ H Q := h B H (Ex.refl B) hA _ fun v B0 H1 e1 hA1 ⟨n, hv, hn⟩ => by
  subst hv
  have hn := hρ n hn
  refine ⟨n, rfl, by omega, by omega, fun Dl hD => ?_⟩
  refine lc_range (lo := 0) (n := n.toNat) (fun i H' => ∃ B' ds, Ex B B' ∧ ds.length = i ∧ (∀ d ∈ ds, φ d) ∧ At B' (LstM K Dl ds :: l) H') ⟨B0, [], e1, rfl, (fun _ h => nomatch h), lst_new hA1 hD (Ex.new hD) upd_same .nil⟩ (fun i H' hi p => ?_) (fun H' p => ?_)
  · have e0' : (0 : Int) + (i : Int) = (i : Int) := Int.zero_add _
    rw [e0']
    obtain ⟨B', ds, b1, hl, hp, hA'⟩ := p
    refine ⟨hw _, et_nil H' (Ex.refl H') _ fun H3 e3 => ?_⟩
    rw [if_pos rfl]
    refine he i Dl ds B' (by omega) b1 B' H3 (Ex.refl B') (at_ex hA' e3) _ fun v B2 H3 b2 hA2 ⟨d, hv, hd⟩ => ?_
    obtain ⟨xs, g1, g2⟩ := lst_at 0 rfl hA2
    refine ⟨xs, g2, sz_lt (by rw [dpa_len g1, hl]; omega), B2, ds ++ [d], b1.trans b2, by rw [List.length_append, hl]; rfl, fun e he => ?_, lst_upd 0 rfl hA2 (dpa_app g1 (dpa_one hv))⟩
    rcases List.mem_append.mp he with he | he
    · exact hp e he
    · rw [List.mem_singleton.mp he]; exact hd
  · obtain ⟨B', ds, b1, hl, hp, hA'⟩ := p
    exact k Dl ds B' H' b1 (by omega) hp hA'
end
mutual
def okdB : Nat → PyData → Bool
  | _, .none => true
  | _, .bool _ => true
  | _, .int _ => true
  | _, .str x => decide (x.length ≤ 1000)
  | n + 1, .tuple ds => decide (ds.length ≤ 1000) && okdBs n ds
  | _, _ => false
def okdBs : Nat → List PyData → Bool
  | _, [] => true
  | n, d :: r => okdB n d && okdBs n r
end
mutual
theorem okdB_ok : ∀ (n : Nat) (d : PyData), okdB n d = true → Okd n d
  | _, .none, _ => .non
  | _, .bool b, _ => .bl b
  | _, .int i, _ => .int i
  | _, .str x, h => .str (of_decide_eq_true (by simpa [okdB] using h))
  | n + 1, .tuple ds, h => by
    have h : (decide (ds.length ≤ 1000) && okdBs n ds) = true := by simpa [okdB] using h
    obtain ⟨h1, h2⟩ := Bool.and_eq_true_iff.mp h
    exact .tup (of_decide_eq_true h1) (okdBs_ok n ds h2)
  | 0, .tuple ds, h => by simp [okdB] at h
  | _, .list _, h => by simp [okdB] at h
  | _, .dict _, h => by simp [okdB] at h
theorem okdBs_ok : ∀ (n : Nat) (ds : List PyData), okdBs n ds = true → ∀ d ∈ ds, Okd n d
  | _, [], _ => fun _ h => nomatch h
  | n, d :: r, h => by
    have h : (okdB n d && okdBs n r) = true := by simpa [okdBs] using h
    obtain ⟨h1, h2⟩ := Bool.and_eq_true_iff.mp h
    intro e he
    rcases List.mem_cons.mp he with he | he
    · rw [he]; exact okdB_ok n d h1
    · exact okdBs_ok n r h2 e he
end
def deepD : PyData := .tuple [.int 1, .tuple [.str "a", .tuple []], .int (-5)]
def thingVs : List PyData := [.int 0, .str "", .tuple [], deepD, .int 1000000000000000000, .str "seal", .int (-1000000000000000000), .tuple [.str "skipped"], .tuple [.str "made", .int 3]]
def ThP (d : PyData) : Prop := Okd 4 d ∧ isV d = true
theorem thingVs_ok : ∀ d ∈ thingVs, ThP d := by
  have h : thingVs.all (fun d => okdB 4 d && isV d) = true := by decide +kernel
  intro d hd
  obtain ⟨h1, h2⟩ := Bool.and_eq_true_iff.mp (List.all_eq_true.mp h d hd)
  exact ⟨okdB_ok 4 d h1, h2⟩
theorem ok_lthing {f f_n : Addr} {fd fd_n : FuncData} (F : Fun K "_law_thing" "_law_thing" s__law_thing f fd) (D__law_next : Df K mg "_law_next" s__law_next ["stream", "size"] f_n fd_n) (G__law_next : FnOk P w K mg base CX0 1 f_n fd_n ["stream", "size"] spNext) (T : Glo mg) : FnOk P w K mg base CX0 2 f fd ["stream"] (spG K ThP) := by
  refine F.ok sc__law_thing (fun vs H Q E h => ?_) (fun cdv A outer s H vs Q E hr h => ?_)
  · obtain ⟨s, B, F, rfl, _⟩ := h
    rfl
  · obtain ⟨s, B, Fr, rfl, hA, q⟩ := h
    refine ⟨_, (pss_cons (ps_set (i := 1) sc__law_thing.nd rfl (.inl rfl) (pe_tup (pa_cons pe_int (pa_cons (pe_tup (pa_cons pe_str (pa_cons (pe_tup pa_nil) pa_nil))) (pa_cons (pe_un un_neg pe_int) pa_nil)))))
  (pss_one (ps_ret (pe_ix ix_tup (pe_tup (pa_cons pe_int (pa_cons pe_str (pa_cons (pe_tup pa_nil) (pa_cons (pv 1) (pa_cons (pe_op op_pow pe_int pe_int) (pa_cons pe_str (pa_cons (pe_un un_neg (pe_op op_pow pe_int pe_int)) (pa_cons (pe_tup (pa_cons pe_str pa_nil)) (pa_cons (pe_tup (pa_cons pe_str (pa_cons pe_int pa_nil))) pa_nil)))))))))) (pe_call G__law_next (hr.mono (by decide)) (by rfl) D__law_next.g D__law_next.F.kp D__law_next.b .nil pass0 (pa_cons (pv 0) (pa_cons pe_int pa_nil))) (fun _ _ => rfl))))), ?_⟩
    refine qw_asg hA (wv_ed (K := K) (d := deepD) (fun B1 b1 => ed_tup (eds_cons (ed_int ev_c) (eds_cons (ed_tup (eds_cons ed_str (eds_cons (ed_tup eds_nil (by decide)) eds_nil)) (by show 2 ≤ 100000; decide)) (eds_cons (ed_int (ev_un ev_c ru_neg)) eds_nil))) (by show 3 ≤ 100000; decide))) fun v B1 H1 b1 hA hd => ?_
    exact sw_ret hA (wv_ixTG (K := K) (ds := thingVs) (by decide) (fun B2 b2 => eds_cons (ed_int ev_c) (eds_cons ed_str (eds_cons (ed_tup eds_nil (by decide)) (eds_cons (ed_of (ev_var rfl) (dp_mono b2 _ _ hd)) (eds_cons (ed_int (by
          refine' ev_is ?c ?d
          case c => walk_at "ev"
          case d => rfl)) (eds_cons ed_str (eds_cons (ed_int (by
          refine' ev_is ?c ?d
          case c => walk_at "ev"
          case d => rfl)) (eds_cons (ed_tup (eds_cons ed_str eds_nil) (by show 1 ≤ 100000; decide)) (eds_cons (ed_tup (eds_cons ed_str (eds_cons (ed_int ev_c) eds_nil)) (by show 2 ≤ 100000; decide)) eds_nil))))))))) (wv_next 0 rfl rfl (fun H => ev_c) (by decide) (by decide)) (fun j hj => hj) thingVs_ok) fun v B2 H2 b2 hA ⟨d, hd, hP⟩ => q v d B2 H2 (b1.trans b2) hd hP hA
def fitM (z : Str) (d : PyData) : Bool := if z = "n" then isN d else if z = "c" then isN d && geB 1 d else if z = "d" then isDeed d else if z = "r" then isTup d else if z = "l" then isLogV d else true
theorem fitM_c (c : Nat) (d : PyData) : fitM ⟨#[c]⟩ d = fitC c d := by
  have e : ∀ (a : Nat) (w : Str), w = ⟨#[a]⟩ → ((⟨#[c]⟩ : Str) = w ↔ c = a) := fun a w hw => by
    rw [hw]
    exact ⟨fun h => by injection h with h; simpa using h, fun h => by rw [h]⟩
  have h1 := e 110 "n" (by decide +kernel)
  have h2 := e 99 "c" (by decide +kernel)
  have h3 := e 100 "d" (by decide +kernel)
  have h4 := e 114 "r" (by decide +kernel)
  have h5 := e 108 "l" (by decide +kernel)
  unfold fitM fitC kindN
  simp only [h1, h2, h3, h4, h5]
  by_cases k1 : c = 110
  · rw [if_pos k1, if_pos k1]; rfl
  rw [if_neg k1, if_neg k1]
  by_cases k2 : c = 99
  · rw [if_pos k2, if_pos k2]; rfl
  rw [if_neg k2, if_neg k2]
  by_cases k3 : c = 100
  · rw [if_pos k3, if_pos k3]; rfl
  rw [if_neg k3, if_neg k3]
  by_cases k4 : c = 114
  · rw [if_pos k4, k4]; rfl
  rw [if_neg k4]
  by_cases k5 : c = 108
  · rw [if_pos k5, if_pos k5]; rfl
  rw [if_neg k5, if_neg k5, if_neg k4]
  rfl
def FldP (z : Str) (d : PyData) : Prop := (fitM z d = true ∧ isV d = true) ∧ Okd 5 d ∧ (z ≠ "l" → Okd 4 d)
def spFld (K : PySem.W.Frag) (Z : Str → Prop) : Sp := fun vs H Q _ => ∃ (s : Addr) (z : Str) (B : Hp) (F : List MP), vs = [.ref s, .str z] ∧ Z z ∧ At B (StM s :: F) H ∧ ∀ v d B1 H1, Ex B B1 → Dp K B1 v d → FldP z d → At B1 (StM s :: F) H1 → Q v H1
theorem numP_is {d : PyData} (h : NumP d) : isN d = true := by
  obtain ⟨i, rfl, h0, h1⟩ := h
  exact isN_of h0 h1
theorem numP_okd {n : Nat} {d : PyData} (h : NumP d) : Okd n d := by
  obtain ⟨i, rfl, h0, h1⟩ := h
  exact .int _
theorem isV_tup {ds : List PyData} (h : ∀ d ∈ ds, isV d = true) : isV (.tuple ds) = true := by
  show isVs ds = true
  rw [isVs_iff]
  exact List.all_eq_true.mpr h
theorem ok_lfield {Z : Str → Prop} {sp0 : Sp} {k : Nat} {f f_n f_nu f_de f_th : Addr} {fd fd_n fd_nu fd_de fd_th : FuncData} (D__law_field : Df K mg "_law_field" s__law_field ["stream", "mark"] f fd) (D__law_next : Df K mg "_law_next" s__law_next ["stream", "size"] f_n fd_n) (G__law_next : FnOk P w K mg base CX0 1 f_n fd_n ["stream", "size"] spNext)
    (D__law_number : Df K mg "_law_number" s__law_number ["stream"] f_nu fd_nu) (G__law_number : FnOk P w K mg base CX0 2 f_nu fd_nu ["stream"] (spG K NumP)) (D__law_deed : Df K mg "_law_deed" s__law_deed ["stream"] f_de fd_de) (G__law_deed : FnOk P w K mg base CX0 2 f_de fd_de ["stream"] (spG K DeedP)) (D__law_thing : Df K mg "_law_thing" s__law_thing ["stream"] f_th fd_th) (G__law_thing : FnOk P w K mg base CX0 2 f_th fd_th ["stream"] (spG K ThP))
    (G__law_field : FnOk P w K mg base CX0 (k + 3) f fd ["stream", "mark"] sp0) (hrec : Z "l" → ∀ vs H Q E, spFld K (fun z => z = "r") vs H Q E → sp0 vs H Q E) (T : Glo mg) : FnOk P w K mg base CX0 (k + 4) f fd ["stream", "mark"] (spFld K Z) := by
  refine D__law_field.F.ok sc__law_field (fun vs H Q E h => ?_) (fun cdv A outer s H vs Q E hr h => ?_)
  · obtain ⟨s, z, B, F, rfl, _⟩ := h
    rfl
  · obtain ⟨s, z, B, Fr, rfl, hZ, hA, q⟩ := h
    refine ⟨_, (pss_cons (ps_if (pt_cmpR op_eq (pv 1) pe_str (nomark _))
  (pss_one (ps_ret (pe_call G__law_number (hr.mono (by omega)) (by rfl) D__law_number.g D__law_number.F.kp D__law_number.b .nil pass0 (pa_cons (pv 0) pa_nil))))
  pss_nil)
  (pss_cons (ps_if (pt_cmpR op_eq (pv 1) pe_str (nomark _))
  (pss_one (ps_ret (pe_callB (call_max2 rfl) (by rfl) T.max (by decide +kernel) (pa_cons pe_int (pa_cons (pe_call G__law_number (hr.mono (by omega)) (by rfl) D__law_number.g D__law_number.F.kp D__law_number.b .nil pass0 (pa_cons (pv 0) pa_nil)) pa_nil)))))
  pss_nil)
  (pss_cons (ps_if (pt_cmpR op_eq (pv 1) pe_str (nomark _))
  (pss_one (ps_ret (pe_call G__law_deed (hr.mono (by omega)) (by rfl) D__law_deed.g D__law_deed.F.kp D__law_deed.b .nil pass0 (pa_cons (pv 0) pa_nil))))
  pss_nil)
  (pss_cons (ps_if (pt_cmpR op_eq (pv 1) pe_str (nomark _))
  (pss_one (ps_ret (pe_tupleOf (by rfl) T.tuple (pe_lc (own := [("k", 2)]) (g := gName 2) rfl sc__law_field.nd (pi_range1 (by rfl) T.range (pa_cons (pe_call G__law_next (hr.mono (by omega)) (by rfl) D__law_next.g D__law_next.F.kp D__law_next.b .nil pass0 (pa_cons (pv 0) (pa_cons pe_int pa_nil))) pa_nil)) (blkOk_by (N := N__law_field) (sc := defScope s__law_field) (by decide +kernel)) (fun _ _ _ _ _ => (pg_name (i := 2) sc__law_field.nd rfl (.inl rfl))) (fun _ _ _ _ _ => pts_nil) (fun _ _ _ _ _ => (pe_tup (pa_cons pe_int (pa_cons (pe_op op_add pe_int (pv 2)) (pa_cons (pe_call G__law_deed (hr.mono (by omega)) (by rfl) D__law_deed.g D__law_deed.F.kp D__law_deed.b .nil pass0 (pa_cons (pv 0) pa_nil)) pa_nil)))))))))
  pss_nil)
  (pss_cons (ps_if (pt_cmpR op_eq (pv 1) pe_str (nomark _))
  (pss_one (ps_ret (pe_tup (pa_cons (pe_call G__law_number (hr.mono (by omega)) (by rfl) D__law_number.g D__law_number.F.kp D__law_number.b .nil pass0 (pa_cons (pv 0) pa_nil)) (pa_cons (pe_call G__law_thing (hr.mono (by omega)) (by rfl) D__law_thing.g D__law_thing.F.kp D__law_thing.b .nil pass0 (pa_cons (pv 0) pa_nil)) (pa_cons (pe_call G__law_field (hr.mono (by omega)) (by rfl) D__law_field.g D__law_field.F.kp D__law_field.b .nil pass0 (pa_cons (pv 0) (pa_cons pe_str pa_nil))) pa_nil))))))
  pss_nil)
  (pss_one (ps_ret (pe_call G__law_thing (hr.mono (by omega)) (by rfl) D__law_thing.g D__law_thing.F.kp D__law_thing.b .nil pass0 (pa_cons (pv 0) pa_nil))))))))), ?_⟩
    have ne : ∀ {x : Str}, decide (V.str z = V.str x) = false → z ≠ x := fun {x} h e => by rw [e, decide_eq_true rfl] at h; cases h
    have eq : ∀ {x : Str}, decide (V.str z = V.str x) = true → z = x := fun {x} h => V.str.inj (of_decide_eq_true h)
    refine qe_when hA (et_test (ev_op (ev_var rfl) ev_c (rv_eq rfl))) (fun hb H1 hA => ?_) (fun hb1 H1 hA => ?_)
    · obtain rfl := eq hb
      exact sw_ret hA (wv_g (K := K) 0 rfl rfl) fun v B2 H2 b2 hA ⟨d, hd, hP⟩ => q v d B2 H2 b2 hd ⟨⟨by unfold fitM; rw [if_pos rfl]; exact numP_is hP, isN_V (numP_is hP)⟩, numP_okd hP, fun _ => numP_okd hP⟩ hA
    refine qe_when hA (et_test (ev_op (ev_var rfl) ev_c (rv_eq rfl))) (fun hb H2 hA => ?_) (fun hb2 H2 hA => ?_)
    · obtain rfl := eq hb
      refine sw_ret hA (R := rN fun i => 1 ≤ i ∧ i ≤ 1000000000000000000) (fun B3 H3 b3 hA Q q => go_cons ev_c fun H4 e4 => go_cons' (wv_g (K := K) (φ := NumP) 0 rfl rfl B3 H4 b3 (at_ex hA e4) _ fun v B5 H5 b5 hA ⟨d, hd, i, hdi, h0, h1⟩ => go_nil ?_)) fun v B3 H3 b3 hA ⟨i, hv, h0, h1⟩ => ?_
      · subst hdi
        cases hd
        refine rc_max2 H5 (Ex.refl H5) _ fun H6 e6 => q _ B5 H6 b5 (at_ex hA e6) ⟨_, rfl, ?_⟩
        by_cases hi : i > 1
        · rw [if_pos hi]; exact ⟨by omega, h1⟩
        · rw [if_neg hi]; exact ⟨by decide, by decide⟩
      · subst hv
        refine q _ (.int i) B3 H3 b3 (.int i) ⟨⟨?_, isN_V (isN_of (by omega) h1)⟩, .int _, fun _ => .int _⟩ hA
        show (if ("c" : Str) = "n" then _ else if ("c" : Str) = "c" then _ else _) = true
        rw [if_neg (ne hb1), if_pos rfl, isN_of (by omega) h1]
        exact decide_eq_true h0
    refine qe_when hA (et_test (ev_op (ev_var rfl) ev_c (rv_eq rfl))) (fun hb H3 hA => ?_) (fun hb3 H3 hA => ?_)
    · obtain rfl := eq hb
      exact sw_ret hA (wv_g (K := K) 0 rfl rfl) fun v B2 H2 b2 hA ⟨d, hd, hP⟩ => q v d B2 H2 b2 hd ⟨⟨by unfold fitM; rw [if_neg (ne hb1), if_neg (ne hb2), if_pos rfl]; exact hP, isDeed_V hP⟩, deed_okd hP, fun _ => deed_okd hP⟩ hA
    by_cases hz : z = "r"
    · subst hz
      have fr : ∀ ds, fitM "r" (.tuple ds) = true := fun ds => by unfold fitM; rw [if_neg (ne hb1), if_neg (ne hb2), if_neg (ne hb3), if_pos rfl]; rfl
      refine qe_when (b := true) hA (et_test (ev_is (ev_op (ev_var rfl) ev_c (rv_eq rfl)) (by rw [decide_eq_true rfl]))) (fun _ H6 hA => ?_) (fun hb => nomatch hb)
      refine sw_ret hA (R := rG K (FldP "r")) (fun B7 H7 b7 hA Q q => ?_) fun v B7 H7 b7 hA ⟨d, hd, hP⟩ => q v d B7 H7 b7 hd hP hA
      refine go_lcRG (K := K) (m := 4) (φ := fun d => Okd 3 d ∧ isV d = true) hA (wv_next 0 rfl rfl (fun H => ev_c) (by decide) (by decide)) (fun n hn => ⟨hn.1, by have := hn.2; omega⟩) (by decide) (fun _ => rfl) (fun i p es B1 hi b1 => ?_) (fun p ds B8 H8 b8 hl hds hA => ?_)
      · refine wg_to (K := K) (wv_tupL (K := K) (wal_cons (wg_ed (K := K) (φ := fun d => d = .int 0) (fun B2 b2 => ed_int ev_c) rfl) (wal_cons (wg_ed (K := K) (φ := fun d => ∃ i, d = .int i ∧ isI (.int i) = true) (fun B2 b2 => ed_int (ev_op ev_c (ev_var rfl) rv_I0)) ⟨_, rfl, isI_iff (by omega) (by omega)⟩) (wal_cons (wv_g (K := K) (φ := DeedP) 1 rfl rfl) wal_nil))) (fun ds h => ?_)) (fun d h => ?_)
        · obtain ⟨a, r, rfl, _, b, r, rfl, _, c, r, rfl, _, rfl⟩ := h
          show 3 ≤ 100000
          decide
        · obtain ⟨ds, rfl, a, r, rfl, rfl, b, r, rfl, ⟨i, rfl, hi1⟩, c, r, rfl, hc, rfl⟩ := h
          refine ⟨.tup (by show 3 ≤ 1000; decide) fun d hd => ?_, isV_tup fun d hd => ?_⟩
          · simp only [List.mem_cons, List.not_mem_nil, or_false] at hd
            rcases hd with rfl | rfl | rfl
            · exact .int _
            · exact .int _
            · exact deed_okd hc
          · simp only [List.mem_cons, List.not_mem_nil, or_false] at hd
            rcases hd with rfl | rfl | rfl
            · decide +kernel
            · exact isP_V (by unfold isP; rw [hi1]; rfl)
            · exact isDeed_V hc
      · exact k_tup (K := K) 0 rfl hA fun v B9 H9 b9 hA hd => q v B9 H9 (b8.trans b9) (at_drop hA) ⟨_, hd, ⟨fr _, isV_tup fun d hd => (hds d hd).2⟩, .tup (by omega) (fun d hd => (hds d hd).1.mono (by omega)), fun _ => .tup (by omega) fun d hd => (hds d hd).1⟩
    have hzr : decide (V.str z = V.str "r") = false := decide_eq_false fun e => hz (V.str.inj e)
    refine qe_when (b := false) hA (et_is (et_test (ev_op (ev_var rfl) ev_c (rv_eq rfl))) hzr) (fun hb => nomatch hb) (fun _ H5 hA => ?_)
    refine qe_when hA (et_test (ev_op (ev_var rfl) ev_c (rv_eq rfl))) (fun hb H6 hA => ?_) (fun hb6 H6 hA => ?_)
    · obtain rfl := eq hb
      refine sw_ret hA (wv_tupL (K := K) (wal_cons (wv_g (K := K) (φ := NumP) 0 rfl rfl) (wal_cons (wv_g (K := K) (φ := ThP) 0 rfl rfl) (wal_cons (φ := FldP "r") (fun B7 H7 b7 hA Q q => go_call (go_cons (ev_var rfl) fun H8 e8 => go_cons ev_c fun H9 e9 => go_nil (hrec hZ _ _ _ _ ⟨s, "r", B7, Fr, rfl, rfl, at_ex hA (e8.trans e9), fun v d B10 H10 b10 hd hP hA => q v B10 H10 b10 hA ⟨d, hd, hP⟩⟩))) wal_nil))) (fun ds h => ?_)) fun v B7 H7 b7 hA ⟨d, hd, ds, hds, h⟩ => ?_
      · obtain ⟨a, r, rfl, _, b, r, rfl, _, c, r, rfl, _, rfl⟩ := h
        show 3 ≤ 100000
        decide
      · obtain ⟨a, r, rfl, ha, b, r, rfl, hb, c, r, rfl, hc, rfl⟩ := h
        subst hds
        refine q v _ B7 H7 b7 hd ⟨⟨?_, isV_tup fun d hd => ?_⟩, .tup (by show 3 ≤ 1000; decide) (fun d hd => ?_), fun h => absurd rfl h⟩ hA
        · unfold fitM
          rw [if_neg (ne hb1), if_neg (ne hb2), if_neg (ne hb3), if_neg hz, if_pos rfl]
          have h2 : isTup c = true := by
            have := hc.1.1
            unfold fitM at this
            rw [if_neg (by decide +kernel), if_neg (by decide +kernel), if_neg (by decide +kernel), if_pos rfl] at this
            exact this
          show (decide ([a, b, c].length = 3) && (isN a && isTup c)) = true
          rw [numP_is ha, h2]
          rfl
        · simp only [List.mem_cons, List.not_mem_nil, or_false] at hd
          rcases hd with rfl | rfl | rfl
          · exact isN_V (numP_is ha)
          · exact hb.2
          · exact hc.1.2
        · simp only [List.mem_cons, List.not_mem_nil, or_false] at hd
          rcases hd with rfl | rfl | rfl
          · exact numP_okd ha
          · exact hb.1
          · exact hc.2.2 (by decide +kernel)
    · exact sw_ret hA (wv_g (K := K) (φ := ThP) 0 rfl rfl) fun v B7 H7 b7 hA ⟨d, hd, hP⟩ => q v d B7 H7 b7 hd ⟨⟨by unfold fitM; rw [if_neg (ne hb1), if_neg (ne hb2), if_neg (ne hb3), if_neg hz, if_neg (ne hb6)], hP.2⟩, hP.1.mono (by omega), fun _ => hP.1⟩ hA
theorem fitsR_snoc {fs : List PyData} {cs : List Nat} {d : PyData} {c : Nat} (h : fitsR fs cs = true) (hd : fitC c d = true) : fitsR (fs ++ [d]) (cs ++ [c]) = true := by
  unfold fitsR at h ⊢
  obtain ⟨h1, h2⟩ := Bool.and_eq_true_iff.mp h
  have h1 := of_decide_eq_true h1
  rw [decide_eq_true (by rw [List.length_append, List.length_append, h1]; rfl), List.zip_append h1, List.all_append, h2]
  show (true && (true && (fitC c d && true))) = true
  rw [hd]
  rfl
abbrev Row := Str × Str × Str × Str
def rowD (p : Row) : PyData := .tuple [.str p.1, .str p.2.1, .str p.2.2.1, .str p.2.2.2]
def BdyP (p : Row) (d : PyData) : Prop := ∃ fs, d = .tuple (.str p.1 :: fs) ∧ fitsR fs p.2.2.2.cps.toList = true ∧ ∀ f ∈ fs, Okd 5 f ∧ isV f = true
def spBdy (K : PySem.W.Frag) : Sp := fun vs H Q _ => ∃ (s : Addr) (v : V) (p : Row) (B : Hp) (F : List MP), vs = [.ref s, v] ∧ p ∈ rowsL ∧ Dp K B v (rowD p) ∧ At B (StM s :: F) H ∧ ∀ v d B1 H1, Ex B B1 → Dp K B1 v d → BdyP p d → At B1 (StM s :: F) H1 → Q v H1
theorem rows_len : ∀ p ∈ rowsL, p.2.2.2.cps.size ≤ 3 := by decide +kernel
theorem row_ix {B : Hp} {v : V} {p : Row} (h : Dp K B v (rowD p)) {σ : L2.St} {i : Nat} (hi : σ[i]? = some (some v)) : ∀ H, Ex B H → Ev (tOp (rIxT K) (tVar i) (tC (.int 0))) σ H (.str p.1) ∧ Ev (tOp (rIxT K) (tVar i) (tC (.int 1))) σ H (.str p.2.1) ∧ Ev (tOp (rIxT K) (tVar i) (tC (.int 2))) σ H (.str p.2.2.1) ∧ Ev (tOp (rIxT K) (tVar i) (tC (.int 3))) σ H (.str p.2.2.2) := by
  intro H e
  have h : Dp K B v (.tuple [.str p.1, .str p.2.1, .str p.2.2.1, .str p.2.2.2]) := h
  cases h with
  | @tup a xs _ hs hd =>
    have hs := ex_t e hs
    have hx : xs = [V.str p.1, .str p.2.1, .str p.2.2.1, .str p.2.2.2] := dp_strs (ks := [p.1, p.2.1, p.2.2.1, p.2.2.2]) hd
    subst hx
    exact ⟨ev_op (ev_var hi) ev_c (rv_ixT hs (atI_nat (j := 0) rfl)), ev_op (ev_var hi) ev_c (rv_ixT hs (atI_nat (j := 1) rfl)), ev_op (ev_var hi) ev_c (rv_ixT hs (atI_nat (j := 2) rfl)), ev_op (ev_var hi) ev_c (rv_ixT hs (atI_nat (j := 3) rfl))⟩
theorem wv_catTG {σ : L2.St} {B : Hp} {l : List MP} {ta tb : TE} {ds : List PyData} {φ : List PyData → Prop} (ha : ∀ B1 H, Ex B B1 → At B1 l H → EvD K ta σ B1 (.tuple ds)) (hb : Wv tb σ B l (rG K fun d => ∃ es, d = .tuple es ∧ φ es)) (hl : ∀ es, φ es → ds.length + es.length ≤ 100000) : Wv (tOp (rCatA K) ta tb) σ B l (rG K fun d => ∃ es, d = .tuple (ds ++ es) ∧ φ es) := fun B1 H1 e1 hA Q q =>
  (ha B1 H1 e1 hA) H1 (at_base hA) _ fun v H2 e2 hv => by
    have hA2 := at_grow hA e2
    have bb : Ex B1 (ov B1 H1 H2) := ov_base
    generalize ov B1 H1 H2 = B2 at hA2 hv bb
    refine hb B2 H2 (e1.trans bb) hA2 _ fun w B3 H3 e3 hA3 ⟨d, hw, es, hd, hφ⟩ => ?_
    subst hd
    have hc := ed_catT (K := K) (ed_of (ev_c (σ := σ) (v := v)) (dp_mono e3 _ _ hv)) (ed_of (ev_c (σ := σ) (v := w)) hw) (hl es hφ)
    exact hc H3 (at_base hA3) Q fun x H4 e4 hx => q x _ H4 (bb.trans (e3.trans ov_base)) (at_grow hA3 e4) ⟨_, hx, es, rfl, hφ⟩
theorem ok_lbody {f f_f : Addr} {fd fd_f : FuncData} (F : Fun K "_law_body" "_law_body" s__law_body f fd) (D__law_field : Df K mg "_law_field" s__law_field ["stream", "mark"] f_f fd_f) (G__law_field : FnOk P w K mg base CX0 5 f_f fd_f ["stream", "mark"] (spFld K fun _ => True)) (T : Glo mg) : FnOk P w K mg base CX0 6 f fd ["stream", "row"] (spBdy K) := by
  refine F.ok sc__law_body (fun vs H Q E h => ?_) (fun cdv A outer s H vs Q E hr h => ?_)
  · obtain ⟨s, v, p, B, F, rfl, _⟩ := h
    rfl
  · obtain ⟨s, v, p, B, Fr, rfl, hp, hv, hA, q⟩ := h
    refine ⟨_, (pss_one (ps_ret (pe_op op_catA (pe_tup (pa_cons (pe_ix ix_tup (pv 1) pe_int (fun _ _ => rfl)) pa_nil)) (pe_tupleOf (by rfl) T.tuple (pe_lc (own := [("mark", 2)]) (g := gName 2) rfl sc__law_body.nd (pi_str (pe_ix ix_tup (pv 1) pe_int (fun _ _ => rfl))) (blkOk_by (N := N__law_body) (sc := defScope s__law_body) (by decide +kernel)) (fun _ _ _ _ _ => (pg_name (i := 2) sc__law_body.nd rfl (.inl rfl))) (fun _ _ _ _ _ => pts_nil) (fun _ _ _ _ _ => (pe_call G__law_field (hr.mono (by decide)) (by rfl) D__law_field.g D__law_field.F.kp D__law_field.b .nil pass0 (pa_cons (pv 0) (pa_cons (pv 2) pa_nil))))))))), ?_⟩
    refine sw_ret hA (wv_catTG (K := K) (ds := [.str p.1]) (φ := fun fs => fitsR fs p.2.2.2.cps.toList = true ∧ ∀ f ∈ fs, Okd 5 f ∧ isV f = true) (fun B1 H1 b1 hA => ed_tup (eds_cons (ed_of (row_ix hv rfl B1 b1).1 (.str _)) eds_nil) (by show 1 ≤ 100000; decide)) (fun B1 H1 b1 hA Q q => ?_) (fun es h => ?_)) fun v B3 H3 b3 hA ⟨d, hd, fs, hds, h1, h2⟩ => by
      subst hds
      exact q v _ B3 H3 b3 hd ⟨fs, rfl, h1, h2⟩ hA
    · have hz := rows_len p hp
      refine go_lcSG (K := K) (z := p.2.2.2) (Φ := fun i fs => (fitsR fs (p.2.2.2.cps.toList.take i) = true ∧ fs.length = i) ∧ ∀ f ∈ fs, Okd 5 f ∧ isV f = true) hA (row_ix hv rfl H1 (b1.trans (at_base hA))).2.2.2 (by omega) (fun _ => rfl) ⟨⟨rfl, rfl⟩, (fun _ h => nomatch h)⟩ (fun i ds h => h.1.2) (fun i c ds pp B2 H2 b2 hc h hA Q q => ?_) (fun pp ds B2 H2 b2 h hA => ?_)
      · refine go_call (go_cons (ev_var rfl) fun H3 e3 => go_cons (ev_var rfl) fun H4 e4 => go_nil ⟨s, ⟨#[c]⟩, B2, LstM K pp ds :: Fr, rfl, trivial, at_swap (at_ex hA (e3.trans e4)), fun v d B5 H5 b5 hd hP hA => q v d B5 H5 b5 hd ⟨⟨?_, ?_⟩, ?_⟩ (at_swap hA)⟩)
        · have ec : p.2.2.2.cps.toList.take (i + 1) = p.2.2.2.cps.toList.take i ++ [c] := by
            rw [List.take_add_one]
            have : p.2.2.2.cps.toList[i]? = some c := by rw [Array.getElem?_toList]; exact hc
            rw [this]; rfl
          rw [ec]
          exact fitsR_snoc h.1.1 (by rw [← fitM_c]; exact hP.1.1)
        · rw [List.length_append, h.1.2]; rfl
        · intro f hf
          rcases List.mem_append.mp hf with hf | hf
          · exact h.2 f hf
          · rw [List.mem_singleton.mp hf]; exact ⟨hP.2.1, hP.1.2⟩
      · refine k_tup (K := K) 0 rfl hA fun v B9 H9 b9 hA hd => q v B9 H9 (b2.trans b9) (at_drop hA) ⟨_, hd, ds, rfl, ?_, h.2⟩
        have h1 := h.1.1
        have : p.2.2.2.cps.toList.take p.2.2.2.cps.size = p.2.2.2.cps.toList := List.take_of_length_le (by simp)
        rwa [this] at h1
    · have hz := rows_len p hp
      have h1 := of_decide_eq_true (Bool.and_eq_true_iff.mp (show (_ && _) = true from h.1)).1
      rw [h1]
      show 1 + p.2.2.2.cps.toList.length ≤ 100000
      rw [Array.length_toList]
      omega
theorem rows_look : ∀ p ∈ rowsL, lookS rowsL p.1 = some p.2 := by decide +kernel
theorem isBody_row {s r : Str} {p : Row} (hp : p ∈ rowsL) (fs : List PyData) : isBody s r (.tuple (.str p.1 :: fs)) = (decide (s = p.2.1) && (decide (r = p.2.2.1) && fitsR fs p.2.2.2.cps.toList)) := by
  show (match lookS rowsL p.1 with | some (a, b, m) => _ | none => false) = _
  rw [rows_look p hp]
theorem fitsR_lenT {fs : List PyData} {cs : List Nat} (h : fitsR fs cs = true) : fs.length = cs.length := of_decide_eq_true (Bool.and_eq_true_iff.mp (show (_ && _) = true from h)).1
theorem rows_s : ∀ p ∈ rowsL, lookS rowsL (p.1 ++ "s") = none ∧ (p.1 ++ ("s" : Str)).length ≤ 1000 ∧ p.1.length ≤ 100 := by decide +kernel
def RowP (d : PyData) : Prop := ∃ p ∈ rowsL, d = rowD p
section
variable {σ : L2.St} {B H : Hp} {l : List MP} {ta tb te tn tl : TE} {tt : TA} {t : TT} {D : Ends} {tz tu : TS} {s : Addr} {E : XK} {φ ψ : PyData → Prop} {ρ : Int → Prop} {i j : Nat} {ds es : List PyData} {m : Nat} {n : Int}
theorem wg_row {k a b c : Str} (h : (k, a, b, c) ∈ rowsL) : Wv (tTup (tCons (tC (.str k)) (tCons (tC (.str a)) (tCons (tC (.str b)) (tCons (tC (.str c)) tNil))))) σ B l (rG K RowP) := wg_ed (K := K) (d := rowD (k, a, b, c)) (fun B1 b1 => ed_tup (eds_cons ed_str (eds_cons ed_str (eds_cons ed_str (eds_cons ed_str eds_nil)))) (by show 4 ≤ 100000; decide)) ⟨_, h, rfl⟩
theorem ret_do (h : te σ H D.rt) : tRet te D σ H := h
theorem qe_whenJ {b : Bool} {J : L2.St → Hp → Prop} (hA : At B l H) (h : EvT t σ H b) (h1 : b = true → ∀ H1, At B l H1 → ∀ Dn : Ends, (∀ σ' H', J σ' H' → Dn.nx σ' H') → tu Dn σ H1) (h2 : b = false → ∀ H1, At B l H1 → J σ H1) (k : ∀ σ' H', J σ' H' → tz D σ' H') : tSeq (tIfS t tu tNext) tz D σ H :=
  qe_when hA h (fun hb H1 hA => h1 hb H1 hA { D with nx := tz D } k) (fun hb H1 hA => k σ H1 (h2 hb H1 hA))
theorem wv_mix1 (j : Nat) (hj : l[j]? = some (StM s)) (hs : σ[i]? = some (some (.ref s))) : Wv (tOp (rIxT K) (tCall (spG K MchP) [] E (tCons (tVar i) tNil)) (tC (.int 1))) σ B l (rN fun n => 0 ≤ n ∧ n ≤ 1000000000000000000) := fun B1 H1 e1 hA Q q =>
  go_op (wv_g (K := K) (φ := MchP) j hj hs B1 H1 e1 hA _ fun v B2 H2 b2 hA2 ⟨d, hd, k, n, hdk, hk, h0, h1⟩ => by
    subst hdk
    cases hd with
    | @tup a xs _ hx hxs => cases hxs with
      | cons p0 hxs => cases hxs with
        | cons p1 hxs =>
          cases hxs
          cases p1
          exact go_ev ev_c fun H3 e3 => ⟨a, _, 1, .int n, rfl, rfl, ex_t (at_base (at_ex hA2 e3)) hx, atI_nat (j := 1) rfl, q _ B2 H3 b2 (at_ex hA2 e3) ⟨n, rfl, h0, h1⟩⟩)
end
def spFrm (K : PySem.W.Frag) : Sp := fun vs H Q _ => ∃ (B : Hp) (F : List MP), vs = [] ∧ At B F H ∧ ∀ p ds B1 H1, Ex B B1 → At B1 (LstM K p ds :: F) H1 → ds.length = 13 → (∀ d ∈ ds, RowP d) → Q (.ref p) H1
theorem ok_lforms {f : Addr} {fd : FuncData} (F : Fun K "_law_forms" "_law_forms" s__law_forms f fd) (T : Glo mg) : FnOk P w K mg base CX0 1 f fd [] (spFrm K) := by
  refine F.ok sc__law_forms (fun vs H Q E h => ?_) (fun cdv A outer s H vs Q E hr h => ?_)
  · obtain ⟨B, F, rfl, _⟩ := h
    rfl
  · obtain ⟨B, Fr, rfl, hA, q⟩ := h
    refine ⟨_, (pss_cons (ps_set (i := 0) sc__law_forms.nd rfl (.inl rfl) (pe_lst (pa_cons (pe_tup (pa_cons pe_str (pa_cons pe_str (pa_cons pe_str (pa_cons pe_str pa_nil))))) (pa_cons (pe_tup (pa_cons pe_str (pa_cons pe_str (pa_cons pe_str (pa_cons pe_str pa_nil))))) pa_nil))))
  (pss_cons (ps_set (i := 0) sc__law_forms.nd rfl (.inl rfl) (pe_op op_cat (pv 0) (pe_lst (pa_cons (pe_tup (pa_cons pe_str (pa_cons pe_str (pa_cons pe_str (pa_cons pe_str pa_nil))))) (pa_cons (pe_tup (pa_cons pe_str (pa_cons pe_str (pa_cons pe_str (pa_cons pe_str pa_nil))))) pa_nil)))))
  (pss_cons (ps_set (i := 0) sc__law_forms.nd rfl (.inl rfl) (pe_op op_cat (pv 0) (pe_lst (pa_cons (pe_tup (pa_cons pe_str (pa_cons pe_str (pa_cons pe_str (pa_cons pe_str pa_nil))))) (pa_cons (pe_tup (pa_cons pe_str (pa_cons pe_str (pa_cons pe_str (pa_cons pe_str pa_nil))))) pa_nil)))))
  (pss_cons (ps_set (i := 0) sc__law_forms.nd rfl (.inl rfl) (pe_op op_cat (pv 0) (pe_lst (pa_cons (pe_tup (pa_cons pe_str (pa_cons pe_str (pa_cons pe_str (pa_cons pe_str pa_nil))))) (pa_cons (pe_tup (pa_cons pe_str (pa_cons pe_str (pa_cons pe_str (pa_cons pe_str pa_nil))))) pa_nil)))))
  (pss_cons (ps_set (i := 0) sc__law_forms.nd rfl (.inl rfl) (pe_op op_cat (pv 0) (pe_lst (pa_cons (pe_tup (pa_cons pe_str (pa_cons pe_str (pa_cons pe_str (pa_cons pe_str pa_nil))))) (pa_cons (pe_tup (pa_cons pe_str (pa_cons pe_str (pa_cons pe_str (pa_cons pe_str pa_nil))))) pa_nil)))))
  (pss_cons (ps_set (i := 0) sc__law_forms.nd rfl (.inl rfl) (pe_op op_cat (pv 0) (pe_lst (pa_cons (pe_tup (pa_cons pe_str (pa_cons pe_str (pa_cons pe_str (pa_cons pe_str pa_nil))))) (pa_cons (pe_tup (pa_cons pe_str (pa_cons pe_str (pa_cons pe_str (pa_cons pe_str pa_nil))))) pa_nil)))))
  (pss_one (ps_ret (pe_op op_cat (pv 0) (pe_lst (pa_cons (pe_tup (pa_cons pe_str (pa_cons pe_str (pa_cons pe_str (pa_cons pe_str pa_nil))))) pa_nil))))))))))), ?_⟩
    refine q_do (go_lstG (K := K) (φ := RowP) (m := 2) hA (wap_cons (wg_row (by decide +kernel)) (wap_cons (wg_row (by decide +kernel)) wap_nil)) (by decide) fun p1 d1 B1 H1 b1 hA l1 h1 => ?_)
    refine q_do (go_catG (K := K) (φ := RowP) (m := 2) 0 rfl hA rfl (wap_cons (wg_row (by decide +kernel)) (wap_cons (wg_row (by decide +kernel)) wap_nil)) (by omega) h1 fun p2 d2 B2 H2 b2 hA l2 h2 => ?_)
    have hA := at_drop (at_swap hA)
    refine q_do (go_catG (K := K) (φ := RowP) (m := 2) 0 rfl hA rfl (wap_cons (wg_row (by decide +kernel)) (wap_cons (wg_row (by decide +kernel)) wap_nil)) (by omega) h2 fun p3 d3 B3 H3 b3 hA l3 h3 => ?_)
    have hA := at_drop (at_swap hA)
    refine q_do (go_catG (K := K) (φ := RowP) (m := 2) 0 rfl hA rfl (wap_cons (wg_row (by decide +kernel)) (wap_cons (wg_row (by decide +kernel)) wap_nil)) (by omega) h3 fun p4 d4 B4 H4 b4 hA l4 h4 => ?_)
    have hA := at_drop (at_swap hA)
    refine q_do (go_catG (K := K) (φ := RowP) (m := 2) 0 rfl hA rfl (wap_cons (wg_row (by decide +kernel)) (wap_cons (wg_row (by decide +kernel)) wap_nil)) (by omega) h4 fun p5 d5 B5 H5 b5 hA l5 h5 => ?_)
    have hA := at_drop (at_swap hA)
    refine q_do (go_catG (K := K) (φ := RowP) (m := 2) 0 rfl hA rfl (wap_cons (wg_row (by decide +kernel)) (wap_cons (wg_row (by decide +kernel)) wap_nil)) (by omega) h5 fun p6 d6 B6 H6 b6 hA l6 h6 => ?_)
    have hA := at_drop (at_swap hA)
    exact ret_do (go_catG (K := K) (φ := RowP) (m := 1) 0 rfl hA rfl (wap_cons (wg_row (by decide +kernel)) wap_nil) (by omega) h6 fun p7 d7 B7 H7 b7 hA l7 h7 => q p7 d7 B7 H7 (b1.trans (b2.trans (b3.trans (b4.trans (b5.trans (b6.trans b7)))))) (at_drop (at_swap hA)) (by omega) h7)
theorem bdy_okd {p : Row} (hp : p ∈ rowsL) {d : PyData} (h : BdyP p d) : Okd 6 d := by
  obtain ⟨fs, rfl, hfit, hok⟩ := h
  have hz := rows_len p hp
  have hfl := fitsR_lenT hfit
  have hcl : p.2.2.2.cps.toList.length = p.2.2.2.cps.size := Array.length_toList
  exact .tup (by rw [List.length_cons]; omega) fun d hd => by
    rcases List.mem_cons.mp hd with rfl | hd
    · exact .str (by have := (rows_s p hp).2.2; omega)
    · exact (hok d hd).1
theorem rows_jmc : ∀ p ∈ rowsL, p.2.1 ∈ jmc ∧ p.2.2.1 ∈ jmc ∧ p.2.1 ≠ p.2.2.1 := by decide +kernel
theorem okd_three {n : Nat} {a b c : PyData} (ha : Okd n a) (hb : Okd n b) (hc : Okd n c) : Okd (n + 1) (.tuple [a, b, c]) := .tup (by show 3 ≤ 1000; decide) fun d hd => by
  simp only [List.mem_cons, List.not_mem_nil, or_false] at hd
  rcases hd with rfl | rfl | rfl
  · exact ha
  · exact hb
  · exact hc
theorem rows_T : ∀ p ∈ rowsL, isT (.str p.1) = true ∧ isT (.str p.2.1) = true ∧ isT (.str p.2.2.1) = true := by decide +kernel
def MsgP (d : PyData) : Prop := ∃ p ∈ rowsL, ∃ (n1 n2 : Int) (b : PyData), d = .tuple [.tuple [.str p.2.1, .int n1], .tuple [.str p.2.2.1, .int n2], b] ∧ (0 ≤ n1 ∧ n1 ≤ 1000000000000000000) ∧ (0 ≤ n2 ∧ n2 ≤ 1000000000000000000) ∧ BdyP p b
theorem bdy_is {p : Row} (hp : p ∈ rowsL) {b : PyData} (h : BdyP p b) (x y : Str) : isBody x y b = (decide (x = p.2.1) && decide (y = p.2.2.1)) := by
  obtain ⟨fs, rfl, hfit, _⟩ := h
  rw [isBody_row hp, hfit, Bool.and_true]
theorem bdy_isV {p : Row} (hp : p ∈ rowsL) {b : PyData} (h : BdyP p b) : isV b = true := by
  obtain ⟨fs, rfl, hfit, hok⟩ := h
  refine isV_tup fun d hd => ?_
  rcases List.mem_cons.mp hd with rfl | hd
  · exact isP_V (by unfold isP; rw [(rows_T p hp).1, Bool.or_true])
  · exact (hok d hd).2
theorem ma_isV {k : Str} {n : Int} (hk : isT (.str k) = true) (h : 0 ≤ n ∧ n ≤ 1000000000000000000) : isV (.tuple [.str k, .int n]) = true := isV_tup fun d hd => by
  simp only [List.mem_cons, List.not_mem_nil, or_false] at hd
  rcases hd with rfl | rfl
  · exact isP_V (by unfold isP; rw [hk, Bool.or_true])
  · exact isN_V (isN_of h.1 h.2)
theorem msgP_is {d : PyData} (h : MsgP d) : isMsg d = true := by
  obtain ⟨p, hp, n1, n2, b, rfl, h1, h2, hb⟩ := h
  obtain ⟨hj1, hj2, hne⟩ := rows_jmc p hp
  show (isMach _ && (isMach _ && isBody p.2.1 p.2.2.1 b)) = true
  rw [mchP_is ⟨_, _, rfl, hj1, h1⟩, mchP_is ⟨_, _, rfl, hj2, h2⟩, bdy_is hp hb, decide_eq_true rfl, decide_eq_true rfl]
  rfl
theorem msgP_okd {d : PyData} (h : MsgP d) : Okd 8 d := by
  obtain ⟨p, hp, n1, n2, b, rfl, h1, h2, hb⟩ := h
  obtain ⟨hj1, hj2, hne⟩ := rows_jmc p hp
  exact okd_three (mchP_okd (n := 6) ⟨_, _, rfl, hj1, h1⟩) (mchP_okd (n := 6) ⟨_, _, rfl, hj2, h2⟩) ((bdy_okd hp hb).mono (by omega))
theorem wv_bdy {σ : L2.St} {B : Hp} {l : List MP} {s : Addr} {E : XK} {i k : Nat} {v : V} {p : Row} (j : Nat) (hj : l[j]? = some (StM s)) (hs : σ[i]? = some (some (.ref s))) (hk : σ[k]? = some (some v)) (hp : p ∈ rowsL) (hv : Dp K B v (rowD p)) : Wv (tCall (spBdy K) [] E (tCons (tVar i) (tCons (tVar k) tNil))) σ B l (rG K (BdyP p)) := fun B1 H e1 hA Q q =>
  go_call (go_cons (ev_var hs) fun H1 e2 => go_cons (ev_var hk) fun H2 e3 => go_nil ⟨s, v, p, B1, l.eraseIdx j, rfl, hp, dp_mono e1 _ _ hv, at_pull j hj (at_ex hA (e2.trans e3)), fun v d B3 H3 b3 hv hd hA3 => q v B3 H3 b3 (by
    have := at_put j hj hA3
    rwa [List.set_getElem?_self' hj] at this) ⟨d, hv, hd⟩⟩)
theorem len2 {φ ψ : PyData → Prop} : ∀ ds, (∃ x r, ds = x :: r ∧ φ x ∧ ∃ y r', r = y :: r' ∧ ψ y ∧ r' = []) → ds.length ≤ 100000 := fun ds h => by
  obtain ⟨x, r, rfl, _, y, r', rfl, _, rfl⟩ := h
  show 2 ≤ 100000
  decide
theorem ok_lmessage {f f_n f_ma f_fo f_bo : Addr} {fd fd_n fd_ma fd_fo fd_bo : FuncData} (F : Fun K "_law_message" "_law_message" s__law_message f fd) (D__law_next : Df K mg "_law_next" s__law_next ["stream", "size"] f_n fd_n) (G__law_next : FnOk P w K mg base CX0 1 f_n fd_n ["stream", "size"] spNext) (D__law_machine : Df K mg "_law_machine" s__law_machine ["stream"] f_ma fd_ma) (G__law_machine : FnOk P w K mg base CX0 2 f_ma fd_ma ["stream"] (spG K MchP))
    (D__law_forms : Df K mg "_law_forms" s__law_forms [] f_fo fd_fo) (G__law_forms : FnOk P w K mg base CX0 1 f_fo fd_fo [] (spFrm K)) (D__law_body : Df K mg "_law_body" s__law_body ["stream", "row"] f_bo fd_bo) (G__law_body : FnOk P w K mg base CX0 6 f_bo fd_bo ["stream", "row"] (spBdy K)) (T : Glo mg) : FnOk P w K mg base CX0 7 f fd ["stream"] (spG K MsgP) := by
  refine F.ok sc__law_message (fun vs H Q E h => ?_) (fun cdv A outer s H vs Q E hr h => ?_)
  · obtain ⟨s, B, F, rfl, _⟩ := h
    rfl
  · obtain ⟨sr, B2, Fr, rfl, hA, q⟩ := h
    refine ⟨_, (pss_cons (ps_set (i := 1) sc__law_message.nd rfl (.inl rfl) (pe_ix ix_list (pe_call0 G__law_forms (hr.mono (by decide)) (by rfl) D__law_forms.g D__law_forms.F.kp D__law_forms.b .nil pass0) (pe_call G__law_next (hr.mono (by decide)) (by rfl) D__law_next.g D__law_next.F.kp D__law_next.b .nil pass0 (pa_cons (pv 0) (pa_cons pe_int pa_nil))) (fun _ _ => rfl)))
  (pss_one (ps_ret (pe_tup (pa_cons (pe_tup (pa_cons (pe_ix ix_tup (pv 1) pe_int (fun _ _ => rfl)) (pa_cons (pe_ix ix_tup (pe_call G__law_machine (hr.mono (by decide)) (by rfl) D__law_machine.g D__law_machine.F.kp D__law_machine.b .nil pass0 (pa_cons (pv 0) pa_nil)) pe_int (fun _ _ => rfl)) pa_nil))) (pa_cons (pe_tup (pa_cons (pe_ix ix_tup (pv 1) pe_int (fun _ _ => rfl)) (pa_cons (pe_ix ix_tup (pe_call G__law_machine (hr.mono (by decide)) (by rfl) D__law_machine.g D__law_machine.F.kp D__law_machine.b .nil pass0 (pa_cons (pv 0) pa_nil)) pe_int (fun _ _ => rfl)) pa_nil))) (pa_cons (pe_call G__law_body (hr.mono (by decide)) (by rfl) D__law_body.g D__law_body.F.kp D__law_body.b .nil pass0 (pa_cons (pv 0) (pa_cons (pv 1) pa_nil))) pa_nil))))))), ?_⟩
    refine q_do (go_op (go_call (go_nil ⟨B2, _, rfl, hA, fun pf ds B3 H9 b3 hA hl hds => wv_next 1 rfl rfl (n := 13) (fun H => ev_c) (by decide) (by decide) B3 H9 (Ex.refl B3) hA _ fun w B4 H10 b4 hA ⟨j, hw, hj⟩ => ?_⟩)))
    subst hw
    obtain ⟨k, rfl⟩ : ∃ k : Nat, j = (k : Int) := ⟨j.toNat, by have := hj.1; omega⟩
    have hk : k < ds.length := by have := hj.2; omega
    obtain ⟨xs, hxs, hxl⟩ := lst_at (K := K) 0 rfl hA
    obtain ⟨x, hx, hxd⟩ := dpa_at hxs (List.getElem?_eq_getElem hk)
    obtain ⟨p, hp, hpd⟩ := hds _ (List.getElem_mem hk)
    rw [hpd] at hxd
    refine ⟨pf, xs, (k : Int), x, rfl, rfl, sq_of hxl, atI_nat hx, ?_⟩
    have hA := at_drop hA
    refine sw_ret hA (wv_tupL (K := K) (wal_cons (wv_tupL (K := K) (wal_cons (wg_ed (K := K) (d := .str p.2.1) (φ := fun d => d = .str p.2.1) (fun B1 b1 => ed_of (row_ix hxd rfl B1 b1).2.1 (.str _)) rfl) (wal_cons (wg_n (K := K) (φ := fun d => ∃ n, d = .int n ∧ 0 ≤ n ∧ n ≤ 1000000000000000000) (wv_mix1 (K := K) 0 rfl rfl) (fun i hi => ⟨i, rfl, hi⟩)) wal_nil)) len2)
      (wal_cons (wv_tupL (K := K) (wal_cons (wg_ed (K := K) (d := .str p.2.2.1) (φ := fun d => d = .str p.2.2.1) (fun B1 b1 => ed_of (row_ix hxd rfl B1 b1).2.2.1 (.str _)) rfl) (wal_cons (wg_n (K := K) (φ := fun d => ∃ n, d = .int n ∧ 0 ≤ n ∧ n ≤ 1000000000000000000) (wv_mix1 (K := K) 0 rfl rfl) (fun i hi => ⟨i, rfl, hi⟩)) wal_nil)) len2)
      (wal_cons (wv_bdy (K := K) 0 rfl rfl rfl hp hxd) wal_nil))) (fun ds h => ?_)) fun v B5 H11 b5 hA ⟨d, hd, ds, e0, m1, r1, e1, ⟨d1, e2, x1, s1, e3, e4, y1, s2, e5, ⟨n1, e6, hn1⟩, e7⟩, m2, r2, e8, ⟨d2, e9, x2, t1, e10, e11, y2, t2, e12, ⟨n2, e13, hn2⟩, e14⟩, b, r3, e15, hb, e16⟩ => ?_
    · obtain ⟨x, r, rfl, _, y, r', rfl, _, z, r2, rfl, _, rfl⟩ := h
      show 3 ≤ 100000
      decide
    · subst e16; subst e15; subst e14; subst e13; subst e12; subst e11; subst e10; subst e9; subst e8; subst e7; subst e6; subst e5; subst e4; subst e3; subst e2; subst e1; subst e0
      exact q v _ B5 H11 (b3.trans (b4.trans b5)) hd ⟨p, hp, n1, n2, b, rfl, hn1, hn2, hb⟩ hA
def spIs : Sp := fun vs H Q _ => ∃ i j : Int, vs = [.int i, .int j] ∧ RetV (.bl (decide (i = j))) H Q
theorem spIs_v {H : Hp} {i : Int} : SpV spIs [.int i, .int i] H (.bl true) := fun H1 e Q q _ => ⟨i, i, rfl, by rw [decide_eq_true rfl]; exact fun H2 e2 => q H2 e2⟩
theorem ok_lis {f : Addr} {fd : FuncData} (F : Fun K "_law_is" "_law_is" s__law_is f fd) (T : Glo mg) : FnOk P w K mg base CX0 1 f fd ["actual", "due"] spIs := by
  refine F.ok sc__law_is (fun vs H Q E h => ?_) (fun cdv A outer s H vs Q E hr h => ?_)
  · obtain ⟨i, j, rfl, _⟩ := h
    rfl
  · obtain ⟨i, j, rfl, q⟩ := h
    refine ⟨_, (pss_one (ps_ret (pe_and (pe_callB call_isi (by rfl) T.isinstance (by decide +kernel) (pa_cons (pv 0) (pa_cons (pe_bltn (v := .ty "int") (u := .type "int") (by rfl) T.int (by decide +kernel) rfl) pa_nil))) (pe_and (pe_not (pe_callB call_isi (by rfl) T.isinstance (by decide +kernel) (pa_cons (pv 0) (pa_cons (pe_bltn (v := .ty "bool") (u := .type "bool") (by rfl) T.bool (by decide +kernel) rfl) pa_nil)))) (pe_one (pe_cmpR op_eq (pv 0) (pv 1) (nomark _))))))), ?_⟩
    by_cases e : i = j
    · rw [decide_eq_true e] at q
      subst e
      refine' s_ret ?c q
      case c => walk_at "vt"
    · rw [decide_eq_false e] at q
      exact s_ret (ev_andR (by walk_at "vt") (ev_andR (by walk_at "vt") (ev_is (ev_op (ev_var rfl) (ev_var rfl) rv_eqI) (by rw [decide_eq_false e])))) q
theorem et_orR' {σ : L2.St} {H : Hp} {t u : TT} {b : Bool} (h1 : EvT t σ H false) (h2 : EvT u σ H b) : EvT (tOr t u) σ H b := fun H1 e Q q => h1 H1 e _ fun H2 e2 => (h2 H2 (e.trans e2) Q fun H3 e3 => q H3 (e2.trans e3))
def spEq (K : PySem.W.Frag) (n : Nat) : Sp := fun vs H Q _ => ∃ (x y : V) (d : PyData), vs = [x, y] ∧ Dx K H x d ∧ Dx K H y d ∧ Okd n d ∧ isV d = true ∧ RetV (.bl true) H Q
theorem ok_equal {f : Addr} {fd : FuncData} (D__law_equal : Df K mg "_law_equal" s__law_equal ["actual", "due"] f fd) (T : Glo mg) : ∀ n : Nat, FnOk P w K mg base CX0 (n + 1) f fd ["actual", "due"] (spEq K n) := fun n => by
  have key : ∀ (n : Nat) (S : Sp), FnOk P w K mg base CX0 n f fd ["actual", "due"] S → (∀ m, n = m + 1 → S = spEq K m) → FnOk P w K mg base CX0 (n + 1) f fd ["actual", "due"] (spEq K n) := fun n S G__law_equal hSm => by
    refine D__law_equal.F.ok sc__law_equal (fun vs H Q E h => ?_) (fun cdv A outer s H vs Q E hr h => ?_)
    · obtain ⟨x, y, d, rfl, _⟩ := h
      rfl
    · obtain ⟨x, y, d, rfl, hx, hy, ok, hv, q⟩ := h
      refine ⟨_, (pss_cons (ps_if (pt_val (pe_callB call_isi (by rfl) T.isinstance (by decide +kernel) (pa_cons (pv 1) (pa_cons (pe_bltn (v := .ty "str") (u := .type "str") (by rfl) T.str (by decide +kernel) rfl) pa_nil))))
  (pss_one (ps_ret (pe_and (pe_callB call_isi (by rfl) T.isinstance (by decide +kernel) (pa_cons (pv 0) (pa_cons (pe_bltn (v := .ty "str") (u := .type "str") (by rfl) T.str (by decide +kernel) rfl) pa_nil))) (pe_one (pe_cmpR op_eq (pv 0) (pv 1) (nomark _))))))
  pss_nil)
  (pss_cons (ps_if (pt_not (pt_val (pe_callB call_isi (by rfl) T.isinstance (by decide +kernel) (pa_cons (pv 1) (pa_cons (pe_bltn (v := .ty "tuple") (u := .type "tuple") (by rfl) T.tuple (by decide +kernel) rfl) pa_nil)))))
  (pss_one (ps_ret (pe_and (pe_callB call_isi (by rfl) T.isinstance (by decide +kernel) (pa_cons (pv 0) (pa_cons (pe_bltn (v := .ty "int") (u := .type "int") (by rfl) T.int (by decide +kernel) rfl) pa_nil))) (pe_and (pe_not (pe_callB call_isi (by rfl) T.isinstance (by decide +kernel) (pa_cons (pv 0) (pa_cons (pe_bltn (v := .ty "bool") (u := .type "bool") (by rfl) T.bool (by decide +kernel) rfl) pa_nil)))) (pe_one (pe_cmpR op_eq (pv 0) (pv 1) (nomark _)))))))
  pss_nil)
  (pss_cons (ps_if (PW.pt (pw_or (pt_not (pt_val (pe_callB call_isi (by rfl) T.isinstance (by decide +kernel) (pa_cons (pv 0) (pa_cons (pe_bltn (v := .ty "tuple") (u := .type "tuple") (by rfl) T.tuple (by decide +kernel) rfl) pa_nil))))) (pw_or1 (pt_cmpR op_ne (pe_callB call_len_seq (by rfl) T.len PySem.boot_len (pa_cons (pv 0) pa_nil)) (pe_callB call_len_seq (by rfl) T.len PySem.boot_len (pa_cons (pv 1) pa_nil)) (nomark _)))))
  (pss_one (ps_ret pe_bl))
  pss_nil)
  (pss_cons (ps_for PassesOwn.never rfl (pi_range1 (by rfl) T.range (pa_cons (pe_callB call_len_seq (by rfl) T.len PySem.boot_len (pa_cons (pv 1) pa_nil)) pa_nil)) (pg_name (i := 2) sc__law_equal.nd rfl (.inl rfl))
  (pss_one (ps_if (pt_not (pt_val (pe_call G__law_equal (hr.mono (by omega)) (by rfl) D__law_equal.g D__law_equal.F.kp D__law_equal.b .nil pass0 (pa_cons (pe_ix ix_seq (pv 0) (pv 2) (fun _ _ => rfl)) (pa_cons (pe_ix ix_seq (pv 1) (pv 2) (fun _ _ => rfl)) pa_nil)))))
  (pss_one (ps_ret pe_bl))
  pss_nil)))
  (pss_one (ps_ret pe_bl)))))), ?_⟩
      refine q_when (b := isStr d) (et_B (ev_isiX (K := K) (ex_var rfl hy) (kit_str d))) (fun hb H1 e1 => ?_) (fun hb H1 e1 => ?_)
      · cases d with
        | str z =>
          cases hx
          cases hy
          exact s_ret (ev_andT (ev_isiX (K := K) (ex_var rfl (.str z)) (kit_str _)) (ev_op (ev_var rfl) (ev_var rfl) (rv_eqT rfl))) fun H2 e2 => q H2 (e1.trans e2)
        | _ => cases hb
      · have hx1 := dx_mono e1 _ _ hx
        have hy1 := dx_mono e1 _ _ hy
        refine q_when (b := !isTup d) (et_not (et_B (ev_isiX (K := K) (ex_var rfl hy1) (kit_tup d)))) (fun hb2 H2 e2 => ?_) (fun hb2 H2 e2 => ?_)
        · cases d with
          | int i =>
            cases hx
            cases hy
            exact s_ret (ev_andT (ev_isiX (K := K) (ex_var rfl (.int i)) (kit_int _)) (ev_andT (ev_nf (ev_isiX (K := K) (ex_var rfl (.int i)) (kit_bool _))) (ev_op (ev_var rfl) (ev_var rfl) (rv_eqT rfl)))) fun H3 e3 => q H3 (e1.trans (e2.trans e3))
          | str z => cases hb
          | tuple ds => cases hb2
          | _ => cases hv
        · obtain ⟨ds, rfl⟩ := tup_of (by simpa using hb2)
          cases ok with
          | @tup m _ hl hok =>
            have hS := hSm m rfl
            subst hS
            have hV : ∀ e ∈ ds, isV e = true := List.all_eq_true.mp (by rw [← isVs_iff]; exact hv)
            have hd : (PyData.tuple ds = .list ds) ∨ (PyData.tuple ds = .tuple ds) := .inr rfl
            have hx2 := dx_mono e2 _ _ hx1
            have hy2 := dx_mono e2 _ _ hy1
            refine q_when (b := false) (et_orR' (et_is (et_not (et_B (ev_isiX (K := K) (ex_var rfl hx2) (kit_tup _)))) rfl) (et_is (et_test (ev_op (ev_lenX2 (K := K) hd (ex_var rfl hx2)) (ev_lenX2 (K := K) hd (ex_var rfl hy2)) rv_neI)) (by rw [decide_eq_true rfl]; rfl))) (fun hb => nomatch hb) (fun _ H3 e3 => ?_)
            have hx3 := dx_mono e3 _ _ hx2
            have hy3 := dx_mono e3 _ _ hy2
            refine q_forR1 (n := (ds.length : Int)) (ea_cons (ev_lenX2 (K := K) hd (ex_var rfl hy3)) ea_nil) (by omega) (fun i σ' H' => ∃ y2 : Option V, σ' = [some x, some y, y2] ∧ Ex H3 H') (fun H4 e4 => ⟨none, rfl, e4⟩) (fun i σ' H' hi p => ?_) (fun σ' H' p => ?_)
            · obtain ⟨y2, rfl, e4⟩ := p
              have hx4 := dx_mono e4 _ _ hx3
              have hy4 := dx_mono e4 _ _ hy3
              have hil : i < ds.length := by omega
              have hat : atI ds (i : Int) = some ds[i] := atI_nat (List.getElem?_eq_getElem hil)
              refine s_when (b := false) (et_nt (et_B (ev_callD (K := K) (exs_cons (ex_ix2 (K := K) hd (ex_var rfl hx4) (ev_var rfl) hat) (exs_cons (ex_ix2 (K := K) hd (ex_var rfl hy4) (ev_var rfl) hat) exs_nil)) (fun vs H5 e5 hv Q q => ?_)))) (fun hb => nomatch hb) (fun _ H5 e5 => ⟨_, rfl, e4.trans e5⟩)
              cases hv with
              | cons h1 h2 => cases h2 with
                | cons h2 h3 =>
                  cases h3
                  exact ⟨_, _, _, rfl, h1, h2, hok _ (List.getElem_mem hil), hV _ (List.getElem_mem hil), q⟩
            · obtain ⟨y2, rfl, e4⟩ := p
              exact s_ret ev_c fun H5 e5 => q H5 ((((e1.trans e2).trans e3).trans e4).trans e5)
  induction n with
  | zero => exact key 0 (fun _ _ _ _ => False) fn_false (fun m h => nomatch h)
  | succ n ih => exact key (n + 1) _ ih (fun m h => by cases h; rfl)
theorem q_whenF {σ : L2.St} {H : Hp} {D : Ends} {tz tu : TS} {t : TT} {C : Hp → Prop} (h : ∀ Q : Bool → Hp → Prop, (∀ H1, C H1 → Q false H1) → t σ H Q) (k : ∀ H1, C H1 → tz D σ H1) : tSeq (tIfS t tu tNext) tz D σ H := h _ fun H1 hc => by
  show tz D σ H1
  exact k H1 hc
theorem s_whenF {σ : L2.St} {H : Hp} {D : Ends} {tu : TS} {t : TT} {C : Hp → Prop} (h : ∀ Q : Bool → Hp → Prop, (∀ H1, C H1 → Q false H1) → t σ H Q) (k : ∀ H1, C H1 → D.nx σ H1) : tIfS t tu tNext D σ H := q_whenF (tz := fun D => D.nx) (D := D) h k
theorem dx_lst {B H : Hp} {l : List MP} {a : Addr} {ds : List PyData} (n : Nat) (hk : l[n]? = some (LstM K a ds)) (hA : At B l H) : Dx K H (.ref a) (.list ds) := by
  obtain ⟨xs, h1, h2⟩ := lst_at n hk hA
  exact .lst (sq_of h2) (dpa_dxa _ _ (dpa_mono (at_base hA) _ _ h1))
theorem go_nnum {σ : L2.St} {B H : Hp} {F : List MP} {C nw : Addr} {n : Int} {l : DI} {E : XK} {ta : TE} {Q : VK} (hA : At B (NwM K C nw n l :: F) H) (ho : Ev ta σ H (.ref nw)) (q : ∀ p H1, At B (LstM K p (keyL l) :: NwM K C nw n l :: F) H1 → Q (.ref p) H1) : tMeth C "numbers" (spNNum K C) [] E ta tNil σ H Q := ho H (Ex.refl H) _ fun H1 e1 => by
  have hA1 := at_ex hA e1
  obtain ⟨dx, fs, hd, hf⟩ := nw_ins hA1
  exact ⟨nw, dx, _, rfl, hd, hf _ rfl rfl, ⟨nw, n, l, B, F, rfl, hA1, q⟩⟩
theorem go_nsend {σ : L2.St} {B H : Hp} {F : List MP} {C CB nw : Addr} {n : Int} {l : DI} {v : V} {d : PyData} {E : XK} {ta : TE} {tr : TA} {Q : VK} (hA : At B (NwM K C nw n l :: F) H) (ho : Ev ta σ H (.ref nw)) (hr : ∀ H1, Ex H H1 → EvA tr σ H1 [v]) (hv : Dp K B v d) (ok : Okd 8 d) (hm : isMsg d = true) (hz : l.length < 100000) (q : ∀ B1 H1, Ex B B1 → At B1 (NwM K C nw (n + 1) (putL l (n + 1) d) :: F) H1 → Q (.int (n + 1)) H1) : tMeth C "send" (spSend K C CB) [] E ta tr σ H Q := ho H (Ex.refl H) _ fun H1 e1 => by
  have hA1 := at_ex hA e1
  obtain ⟨dx, fs, hd, hf⟩ := nw_ins hA1
  exact ⟨nw, dx, _, rfl, hd, hf _ rfl rfl, hr H1 e1 H1 (Ex.refl H1) _ fun H2 e2 => ⟨nw, v, d, n, l, B, F, rfl, at_ex hA1 e2, dp_dx _ _ (dp_mono (at_base (at_ex hA1 e2)) _ _ hv), ok, fun _ => ⟨hv, hz, q⟩, fun h => by rw [hm] at h; cases h⟩⟩
theorem ok_lfield1 {f f_n f_nu f_de f_th : Addr} {fd fd_n fd_nu fd_de fd_th : FuncData} (D__law_field : Df K mg "_law_field" s__law_field ["stream", "mark"] f fd) (D__law_next : Df K mg "_law_next" s__law_next ["stream", "size"] f_n fd_n) (G__law_next : FnOk P w K mg base CX0 1 f_n fd_n ["stream", "size"] spNext) (D__law_number : Df K mg "_law_number" s__law_number ["stream"] f_nu fd_nu) (G__law_number : FnOk P w K mg base CX0 2 f_nu fd_nu ["stream"] (spG K NumP)) (D__law_deed : Df K mg "_law_deed" s__law_deed ["stream"] f_de fd_de) (G__law_deed : FnOk P w K mg base CX0 2 f_de fd_de ["stream"] (spG K DeedP)) (D__law_thing : Df K mg "_law_thing" s__law_thing ["stream"] f_th fd_th) (G__law_thing : FnOk P w K mg base CX0 2 f_th fd_th ["stream"] (spG K ThP)) (T : Glo mg) : FnOk P w K mg base CX0 5 f fd ["stream", "mark"] (spFld K fun _ => True) := 
  have G0 : FnOk P w K mg base CX0 4 f fd ["stream", "mark"] (spFld K fun z => z = "r") := ok_lfield (k := 0) D__law_field D__law_next G__law_next D__law_number G__law_number D__law_deed G__law_deed D__law_thing G__law_thing fn_false (fun h => absurd h (by decide +kernel)) T
  ok_lfield (k := 1) D__law_field D__law_next G__law_next D__law_number G__law_number D__law_deed G__law_deed D__law_thing G__law_thing G0 (fun _ vs H Q E h => h) T
theorem ev_sent {σ : L2.St} {B H : Hp} {F : List MP} {C nw : Addr} {n : Int} {l : DI} {ta : TE} (L : NwC K C) (hA : At B (NwM K C nw n l :: F) H) (ho : Ev ta σ H (.ref nw)) : Ev (tFld K ta "sent") σ H (.int n) := by
  obtain ⟨dx, d, hA⟩ := nw_open hA
  exact ev_fld (K := K) ho (at_get 0 rfl hA) L.cl L.nS rfl
theorem ev_lenNw {σ : L2.St} {B H : Hp} {F : List MP} {C nw : Addr} {n : Int} {l : DI} {E : XK} {ta : TE} (hA : At B (NwM K C nw n l :: F) H) (ho : Ev ta σ H (.ref nw)) (hl : l.length ≤ 1000) : Ev (tCB (rLenO C (spNLen K C) E) (tCons ta tNil)) σ H (.int (l.length : Int)) := fun H1 e Q q => ho H1 e _ fun H2 e2 => by
  have hA2 := at_ex hA (e.trans e2)
  obtain ⟨dx, fs, hd, hf⟩ := nw_ins hA2
  exact ⟨nw, dx, fs, rfl, hd, nw, n, l, B, F, rfl, hA2, fun H3 e3 => ⟨_, rfl, by omega, by omega, q H3 (e2.trans e3)⟩⟩
theorem putL_new {l : DI} {k : Int} {d : PyData} (h : look l k = none) : putL l k d = l ++ [(k, d)] := by
  unfold putL
  rw [if_neg]
  intro ha
  obtain ⟨p, hp, hk⟩ := List.any_eq_true.mp ha
  obtain ⟨e, he⟩ := look_isSome hp
  rw [of_decide_eq_true hk, h] at he
  cases he
def isNon : PyData → Bool
  | .none => true
  | _ => false
def prs : Nat → List PyData → DI
  | _, [] => []
  | k, d :: r => if isNon d = true then prs (k + 1) r else ((k : Int) + 1, d) :: prs (k + 1) r
theorem prs_off : ∀ (k : Nat) (ms : List PyData) (j : Int), j ≤ (k : Int) ∨ (k : Int) + (ms.length : Int) < j → look (prs k ms) j = none
  | _, [], j, _ => rfl
  | k, d :: r, j, h => by
    have hl : ((d :: r).length : Int) = (r.length : Int) + 1 := by rw [List.length_cons]; omega
    have ih := prs_off (k + 1) r j (by omega)
    show look (if isNon d = true then prs (k + 1) r else ((k : Int) + 1, d) :: prs (k + 1) r) j = none
    by_cases hd : isNon d = true
    · rw [if_pos hd]; exact ih
    · rw [if_neg hd, look_cons, if_neg (by show ¬ ((k : Int) + 1 = j); omega)]
      exact ih
theorem prs_look : ∀ (k : Nat) (ms : List PyData) (i : Nat) (d : PyData), ms[i]? = some d → look (prs k ms) ((k : Int) + (i : Int) + 1) = if isNon d = true then none else some d
  | k, e :: r, 0, d, h => by
    cases h
    show look (if isNon e = true then prs (k + 1) r else ((k : Int) + 1, e) :: prs (k + 1) r) _ = _
    by_cases hd : isNon e = true
    · rw [if_pos hd, if_pos hd]
      exact prs_off (k + 1) r _ (.inl (by omega))
    · rw [if_neg hd, if_neg hd, look_cons, if_pos (by simp)]
  | k, e :: r, i + 1, d, h => by
    have ih := prs_look (k + 1) r i d (by rw [List.getElem?_cons_succ] at h; exact h)
    rw [show (((k + 1 : Nat) : Int) + (i : Int) + 1) = (k : Int) + ((i + 1 : Nat) : Int) + 1 by omega] at ih
    show look (if isNon e = true then prs (k + 1) r else ((k : Int) + 1, e) :: prs (k + 1) r) _ = _
    by_cases hd : isNon e = true
    · rw [if_pos hd]; exact ih
    · rw [if_neg hd, look_cons, if_neg (by show ¬ ((k : Int) + 1 = (k : Int) + ((i + 1 : Nat) : Int) + 1); omega)]
      exact ih
  | _, [], i, d, h => by cases h
theorem prs_app : ∀ (k : Nat) (ms : List PyData) (d : PyData), isNon d = false → prs k (ms ++ [d]) = prs k ms ++ [(((k + ms.length : Nat) : Int) + 1, d)]
  | k, [], d, hd => by
    show (if isNon d = true then _ else _) = _
    rw [if_neg (by rw [hd]; decide)]
    rfl
  | k, e :: r, d, hd => by
    have ih := prs_app (k + 1) r d hd
    rw [show k + 1 + r.length = k + (e :: r).length by rw [List.length_cons]; omega] at ih
    show (if isNon e = true then prs (k + 1) (r ++ [d]) else ((k : Int) + 1, e) :: prs (k + 1) (r ++ [d])) = (if isNon e = true then prs (k + 1) r else ((k : Int) + 1, e) :: prs (k + 1) r) ++ _
    by_cases he : isNon e = true
    · rw [if_pos he, if_pos he, ih]
    · rw [if_neg he, if_neg he, ih]
      rfl
theorem prs_put (ms : List PyData) (d : PyData) (hd : isNon d = false) : putL (prs 0 ms) ((ms.length : Int) + 1) d = prs 0 (ms ++ [d]) := by
  rw [putL_new (prs_off 0 ms _ (.inr (by omega))), prs_app 0 ms d hd, Nat.zero_add]
theorem prs_keysGt : ∀ (k : Nat) (ms : List PyData), ∀ p ∈ prs k ms, (k : Int) < p.1
  | _, [], _, h => nomatch h
  | k, d :: r, p, h => by
    have ih := prs_keysGt (k + 1) r p
    have h : p ∈ (if isNon d = true then prs (k + 1) r else ((k : Int) + 1, d) :: prs (k + 1) r) := h
    by_cases hd : isNon d = true
    · rw [if_pos hd] at h
      have := ih h
      omega
    · rw [if_neg hd] at h
      rcases List.mem_cons.mp h with rfl | h
      · show (k : Int) < (k : Int) + 1; omega
      · have := ih h
        omega
theorem prs_drop : ∀ (k : Nat) (ms : List PyData) (i : Nat), i < ms.length → dropL (prs k ms) ((k : Int) + (i : Int) + 1) = prs k (ms.set i .none)
  | _, [], i, h => by cases h
  | k, e :: r, 0, _ => by
    have hr : dropL (prs (k + 1) r) ((k : Int) + ((0 : Nat) : Int) + 1) = prs (k + 1) r := by
      unfold dropL
      refine List.filter_eq_self.mpr fun p hp => ?_
      have := prs_keysGt (k + 1) r p hp
      refine decide_eq_true ?_
      show p.1 ≠ _
      omega
    show dropL (if isNon e = true then prs (k + 1) r else ((k : Int) + 1, e) :: prs (k + 1) r) _ = (if isNon .none = true then prs (k + 1) r else _)
    rw [if_pos (show isNon .none = true from rfl)]
    by_cases he : isNon e = true
    · rw [if_pos he]; exact hr
    · rw [if_neg he]
      unfold dropL at hr ⊢
      rw [List.filter_cons, if_neg (by simp)]
      exact hr
  | k, e :: r, i + 1, h => by
    have ih := prs_drop (k + 1) r i (by rw [List.length_cons] at h; omega)
    rw [show (((k + 1 : Nat) : Int) + (i : Int) + 1) = (k : Int) + ((i + 1 : Nat) : Int) + 1 by omega] at ih
    show dropL (if isNon e = true then prs (k + 1) r else ((k : Int) + 1, e) :: prs (k + 1) r) _ = (if isNon e = true then prs (k + 1) (r.set i .none) else ((k : Int) + 1, e) :: prs (k + 1) (r.set i .none))
    by_cases he : isNon e = true
    · rw [if_pos he, if_pos he]; exact ih
    · rw [if_neg he, if_neg he]
      unfold dropL at ih ⊢
      rw [List.filter_cons, if_pos (by refine decide_eq_true ?_; show (k : Int) + 1 ≠ _; omega), ih]
theorem prs_len : ∀ (k : Nat) (ms : List PyData), (prs k ms).length ≤ ms.length
  | _, [] => Nat.le_refl _
  | k, e :: r => by
    have ih := prs_len (k + 1) r
    show (if isNon e = true then prs (k + 1) r else ((k : Int) + 1, e) :: prs (k + 1) r).length ≤ _
    by_cases he : isNon e = true
    · rw [if_pos he, List.length_cons]; omega
    · rw [if_neg he, List.length_cons, List.length_cons]; omega
theorem prs_keys : ∀ (k : Nat) (ms : List PyData), (prs k ms).map (·.1) = ((List.range ms.length).filter fun i => !isNon (ms.getD i .none)).map fun i : Nat => (k : Int) + (i : Int) + 1
  | _, [] => rfl
  | k, e :: r => by
    have ih := prs_keys (k + 1) r
    have e1 : (List.range (e :: r).length).filter (fun i => !isNon ((e :: r).getD i .none)) = (if isNon e = true then [] else [0]) ++ ((List.range r.length).filter fun i => !isNon (r.getD i .none)).map (· + 1) := by
      rw [List.length_cons, List.range_succ_eq_map, List.filter_cons, List.filter_map]
      have e2 : ((fun i => !isNon ((e :: r).getD i .none)) ∘ Nat.succ) = fun i => !isNon (r.getD i .none) := by
        funext i
        rfl
      rw [e2]
      by_cases he : isNon e = true
      · rw [if_pos he, if_neg (by show ¬ (!isNon e) = true; rw [he]; decide)]
        rfl
      · rw [if_neg he, if_pos (by show (!isNon e) = true; simpa using he)]
        rfl
    rw [e1, List.map_append, List.map_map]
    show (if isNon e = true then prs (k + 1) r else ((k : Int) + 1, e) :: prs (k + 1) r).map (·.1) = _
    have e3 : (fun i : Nat => ((k + 1 : Nat) : Int) + (i : Int) + 1) = ((fun i : Nat => (k : Int) + (i : Int) + 1) ∘ fun x => x + 1) := by
      funext i
      show ((k + 1 : Nat) : Int) + (i : Int) + 1 = (k : Int) + ((i + 1 : Nat) : Int) + 1
      omega
    by_cases he : isNon e = true
    · rw [if_pos he, if_pos he, ih, e3]
      rfl
    · rw [if_neg he, if_neg he, List.map_cons, ih, e3]
      show ((k : Int) + 1) :: _ = ((k : Int) + ((0 : Nat) : Int) + 1) :: _
      congr 1
theorem go_next {σ : L2.St} {H : Hp} {D : Ends} (h : D.nx σ H) : tNext D σ H := h
theorem go_ifS {σ : L2.St} {H : Hp} {D : Ends} {t : TT} {tu tw : TS} (h : t σ H (fun b H' => if b = true then tu D σ H' else tw D σ H')) : tIfS t tu tw D σ H := h
theorem go_tst {σ : L2.St} {H : Hp} {te : TE} {Q : Bool → Hp → Prop} (h : te σ H (fun v H' => ∃ b, v = .bl b ∧ Q b H')) : tTest te σ H Q := h
def spND (K : PySem.W.Frag) (C : Addr) : Sp := fun vs H Q _ => ∃ (nw : Addr) (i n : Int) (l : DI) (B : Hp) (F : List MP), vs = [.ref nw, .int i] ∧ At B (NwM K C nw n l :: F) H ∧ ((look l i).isSome = true → ∀ H1, At B (NwM K C nw n (dropL l i) :: F) H1 → Q (.str "dropped") H1) ∧ (look l i = none → ∀ H1, At B (NwM K C nw n l :: F) H1 → Q (.str "unknown") H1)
theorem ok_ldropped {f f_d C C_Unknown B_U : Addr} {fd fd_d : FuncData} (F : Fun K "_law_dropped" "_law_dropped" s__law_dropped f fd) (L_Network : NwC K C) (D_Network_drop : Dm K C "drop" "Network.drop" s_Network_drop ["self", "number"] f_d fd_d) (G_Network_drop : FnOk P w K mg base (L2.CX P w) 3 f_d fd_d ["self", "number"] (spNDrop K C C_Unknown)) (E_Unknown : Err K mg "Unknown" C_Unknown B_U) (T : Glo mg) : FnOk P w K mg base CX0 4 f fd ["network", "number"] (spND K C) := by
  refine F.ok sc__law_dropped (fun vs H Q E h => ?_) (fun cdv A outer s H vs Q E hr h => ?_)
  · obtain ⟨nw, i, n, l, B, F, rfl, _⟩ := h
    rfl
  · obtain ⟨nw, i, n, l, B, Fr, rfl, hA, q1, q2⟩ := h
    refine ⟨_, (pss_cons (ps_try_ownN (C := C_Unknown) rfl rfl ⟨rfl, by decide, .inl E_Unknown.g⟩ takes0 (fun W pn xe tk => (pss_one (ps_if (pt_cmpR op_notN (pe_mx (pv 0) L_Network.cl D_Network_drop.m G_Network_drop (hr.mono (by decide)) D_Network_drop.b (fun σ => passAt tk σ) (pa_cons (pv 1) pa_nil)) pe_non (nomark _))
  (pss_one (ps_ret pe_str))
  pss_nil))) (fun a oe pn hz hf => (pss_one (ps_ret pe_str))))
  (pss_one (ps_ret pe_str))), ?_⟩
    show tIfS _ _ _ _ _ _
    obtain ⟨dx, fs, hd, hf⟩ := nw_ins hA
    refine go_ifS (go_tst (go_op ((ev_var (v := .ref nw) rfl : Ev (tVar 0) _ H (.ref nw)) H (Ex.refl H) _ fun H2 e2 => ⟨nw, dx, fs, rfl, e2 _ _ hd, hf _ rfl rfl, ?_⟩)))
    refine go_cons (ev_var rfl) fun H3 e3 => go_nil ⟨nw, i, n, l, B, Fr, rfl, at_ex hA (e2.trans e3), fun hs H4 hA4 => ?_, fun hno H4 hA4 => ?_⟩
    · refine go_ev ev_c fun H5 e5 => ⟨rfl, _, rfl, ?_⟩
      rw [decide_eq_true rfl]
      rw [if_neg (by decide)]
      refine go_next ?_
      dsimp only
      exact se_ret (at_ex hA4 e5) ev_c fun H6 hA6 => q1 hs H6 hA6
    · refine ⟨true, E_Unknown.me, fun _ a na => ⟨⟨rfl, rfl⟩, ?_⟩, fun z => nomatch z⟩
      exact se_ret hA4 ev_c fun H6 hA6 => q2 hno H6 hA6
def spNA (K : PySem.W.Frag) (C : Addr) : Sp := fun vs H Q _ => ∃ (nw : Addr) (i n : Int) (l : DI) (B : Hp) (F : List MP), vs = [.ref nw, .int i] ∧ At B (NwM K C nw n l :: F) H ∧ ∀ v B1 H1, Ex B B1 → At B1 (NwM K C nw n l :: F) H1 → Dp K B1 v ((look l i).getD .none) → Q v H1
theorem ok_lasked {f f_d C C_Unknown B_U : Addr} {fd fd_d : FuncData} (F : Fun K "_law_asked" "_law_asked" s__law_asked f fd) (L_Network : NwC K C) (D_Network_message : Dm K C "message" "Network.message" s_Network_message ["self", "number"] f_d fd_d) (G_Network_message : FnOk P w K mg base (L2.CX P w) 3 f_d fd_d ["self", "number"] (spNMsg K C C_Unknown)) (E_Unknown : Err K mg "Unknown" C_Unknown B_U) (T : Glo mg) : FnOk P w K mg base CX0 4 f fd ["network", "number"] (spNA K C) := by
  refine F.ok sc__law_asked (fun vs H Q E h => ?_) (fun cdv A outer s H vs Q E hr h => ?_)
  · obtain ⟨nw, i, n, l, B, F, rfl, _⟩ := h
    rfl
  · obtain ⟨nw, i, n, l, B, Fr, rfl, hA, q⟩ := h
    refine ⟨_, (pss_one (ps_try_ownN (C := C_Unknown) rfl rfl ⟨rfl, by decide, .inl E_Unknown.g⟩ takes0 (fun W pn xe tk => (pss_one (ps_ret (pe_mx (pv 0) L_Network.cl D_Network_message.m G_Network_message (hr.mono (by decide)) D_Network_message.b (fun σ => passAt tk σ) (pa_cons (pv 1) pa_nil))))) (fun a oe pn hz hf => (pss_one (ps_ret pe_non))))), ?_⟩
    show tRet _ _ _ _
    obtain ⟨dx, fs, hd, hf⟩ := nw_ins hA
    refine r_do (ev_var (v := .ref nw) rfl H (Ex.refl H) _ fun H2 e2 => ⟨nw, dx, fs, rfl, e2 _ _ hd, hf _ rfl rfl, ?_⟩)
    refine go_cons (ev_var rfl) fun H3 e3 => go_nil ⟨nw, i, n, l, B, Fr, rfl, at_ex hA (e2.trans e3), fun d hs v B1 H4 b1 hA4 hv => ?_, fun hno H4 hA4 => ?_⟩
    · rw [hs] at q
      exact q v B1 H4 b1 hA4 hv
    · refine ⟨true, E_Unknown.me, fun _ a na => ⟨⟨rfl, rfl⟩, ?_⟩, fun z => nomatch z⟩
      rw [hno] at q
      exact se_ret hA4 ev_c fun H6 hA6 => q .non B H6 (Ex.refl B) hA6 .non
def spNR7 (K : PySem.W.Frag) (C : Addr) : Sp := fun vs H Q _ => ∃ (nw : Addr) (n : Int) (l : DI) (B : Hp) (F : List MP), vs = [.ref nw] ∧ At B (NwM K C nw n l :: F) H ∧ ∀ B1 H1, Ex B B1 → At B1 (NwM K C nw n l :: F) H1 → Q (.bl true) H1
theorem ok_nrefused {f f_s C C_BadValue B_BV : Addr} {fd fd_s : FuncData} (F : Fun K "_law_refused" "_law_refused" s__law_refused f fd) (L_Network : NwC K C) (D_Network_send : Dm K C "send" "Network.send" s_Network_send ["self", "message"] f_s fd_s) (G_Network_send : FnOk P w K mg base (L2.CX P w) 8 f_s fd_s ["self", "message"] (spSend K C C_BadValue)) (E_BadValue : Err K mg "BadValue" C_BadValue B_BV) (T : Glo mg) : FnOk P w K mg base CX0 9 f fd ["network"] (spNR7 K C) := by
  refine F.ok sc__law_refused (fun vs H Q E h => ?_) (fun cdv A outer s H vs Q E hr h => ?_)
  · obtain ⟨nw, n, l, B, F, rfl, _⟩ := h
    rfl
  · obtain ⟨nw, n, l, B, Fr, rfl, hA, q⟩ := h
    refine ⟨_, (pss_cons (ps_try_ownN (C := C_BadValue) rfl rfl ⟨rfl, by decide, .inl E_BadValue.g⟩ takes0 (fun W pn xe tk => (pss_one (ps_expr (pe_mx (pv 0) L_Network.cl D_Network_send.m G_Network_send (hr.mono (by decide)) D_Network_send.b (fun σ => passAt tk σ) (pa_cons (pe_tup (pa_cons pe_str (pa_cons pe_int pa_nil))) pa_nil))))) (fun a oe pn hz hf => (pss_one (ps_ret pe_bl))))
  (pss_one (ps_ret pe_bl))), ?_⟩
    show tDrop _ _ _ _
    obtain ⟨dx, fs, hd, hf⟩ := nw_ins hA
    refine s_drop0 (ev_var (v := .ref nw) rfl H (Ex.refl H) _ fun H2 e2 => ⟨nw, dx, fs, rfl, e2 _ _ hd, hf _ rfl rfl, ?_⟩)
    have hA := at_ex hA e2
    refine go_cons' ((ed_tup (K := K) (eds_cons ed_str (eds_cons (ed_int ev_c) eds_nil)) (by show 2 ≤ 100000; decide) : EvD K _ _ B (.tuple [.str "client", .int 0])) H2 (at_base hA) _ fun v H3 e3 hv => go_nil ?_)
    have hA3 := at_grow hA e3
    have bb : Ex B (ov B H2 H3) := ov_base
    generalize ov B H2 H3 = B2 at hA3 hv bb
    refine ⟨nw, v, .tuple [.str "client", .int 0], n, l, B2, Fr, rfl, hA3, dp_dx _ _ (dp_mono (at_base hA3) _ _ hv), okdB_ok 8 _ (by decide +kernel), (fun hm => by cases hm), fun _ H4 hA4 => ?_⟩
    refine ⟨true, E_BadValue.me, fun _ a na => ⟨⟨rfl, rfl⟩, ?_⟩, fun z => nomatch z⟩
    exact se_ret hA4 ev_c fun H6 hA6 => q B2 H6 bb hA6
theorem et_notN {σ : L2.St} {H : Hp} {ta : TE} {x : V} (h : Ev ta σ H x) : EvT (tTest (tOp (fun x y H Q => y = .non ∧ Q (.bl (!decide (x = .non))) H) ta (tC .non))) σ H (!decide (x = .non)) := et_test (ev_op h ev_c (fun G _ _ q => ⟨rfl, q G (Ex.refl G)⟩))
theorem dp_non {H : Hp} {x : V} {d : PyData} (h : Dp K H x d) : decide (x = .non) = isNon d := by
  cases h <;> first | rfl | (exact decide_eq_false (fun e => nomatch e))
def OrN (d : PyData) : Prop := d = .none ∨ MsgP d
theorem orN_sd {d : PyData} (h : OrN d) : Sd 8 d := by
  rcases h with rfl | h
  · exact sd_none
  · obtain ⟨p, hp, n1, n2, b, rfl, h1, h2, hb⟩ := id h
    refine isV_sd (msgP_okd h) (isV_tup fun d hd => ?_)
    simp only [List.mem_cons, List.not_mem_nil, or_false] at hd
    rcases hd with rfl | rfl | rfl
    · exact ma_isV (rows_T p hp).2.1 h1
    · exact ma_isV (rows_T p hp).2.2 h2
    · exact bdy_isV hp hb
theorem msg_non {d : PyData} (h : MsgP d) : isNon d = false := by
  obtain ⟨p, hp, n1, n2, b, rfl, h1, h2, hb⟩ := h
  rfl
theorem orN_isNon {d : PyData} (h : OrN d) (hn : isNon d = false) : MsgP d := by
  rcases h with rfl | h
  · cases hn
  · exact h
theorem keyL_isV (ks : List Int) (h : ∀ k ∈ ks, 0 ≤ k ∧ k ≤ 1000) : isV (.tuple (ks.map PyData.int)) = true := isV_tup fun d hd => by
  obtain ⟨k, hk, rfl⟩ := List.mem_map.mp hd
  exact isN_V (isN_of (h k hk).1 (by have := (h k hk).2; omega))
theorem keyL_okd (ks : List Int) (h : ks.length ≤ 1000) : Okd 12 (.tuple (ks.map PyData.int)) := .tup (by rw [List.length_map]; exact h) fun d hd => by
  obtain ⟨k, hk, rfl⟩ := List.mem_map.mp hd
  exact .int k
theorem prs_le : ∀ (k : Nat) (ms : List PyData), ∀ p ∈ prs k ms, p.1 ≤ (k : Int) + (ms.length : Int)
  | _, [], _, h => nomatch h
  | k, d :: r, p, h => by
    have ih := prs_le (k + 1) r p
    have hl : ((d :: r).length : Int) = (r.length : Int) + 1 := by rw [List.length_cons]; omega
    have h : p ∈ (if isNon d = true then prs (k + 1) r else ((k : Int) + 1, d) :: prs (k + 1) r) := h
    by_cases hd : isNon d = true
    · rw [if_pos hd] at h
      have := ih h
      omega
    · rw [if_neg hd] at h
      rcases List.mem_cons.mp h with rfl | h
      · show (k : Int) + 1 ≤ _; omega
      · have := ih h
        omega
/-- under lock: [y for y in network] -/
theorem go_lcNwL {σ : L2.St} {B H : Hp} {F : List MP} {C nw d dx : Addr} {n : Int} {l : DI} {ws : List V} {od : Obj} {i j : Nat} {vs : List Nat} {Q : VK} (hws : DpAll K B ws (l.map (·.2))) (hA : At B (Pt nw (.ins C dx (nF n d)) :: Pt d (.frz od (.dK (kvD l ws))) :: F) H) (hv : σ[i]? = some (some (.ref nw))) (hw : ∀ x, wipe ((wipe σ vs).set j (some x)) vs = wipe σ vs) (hj : ∀ x, ((wipe σ vs).set j (some x))[j]? = some (some x)) (hz : l.length ≤ 50000)
    (q : ∀ p H1, At B (LstM K p (keyL l) :: Pt nw (.ins C dx (nF n d)) :: Pt d (.frz od (.dK (kvD l ws))) :: F) H1 → Q (.ref p) H1) : tLc (iOwnK K C (spNIter K C) (tVar i)) (gName j) tYes (tVar j) vs σ H Q := by
  refine ⟨.ref nw, hv, nw, dx, _, rfl, at_get 0 rfl hA, fun m => ⟨nw, d, dx, n, od, kvD l ws, rfl, at_get 0 rfl hA, at_get 1 rfl hA, fun it H1 e1 nit hn => ⟨it, d, od, kvD l ws, rfl, hn, upd_same, ?_⟩⟩⟩
  rw [ItX.dropH_upd nit]
  intro Dl hD
  have hkl : (kvD l ws).length = l.length := kv_len hws
  have hkv := kv_keysV hws
  refine lc_it walk_keys (fun t H' => At B (Pt Dl (.lst (((kvD l ws).map fun kv => kV kv.1).take t)) :: Pt nw (.ins C dx (nF n d)) :: Pt d (.frz od (.dK (kvD l ws))) :: F) H') (at_new (at_ex hA e1) hD (Ex.new hD) upd_same) (fun t H' _ h => at_get (a := d) 2 rfl h) (fun t x H2 H3 ht h y => ?_) (fun H' h => ?_)
  · obtain ⟨rfl, kk, vv, hx, rfl⟩ := y
    refine ⟨hw _, ?_⟩
    unfold tYes
    dsimp only
    rw [if_pos rfl]
    refine ⟨kV kk, hj _, _, at_get 0 rfl h, sz_lt (by rw [List.length_take, List.length_map, hkl]; omega), ?_⟩
    have e2 : ((kvD l ws).map fun kv => kV kv.1).take t ++ [kV kk] = ((kvD l ws).map fun kv => kV kv.1).take (t + 1) := by rw [List.take_succ, List.getElem?_map, hx]; rfl
    have h2 := at_upd (u := .lst (((kvD l ws).map fun kv => kV kv.1).take t ++ [kV kk])) 0 rfl h
    rw [e2] at h2 ⊢
    exact h2
  · rw [List.take_of_length_le (by rw [List.length_map]; exact Nat.le_refl _), hkv] at h
    exact q Dl _ (at_closeL (K := K) (ds := keyL l) 0 rfl (dpa_ints (K := K) (H := B) (l.map (·.1))) h)
theorem go_nt {σ : L2.St} {H : Hp} {t : TT} {Q : Bool → Hp → Prop} (h : t σ H fun b H1 => Q (!b) H1) : tNot t σ H Q := h
theorem go_tB {σ : L2.St} {H : Hp} {te : TE} {Q : Bool → Hp → Prop} (h : te σ H fun v H1 => ∃ b, v = .bl b ∧ Q b H1) : tB te σ H Q := h
theorem go_cb {σ : L2.St} {H : Hp} {ta : TA} {r : List V → Hp → VK → Prop} {Q : VK} (h : ta σ H fun vs H1 => r vs H1 Q) : tCB r ta σ H Q := h
theorem go_then {σ : L2.St} {H : Hp} {te : TE} {k : V → Hp → VK → Prop} {Q : VK} (h : te σ H fun v H1 => k v H1 Q) : tThen te k σ H Q := h
theorem prs_mem : ∀ (k : Nat) (ms : List PyData), ∀ p ∈ prs k ms, p.2 ∈ ms
  | _, [], _, h => nomatch h
  | k, d :: r, p, h => by
    have ih := prs_mem (k + 1) r p
    have h : p ∈ (if isNon d = true then prs (k + 1) r else ((k : Int) + 1, d) :: prs (k + 1) r) := h
    by_cases hd : isNon d = true
    · rw [if_pos hd] at h
      exact List.mem_cons_of_mem _ (ih h)
    · rw [if_neg hd] at h
      rcases List.mem_cons.mp h with rfl | h
      · exact List.mem_cons_self
      · exact List.mem_cons_of_mem _ (ih h)
/-- [e for j in range(lo, n) if t] -/
theorem el_lcR2 {σ : L2.St} {H : Hp} {ta : TA} {te : TE} {t : TT} {j : Nat} {vs : List Nat} {lo n : Int} (f : Nat → Bool) (v : Nat → V) (h : EvA ta σ H [.int lo, .int n]) (hn : -1000 ≤ lo ∧ lo ≤ 1000 ∧ -1000 ≤ n ∧ n ≤ 30000) (hw : ∀ x, wipe ((wipe σ vs).set j (some x)) vs = wipe σ vs)
    (ht : ∀ (i : Nat) H1, Ex H H1 → lo + (i : Int) < n → EvT t ((wipe σ vs).set j (some (.int (lo + (i : Int))))) H1 (f i)) (he : ∀ (i : Nat) H1, Ex H H1 → lo + (i : Int) < n → f i = true → Ev te ((wipe σ vs).set j (some (.int (lo + (i : Int))))) H1 (v i)) : EvL (tLc (iRng2 ta) (gName j) t te vs) σ H (Evl.given (n - lo).toNat f v) := fun H0 e Q q => h H0 e _ fun H1 e1 => ⟨lo, n, rfl, ⟨by omega, by omega, by omega, by omega⟩, fun Dl hD =>
  lc_range (lo := lo) (n := (n - lo).toNat) (Cw H1 f v Dl) ⟨hD, Ex.new hD, upd_same⟩ (fun i H' hi p => ⟨hw _, cw_turn p (by omega) (ht i H1 (e.trans e1) (by omega)) (fun hf => he i H1 (e.trans e1) (by omega) hf)⟩) (fun H' p => q Dl H' (fresh_back e1 p.1) (e1.trans p.2.1) p.2.2)⟩
def spH7 (K : PySem.W.Frag) (C : Addr) : Sp := fun vs H Q _ => ∃ (nw pm : Addr) (ms : List PyData) (B : Hp) (F : List MP), vs = [.ref nw, .ref pm] ∧ At B (NwM K C nw (ms.length : Int) (prs 0 ms) :: LstM K pm ms :: F) H ∧ ms.length ≤ 63 ∧ (∀ d ∈ ms, OrN d) ∧ ∀ B1 H1, Ex B B1 → At B1 (NwM K C nw (ms.length : Int) (prs 0 ms) :: LstM K pm ms :: F) H1 → Q (.bl true) H1
theorem ok_nholds {f f_nu f_it f_a f_i f_e m_l C : Addr} {fd fd_nu fd_it fd_a fd_i fd_e md_l : FuncData} (F : Fun K "_law_holds" "_law_holds" s__law_holds f fd) (L_Network : NwC K C) (D_Network_numbers : Dm K C "numbers" "Network.numbers" s_Network_numbers ["self"] f_nu fd_nu) (G_Network_numbers : FnOk P w K mg base CX0 1 f_nu fd_nu ["self"] (spNNum K C))
    (D_Network___iter__ : Dm K C "__iter__" "Network.__iter__" s_Network___iter__ ["self"] f_it fd_it) (G_Network___iter__ : FnN P w K mg base CX0 1 f_it fd_it ["self"] (spNIter K C)) (D_Network___len__ : Dm K C "__len__" "Network.__len__" s_Network___len__ ["self"] m_l md_l) (G_Network___len__ : FnOk P w K mg base CX0 1 m_l md_l ["self"] (spNLen K C))
    (D__law_asked : Df K mg "_law_asked" s__law_asked ["network", "number"] f_a fd_a) (G__law_asked : FnOk P w K mg base CX0 4 f_a fd_a ["network", "number"] (spNA K C)) (D__law_is : Df K mg "_law_is" s__law_is ["actual", "due"] f_i fd_i) (G__law_is : FnOk P w K mg base CX0 1 f_i fd_i ["actual", "due"] spIs) (D__law_equal : Df K mg "_law_equal" s__law_equal ["actual", "due"] f_e fd_e) (G__law_equal : FnOk P w K mg base CX0 13 f_e fd_e ["actual", "due"] (spEq K 12)) (T : Glo mg) : FnOk P w K mg base CX0 15 f fd ["network", "messages"] (spH7 K C) := by
  refine F.ok sc__law_holds (fun vs H Q E h => ?_) (fun cdv A outer s H vs Q E hr h => ?_)
  · obtain ⟨nw, pm, ms, B, F, rfl, _⟩ := h
    rfl
  · obtain ⟨nw, pm, ms, B, Fr, rfl, hA, hl, hms, q⟩ := h
    refine ⟨_, (pss_cons (ps_setLc (i := 2) (own := [("number", 3)]) (g := gName 3) rfl sc__law_holds.nd rfl rfl (sw_true rfl rfl rfl (by decide +kernel)) (pi_range2 (by rfl) T.range (pa_cons pe_int (pa_cons (pe_op op_add (pe_callB call_len_seq (by rfl) T.len PySem.boot_len (pa_cons (pv 1) pa_nil)) pe_int) pa_nil))) (blkOk_by (N := N__law_holds) (sc := defScope s__law_holds) (by decide +kernel)) (fun _ _ _ _ _ => (pg_name (i := 3) sc__law_holds.nd rfl (.inl rfl))) (fun _ _ _ _ _ => (pts_one (pt_cmpR op_notN (pe_ix (show IxR _ (rIxL K) from ix_list) (pv 1) (pe_op op_sub (pv 3) pe_int) (fun _ _ => rfl)) pe_non (nomark _)))) (fun _ _ _ _ _ => (pv 3)))
  (pss_cons (ps_if (PW.pt (pw_or (pt_not (pt_val (pe_call G__law_is (hr.mono (by decide)) (by rfl) D__law_is.g D__law_is.F.kp D__law_is.b .nil pass0 (pa_cons (pe_fld (pv 0) rfl) (pa_cons (pe_callB call_len_seq (by rfl) T.len PySem.boot_len (pa_cons (pv 1) pa_nil)) pa_nil))))) (pw_or1 (pt_cmpR op_ne (pe_callB (call_lenO D_Network___len__.m G_Network___len__ (hr.mono (by decide)) D_Network___len__.b pass0) (by rfl) T.len PySem.boot_len (pa_cons (pv 0) pa_nil)) (pe_callB call_len_seq (by rfl) T.len PySem.boot_len (pa_cons (pv 2) pa_nil)) (nomark _)))))
  (pss_one (ps_ret pe_bl))
  pss_nil)
  (pss_cons (ps_if (PW.pt (pw_or (pt_not (pt_val (pe_call G__law_equal (hr.mono (by decide)) (by rfl) D__law_equal.g D__law_equal.F.kp D__law_equal.b .nil pass0 (pa_cons (pe_tupleOf (by rfl) T.tuple (pe_meth0 (pv 0) L_Network.cl D_Network_numbers.m G_Network_numbers (hr.mono (by decide)) D_Network_numbers.b .nil pass0)) (pa_cons (pe_tupleOf (by rfl) T.tuple (pv 2)) pa_nil))))) (pw_or1 (pt_not (pt_val (pe_callB call_isi (by rfl) T.isinstance (by decide +kernel) (pa_cons (pe_meth0 (pv 0) L_Network.cl D_Network_numbers.m G_Network_numbers (hr.mono (by decide)) D_Network_numbers.b .nil pass0) (pa_cons (pe_bltn (v := .ty "list") (u := .type "list") (by rfl) T.list (by decide +kernel) rfl) pa_nil))))))))
  (pss_one (ps_ret pe_bl))
  pss_nil)
  (pss_cons (ps_lock (ps_if (pt_not (pt_val (pe_call G__law_equal (hr.mono (by decide)) (by rfl) D__law_equal.g D__law_equal.F.kp D__law_equal.b .nil pass0 (pa_cons (pe_tupleOf (by rfl) T.tuple (pe_lc (own := [("number", 3)]) (g := gName 3) rfl sc__law_holds.nd (pi_ownK (pv 0) D_Network___iter__.m G_Network___iter__ (hr.mono (by decide)) D_Network___iter__.b) (blkOk_by (N := N__law_holds) (sc := defScope s__law_holds) (by decide +kernel)) (fun _ _ _ _ _ => (pg_name (i := 3) sc__law_holds.nd rfl (.inl rfl))) (fun _ _ _ _ _ => pts_nil) (fun _ _ _ _ _ => (pv 3)))) (pa_cons (pe_tupleOf (by rfl) T.tuple (pv 2)) pa_nil)))))
  (pss_one (ps_ret pe_bl))
  pss_nil))
  (pss_cons (ps_for PassesOwn.never rfl (pi_range1 (by rfl) T.range (pa_cons (pe_op op_add (pe_callB call_len_seq (by rfl) T.len PySem.boot_len (pa_cons (pv 1) pa_nil)) pe_int) pa_nil)) (pg_name (i := 3) sc__law_holds.nd rfl (.inl rfl))
  (pss_cons (ps_set (i := 4) sc__law_holds.nd rfl (.inl rfl) pe_non)
  (pss_cons (ps_if (pt_chain op_le op_le pe_int (pv 3) (pe_callB call_len_seq (by rfl) T.len PySem.boot_len (pa_cons (pv 1) pa_nil)))
  (pss_one (ps_set (i := 4) sc__law_holds.nd rfl (.inl rfl) (pe_ix ix_list (pv 1) (pe_op op_sub (pv 3) pe_int) (fun _ _ => rfl))))
  pss_nil)
  (pss_one (ps_if (pt_cmpR (op_neD hr.units) (pe_call G__law_asked (hr.mono (by decide)) (by rfl) D__law_asked.g D__law_asked.F.kp D__law_asked.b .nil pass0 (pa_cons (pv 0) (pa_cons (pv 3) pa_nil))) (pv 4) (nomark _))
  (pss_one (ps_ret pe_bl))
  pss_nil)))))
  (pss_one (ps_ret pe_bl))))))), ?_⟩
    have hkl : (prs 0 ms).length ≤ 63 := Nat.le_trans (prs_len 0 ms) hl
    have hkb : ∀ k ∈ (prs 0 ms).map (·.1), 0 ≤ k ∧ k ≤ 1000 := fun k hk => by
      obtain ⟨p, hp, rfl⟩ := List.mem_map.mp hk
      have h1 := prs_keysGt 0 ms p hp
      have h2 := prs_le 0 ms p hp
      exact ⟨by omega, by omega⟩
    have kV' := keyL_isV _ hkb
    have kO := keyL_okd ((prs 0 ms).map (·.1)) (by rw [List.length_map]; omega)
    -- there
    obtain ⟨xs0, hx0, hl0⟩ := lst_at (K := K) 1 rfl hA
    have hxl := dpa_len hx0
    have mat : ∀ {l : List MP} {B' H' : Hp} {σ : L2.St} {i j : Nat} {tb : TE}, At B' l H' → l[j]? = some (LstM K pm ms) → σ[1]? = some (some (.ref pm)) → i < ms.length → Ev tb σ H' (.int (i : Int)) → ∃ x, Dp K B' x (ms.getD i .none) ∧ Ev (tOp (rIxL K) (tVar 1) tb) σ H' x := fun {l B' H' σ i j tb} hA hj hs hi hb => by
      obtain ⟨xs, h1, h2⟩ := lst_at j hj hA
      obtain ⟨x, hx, hxd⟩ := dpa_at h1 (List.getElem?_eq_getElem hi)
      refine ⟨x, ?_, ev_op (ev_var hs) hb (rv_ixL (sq_of h2) (atI_nat hx))⟩
      rw [List.getD_eq_getElem?_getD, List.getElem?_eq_getElem hi]
      exact hxd
    refine qe_lst hA (el_lcR2 (lo := 1) (n := (ms.length : Int) + 1) (fun i => !isNon (ms.getD i .none)) (fun i => V.int (1 + (i : Int))) (ea_cons ev_c (ea_cons (ev_op (ev_lenM (K := K) 1 rfl hA (ev_var rfl)) ev_c rv_I0) ea_nil)) (by omega) (fun _ => rfl) (fun i H1 e1 hi => ?_) (fun i H1 e1 hi _ => ev_var rfl)) fun ph H1 hA => ?_
    · obtain ⟨x, hx, he⟩ := mat (l := NwM K C nw (ms.length : Int) (prs 0 ms) :: LstM K pm ms :: Fr) (j := 1) (i := i) (σ := [some (V.ref nw), some (.ref pm), none, some (.int (1 + (i : Int))), none]) (tb := tOp (rI0 fun i j => .int (i - j)) (tVar 3) (tC (.int 1))) (at_ex hA e1) rfl rfl (by omega) (ev_is (ev_op (ev_var rfl) ev_c rv_I0) (by refine congrArg V.int ?_; omega))
      exact et_is (et_notN he) (by rw [dp_non hx])
    have hgiv : Evl.given ((ms.length : Int) + 1 - 1).toNat (fun i => !isNon (ms.getD i .none)) (fun i => V.int (1 + (i : Int))) = ((prs 0 ms).map (·.1)).map V.int := by
      rw [prs_keys, List.map_map]
      unfold Evl.given
      rw [show ((ms.length : Int) + 1 - 1).toNat = ms.length by omega]
      refine congrArg (fun g => List.map g _) ?_
      funext i
      show V.int _ = V.int _
      refine congrArg V.int ?_
      show (1 : Int) + (i : Int) = ((0 : Nat) : Int) + (i : Int) + 1
      omega
    rw [hgiv] at hA
    have hA := at_closeL (K := K) (ds := keyL (prs 0 ms)) 0 rfl (dpa_ints (K := K) (H := B) _) hA
    have hA : At B (NwM K C nw (ms.length : Int) (prs 0 ms) :: LstM K ph (keyL (prs 0 ms)) :: LstM K pm ms :: Fr) H1 := at_swap hA
    have kll : (keyL (prs 0 ms)).length = (prs 0 ms).length := by unfold keyL; rw [List.length_map, List.length_map]
    refine qe_when (b := false) hA (et_orF (et_nt (et_B (ev_call (ea_cons (ev_sent (K := K) L_Network hA (ev_var rfl)) (ea_cons (ev_lenM (K := K) 2 rfl hA (ev_var rfl)) ea_nil)) spIs_v))) (et_test (ev_is (ev_op (ev_lenNw (K := K) hA (ev_var rfl) (by omega)) (ev_lenM (K := K) 1 rfl hA (ev_var rfl)) (rv_ne rfl)) (by rw [kll, decide_eq_true rfl]; rfl)))) (fun hb => nomatch hb) (fun _ H2 hA => ?_)
    refine q_whenF (C := fun H1 => ∃ B1, Ex B B1 ∧ At B1 (NwM K C nw (ms.length : Int) (prs 0 ms) :: LstM K ph (keyL (prs 0 ms)) :: LstM K pm ms :: Fr) H1) (fun Q' hQ => ?_) (fun H3 ⟨B3, b3, hA⟩ => ?_)
    · refine go_call (go_cons' (go_then (go_nnum (K := K) hA (ev_var (by rfl)) fun p H3 hA => k_tup (K := K) 0 rfl hA fun v B4 H4 b4 hA hd => go_cons' (go_then (go_ev (ev_var rfl) fun H5 e5 => k_tup (K := K) 2 rfl (at_ex hA e5) fun v2 B6 H6 b6 hA hd2 => go_nil ⟨v, v2, .tuple (keyL (prs 0 ms)), rfl, dp_dx _ _ (dp_mono (b6.trans (at_base hA)) _ _ hd), dp_dx _ _ (dp_mono (at_base hA) _ _ hd2), kO, kV', fun H7 e7 => ⟨true, rfl, ?_⟩⟩)))))
      have hA := at_drop (at_ex hA e7)
      dsimp only
      rw [if_neg (by decide)]
      refine go_nt (go_tB (go_cb ?_))
      refine go_cons' (go_nnum (K := K) hA (ev_var (by rfl)) fun p2 H8 hA => go_cons ev_c fun H9 e9 => go_nil ?_)
      exact ⟨.ref p2, .ty "list", .type (tyN (.list (keyL (prs 0 ms)))), .type "list", true, rfl, .ty _, tyx_dx (dx_lst (K := K) 0 rfl (at_ex hA e9)), kit_ty (kit_lst (.list (keyL (prs 0 ms)))), true, rfl, hQ H9 ⟨B6, b4.trans b6, at_drop (at_ex hA e9)⟩⟩
    obtain ⟨dx, d, hA⟩ := nw_open hA
    obtain ⟨ws, hws, hA⟩ := at_openD (K := K) 1 rfl hA
    have hA : At B3 (Pt nw (.ins C dx (nF (ms.length : Int) d)) :: Pt d (.dK (kvD (prs 0 ms) ws)) :: LstM K ph (keyL (prs 0 ms)) :: LstM K pm ms :: Fr) H3 := hA
    refine ⟨d, .dK (kvD (prs 0 ms) ws), at_get 1 rfl hA, True.intro, fun od => ?_⟩
    have hA := at_upd (u := .frz od (.dK (kvD (prs 0 ms) ws))) 1 rfl hA
    have hA : At B3 (Pt nw (.ins C dx (nF (ms.length : Int) d)) :: Pt d (.frz od (.dK (kvD (prs 0 ms) ws))) :: LstM K ph (keyL (prs 0 ms)) :: LstM K pm ms :: Fr) _ := hA
    refine s_whenF (C := fun H1 => ∃ B1, Ex B3 B1 ∧ At B1 (Pt nw (.ins C dx (nF (ms.length : Int) d)) :: Pt d (.frz od (.dK (kvD (prs 0 ms) ws))) :: LstM K ph (keyL (prs 0 ms)) :: LstM K pm ms :: Fr) H1) (fun Q' hQ => ?_) (fun H4 ⟨B4, b4, hA⟩ => ⟨at_get (a := d) 1 rfl hA, ?_⟩)
    · refine go_call (go_cons' (go_then (go_lcNwL (K := K) hws hA rfl (fun _ => rfl) (fun _ => rfl) (by omega) fun p H4 hA => k_tup (K := K) 0 rfl hA fun v B5 H5 b5 hA hd => go_cons' (go_then (go_ev (ev_var rfl) fun H6 e6 => k_tup (K := K) 3 rfl (at_ex hA e6) fun v2 B7 H7 b7 hA hd2 => go_nil ⟨v, v2, .tuple (keyL (prs 0 ms)), rfl, dp_dx _ _ (dp_mono (b7.trans (at_base hA)) _ _ hd), dp_dx _ _ (dp_mono (at_base hA) _ _ hd2), kO, kV', fun H8 e8 => ⟨true, rfl, hQ H8 ⟨B7, b5.trans b7, at_drop (at_ex hA e8)⟩⟩⟩)))))
    have hA := at_upd (u := .dK (kvD (prs 0 ms) ws)) 1 rfl hA
    have hA : At B4 (Pt nw (.ins C dx (nF (ms.length : Int) d)) :: Pt d (.dK (kvD (prs 0 ms) ws)) :: LstM K ph (keyL (prs 0 ms)) :: LstM K pm ms :: Fr) _ := hA
    have hA := at_closeD (K := K) (m := prs 0 ms) 1 rfl (dpa_mono b4 _ _ hws) hA
    have hA := nw_close hA
    refine q_forR1 (n := (ms.length : Int) + 2) (ea_cons (ev_op (ev_lenM (K := K) 2 rfl hA (ev_var rfl)) ev_c rv_I0) ea_nil) (by omega) (fun i σ' H' => ∃ (y z : Option V) (B' : Hp), σ' = [some (V.ref nw), some (.ref pm), some (.ref ph), y, z] ∧ Ex B4 B' ∧ At B' (NwM K C nw (ms.length : Int) (prs 0 ms) :: LstM K ph (keyL (prs 0 ms)) :: LstM K pm ms :: Fr) H') (fun H5 e5 => ⟨_, _, B4, rfl, Ex.refl B4, at_ex hA e5⟩) (fun i σ' H' hi pp => ?_) (fun σ' H' pp => ?_)
    · obtain ⟨y, z, B5, rfl, b5, hA⟩ := pp
      refine qe_asg (x := .non) hA ev_c fun H6 hA => ?_
      refine qe_whenJ (b := decide ((1 : Int) ≤ (i : Int)) && decide ((i : Int) ≤ (ms.length : Int))) (J := fun σ' H' => ∃ (x : V) (B' : Hp), σ' = [some (V.ref nw), some (.ref pm), some (.ref ph), some (.int (i : Int)), some x] ∧ Ex B5 B' ∧ At B' (NwM K C nw (ms.length : Int) (prs 0 ms) :: LstM K ph (keyL (prs 0 ms)) :: LstM K pm ms :: Fr) H' ∧ Dp K B' x ((look (prs 0 ms) (i : Int)).getD .none)) hA (et_test (ev_chain ev_c (ev_var rfl) rv_I0 (ev_lenM (K := K) 2 rfl hA (ev_var rfl)) rv_I0)) (fun hb H7 hA Dn hDn => ?_) (fun hb H7 hA => ?_) (fun σ' H7 ⟨x, B7, hσ, b7, hA, hx⟩ => ?_)
      · obtain ⟨h1, h2⟩ := Bool.and_eq_true_iff.mp hb
        have h1 := of_decide_eq_true h1
        have h2 := of_decide_eq_true h2
        obtain ⟨k, hk⟩ : ∃ k : Nat, (i : Int) = (k : Int) + 1 := ⟨i - 1, by omega⟩
        have hkl : k < ms.length := by omega
        obtain ⟨x, hx, he⟩ := mat (l := NwM K C nw (ms.length : Int) (prs 0 ms) :: LstM K ph (keyL (prs 0 ms)) :: LstM K pm ms :: Fr) (j := 2) (i := k) (tb := tOp (rI0 fun i j => .int (i - j)) (tVar 3) (tC (.int 1))) (σ := [some (V.ref nw), some (.ref pm), some (.ref ph), some (.int (i : Int)), some .non]) hA rfl rfl hkl (ev_is (ev_op (ev_var rfl) ev_c rv_I0) (by refine congrArg V.int ?_; omega))
        refine se_asg hA he fun H8 hA => hDn _ _ ⟨x, B5, rfl, Ex.refl B5, hA, ?_⟩
        have hlk := prs_look 0 ms k (ms.getD k .none) (by rw [List.getD_eq_getElem?_getD, List.getElem?_eq_getElem hkl]; rfl)
        rw [show (((0 : Nat) : Int) + (k : Int) + 1) = (i : Int) by omega] at hlk
        rw [hlk]
        by_cases hn : isNon (ms.getD k .none) = true
        · rw [if_pos hn]
          generalize ms.getD k .none = dd at hx hn
          cases dd <;> first | exact hx | cases hn
        · rw [if_neg hn]; exact hx
      · refine ⟨.non, B5, rfl, Ex.refl B5, hA, ?_⟩
        rw [prs_off 0 ms (i : Int) (by
          rcases Bool.and_eq_false_iff.mp hb with h | h
          · have := of_decide_eq_false h; exact .inl (by omega)
          · have := of_decide_eq_false h; exact .inr (by omega))]
        exact .non
      subst hσ
      refine s_whenF (C := fun H1 => ∃ B8, Ex B7 B8 ∧ At B8 (NwM K C nw (ms.length : Int) (prs 0 ms) :: LstM K ph (keyL (prs 0 ms)) :: LstM K pm ms :: Fr) H1) (fun Q' hQ => ?_) (fun H8 ⟨B8, b8, hA⟩ => ⟨_, _, B8, rfl, b5.trans (b7.trans b8), hA⟩)
      refine go_tst (go_op (go_call (go_cons (ev_var rfl) fun H8 e8 => go_cons (ev_var rfl) fun H9 e9 => go_nil ⟨nw, (i : Int), _, _, B7, _, rfl, at_ex hA (e8.trans e9), fun v B10 H10 b10 hA hv => go_ev (ev_var rfl) fun H11 e11 => ?_⟩)))
      have hA := at_ex hA e11
      have hsd : Sd 8 ((look (prs 0 ms) (i : Int)).getD .none) := by
        cases hlk : look (prs 0 ms) (i : Int) with
        | none => exact sd_none
        | some dd =>
          have hmem := look_mem hlk
          refine orN_sd (hms dd ?_)
          exact prs_mem 0 ms _ hmem
      have hne := ev_neSelfX (K := K) (σ := []) (ta := tC v) (tb := tC x) (ex_of ev_c (dp_dx _ _ (dp_mono (at_base hA) _ _ hv))) (ex_of ev_c (dp_dx _ _ (dp_mono (b10.trans (at_base hA)) _ _ hx))) hsd (by omega)
      exact hne H11 (Ex.refl H11) (fun v H' => ∃ b, v = .bl b ∧ Q' b H') fun H12 e12 => ⟨_, rfl, hQ H12 ⟨B10, b10, at_ex hA e12⟩⟩
    · obtain ⟨y, z, B5, rfl, b5, hA⟩ := pp
      exact se_ret hA ev_c fun H6 hA => q B5 H6 (b3.trans (b4.trans b5)) (at_drop (at_ix 3 [1, 0, 2] hA))
theorem dpa_set : ∀ {H : Hp} {xs : List V} {ds : List PyData} {v : V} {d : PyData} (i : Nat), DpAll K H xs ds → Dp K H v d → DpAll K H (xs.set i v) (ds.set i d)
  | _, _, _, _, _, _, .nil, _ => .nil
  | _, _, _, _, _, 0, .cons _ h2, h => .cons h h2
  | _, _, _, _, _, i + 1, .cons h1 h2, h => .cons h1 (dpa_set i h2 h)
section
variable {σ : L2.St} {B H : Hp} {l : List MP} {ta tb te tn tl : TE} {tt : TA} {D : Ends} {tz tu : TS} {s : Addr} {E : XK} {φ ψ : PyData → Prop} {ρ : Int → Prop} {i j : Nat} {ds es : List PyData} {m : Nat} {n : Int}
theorem wv_nextA (j : Nat) (hj : l[j]? = some (StM s)) (hs : σ[i]? = some (some (.ref s))) (hn : ∀ B1 H1, Ex B B1 → At B1 l H1 → Ev tn σ H1 (.int n)) (h0 : 0 < n) (h1 : n ≤ 10 ^ 20) : Wv (tCall spNext [] E (tCons (tVar i) (tCons tn tNil))) σ B l (rN fun r => 0 ≤ r ∧ r < n) := fun B1 H e1 hA Q q =>
  go_call (go_cons (ev_var hs) fun H1 e2 => go_cons (hn B1 H1 e1 (at_ex hA e2)) fun H2 e3 => go_nil ⟨s, n, B1, l.eraseIdx j, rfl, at_pull j hj (at_ex hA (e2.trans e3)), h0, h1, fun r H3 a b hA3 => q _ B1 H3 (Ex.refl B1) (by
    have := at_put j hj hA3
    rwa [List.set_getElem?_self' hj] at this) ⟨r, rfl, a, b⟩⟩)
end
theorem dpa_filt {B : Hp} : ∀ {xs : List V} {ms : List PyData}, DpAll K B xs ms → DpAll K B (xs.filter fun x => !decide (x = .non)) (ms.filter fun d => !isNon d)
  | _, _, .nil => .nil
  | _, _, @DpAll.cons _ _ x xs d ms h1 h2 => by
    rw [List.filter_cons, List.filter_cons, dp_non h1]
    by_cases hd : isNon d = true
    · rw [hd]
      exact dpa_filt h2
    · have hd : isNon d = false := by simpa using hd
      rw [hd]
      exact .cons h1 (dpa_filt h2)
theorem go_nd {σ : L2.St} {B H : Hp} {F : List MP} {C nw : Addr} {n i : Int} {l : DI} {E : XK} {j k : Nat} {Q : VK} (hA : At B (NwM K C nw n l :: F) H) (h1 : σ[j]? = some (some (.ref nw))) (h2 : σ[k]? = some (some (.int i))) (q1 : (look l i).isSome = true → ∀ H1, At B (NwM K C nw n (dropL l i) :: F) H1 → Q (.str "dropped") H1) (q2 : look l i = none → ∀ H1, At B (NwM K C nw n l :: F) H1 → Q (.str "unknown") H1) : tCall (spND K C) [] E (tCons (tVar j) (tCons (tVar k) tNil)) σ H Q :=
  go_call (go_cons (ev_var h1) fun H1 e1 => go_cons (ev_var h2) fun H2 e2 => go_nil ⟨nw, i, n, l, B, F, rfl, at_ex hA (e1.trans e2), q1, q2⟩)
def spStep (K : PySem.W.Frag) (C : Addr) : Sp := fun vs H Q _ => ∃ (nw pm s : Addr) (ms : List PyData) (B : Hp) (F : List MP), vs = [.ref nw, .ref pm, .ref s] ∧ At B (NwM K C nw (ms.length : Int) (prs 0 ms) :: LstM K pm ms :: StM s :: F) H ∧ ms.length ≤ 62 ∧ (∀ d ∈ ms, OrN d) ∧ ∀ ms' B1 H1, Ex B B1 → ms'.length ≤ ms.length + 1 → (∀ d ∈ ms', OrN d) → At B1 (NwM K C nw (ms'.length : Int) (prs 0 ms') :: LstM K pm ms' :: StM s :: F) H1 → Q (.bl true) H1
theorem ok_lstep {f f_n f_re f_d f_me f_i f_s C C_BadValue : Addr} {fd fd_n fd_re fd_d fd_me fd_i fd_s : FuncData} (F : Fun K "_law_step" "_law_step" s__law_step f fd) (L_Network : NwC K C) (D__law_next : Df K mg "_law_next" s__law_next ["stream", "size"] f_n fd_n) (G__law_next : FnOk P w K mg base CX0 1 f_n fd_n ["stream", "size"] spNext)
    (D__law_refused : Df K mg "_law_refused" s__law_refused ["network"] f_re fd_re) (G__law_refused : FnOk P w K mg base CX0 9 f_re fd_re ["network"] (spNR7 K C)) (D__law_dropped : Df K mg "_law_dropped" s__law_dropped ["network", "number"] f_d fd_d) (G__law_dropped : FnOk P w K mg base CX0 4 f_d fd_d ["network", "number"] (spND K C))
    (D__law_message : Df K mg "_law_message" s__law_message ["stream"] f_me fd_me) (G__law_message : FnOk P w K mg base CX0 7 f_me fd_me ["stream"] (spG K MsgP)) (D__law_is : Df K mg "_law_is" s__law_is ["actual", "due"] f_i fd_i) (G__law_is : FnOk P w K mg base CX0 1 f_i fd_i ["actual", "due"] spIs) (D_Network_send : Dm K C "send" "Network.send" s_Network_send ["self", "message"] f_s fd_s) (G_Network_send : FnOk P w K mg base (L2.CX P w) 8 f_s fd_s ["self", "message"] (spSend K C C_BadValue)) (T : Glo mg) : FnOk P w K mg base CX0 10 f fd ["network", "messages", "stream"] (spStep K C) := by
  refine F.ok sc__law_step (fun vs H Q E h => ?_) (fun cdv A outer s H vs Q E hr h => ?_)
  · obtain ⟨nw, pm, s, ms, B, F, rfl, _⟩ := h
    rfl
  · obtain ⟨nw, pm, sr, ms, B, Fr, rfl, hA, hl, hms, q⟩ := h
    refine ⟨_, (pss_cons (ps_set (i := 3) sc__law_step.nd rfl (.inl rfl) (pe_call G__law_next (hr.mono (by decide)) (by rfl) D__law_next.g D__law_next.F.kp D__law_next.b .nil pass0 (pa_cons (pv 2) (pa_cons pe_int pa_nil))))
  (pss_cons (ps_if (pt_cmpR op_eq (pv 3) pe_int (nomark _))
  (pss_one (ps_ret (pe_call G__law_refused (hr.mono (by decide)) (by rfl) D__law_refused.g D__law_refused.F.kp D__law_refused.b .nil pass0 (pa_cons (pv 0) pa_nil))))
  pss_nil)
  (pss_cons (ps_if (pt_cmpR op_le (pv 3) pe_int (nomark _))
  (pss_cons (ps_set (i := 4) sc__law_step.nd rfl (.inl rfl) (pe_op op_add pe_int (pe_call G__law_next (hr.mono (by decide)) (by rfl) D__law_next.g D__law_next.F.kp D__law_next.b .nil pass0 (pa_cons (pv 2) (pa_cons (pe_op op_add (pe_callB call_len_seq (by rfl) T.len PySem.boot_len (pa_cons (pv 1) pa_nil)) pe_int) pa_nil)))))
  (pss_cut (ps_if (PW.pt (pw_and (pt_cmpR op_eq (pv 3) pe_int (nomark _)) (pw_and1 (pt_cmpR op_eq (pe_call G__law_next (hr.mono (by decide)) (by rfl) D__law_next.g D__law_next.F.kp D__law_next.b .nil pass0 (pa_cons (pv 2) (pa_cons pe_int pa_nil))) pe_int (nomark _)))))
  (pss_one (ps_set (i := 4) sc__law_step.nd rfl (.inl rfl) (pe_ix ix_tup (pe_tup (pa_cons pe_int (pa_cons (pe_un un_neg pe_int) (pa_cons (pe_op op_pow pe_int pe_int) pa_nil)))) (pe_call G__law_next (hr.mono (by decide)) (by rfl) D__law_next.g D__law_next.F.kp D__law_next.b .nil pass0 (pa_cons (pv 2) (pa_cons pe_int pa_nil))) (fun _ _ => rfl))))
  pss_nil)
  (pss_cons (ps_set (i := 5) sc__law_step.nd rfl (.inl rfl) pe_str)
  (pss_cons (ps_if (PW.pt (pw_and (pt_chain op_le op_le pe_int (pv 4) (pe_callB call_len_seq (by rfl) T.len PySem.boot_len (pa_cons (pv 1) pa_nil))) (pw_and1 (pt_cmpR op_notN (pe_ix ix_list (pv 1) (pe_op op_sub (pv 4) pe_int) (fun _ _ => rfl)) pe_non (nomark _)))))
  (pss_cons (ps_set (i := 5) sc__law_step.nd rfl (.inl rfl) pe_str)
  (pss_one (ps_asg pe_non (pg_sub (pv 1) (pe_op op_sub (pv 4) pe_int) set_list))))
  pss_nil)
  (pss_one (ps_ret (pe_cmpR op_eq (pe_call G__law_dropped (hr.mono (by decide)) (by rfl) D__law_dropped.g D__law_dropped.F.kp D__law_dropped.b .nil pass0 (pa_cons (pv 0) (pa_cons (pv 4) pa_nil))) (pv 5) (nomark _))))))))
  pss_nil)
  (pss_cons (ps_set (i := 6) sc__law_step.nd rfl (.inl rfl) (pe_call G__law_message (hr.mono (by decide)) (by rfl) D__law_message.g D__law_message.F.kp D__law_message.b .nil pass0 (pa_cons (pv 2) pa_nil)))
  (pss_cons (ps_setLc (i := 7) (own := [("old", 8)]) (g := gName 8) rfl sc__law_step.nd rfl rfl (sw_true rfl rfl rfl (by decide +kernel)) (pi_list (pv 1)) (blkOk_by (N := N__law_step) (sc := defScope s__law_step) (by decide +kernel)) (fun _ _ _ _ _ => (pg_name (i := 8) sc__law_step.nd rfl (.inl rfl))) (fun _ _ _ _ _ => (pts_one (pt_cmpR op_notN (pv 8) pe_non (nomark _)))) (fun _ _ _ _ _ => (pv 8)))
  (pss_cons (ps_if (PW.pt (pw_and (pt_cmpR op_eq (pv 3) pe_int (nomark _)) (pw_and1 (pt_truth (pv 7) (by intro _; rfl)))))
  (pss_one (ps_set (i := 6) sc__law_step.nd rfl (.inl rfl) (pe_ix ix_list (pv 7) (pe_call G__law_next (hr.mono (by decide)) (by rfl) D__law_next.g D__law_next.F.kp D__law_next.b .nil pass0 (pa_cons (pv 2) (pa_cons (pe_callB call_len_seq (by rfl) T.len PySem.boot_len (pa_cons (pv 7) pa_nil)) pa_nil))) (fun _ _ => rfl))))
  pss_nil)
  (pss_cons (ps_expr (pe_bm PySem.F.plainAttrs_list PySem.F.slot_list_append PySem.F.type_list_append mt_append (pv 1) (pa_cons (pv 6) pa_nil)))
  (pss_one (ps_ret (pe_call G__law_is (hr.mono (by decide)) (by rfl) D__law_is.g D__law_is.F.kp D__law_is.b .nil pass0 (pa_cons (pe_meth (pv 0) L_Network.cl D_Network_send.m G_Network_send (hr.mono (by decide)) D_Network_send.b .nil passL (pa_cons (pv 6) pa_nil)) (pa_cons (pe_callB call_len_seq (by rfl) T.len PySem.boot_len (pa_cons (pv 1) pa_nil)) pa_nil)))))))))))), ?_⟩
    refine qw_asg hA (wv_next 2 rfl rfl (n := 6) (fun H => ev_c) (by decide) (by decide)) fun v B1 H1 b1 hA ⟨de, hv, hde⟩ => ?_
    subst hv
    refine qe_when (b := decide (de = 0)) hA (et_test (ev_op (ev_var rfl) ev_c rv_eqI)) (fun hb H2 hA => ?_) (fun hb0 H2 hA => ?_)
    · exact r_do (go_call (go_cons (ev_var rfl) fun H3 e3 => go_nil ⟨nw, _, _, B1, _, rfl, at_ex hA e3, fun B2 H4 b2 hA => q ms B2 H4 (b1.trans b2) (by omega) hms hA⟩))
    refine qe_when (b := decide (de ≤ 2)) hA (et_test (ev_op (ev_var rfl) ev_c rv_I0)) (fun hb H3 hA => ?_) (fun hb2 H3 hA => ?_)
    · -- a drop
      refine qw_asg hA (wv_addW (χ := fun r => 1 ≤ r ∧ r ≤ 100) (wv_i (m := 1) fun H => ev_c) (wv_nextA (n := (ms.length : Int) + 1) 2 rfl rfl (fun B1 H1 b1 hA => ev_op (ev_lenM (K := K) 1 rfl hA (ev_var rfl)) ev_c rv_I0) (by omega) (by omega)) (fun i j hi hj => by
        have hi : i = 1 := hi
        have := hj.1
        have := hj.2
        omega)) fun v B2 H4 b2 hA ⟨nu, hv, hnu⟩ => ?_
      subst hv
      refine ⟨fun σ' H' => ∃ (nu : Int) (B' : Hp), σ' = [some (V.ref nw), some (.ref pm), some (.ref sr), some (.int de), some (.int nu), none, none, none, none] ∧ Ex B2 B' ∧ At B' (NwM K C nw (ms.length : Int) (prs 0 ms) :: LstM K pm ms :: StM sr :: Fr) H', ?_, fun σ' H5 ⟨nu, B3, hσ, b3, hA⟩ => ?_⟩
      · by_cases h1 : de = 1
        · subst h1
          refine go_ifS (et_test (ev_is (w := .bl true) (ev_op (ev_var rfl) ev_c rv_eqI) rfl) H4 (Ex.refl H4) _ fun H5 e5 => ?_)
          rw [if_pos rfl]
          refine eqc_do (at_ex hA e5) (wv_next 2 rfl rfl (n := 8) (fun H => ev_c) (by decide) (by decide)) fun n B3 H6 hn b3 hA => ?_
          by_cases hn0 : n = 0
          · rw [if_pos (decide_eq_true hn0)]
            refine sw_asg hA (wv_ixTW (ns := [0, -5, 1000000000000000000]) (χ := fun _ => True) (fun H => ?_) (by decide) (fun p => wv_next 3 rfl rfl (n := 3) (fun H => ev_c) (by decide) (by decide)) (fun j hj => ?_)) fun v B4 H7 b4 hA ⟨i, hv, _⟩ => by
              subst hv
              exact ⟨i, B4, rfl, b3.trans b4, hA⟩
            · refine' ea_cons ev_c (ea_cons (ev_un ev_c ru_neg) (ea_cons (ev_is ?c4 ?d4) ea_nil))
              case c4 => walk_at "ev"
              case d4 => rfl
            · have h3 : j = 0 ∨ j = 1 ∨ j = 2 := by have := hj.1; have := hj.2; omega
              rcases h3 with rfl | rfl | rfl <;> exact ⟨_, rfl, trivial⟩
          · rw [if_neg (by rw [decide_eq_false hn0]; decide)]
            exact ⟨nu, B3, rfl, b3, hA⟩
        · exact se_when (b := false) hA (et_andL (et_test (ev_is (ev_op (ev_var rfl) ev_c rv_eqI) (by rw [decide_eq_false h1])))) (fun hb => nomatch hb) (fun _ H5 hA => ⟨nu, B2, rfl, Ex.refl B2, hA⟩)
      subst hσ
      refine qe_asg (x := .str "unknown") hA ev_c fun H6 hA => ?_
      by_cases hr : 1 ≤ nu ∧ nu ≤ (ms.length : Int)
      · obtain ⟨k, rfl⟩ : ∃ k : Nat, nu = (k : Int) + 1 := ⟨(nu - 1).toNat, by omega⟩
        have hk : k < ms.length := by omega
        have hlk := prs_look 0 ms k (ms.getD k .none) (by rw [List.getD_eq_getElem?_getD, List.getElem?_eq_getElem hk]; rfl)
        rw [show (((0 : Nat) : Int) + (k : Int) + 1) = (k : Int) + 1 by omega] at hlk
        obtain ⟨xs, hxs, hxl⟩ := lst_at (K := K) 1 rfl hA
        obtain ⟨x, hx, hxd⟩ := dpa_at hxs (show ms[k]? = some (ms.getD k .none) by rw [List.getD_eq_getElem?_getD, List.getElem?_eq_getElem hk]; rfl)
        refine qe_when (b := !isNon (ms.getD k .none)) hA (et_andT' (et_test (ev_is (ev_chain ev_c (ev_var rfl) rv_I0 (ev_lenM (K := K) 1 rfl hA (ev_var rfl)) rv_I0) (by rw [decide_eq_true (by omega), decide_eq_true (by omega)]; rfl))) (et_is (et_notN (ev_op (ev_var rfl) (ev_is (w := .int (k : Int)) (ev_op (ev_var rfl) ev_c rv_I0) (by refine congrArg V.int ?_; omega)) (rv_ixL (sq_of hxl) (atI_nat hx)))) (by rw [dp_non hxd]))) (fun hb H7 hA => ?_) (fun hb H7 hA => ?_)
        · refine qe_asg (x := .str "dropped") hA ev_c fun H8 hA => ?_
          obtain ⟨xs, hxs, hxl⟩ := lst_at (K := K) 1 rfl hA
          refine ev_c H8 (Ex.refl H8) _ fun H9 e9 => ev_var rfl H9 (Ex.refl H9) _ fun H10 e10 => ev_is (w := .int (k : Int)) (ev_op (ev_var rfl) ev_c rv_I0) (by refine congrArg V.int ?_; omega) H10 (Ex.refl H10) _ fun H11 e11 => ?_
          have hA := at_ex hA (e9.trans (e10.trans e11))
          obtain ⟨xs, hxs, hxl⟩ := lst_at (K := K) 1 rfl hA
          refine ⟨pm, xs, (k : Int), k, rfl, rfl, hxl, ?_, ?_⟩
          · unfold ixN
            rw [if_pos (by omega), if_pos (by rw [dpa_len hxs]; omega), Int.toNat_natCast]
          have hA := lst_upd (K := K) 1 rfl hA (dpa_set k hxs (.non : Dp K B3 .non .none))
          have hA : At B3 (NwM K C nw (ms.length : Int) (prs 0 ms) :: LstM K pm (ms.set k .none) :: StM sr :: Fr) _ := hA
          have hs : (look (prs 0 ms) ((k : Int) + 1)).isSome = true := by rw [hlk, if_neg (by rw [bnot_t hb]; decide)]; rfl
          refine r_do (go_op (go_nd (K := K) hA rfl rfl (fun _ H12 hA => go_ev (ev_var rfl) fun H13 e13 => ⟨rfl, ?_⟩) (fun hno => by rw [hno] at hs; cases hs)))
          have hdr := prs_drop 0 ms k hk
          rw [show (((0 : Nat) : Int) + (k : Int) + 1) = (k : Int) + 1 by omega] at hdr
          rw [hdr] at hA
          have hA := at_ex hA e13
          refine q (ms.set k .none) B3 H13 (b1.trans (b2.trans b3)) (by rw [List.length_set]; omega) (fun d hd => ?_) (by rw [List.length_set]; exact hA)
          rcases List.mem_or_eq_of_mem_set hd with hd | hd
          · exact hms d hd
          · exact .inl hd
        · have hno : look (prs 0 ms) ((k : Int) + 1) = none := by rw [hlk, if_pos (bnot_f hb)]
          refine r_do (go_op (go_nd (K := K) hA rfl rfl (fun hs => by rw [hno] at hs; cases hs) (fun _ H12 hA => go_ev (ev_var rfl) fun H13 e13 => ⟨rfl, ?_⟩)))
          exact q ms B3 H13 (b1.trans (b2.trans b3)) (by omega) hms (at_ex hA e13)
      · have hno : look (prs 0 ms) nu = none := prs_off 0 ms nu (by omega)
        refine qe_when (b := false) hA (et_andL (et_test (ev_is (ev_chain ev_c (ev_var rfl) rv_I0 (ev_lenM (K := K) 1 rfl hA (ev_var rfl)) rv_I0) (by
          refine congrArg V.bl ?_
          refine Bool.eq_false_iff.mpr fun h => hr ?_
          obtain ⟨h1, h2⟩ := Bool.and_eq_true_iff.mp h
          exact ⟨of_decide_eq_true h1, of_decide_eq_true h2⟩)))) (fun hb => nomatch hb) (fun _ H7 hA => ?_)
        refine r_do (go_op (go_nd (K := K) hA rfl rfl (fun hs => by rw [hno] at hs; cases hs) (fun _ H12 hA => go_ev (ev_var rfl) fun H13 e13 => ⟨rfl, ?_⟩)))
        exact q ms B3 H13 (b1.trans (b2.trans b3)) (by omega) hms (at_ex hA e13)
    · -- a message
      refine qw_asg hA (wv_g (K := K) (φ := MsgP) 2 rfl rfl) fun vm B4 H4 b4 hA ⟨dm, hdm, hM⟩ => ?_
      obtain ⟨xs, hxs, hxl⟩ := lst_at (K := K) 1 rfl hA
      have hxn := dpa_len hxs
      refine qe_lst hA (el_lcL (K := K) (xs := xs) (fun i => !decide (xs.getD i .non = .non)) (fun i => xs.getD i .non) (ev_var rfl) (sq_of hxl) (by omega) (fun _ => rfl) (fun i x H5 e5 hx => ?_) (fun i x H5 e5 hx _ => ?_)) fun pt H5 hA => ?_
      · rw [List.getD_eq_getElem?_getD, hx]
        exact et_notN (ev_var rfl)
      · rw [List.getD_eq_getElem?_getD, hx]
        exact ev_var rfl
      rw [show Evl.given xs.length (fun i => !decide (xs.getD i .non = .non)) (fun i => xs.getD i .non) = xs.filter (fun x => !decide (x = .non)) from (given_eq xs .non (fun x => !decide (x = .non)) id).trans (List.map_id _)] at hA
      have hA := at_closeL (K := K) 0 rfl (dpa_filt hxs) hA
      have hA : At B4 (LstM K pt (ms.filter fun d => !isNon d) :: NwM K C nw (ms.length : Int) (prs 0 ms) :: LstM K pm ms :: StM sr :: Fr) H5 := hA
      have hth : ∀ d ∈ ms.filter (fun d => !isNon d), MsgP d := fun d hd => by
        obtain ⟨h1, h2⟩ := List.mem_filter.mp hd
        exact orN_isNon (hms d h1) (bnot_t h2)
      have hthl : (ms.filter fun d => !isNon d).length ≤ 62 := Nat.le_trans (List.length_filter_le _ _) hl
      generalize ms.filter (fun d => !isNon d) = ths at hA hth hthl
      refine qe_whenJ (b := decide (de = 3) && !ths.isEmpty) (J := fun σ' H' => ∃ (x : V) (d : PyData) (B' : Hp), σ' = [some (V.ref nw), some (.ref pm), some (.ref sr), some (.int de), none, none, some x, some (.ref pt), none] ∧ Ex B4 B' ∧ At B' (LstM K pt ths :: NwM K C nw (ms.length : Int) (prs 0 ms) :: LstM K pm ms :: StM sr :: Fr) H' ∧ Dp K B' x d ∧ MsgP d) hA (et_and (et_test (ev_op (ev_var rfl) ev_c rv_eqI)) (fun _ => fun H6 e6 Q' q' => ev_var rfl H6 e6 _ fun H7 e7 => ?_)) (fun hb H6 hA Dn hDn => ?_) (fun hb H6 hA => ⟨vm, dm, B4, rfl, Ex.refl B4, hA, hdm, hM⟩) (fun σ' H6 ⟨x, d, B5, hσ, b5, hA, hxd, hMd⟩ => ?_)
      · obtain ⟨ys, h1, h2⟩ := lst_at (K := K) 0 rfl (at_ex hA (e6.trans e7))
        refine ⟨!ths.isEmpty, (show TruV K (.ref pt) H7 (!ths.isEmpty) from .inl ⟨ys, sq_of h2, ?_⟩), q' H7 e7⟩
        have := dpa_len h1
        cases ys <;> cases ths <;> first | rfl | (simp at this)
      · have hpos : 0 < ths.length := by
          have h2 := (Bool.and_eq_true_iff.mp hb).2
          cases ths with
          | nil => cases h2
          | cons _ _ => rw [List.length_cons]; omega
        exact sw_asg hA (wv_ixMG (K := K) (ψ := MsgP) 0 rfl rfl (wv_nextA (n := (ths.length : Int)) 3 rfl rfl (fun B1 H1 b1 hA => ev_lenM (K := K) 0 rfl hA (ev_var rfl)) (by omega) (by omega)) (fun j hj => hj) hth) fun v B5 H7 b5 hA ⟨d, hd, hP⟩ => hDn _ _ ⟨v, d, B5, rfl, b5, hA, hd, hP⟩
      subst hσ
      refine qm_app (K := K) (d := d) 2 rfl hA (fun _ => ev_var rfl) (wv_var rfl hxd) (by omega) fun B6 H7 b6 hA => ?_
      have hA : At B6 (LstM K pt ths :: NwM K C nw (ms.length : Int) (prs 0 ms) :: LstM K pm (ms ++ [d]) :: StM sr :: Fr) H7 := hA
      have hl1 : ((ms ++ [d]).length : Int) = (ms.length : Int) + 1 := by rw [List.length_append]; rfl
      have hpl : (prs 0 ms).length ≤ 62 := Nat.le_trans (prs_len 0 ms) hl
      refine r_do (go_call (go_cons' (go_nsend (K := K) (v := x) (d := d) (at_swap hA) (ev_var rfl) (fun H8 e8 => ea_cons (ev_var rfl) ea_nil) (dp_mono b6 _ _ hxd) (msgP_okd hMd) (msgP_is hMd) (by omega) fun B7 H8 b7 hA => ?_)))
      rw [prs_put ms d (msg_non hMd), ← hl1] at hA
      refine go_cons (ev_lenM (K := K) 2 rfl hA (ev_var rfl)) fun H9 e9 => go_nil ⟨_, _, rfl, ?_⟩
      rw [hl1, decide_eq_true rfl]
      refine fun H10 e10 => q (ms ++ [d]) B7 H10 (b1.trans (b4.trans (b5.trans (b6.trans b7)))) (by rw [List.length_append]; exact Nat.le_refl _) (fun e he => ?_) (at_drop (at_swap (at_ex hA (e9.trans e10))))
      rcases List.mem_append.mp he with he | he
      · exact hms e he
      · rw [List.mem_singleton.mp he]; exact .inr hMd
theorem ev_ref2 {σ : L2.St} {B H : Hp} {l : List MP} {p a0 a1 : Addr} {i : Nat} {k : Nat} {tb : TE} {a : Addr} (n : Nat) (hk : l[n]? = some (Pt p (.lst [.ref a0, .ref a1]))) (hA : At B l H) (hs : σ[i]? = some (some (.ref p))) (hb : Ev tb σ H (.int (k : Int))) (h : [V.ref a0, .ref a1][k]? = some (.ref a)) : Ev (tOp (rIxL K) (tVar i) tb) σ H (.ref a) := ev_op (ev_var hs) hb (rv_ixL (sq_of (at_get n hk hA)) (atI_nat h))
theorem go_nh7 {σ : L2.St} {B H : Hp} {F : List MP} {C nw pm : Addr} {ms : List PyData} {E : XK} {ta tb : TE} {Q : VK} (hA : At B (NwM K C nw (ms.length : Int) (prs 0 ms) :: LstM K pm ms :: F) H) (h1 : Ev ta σ H (.ref nw)) (h2 : ∀ H1, Ex H H1 → Ev tb σ H1 (.ref pm)) (hl : ms.length ≤ 63) (hm : ∀ d ∈ ms, OrN d) (q : ∀ B1 H1, Ex B B1 → At B1 (NwM K C nw (ms.length : Int) (prs 0 ms) :: LstM K pm ms :: F) H1 → Q (.bl true) H1) : tCall (spH7 K C) [] E (tCons ta (tCons tb tNil)) σ H Q :=
  go_call (go_cons h1 fun H1 e1 => go_cons (h2 H1 e1) fun H2 e2 => go_nil ⟨nw, pm, ms, B, F, rfl, at_ex hA (e1.trans e2), hl, hm, q⟩)
theorem go_andV {σ : L2.St} {H : Hp} {ta tb : TE} {Q : VK} (h : ta σ H fun v H1 => ∃ c, v = .bl c ∧ if c = true then tb σ H1 Q else Q (.bl false) H1) : tAndV ta tb σ H Q := h
def Inv7 (K : PySem.W.Frag) (C n0 m0 n1 m1 pn ps : Addr) (a b : List PyData) : List MP := [NwM K C n0 (a.length : Int) (prs 0 a), LstM K m0 a, NwM K C n1 (b.length : Int) (prs 0 b), LstM K m1 b, Pt pn (.lst [.ref n0, .ref n1]), Pt ps (.lst [.ref m0, .ref m1])]
theorem ok_lawG {f f_s f_n f_st f_ho m_i C : Addr} {fd fd_s fd_n fd_st fd_ho md_i : FuncData} (F : Fun K "law" "law" s_law f fd)
    (D__law_stream : Df K mg "_law_stream" s__law_stream ["cell", "k"] f_s fd_s) (G__law_stream : FnOk P w K mg base CX0 1 f_s fd_s ["cell", "k"] spLStream) (D__law_next : Df K mg "_law_next" s__law_next ["stream", "size"] f_n fd_n) (G__law_next : FnOk P w K mg base CX0 1 f_n fd_n ["stream", "size"] spNext)
    (D__law_step : Df K mg "_law_step" s__law_step ["network", "messages", "stream"] f_st fd_st) (G__law_step : FnOk P w K mg base CX0 10 f_st fd_st ["network", "messages", "stream"] (spStep K C)) (D__law_holds : Df K mg "_law_holds" s__law_holds ["network", "messages"] f_ho fd_ho) (G__law_holds : FnOk P w K mg base CX0 15 f_ho fd_ho ["network", "messages"] (spH7 K C))
    (D_Network___init__ : Dm K C "__init__" "Network.__init__" s_Network___init__ ["self"] m_i md_i) (G_Network___init__ : FnOk P w K mg base CX0 1 m_i md_i ["self"] (spNInit K C)) (L_Network : Kl K mg "Network" C) (L : NwC K C) (T : Glo mg) : FnOk P w K mg base CX0 20 f fd ["script"] (spLaw K) := by
  refine F.ok sc_law (fun vs H Q E h => ?_) (fun cdv A outer s H vs Q E hr h => ?_)
  · obtain ⟨a, ns, rfl, _⟩ := h
    rfl
  · obtain ⟨a, ns, rfl, hS, hn, q⟩ := h
    refine ⟨_, (pss_cons (ps_set (i := 1) sc_law.nd rfl (.inl rfl) (pe_lst (pa_cons (pe_make0 (L_Network.make D_Network___init__) G_Network___init__ (hr.mono (by decide)) (by rfl) L_Network.g D_Network___init__.b .nil pass0) (pa_cons (pe_make0 (L_Network.make D_Network___init__) G_Network___init__ (hr.mono (by decide)) (by rfl) L_Network.g D_Network___init__.b .nil pass0) pa_nil))))
  (pss_cons (ps_set (i := 2) sc_law.nd rfl (.inl rfl) (pe_lst (pa_cons (pe_lst pa_nil) (pa_cons (pe_lst pa_nil) pa_nil))))
  (pss_cons (ps_for PassesOwn.never rfl (pi_range1 (by rfl) T.range (pa_cons (pe_callB (call_min2 rfl) (by rfl) T.min (by decide +kernel) (pa_cons (pe_callB call_len_seq (by rfl) T.len PySem.boot_len (pa_cons (pv 0) pa_nil)) (pa_cons pe_int pa_nil))) pa_nil)) (pg_name (i := 3) sc_law.nd rfl (.inl rfl))
  (pss_cons (ps_set (i := 4) sc_law.nd rfl (.inl rfl) (pe_call G__law_stream (hr.mono (by decide)) (by rfl) D__law_stream.g D__law_stream.F.kp D__law_stream.b .nil pass0 (pa_cons (pe_ix ix_list (pv 0) (pv 3) (fun _ _ => rfl)) (pa_cons (pv 3) pa_nil))))
  (pss_cons (ps_set (i := 5) sc_law.nd rfl (.inl rfl) (pe_call G__law_next (hr.mono (by decide)) (by rfl) D__law_next.g D__law_next.F.kp D__law_next.b .nil pass0 (pa_cons (pv 4) (pa_cons pe_int pa_nil))))
  (pss_cons (ps_if (pt_not (pt_val (pe_call G__law_step (hr.mono (by decide)) (by rfl) D__law_step.g D__law_step.F.kp D__law_step.b .nil pass0 (pa_cons (pe_ix ix_list (pv 1) (pv 5) (fun _ _ => rfl)) (pa_cons (pe_ix ix_list (pv 2) (pv 5) (fun _ _ => rfl)) (pa_cons (pv 4) pa_nil))))))
  (pss_one (ps_ret pe_bl))
  pss_nil)
  (pss_one (ps_if (PW.pt (pw_or (pt_not (pt_val (pe_call G__law_holds (hr.mono (by decide)) (by rfl) D__law_holds.g D__law_holds.F.kp D__law_holds.b .nil pass0 (pa_cons (pe_ix ix_list (pv 1) pe_int (fun _ _ => rfl)) (pa_cons (pe_ix ix_list (pv 2) pe_int (fun _ _ => rfl)) pa_nil))))) (pw_or1 (pt_not (pt_val (pe_call G__law_holds (hr.mono (by decide)) (by rfl) D__law_holds.g D__law_holds.F.kp D__law_holds.b .nil pass0 (pa_cons (pe_ix ix_list (pv 1) pe_int (fun _ _ => rfl)) (pa_cons (pe_ix ix_list (pv 2) pe_int (fun _ _ => rfl)) pa_nil))))))))
  (pss_one (ps_ret pe_bl))
  pss_nil))))))
  (pss_one (ps_ret (pe_and (pe_call G__law_holds (hr.mono (by decide)) (by rfl) D__law_holds.g D__law_holds.F.kp D__law_holds.b .nil pass0 (pa_cons (pe_ix ix_list (pv 1) pe_int (fun _ _ => rfl)) (pa_cons (pe_ix ix_list (pv 2) pe_int (fun _ _ => rfl)) pa_nil))) (pe_one (pe_call G__law_holds (hr.mono (by decide)) (by rfl) D__law_holds.g D__law_holds.F.kp D__law_holds.b .nil pass0 (pa_cons (pe_ix ix_list (pv 1) pe_int (fun _ _ => rfl)) (pa_cons (pe_ix ix_list (pv 2) pe_int (fun _ _ => rfl)) pa_nil)))))))))), ?_⟩
    have hA := at_start (H := H)
    refine q_do (go_lst (go_cons' (make_at hA ea_nil fun n0 dx0 H1 hA => ⟨n0, dx0, _, _, rfl, hA, fun H2 hA => ⟨rfl, go_cons' (make_at hA ea_nil fun n1 dx1 H3 hA => ⟨n1, dx1, _, _, rfl, hA, fun H4 hA => ⟨rfl, go_nil ⟨by show 2 ≤ sizeLine; decide, fun pn hpn => ?_⟩⟩⟩)⟩⟩)))
    have hA := at_new (o := .lst [.ref n0, .ref n1]) hA hpn (Ex.new hpn) upd_same
    refine q_do (go_lst (go_cons' (go_lst (go_nil ⟨by show 0 ≤ sizeLine; decide, fun m0 hm0 => go_cons' (go_lst (go_nil ⟨by show 0 ≤ sizeLine; decide, fun m1 hm1 => go_nil ⟨by show 2 ≤ sizeLine; decide, fun ps hps => ?_⟩⟩))⟩))))
    have hA := lst_new (K := K) (xs := []) (ds := []) hA hm0 (Ex.new hm0) upd_same .nil
    have hA := lst_new (K := K) (xs := []) (ds := []) hA hm1 (Ex.new hm1) upd_same .nil
    have hA := at_new (o := .lst [.ref m0, .ref m1]) hA hps (Ex.new hps) upd_same
    have hA : At H (Inv7 K C n0 m0 n1 m1 pn ps [] []) _ := at_ix 6 [5, 2, 4, 1, 3, 0] hA
    have hSH := ex_l (at_base hA) hS
    refine q_forR1 (n := (if (63 : Int) < (ns.length : Int) then 63 else (ns.length : Int))) (ea_cons (ev_is (ev_cb (ea_cons (ev_cb (ea_cons (ev_var rfl) ea_nil) (rc_len hSH)) (ea_cons ev_c ea_nil)) rc_min2) (by rw [List.length_map])) ea_nil) (by split <;> omega) (fun i σ' H' => ∃ (x y : List PyData) (B' : Hp) (y3 y4 y5 : Option V), σ' = [some (.ref a), some (.ref pn), some (.ref ps), y3, y4, y5] ∧ Ex H B' ∧ At B' (Inv7 K C n0 m0 n1 m1 pn ps x y) H' ∧ (x.length ≤ i ∧ y.length ≤ i) ∧ (∀ d ∈ x, OrN d) ∧ (∀ d ∈ y, OrN d)) (fun H6 e6 => ⟨[], [], H, _, _, _, rfl, Ex.refl H, at_ex hA e6, ⟨Nat.le_refl _, Nat.le_refl _⟩, (fun _ h => nomatch h), (fun _ h => nomatch h)⟩) (fun i σ' H' hi pp => ?_) (fun σ' H' pp => ?_)
    · obtain ⟨x, y, B2, y3, y4, y5, rfl, b2, hA, ⟨hxl, hyl⟩, hx, hy⟩ := pp
      have hin : i < ns.length := by split at hi <;> omega
      have hi63 : i < 63 := by split at hi <;> omega
      have hSH := ex_l (b2.trans (at_base hA)) hS
      refine q_do (go_call (go_cons (ev_op (ev_var rfl) (ev_var rfl) (rv_ixL hSH (atI_nat (show (ns.map V.int)[i]? = some (.int ns[i]) by rw [List.getElem?_map, List.getElem?_eq_getElem hin]; rfl)))) fun H7 e7 => go_cons (ev_var rfl) fun H8 e8 => go_nil ⟨ns[i], (i : Int), B2, _, rfl, at_ex hA (e7.trans e8), by omega, by omega, fun sr H9 hA => ?_⟩))
      refine qw_asg hA (wv_next 0 rfl rfl (n := 2) (fun H => ev_c) (by decide) (by decide)) fun v B3 H10 b3 hA ⟨wh, hv, hwh⟩ => ?_
      subst hv
      have hA : At B3 [StM sr, NwM K C n0 (x.length : Int) (prs 0 x), LstM K m0 x, NwM K C n1 (y.length : Int) (prs 0 y), LstM K m1 y, Pt pn (.lst [.ref n0, .ref n1]), Pt ps (.lst [.ref m0, .ref m1])] H10 := hA
      refine q_whenF (C := fun H1 => ∃ (x y : List PyData) (B4 : Hp), Ex B3 B4 ∧ At B4 (Inv7 K C n0 m0 n1 m1 pn ps x y) H1 ∧ (x.length ≤ i + 1 ∧ y.length ≤ i + 1) ∧ (∀ d ∈ x, OrN d) ∧ (∀ d ∈ y, OrN d)) (fun Q' hQ => ?_) (fun H11 ⟨x, y, B4, b4, hA, ⟨hxl, hyl⟩, hx, hy⟩ => ?_)
      · have h2 : wh = 0 ∨ wh = 1 := by have := hwh.1; have := hwh.2; omega
        rcases h2 with rfl | rfl
        · refine go_call (go_cons (ev_ref2 (K := K) (k := 0) 5 rfl hA rfl (ev_var rfl) rfl) fun H11 e11 => go_cons (ev_ref2 (K := K) (k := 0) 6 rfl (at_ex hA e11) rfl (ev_var rfl) rfl) fun H12 e12 => go_cons (ev_var rfl) fun H13 e13 => go_nil ⟨n0, m0, sr, x, B3, _, rfl, at_ix 7 [1, 2, 0, 3, 4, 5, 6] (at_ex hA (e11.trans (e12.trans e13))), by omega, hx, fun x' B4 H14 b4 hl' hx' hA => ⟨true, rfl, hQ H14 ⟨x', y, B4, b4, ?_, ⟨by omega, by omega⟩, hx', hy⟩⟩⟩)
          exact at_drop (at_ix 3 [2, 0, 1] hA)
        · refine go_call (go_cons (ev_ref2 (K := K) (k := 1) 5 rfl hA rfl (ev_var rfl) rfl) fun H11 e11 => go_cons (ev_ref2 (K := K) (k := 1) 6 rfl (at_ex hA e11) rfl (ev_var rfl) rfl) fun H12 e12 => go_cons (ev_var rfl) fun H13 e13 => go_nil ⟨n1, m1, sr, y, B3, _, rfl, at_ix 7 [3, 4, 0, 1, 2, 5, 6] (at_ex hA (e11.trans (e12.trans e13))), by omega, hy, fun y' B4 H14 b4 hl' hy' hA => ⟨true, rfl, hQ H14 ⟨x, y', B4, b4, ?_, ⟨by omega, by omega⟩, hx, hy'⟩⟩⟩)
          exact at_drop (at_ix 7 [2, 3, 4, 0, 1, 5, 6] hA)
      refine s_whenF (C := fun H1 => ∃ B5, Ex B4 B5 ∧ At B5 (Inv7 K C n0 m0 n1 m1 pn ps x y) H1) (fun Q' hQ => ?_) (fun H12 ⟨B5, b5, hA⟩ => ⟨x, y, B5, _, _, _, rfl, b2.trans (b3.trans (b4.trans b5)), hA, ⟨hxl, hyl⟩, hx, hy⟩)
      have c0 : ∀ {σ : L2.St} {B' H' : Hp}, At B' (Inv7 K C n0 m0 n1 m1 pn ps x y) H' → σ[1]? = some (some (.ref pn)) → σ[2]? = some (some (.ref ps)) → ∀ {E : XK} {Q : VK}, (∀ B1 H1, Ex B' B1 → At B1 (Inv7 K C n0 m0 n1 m1 pn ps x y) H1 → Q (.bl true) H1) → tCall (spH7 K C) [] E (tCons (tOp (rIxL K) (tVar 1) (tC (.int 0))) (tCons (tOp (rIxL K) (tVar 2) (tC (.int 0))) tNil)) σ H' Q := fun {σ B' H'} hA h1 h2 {E Q} q => go_nh7 (K := K) hA (ev_ref2 (K := K) (k := 0) 4 rfl hA h1 ev_c rfl) (fun H1 e1 => ev_ref2 (K := K) (k := 0) 5 rfl (at_ex hA e1) h2 ev_c rfl) (by omega) hx q
      have c1 : ∀ {σ : L2.St} {B' H' : Hp}, At B' (Inv7 K C n0 m0 n1 m1 pn ps x y) H' → σ[1]? = some (some (.ref pn)) → σ[2]? = some (some (.ref ps)) → ∀ {E : XK} {Q : VK}, (∀ B1 H1, Ex B' B1 → At B1 (Inv7 K C n0 m0 n1 m1 pn ps x y) H1 → Q (.bl true) H1) → tCall (spH7 K C) [] E (tCons (tOp (rIxL K) (tVar 1) (tC (.int 1))) (tCons (tOp (rIxL K) (tVar 2) (tC (.int 1))) tNil)) σ H' Q := fun {σ B' H'} hA h1 h2 {E Q} q => go_nh7 (K := K) (at_ix (hn := (by show 4 ≤ 6; decide)) 4 [2, 3, 0, 1] hA) (ev_ref2 (K := K) (k := 1) 4 rfl hA h1 ev_c rfl) (fun H1 e1 => ev_ref2 (K := K) (k := 1) 5 rfl (at_ex hA e1) h2 ev_c rfl) (by omega) hy fun B1 H1 b1 hA => q B1 H1 b1 (at_ix (hn := (by show 4 ≤ 6; decide)) 4 [2, 3, 0, 1] hA)
      refine go_nt (go_tB (c0 hA rfl rfl fun B5 H12 b5 hA => ⟨true, rfl, ?_⟩))
      dsimp only
      rw [if_neg (by decide)]
      exact go_nt (go_tB (c1 hA rfl rfl fun B6 H13 b6 hA => ⟨true, rfl, hQ H13 ⟨B6, b5.trans b6, hA⟩⟩))
    · obtain ⟨x, y, B2, y3, y4, y5, rfl, b2, hA, ⟨hxl, hyl⟩, hx, hy⟩ := pp
      have hx63 : x.length ≤ 63 := by split at hxl <;> omega
      have hy63 : y.length ≤ 63 := by split at hyl <;> omega
      refine r_do (go_andV (go_nh7 (K := K) hA (ev_ref2 (K := K) (k := 0) 4 rfl hA rfl ev_c rfl) (fun H1 e1 => ev_ref2 (K := K) (k := 0) 5 rfl (at_ex hA e1) rfl ev_c rfl) hx63 hx fun B3 H7 b3 hA => ⟨true, rfl, ?_⟩))
      rw [if_pos rfl]
      have hA : At B3 (Inv7 K C n0 m0 n1 m1 pn ps x y) H7 := hA
      exact go_nh7 (K := K) (at_ix (hn := (by show 4 ≤ 6; decide)) 4 [2, 3, 0, 1] hA) (ev_ref2 (K := K) (k := 1) 4 rfl hA rfl ev_c rfl) (fun H1 e1 => ev_ref2 (K := K) (k := 1) 5 rfl (at_ex hA e1) rfl ev_c rfl) hy63 hy fun B4 H8 b4 hA => q H8
theorem ns_at {K : PySem.W.Frag} {h : Heap} {x : Str} {v : Value} (X : K.In h) (e : PySem.W.nsIn K mainGlobals x = some (some v)) : PySem.W.nsIn K mainGlobals x = some (some v) := e
theorem ok_law {C f f_is_integer f_is_number f__may_stand_in_text f_is_text f_is_plain f_is_deed f_is_machine f__is_log_value f__fits f_is_body f_is_message f__law_stream f__law_next f__law_machine f__law_forms f__law_number f__law_deed f__law_thing f__law_field f__law_body f__law_is f__law_equal f__law_message f__law_dropped f__law_asked f__law_refused f__law_holds f__law_step f_Network___init__ f_Network__check_number f_Network_send f_Network_message f_Network_drop f_Network_numbers f_Network___len__ f_Network___iter__ C_BadValue B_BadValue C_Unknown B_Unknown : Addr} {fd fd_is_integer fd_is_number fd__may_stand_in_text fd_is_text fd_is_plain fd_is_deed fd_is_machine fd__is_log_value fd__fits fd_is_body fd_is_message fd_Network___init__ fd_Network__check_number fd_Network_send fd_Network_message fd_Network_drop fd_Network_numbers fd_Network___len__ fd_Network___iter__ fd__law_stream fd__law_next fd__law_machine fd__law_forms fd__law_number fd__law_deed fd__law_thing fd__law_field fd__law_body fd__law_is fd__law_equal fd__law_message fd__law_dropped fd__law_asked fd__law_refused fd__law_holds fd__law_step : FuncData} {t_NUMBER_MOST t_TEXT_MOST t__PERCENT t__DEED_MOST t_JOURNAL t_MANAGER t_CLIENT : Tok} (F : Fun K "law" "law" s_law f fd)
    (D_is_integer : Df K mg "is_integer" s_is_integer ["thing"] f_is_integer fd_is_integer)
    (D_is_number : Df K mg "is_number" s_is_number ["thing"] f_is_number fd_is_number)
    (D__may_stand_in_text : Df K mg "_may_stand_in_text" s__may_stand_in_text ["code"] f__may_stand_in_text fd__may_stand_in_text)
    (D_is_text : Df K mg "is_text" s_is_text ["thing"] f_is_text fd_is_text)
    (D_is_plain : Df K mg "is_plain" s_is_plain ["thing"] f_is_plain fd_is_plain)
    (D_is_deed : Df K mg "is_deed" s_is_deed ["thing"] f_is_deed fd_is_deed)
    (D_is_machine : Df K mg "is_machine" s_is_machine ["thing"] f_is_machine fd_is_machine)
    (D__is_log_value : Df K mg "_is_log_value" s__is_log_value ["thing"] f__is_log_value fd__is_log_value)
    (D__fits : Df K mg "_fits" s__fits ["item", "kind"] f__fits fd__fits)
    (D_is_body : Df K mg "is_body" s_is_body ["sender", "receiver", "body"] f_is_body fd_is_body)
    (D_is_message : Df K mg "is_message" s_is_message ["thing"] f_is_message fd_is_message)
    (D__law_stream : Df K mg "_law_stream" s__law_stream ["cell", "k"] f__law_stream fd__law_stream)
    (D__law_next : Df K mg "_law_next" s__law_next ["stream", "size"] f__law_next fd__law_next)
    (D__law_machine : Df K mg "_law_machine" s__law_machine ["stream"] f__law_machine fd__law_machine)
    (D__law_forms : Df K mg "_law_forms" s__law_forms [] f__law_forms fd__law_forms)
    (D__law_number : Df K mg "_law_number" s__law_number ["stream"] f__law_number fd__law_number)
    (D__law_deed : Df K mg "_law_deed" s__law_deed ["stream"] f__law_deed fd__law_deed)
    (D__law_thing : Df K mg "_law_thing" s__law_thing ["stream"] f__law_thing fd__law_thing)
    (D__law_field : Df K mg "_law_field" s__law_field ["stream", "mark"] f__law_field fd__law_field)
    (D__law_body : Df K mg "_law_body" s__law_body ["stream", "row"] f__law_body fd__law_body)
    (D__law_is : Df K mg "_law_is" s__law_is ["actual", "due"] f__law_is fd__law_is)
    (D__law_equal : Df K mg "_law_equal" s__law_equal ["actual", "due"] f__law_equal fd__law_equal)
    (D__law_message : Df K mg "_law_message" s__law_message ["stream"] f__law_message fd__law_message)
    (D__law_dropped : Df K mg "_law_dropped" s__law_dropped ["network", "number"] f__law_dropped fd__law_dropped)
    (D__law_asked : Df K mg "_law_asked" s__law_asked ["network", "number"] f__law_asked fd__law_asked)
    (D__law_refused : Df K mg "_law_refused" s__law_refused ["network"] f__law_refused fd__law_refused)
    (D__law_holds : Df K mg "_law_holds" s__law_holds ["network", "messages"] f__law_holds fd__law_holds)
    (D__law_step : Df K mg "_law_step" s__law_step ["network", "messages", "stream"] f__law_step fd__law_step)
    (D_Network___init__ : Dm K C "__init__" "Network.__init__" s_Network___init__ ["self"] f_Network___init__ fd_Network___init__)
    (D_Network__check_number : Dm K C "_check_number" "Network._check_number" s_Network__check_number ["self", "number"] f_Network__check_number fd_Network__check_number)
    (D_Network_send : Dm K C "send" "Network.send" s_Network_send ["self", "message"] f_Network_send fd_Network_send)
    (D_Network_message : Dm K C "message" "Network.message" s_Network_message ["self", "number"] f_Network_message fd_Network_message)
    (D_Network_drop : Dm K C "drop" "Network.drop" s_Network_drop ["self", "number"] f_Network_drop fd_Network_drop)
    (D_Network_numbers : Dm K C "numbers" "Network.numbers" s_Network_numbers ["self"] f_Network_numbers fd_Network_numbers)
    (D_Network___len__ : Dm K C "__len__" "Network.__len__" s_Network___len__ ["self"] f_Network___len__ fd_Network___len__)
    (D_Network___iter__ : Dm K C "__iter__" "Network.__iter__" s_Network___iter__ ["self"] f_Network___iter__ fd_Network___iter__)
    (c_NUMBER_MOST : mg "NUMBER_MOST" = some (.int (10 ^ 18) t_NUMBER_MOST)) (c_TEXT_MOST : mg "TEXT_MOST" = some (.int 200 t_TEXT_MOST)) (c__PERCENT : mg "_PERCENT" = some (.int 37 t__PERCENT)) (c__DEED_MOST : mg "_DEED_MOST" = some (.int 4 t__DEED_MOST)) (c_JOURNAL : mg "JOURNAL" = some (.str "journal" t_JOURNAL)) (c_MANAGER : mg "MANAGER" = some (.str "manager" t_MANAGER)) (c_CLIENT : mg "CLIENT" = some (.str "client" t_CLIENT))
    (E_BadValue : Err K mg "BadValue" C_BadValue B_BadValue) (E_Unknown : Err K mg "Unknown" C_Unknown B_Unknown)
    {A__FORMS : Addr} (D__FORMS : KdC K w mg "_FORMS" A__FORMS FRM)
    (L_Network : Kl K mg "Network" C) (LC_Network : NwC K C) (T : Glo mg) : FnOk P w K mg base CX0 20 f fd ["script"] (spLaw K) := by
  have G_is_integer : FnOk P w K mg base CX0 1 f_is_integer fd_is_integer _ _ := ok_is_integer (n := 8) D_is_integer.F c_NUMBER_MOST T
  have G_is_number : FnOk P w K mg base CX0 2 f_is_number fd_is_number _ _ := ok_is_number (n := 8) D_is_number.F D_is_integer c_NUMBER_MOST T
  have G__may_stand_in_text : FnOk P w K mg base CX0 1 f__may_stand_in_text fd__may_stand_in_text _ _ := ok_ch D__may_stand_in_text.F c__PERCENT T
  have G_is_text : FnOk P w K mg base CX0 2 f_is_text fd_is_text _ _ := ok_is_text (n := 8) D_is_text.F D__may_stand_in_text c_TEXT_MOST c__PERCENT T
  have G_is_plain : FnOk P w K mg base CX0 3 f_is_plain fd_is_plain _ _ := ok_is_plain (n := 7) D_is_plain.F D_is_integer D_is_text D__may_stand_in_text c_NUMBER_MOST c_TEXT_MOST c__PERCENT T
  have G_is_deed : FnOk P w K mg base CX0 4 f_is_deed fd_is_deed _ _ := ok_is_deed (n := 7) D_is_deed.F D_is_plain D_is_integer D_is_text D__may_stand_in_text c_NUMBER_MOST c_TEXT_MOST c__PERCENT c__DEED_MOST T
  have G_is_machine : FnOk P w K mg base CX0 3 f_is_machine fd_is_machine _ _ := ok_is_machine D_is_machine.F D_is_integer D_is_number c_NUMBER_MOST c_JOURNAL c_MANAGER c_CLIENT T
  have G__is_log_value : FnOk P w K mg base CX0 3 f__is_log_value fd__is_log_value _ _ := ok_is_logv D__is_log_value.F D_is_integer D_is_number c_NUMBER_MOST T
  have G__fits : FnOk P w K mg base CX0 5 f__fits fd__fits _ _ := ok_fits D__fits.F D__is_log_value D_is_deed D_is_plain D_is_integer D_is_number D_is_text D__may_stand_in_text c_NUMBER_MOST c_TEXT_MOST c__PERCENT c__DEED_MOST T
  have G_is_body : FnOk P w K mg base CX0 6 f_is_body fd_is_body _ _ := ok_is_body D_is_body.F D__fits D__is_log_value D_is_deed D_is_plain D_is_integer D_is_number D_is_text D__may_stand_in_text c_NUMBER_MOST c_TEXT_MOST c__PERCENT c__DEED_MOST D__FORMS T
  have G_is_message : FnOk P w K mg base CX0 7 f_is_message fd_is_message _ _ := ok_is_message D_is_message.F D_is_body D_is_machine D__fits D__is_log_value D_is_deed D_is_plain D_is_integer D_is_number D_is_text D__may_stand_in_text c_NUMBER_MOST c_TEXT_MOST c__PERCENT c__DEED_MOST D__FORMS c_JOURNAL c_MANAGER c_CLIENT T
  have G_Network___init__ : FnOk P w K mg base CX0 1 f_Network___init__ fd_Network___init__ _ _ := ok_ninit D_Network___init__.F LC_Network
  have G_Network__check_number : FnOk P w K mg base (L2.CX P w) 2 f_Network__check_number fd_Network__check_number _ _ := ok_ncheck D_Network__check_number.F LC_Network E_Unknown T
  have G_Network_send : FnOk P w K mg base (L2.CX P w) 8 f_Network_send fd_Network_send _ _ := ok_nsend D_Network_send.F LC_Network D_is_message G_is_message E_BadValue T
  have G_Network_message : FnOk P w K mg base (L2.CX P w) 3 f_Network_message fd_Network_message _ _ := ok_nmessage D_Network_message.F LC_Network D_Network__check_number G_Network__check_number T
  have G_Network_drop : FnOk P w K mg base (L2.CX P w) 3 f_Network_drop fd_Network_drop _ _ := ok_ndrop D_Network_drop.F LC_Network D_Network__check_number G_Network__check_number T
  have G_Network_numbers : FnOk P w K mg base CX0 1 f_Network_numbers fd_Network_numbers _ _ := ok_nnum D_Network_numbers.F LC_Network T
  have G_Network___len__ : FnOk P w K mg base CX0 1 f_Network___len__ fd_Network___len__ _ _ := ok_nlen D_Network___len__.F LC_Network T
  have G_Network___iter__ : FnN P w K mg base CX0 1 f_Network___iter__ fd_Network___iter__ _ _ := ok_niter D_Network___iter__.F LC_Network T
  have G__law_stream : FnOk P w K mg base CX0 1 f__law_stream fd__law_stream _ _ := ok_lstream D__law_stream.F T
  have G__law_next : FnOk P w K mg base CX0 1 f__law_next fd__law_next _ _ := ok_lnext D__law_next.F T
  have G__law_machine : FnOk P w K mg base CX0 2 f__law_machine fd__law_machine _ _ := ok_lmachine D__law_machine.F D__law_next G__law_next T
  have G__law_forms : FnOk P w K mg base CX0 1 f__law_forms fd__law_forms _ _ := ok_lforms D__law_forms.F T
  have G__law_number : FnOk P w K mg base CX0 2 f__law_number fd__law_number _ _ := ok_lnumber D__law_number.F D__law_next G__law_next T
  have G__law_deed : FnOk P w K mg base CX0 2 f__law_deed fd__law_deed _ _ := ok_ldeed D__law_deed.F D__law_next G__law_next T
  have G__law_thing : FnOk P w K mg base CX0 2 f__law_thing fd__law_thing _ _ := ok_lthing D__law_thing.F D__law_next G__law_next T
  have G__law_field : FnOk P w K mg base CX0 5 f__law_field fd__law_field _ _ := ok_lfield1 D__law_field D__law_next G__law_next D__law_number G__law_number D__law_deed G__law_deed D__law_thing G__law_thing T
  have G__law_body : FnOk P w K mg base CX0 6 f__law_body fd__law_body _ _ := ok_lbody D__law_body.F D__law_field G__law_field T
  have G__law_is : FnOk P w K mg base CX0 1 f__law_is fd__law_is _ _ := ok_lis D__law_is.F T
  have G__law_equal : FnOk P w K mg base CX0 13 f__law_equal fd__law_equal _ _ := ok_equal D__law_equal T 12
  have G__law_message : FnOk P w K mg base CX0 7 f__law_message fd__law_message _ _ := ok_lmessage D__law_message.F D__law_next G__law_next D__law_machine G__law_machine D__law_forms G__law_forms D__law_body G__law_body T
  have G__law_dropped : FnOk P w K mg base CX0 4 f__law_dropped fd__law_dropped _ _ := ok_ldropped D__law_dropped.F LC_Network D_Network_drop G_Network_drop E_Unknown T
  have G__law_asked : FnOk P w K mg base CX0 4 f__law_asked fd__law_asked _ _ := ok_lasked D__law_asked.F LC_Network D_Network_message G_Network_message E_Unknown T
  have G__law_refused : FnOk P w K mg base CX0 9 f__law_refused fd__law_refused _ _ := ok_nrefused D__law_refused.F LC_Network D_Network_send G_Network_send E_BadValue T
  have G__law_holds : FnOk P w K mg base CX0 15 f__law_holds fd__law_holds _ _ := ok_nholds D__law_holds.F LC_Network D_Network_numbers G_Network_numbers D_Network___iter__ G_Network___iter__ D_Network___len__ G_Network___len__ D__law_asked G__law_asked D__law_is G__law_is D__law_equal G__law_equal T
  have G__law_step : FnOk P w K mg base CX0 10 f__law_step fd__law_step _ _ := ok_lstep D__law_step.F LC_Network D__law_next G__law_next D__law_refused G__law_refused D__law_dropped G__law_dropped D__law_message G__law_message D__law_is G__law_is D_Network_send G_Network_send T
  exact ok_lawG F D__law_stream G__law_stream D__law_next G__law_next D__law_step G__law_step D__law_holds G__law_holds D_Network___init__ G_Network___init__ L_Network LC_Network T
end
end Ap
open PySem PySem.W PyProof.Rows
local macro_rules | `(tactic| k_head) => `(tactic| k_headL)
set_option maxHeartbeats 0 in
open_top Ap.head for PySem.Challenge.rw_appendhall_k67_whole_network_runs
set_option maxHeartbeats 0 in
theorem PySem.Challenge.cw_appendhall_k67_whole_network_runs_holds : PySem.Challenge.rw_appendhall_k67_whole_network_runs.Holds := by
  refine Ap.head ?_
  k_fill
  refine Ap.walk_ofX (l := PySem.Challenge.rw_appendhall_k67_whole_network_runs) (n := 63) (k := 20) (x := "script") (CX := fun _ => L2.CX0) (sp := fun w => Ap.spLaw _) rfl (by decide) rfl ⟨rfl, by decide, by decide⟩ (fun w h Y => PySem.W.kIn_of Y) ?F (fun _ _ a ns hl _ hS => ⟨a, ns, rfl, hS, hl, fun _ => rfl⟩) (fun _ _ _ _ _ h => h)
  case F =>
    intro w mg fa h KX G XG hmg
    obtain ⟨C_Network, L_Network, n_Network_sent, n_Network__messages, ⟨f_Network___init__, fd_Network___init__, D_Network___init__⟩, ⟨f_Network__check_number, fd_Network__check_number, D_Network__check_number⟩, ⟨f_Network_send, fd_Network_send, D_Network_send⟩, ⟨f_Network_message, fd_Network_message, D_Network_message⟩, ⟨f_Network_drop, fd_Network_drop, D_Network_drop⟩, ⟨f_Network_numbers, fd_Network_numbers, D_Network_numbers⟩, ⟨f_Network___len__, fd_Network___len__, D_Network___len__⟩, ⟨f_Network___iter__, fd_Network___iter__, D_Network___iter__⟩⟩ : ∃ C, Ap.Kl _ mg "Network" C ∧ L2.NoAttr _ C "sent" ∧ L2.NoAttr _ C "_messages" ∧ (∃ f fd, Ap.Dm _ C "__init__" "Network.__init__" Ap.s_Network___init__ ["self"] f fd) ∧ (∃ f fd, Ap.Dm _ C "_check_number" "Network._check_number" Ap.s_Network__check_number ["self", "number"] f fd) ∧ (∃ f fd, Ap.Dm _ C "send" "Network.send" Ap.s_Network_send ["self", "message"] f fd) ∧ (∃ f fd, Ap.Dm _ C "message" "Network.message" Ap.s_Network_message ["self", "number"] f fd) ∧ (∃ f fd, Ap.Dm _ C "drop" "Network.drop" Ap.s_Network_drop ["self", "number"] f fd) ∧ (∃ f fd, Ap.Dm _ C "numbers" "Network.numbers" Ap.s_Network_numbers ["self"] f fd) ∧ (∃ f fd, Ap.Dm _ C "__len__" "Network.__len__" Ap.s_Network___len__ ["self"] f fd) ∧ (∃ f fd, Ap.Dm _ C "__iter__" "Network.__iter__" Ap.s_Network___iter__ ["self"] f fd) := by
      refine' ⟨_, Ap.kl_mk KX G ?aC ?pg ?hd ?po ?sa ?mk ?kp, Ap.na_mk KX ?n_sent, Ap.na_mk KX ?n__messages, Ap.dm_mk KX ?a___init__ ?i___init__ ?l___init__ ?c___init__ ?k___init__ ?b___init__, Ap.dm_mk KX ?a__check_number ?i__check_number ?l__check_number ?c__check_number ?k__check_number ?b__check_number, Ap.dm_mk KX ?a_send ?i_send ?l_send ?c_send ?k_send ?b_send, Ap.dm_mk KX ?a_message ?i_message ?l_message ?c_message ?k_message ?b_message, Ap.dm_mk KX ?a_drop ?i_drop ?l_drop ?c_drop ?k_drop ?b_drop, Ap.dm_mk KX ?a_numbers ?i_numbers ?l_numbers ?c_numbers ?k_numbers ?b_numbers, Ap.dm_mk KX ?a___len__ ?i___len__ ?l___len__ ?c___len__ ?k___len__ ?b___len__, Ap.dm_mk KX ?a___iter__ ?i___iter__ ?l___iter__ ?c___iter__ ?k___iter__ ?b___iter__⟩
      (case aC => k_is); (case pg => k_is); (case hd => k_is); (case po => k_is); (case sa => k_is); (case mk => k_is); (case kp => k_is); (case n_sent => k_is); (case n__messages => k_is); (case a___init__ => k_is); (case i___init__ => k_is); (case l___init__ => k_is); (case c___init__ => k_is); (case k___init__ => k_is); (case a__check_number => k_is); (case i__check_number => k_is); (case l__check_number => k_is); (case c__check_number => k_is); (case k__check_number => k_is); (case a_send => k_is); (case i_send => k_is); (case l_send => k_is); (case c_send => k_is); (case k_send => k_is); (case a_message => k_is); (case i_message => k_is); (case l_message => k_is); (case c_message => k_is); (case k_message => k_is); (case a_drop => k_is); (case i_drop => k_is); (case l_drop => k_is); (case c_drop => k_is); (case k_drop => k_is); (case a_numbers => k_is); (case i_numbers => k_is); (case l_numbers => k_is); (case c_numbers => k_is); (case k_numbers => k_is); (case a___len__ => k_is); (case i___len__ => k_is); (case l___len__ => k_is); (case c___len__ => k_is); (case k___len__ => k_is); (case a___iter__ => k_is); (case i___iter__ => k_is); (case l___iter__ => k_is); (case c___iter__ => k_is); (case k___iter__ => k_is)
      (case b___init__ => exact fun _ _ _ _ _ _ us hl => match us, hl with | [_], _ => rfl)
      (case b__check_number => exact fun _ _ _ _ _ _ us hl => match us, hl with | [_, _], _ => rfl)
      (case b_send => exact fun _ _ _ _ _ _ us hl => match us, hl with | [_, _], _ => rfl)
      (case b_message => exact fun _ _ _ _ _ _ us hl => match us, hl with | [_, _], _ => rfl)
      (case b_drop => exact fun _ _ _ _ _ _ us hl => match us, hl with | [_, _], _ => rfl)
      (case b_numbers => exact fun _ _ _ _ _ _ us hl => match us, hl with | [_], _ => rfl)
      (case b___len__ => exact fun _ _ _ _ _ _ us hl => match us, hl with | [_], _ => rfl)
      (case b___iter__ => exact fun _ _ _ _ _ _ us hl => match us, hl with | [_], _ => rfl)
    obtain ⟨C_BadValue, B_BadValue, E_BadValue, g_BadValue_HallError, n_BadValue⟩ : ∃ C B, Ap.Err _ mg "BadValue" C B ∧ mg "HallError" = some (.ref B) ∧ PySem.W.nsIn _ mainGlobals "BadValue" = some (some (.ref C)) := by
      refine' ⟨_, _, (Ap.err_mk (y := "HallError") KX G ?aC ?aB ?kp ?ex ?bs ?ty ?ss ?hg ?hk ?hd ?ha ?hn ?ht ?hm ?dB ?tB ?sb ?sv).1, (PySem.W.mg_of KX G ?aB2), Ap.ns_at KX ?nx⟩
      (case aC => k_is)
      (case aB => k_is)
      (case kp => k_is)
      (case ex => k_exc)
      (case bs => k_is)
      (case ty => k_is)
      (case ss => k_is)
      (case hg => k_is)
      (case hk => k_is)
      (case hd => k_is)
      (case ha => k_is)
      (case hn => k_is)
      (case ht => k_is)
      (case hm => k_is)
      (case dB => k_is)
      (case tB => k_is)
      (case sb => k_is)
      (case sv => k_is)
      (case aB2 => k_is); (case nx => k_is)
    obtain ⟨C_Unknown, B_Unknown, E_Unknown, g_Unknown_HallError, n_Unknown⟩ : ∃ C B, Ap.Err _ mg "Unknown" C B ∧ mg "HallError" = some (.ref B) ∧ PySem.W.nsIn _ mainGlobals "Unknown" = some (some (.ref C)) := by
      refine' ⟨_, _, (Ap.err_mk (y := "HallError") KX G ?aC ?aB ?kp ?ex ?bs ?ty ?ss ?hg ?hk ?hd ?ha ?hn ?ht ?hm ?dB ?tB ?sb ?sv).1, (PySem.W.mg_of KX G ?aB2), Ap.ns_at KX ?nx⟩
      (case aC => k_is)
      (case aB => k_is)
      (case kp => k_is)
      (case ex => k_exc)
      (case bs => k_is)
      (case ty => k_is)
      (case ss => k_is)
      (case hg => k_is)
      (case hk => k_is)
      (case hd => k_is)
      (case ha => k_is)
      (case hn => k_is)
      (case ht => k_is)
      (case hm => k_is)
      (case dB => k_is)
      (case tB => k_is)
      (case sb => k_is)
      (case sv => k_is)
      (case aB2 => k_is); (case nx => k_is)
    obtain ⟨A__FORMS, D__FORMS⟩ : ∃ a, Ap.KdC _ w mg "_FORMS" a Ap.FRM := by
      refine' ⟨_, Ap.kdc_mk KX G ?a ?d ?k⟩
      (case a => k_is); (case d => kernel_rfl); (case k => kernel_rfl)
    obtain ⟨t_NUMBER_MOST, c_NUMBER_MOST⟩ : ∃ t, mg "NUMBER_MOST" = some (.int (1000000000000000000) t) := by
      obtain ⟨v, a, b⟩ := XG.2.val _ List.mem_cons_self
      cases b
      exact ⟨_, a⟩
    obtain ⟨t_TEXT_MOST, c_TEXT_MOST⟩ : ∃ t, mg "TEXT_MOST" = some (.int (200) t) := by
      refine' ⟨_, (PySem.W.mg_of KX G ?c).trans ?e⟩
      (case c => k_is)
      (case e => exact rfl)
    obtain ⟨t__PERCENT, c__PERCENT⟩ : ∃ t, mg "_PERCENT" = some (.int (37) t) := by
      refine' ⟨_, (PySem.W.mg_of KX G ?c).trans ?e⟩
      (case c => k_is)
      (case e => exact rfl)
    obtain ⟨t__DEED_MOST, c__DEED_MOST⟩ : ∃ t, mg "_DEED_MOST" = some (.int (4) t) := by
      refine' ⟨_, (PySem.W.mg_of KX G ?c).trans ?e⟩
      (case c => k_is)
      (case e => exact rfl)
    obtain ⟨t_JOURNAL, c_JOURNAL⟩ : ∃ t, mg "JOURNAL" = some (.str "journal" t) := by
      refine' ⟨_, (PySem.W.mg_of KX G ?c).trans ?e⟩
      (case c => k_is)
      (case e => exact rfl)
    obtain ⟨t_MANAGER, c_MANAGER⟩ : ∃ t, mg "MANAGER" = some (.str "manager" t) := by
      refine' ⟨_, (PySem.W.mg_of KX G ?c).trans ?e⟩
      (case c => k_is)
      (case e => exact rfl)
    obtain ⟨t_CLIENT, c_CLIENT⟩ : ∃ t, mg "CLIENT" = some (.str "client" t) := by
      refine' ⟨_, (PySem.W.mg_of KX G ?c).trans ?e⟩
      (case c => k_is)
      (case e => exact rfl)
    obtain ⟨f_is_integer, fd_is_integer, D_is_integer⟩ : ∃ f fd, Ap.Df _ mg "is_integer" Ap.s_is_integer ["thing"] f fd := by
      refine' Ap.df_mk KX G ?a ?l ?c ?k ?b
      (case a => k_is); (case l => k_is); (case c => k_is); (case k => k_is); (case b => exact fun _ _ _ _ _ _ us hl => match us, hl with | [_], _ => rfl)
    obtain ⟨f_is_number, fd_is_number, D_is_number⟩ : ∃ f fd, Ap.Df _ mg "is_number" Ap.s_is_number ["thing"] f fd := by
      refine' Ap.df_mk KX G ?a ?l ?c ?k ?b
      (case a => k_is); (case l => k_is); (case c => k_is); (case k => k_is); (case b => exact fun _ _ _ _ _ _ us hl => match us, hl with | [_], _ => rfl)
    obtain ⟨f__may_stand_in_text, fd__may_stand_in_text, D__may_stand_in_text⟩ : ∃ f fd, Ap.Df _ mg "_may_stand_in_text" Ap.s__may_stand_in_text ["code"] f fd := by
      refine' Ap.df_mk KX G ?a ?l ?c ?k ?b
      (case a => k_is); (case l => k_is); (case c => k_is); (case k => k_is); (case b => exact fun _ _ _ _ _ _ us hl => match us, hl with | [_], _ => rfl)
    obtain ⟨f_is_text, fd_is_text, D_is_text⟩ : ∃ f fd, Ap.Df _ mg "is_text" Ap.s_is_text ["thing"] f fd := by
      refine' Ap.df_mk KX G ?a ?l ?c ?k ?b
      (case a => k_is); (case l => k_is); (case c => k_is); (case k => k_is); (case b => exact fun _ _ _ _ _ _ us hl => match us, hl with | [_], _ => rfl)
    obtain ⟨f_is_plain, fd_is_plain, D_is_plain⟩ : ∃ f fd, Ap.Df _ mg "is_plain" Ap.s_is_plain ["thing"] f fd := by
      refine' Ap.df_mk KX G ?a ?l ?c ?k ?b
      (case a => k_is); (case l => k_is); (case c => k_is); (case k => k_is); (case b => exact fun _ _ _ _ _ _ us hl => match us, hl with | [_], _ => rfl)
    obtain ⟨f_is_deed, fd_is_deed, D_is_deed⟩ : ∃ f fd, Ap.Df _ mg "is_deed" Ap.s_is_deed ["thing"] f fd := by
      refine' Ap.df_mk KX G ?a ?l ?c ?k ?b
      (case a => k_is); (case l => k_is); (case c => k_is); (case k => k_is); (case b => exact fun _ _ _ _ _ _ us hl => match us, hl with | [_], _ => rfl)
    obtain ⟨f_is_machine, fd_is_machine, D_is_machine⟩ : ∃ f fd, Ap.Df _ mg "is_machine" Ap.s_is_machine ["thing"] f fd := by
      refine' Ap.df_mk KX G ?a ?l ?c ?k ?b
      (case a => k_is); (case l => k_is); (case c => k_is); (case k => k_is); (case b => exact fun _ _ _ _ _ _ us hl => match us, hl with | [_], _ => rfl)
    obtain ⟨f__is_log_value, fd__is_log_value, D__is_log_value⟩ : ∃ f fd, Ap.Df _ mg "_is_log_value" Ap.s__is_log_value ["thing"] f fd := by
      refine' Ap.df_mk KX G ?a ?l ?c ?k ?b
      (case a => k_is); (case l => k_is); (case c => k_is); (case k => k_is); (case b => exact fun _ _ _ _ _ _ us hl => match us, hl with | [_], _ => rfl)
    obtain ⟨f__fits, fd__fits, D__fits⟩ : ∃ f fd, Ap.Df _ mg "_fits" Ap.s__fits ["item", "kind"] f fd := by
      refine' Ap.df_mk KX G ?a ?l ?c ?k ?b
      (case a => k_is); (case l => k_is); (case c => k_is); (case k => k_is); (case b => exact fun _ _ _ _ _ _ us hl => match us, hl with | [_, _], _ => rfl)
    obtain ⟨f_is_body, fd_is_body, D_is_body⟩ : ∃ f fd, Ap.Df _ mg "is_body" Ap.s_is_body ["sender", "receiver", "body"] f fd := by
      refine' Ap.df_mk KX G ?a ?l ?c ?k ?b
      (case a => k_is); (case l => k_is); (case c => k_is); (case k => k_is); (case b => exact fun _ _ _ _ _ _ us hl => match us, hl with | [_, _, _], _ => rfl)
    obtain ⟨f_is_message, fd_is_message, D_is_message⟩ : ∃ f fd, Ap.Df _ mg "is_message" Ap.s_is_message ["thing"] f fd := by
      refine' Ap.df_mk KX G ?a ?l ?c ?k ?b
      (case a => k_is); (case l => k_is); (case c => k_is); (case k => k_is); (case b => exact fun _ _ _ _ _ _ us hl => match us, hl with | [_], _ => rfl)
    obtain ⟨f__law_stream, fd__law_stream, D__law_stream⟩ : ∃ f fd, Ap.Df _ mg "_law_stream" Ap.s__law_stream ["cell", "k"] f fd := by
      refine' Ap.df_mk KX G ?a ?l ?c ?k ?b
      (case a => k_is); (case l => k_is); (case c => k_is); (case k => k_is); (case b => exact fun _ _ _ _ _ _ us hl => match us, hl with | [_, _], _ => rfl)
    obtain ⟨f__law_next, fd__law_next, D__law_next⟩ : ∃ f fd, Ap.Df _ mg "_law_next" Ap.s__law_next ["stream", "size"] f fd := by
      refine' Ap.df_mk KX G ?a ?l ?c ?k ?b
      (case a => k_is); (case l => k_is); (case c => k_is); (case k => k_is); (case b => exact fun _ _ _ _ _ _ us hl => match us, hl with | [_, _], _ => rfl)
    obtain ⟨f__law_machine, fd__law_machine, D__law_machine⟩ : ∃ f fd, Ap.Df _ mg "_law_machine" Ap.s__law_machine ["stream"] f fd := by
      refine' Ap.df_mk KX G ?a ?l ?c ?k ?b
      (case a => k_is); (case l => k_is); (case c => k_is); (case k => k_is); (case b => exact fun _ _ _ _ _ _ us hl => match us, hl with | [_], _ => rfl)
    obtain ⟨f__law_forms, fd__law_forms, D__law_forms⟩ : ∃ f fd, Ap.Df _ mg "_law_forms" Ap.s__law_forms [] f fd := by
      refine' Ap.df_mk KX G ?a ?l ?c ?k ?b
      (case a => k_is); (case l => k_is); (case c => k_is); (case k => k_is); (case b => exact fun _ _ _ _ _ _ us hl => match us, hl with | [], _ => rfl)
    obtain ⟨f__law_number, fd__law_number, D__law_number⟩ : ∃ f fd, Ap.Df _ mg "_law_number" Ap.s__law_number ["stream"] f fd := by
      refine' Ap.df_mk KX G ?a ?l ?c ?k ?b
      (case a => k_is); (case l => k_is); (case c => k_is); (case k => k_is); (case b => exact fun _ _ _ _ _ _ us hl => match us, hl with | [_], _ => rfl)
    obtain ⟨f__law_deed, fd__law_deed, D__law_deed⟩ : ∃ f fd, Ap.Df _ mg "_law_deed" Ap.s__law_deed ["stream"] f fd := by
      refine' Ap.df_mk KX G ?a ?l ?c ?k ?b
      (case a => k_is); (case l => k_is); (case c => k_is); (case k => k_is); (case b => exact fun _ _ _ _ _ _ us hl => match us, hl with | [_], _ => rfl)
    obtain ⟨f__law_thing, fd__law_thing, D__law_thing⟩ : ∃ f fd, Ap.Df _ mg "_law_thing" Ap.s__law_thing ["stream"] f fd := by
      refine' Ap.df_mk KX G ?a ?l ?c ?k ?b
      (case a => k_is); (case l => k_is); (case c => k_is); (case k => k_is); (case b => exact fun _ _ _ _ _ _ us hl => match us, hl with | [_], _ => rfl)
    obtain ⟨f__law_field, fd__law_field, D__law_field⟩ : ∃ f fd, Ap.Df _ mg "_law_field" Ap.s__law_field ["stream", "mark"] f fd := by
      refine' Ap.df_mk KX G ?a ?l ?c ?k ?b
      (case a => k_is); (case l => k_is); (case c => k_is); (case k => k_is); (case b => exact fun _ _ _ _ _ _ us hl => match us, hl with | [_, _], _ => rfl)
    obtain ⟨f__law_body, fd__law_body, D__law_body⟩ : ∃ f fd, Ap.Df _ mg "_law_body" Ap.s__law_body ["stream", "row"] f fd := by
      refine' Ap.df_mk KX G ?a ?l ?c ?k ?b
      (case a => k_is); (case l => k_is); (case c => k_is); (case k => k_is); (case b => exact fun _ _ _ _ _ _ us hl => match us, hl with | [_, _], _ => rfl)
    obtain ⟨f__law_is, fd__law_is, D__law_is⟩ : ∃ f fd, Ap.Df _ mg "_law_is" Ap.s__law_is ["actual", "due"] f fd := by
      refine' Ap.df_mk KX G ?a ?l ?c ?k ?b
      (case a => k_is); (case l => k_is); (case c => k_is); (case k => k_is); (case b => exact fun _ _ _ _ _ _ us hl => match us, hl with | [_, _], _ => rfl)
    obtain ⟨f__law_equal, fd__law_equal, D__law_equal⟩ : ∃ f fd, Ap.Df _ mg "_law_equal" Ap.s__law_equal ["actual", "due"] f fd := by
      refine' Ap.df_mk KX G ?a ?l ?c ?k ?b
      (case a => k_is); (case l => k_is); (case c => k_is); (case k => k_is); (case b => exact fun _ _ _ _ _ _ us hl => match us, hl with | [_, _], _ => rfl)
    obtain ⟨f__law_message, fd__law_message, D__law_message⟩ : ∃ f fd, Ap.Df _ mg "_law_message" Ap.s__law_message ["stream"] f fd := by
      refine' Ap.df_mk KX G ?a ?l ?c ?k ?b
      (case a => k_is); (case l => k_is); (case c => k_is); (case k => k_is); (case b => exact fun _ _ _ _ _ _ us hl => match us, hl with | [_], _ => rfl)
    obtain ⟨f__law_dropped, fd__law_dropped, D__law_dropped⟩ : ∃ f fd, Ap.Df _ mg "_law_dropped" Ap.s__law_dropped ["network", "number"] f fd := by
      refine' Ap.df_mk KX G ?a ?l ?c ?k ?b
      (case a => k_is); (case l => k_is); (case c => k_is); (case k => k_is); (case b => exact fun _ _ _ _ _ _ us hl => match us, hl with | [_, _], _ => rfl)
    obtain ⟨f__law_asked, fd__law_asked, D__law_asked⟩ : ∃ f fd, Ap.Df _ mg "_law_asked" Ap.s__law_asked ["network", "number"] f fd := by
      refine' Ap.df_mk KX G ?a ?l ?c ?k ?b
      (case a => k_is); (case l => k_is); (case c => k_is); (case k => k_is); (case b => exact fun _ _ _ _ _ _ us hl => match us, hl with | [_, _], _ => rfl)
    obtain ⟨f__law_refused, fd__law_refused, D__law_refused⟩ : ∃ f fd, Ap.Df _ mg "_law_refused" Ap.s__law_refused ["network"] f fd := by
      refine' Ap.df_mk KX G ?a ?l ?c ?k ?b
      (case a => k_is); (case l => k_is); (case c => k_is); (case k => k_is); (case b => exact fun _ _ _ _ _ _ us hl => match us, hl with | [_], _ => rfl)
    obtain ⟨f__law_holds, fd__law_holds, D__law_holds⟩ : ∃ f fd, Ap.Df _ mg "_law_holds" Ap.s__law_holds ["network", "messages"] f fd := by
      refine' Ap.df_mk KX G ?a ?l ?c ?k ?b
      (case a => k_is); (case l => k_is); (case c => k_is); (case k => k_is); (case b => exact fun _ _ _ _ _ _ us hl => match us, hl with | [_, _], _ => rfl)
    obtain ⟨f__law_step, fd__law_step, D__law_step⟩ : ∃ f fd, Ap.Df _ mg "_law_step" Ap.s__law_step ["network", "messages", "stream"] f fd := by
      refine' Ap.df_mk KX G ?a ?l ?c ?k ?b
      (case a => k_is); (case l => k_is); (case c => k_is); (case k => k_is); (case b => exact fun _ _ _ _ _ _ us hl => match us, hl with | [_, _, _], _ => rfl)
    obtain ⟨fd, hb, F⟩ : ∃ fd, (∀ (s : Shared) (v : Value), BindsTo s fd ⟨[v], []⟩ [("script", v)]) ∧ L2.Fun _ "law" "law" Ap.s_law fa fd := by
      refine' Ap.law_mk KX G hmg ?a ?l ?c ?k ?b
      (case a => k_is); (case l => k_is); (case c => k_is); (case k => k_is); (case b => exact fun _ _ _ _ _ _ _ _ => .of_eq rfl)
    refine ⟨fd, hb, fun base _ _ => Ap.ok_law F D_is_integer D_is_number D__may_stand_in_text D_is_text D_is_plain D_is_deed D_is_machine D__is_log_value D__fits D_is_body D_is_message D__law_stream D__law_next D__law_machine D__law_forms D__law_number D__law_deed D__law_thing D__law_field D__law_body D__law_is D__law_equal D__law_message D__law_dropped D__law_asked D__law_refused D__law_holds D__law_step D_Network___init__ D_Network__check_number D_Network_send D_Network_message D_Network_drop D_Network_numbers D_Network___len__ D_Network___iter__ (Ap.big_lit c_NUMBER_MOST) c_TEXT_MOST c__PERCENT c__DEED_MOST c_JOURNAL c_MANAGER c_CLIENT E_BadValue E_Unknown D__FORMS L_Network ⟨L_Network.cl, n_Network_sent, n_Network__messages⟩ ?T⟩
    refine' ⟨PySem.W.mg_none_of KX G ?z0, PySem.W.mg_none_of KX G ?z1, PySem.W.mg_none_of KX G ?z2, PySem.W.mg_none_of KX G ?z3, PySem.W.mg_none_of KX G ?z4, PySem.W.mg_none_of KX G ?z5, PySem.W.mg_none_of KX G ?z6, PySem.W.mg_none_of KX G ?z7, PySem.W.mg_none_of KX G ?z8, PySem.W.mg_none_of KX G ?z9, PySem.W.mg_none_of KX G ?z10, PySem.W.mg_none_of KX G ?z11, PySem.W.mg_none_of KX G ?z12, PySem.W.mg_none_of KX G ?z13, PySem.W.mg_none_of KX G ?z14⟩
    (case z0 => k_is); (case z1 => k_is); (case z2 => k_is); (case z3 => k_is); (case z4 => k_is); (case z5 => k_is); (case z6 => k_is); (case z7 => k_is); (case z8 => k_is); (case z9 => k_is); (case z10 => k_is); (case z11 => k_is); (case z12 => k_is); (case z13 => k_is); (case z14 => k_is)
#print axioms PySem.Challenge.cw_appendhall_k67_whole_network_runs_holds
