import PyProof.Rows.All
import Wide.All
import OpenK.AllK
import Wide.FinOn
import HandS.ForMost
import HandS.IsInst
import HandS.Evl
import HandS.EndBits
import HandS.ExcOwn
import HandS.WordsExc
import HandS.TryMany
import HandS.TryOnly
import HandS.RaiseMore
import HandS.FStr
import HandS.HotCalls
import HandS.ExcIs
import HandS.Deep
import PyProof.GenCompD
import HandS.AnyAll
import HandS.EndTab
import HandS.Nested
import HandS.Style
import PySem.Challenge.RW_guardrows_k10_rows_under_guard
set_option Elab.async false
set_option linter.all false
set_option maxRecDepth 100000
namespace L2
open PySem PySem.Spec
theorem PE.imp {X : Cx} {e : Expr} {t u : TE} (h : PE X e t) (k : ∀ σ H Q, u σ H Q → t σ H Q) : PE X e u := ⟨fun pins s σ H Q I q => h.run pins s σ H Q I (k σ H Q q)⟩
theorem PT.imp {X : Cx} {e : Expr} {t u : TT} (h : PT X e t) (k : ∀ σ H Q, u σ H Q → t σ H Q) : PT X e u := ⟨fun pins s σ H Q I q => h.run pins s σ H Q I (k σ H Q q)⟩
theorem PA.imp {X : Cx} {e : List Expr} {t u : TA} (h : PA X e t) (k : ∀ σ H Q, u σ H Q → t σ H Q) : PA X e u := ⟨fun pos pins s σ H Q I q => h.run pos pins s σ H Q I (k σ H Q q)⟩
theorem PS.imp {X : Cx} {e : Stmt} {t u : TS} (h : PS X e t) (k : ∀ D σ H, u D σ H → t D σ H) : PS X e u := ⟨fun pins s σ H D I q => h.run pins s σ H D I (k D σ H q)⟩
theorem PSs.imp {X : Cx} {e : List Stmt} {t u : TS} (h : PSs X e t) (k : ∀ D σ H, u D σ H → t D σ H) : PSs X e u := ⟨fun pins s σ H D I q => h.run pins s σ H D I (k D σ H q)⟩
theorem PW.imp {X : Cx} {e : Expr} {t u : TT} (h : PW X e t) (k : ∀ σ H Q, u σ H Q → t σ H Q) : PW X e u := ⟨fun wh pins s σ H Q I q => h.run wh pins s σ H Q I (k σ H Q q)⟩
end L2
namespace G
open PySem PySem.Spec PyProof.Rows L2
open Evl (Ex ex_l ex_t)
abbrev St := L2.St

/-! ### data in the heap -/
mutual
theorem dp_ex {K : PySem.W.Frag} {H H' : Hp} (e : Ex H H') : ∀ (d : PyData) (v : V), Dp K H v d → Dp K H' v d
  | .none, _, h => by cases h; exact .non
  | .bool b, _, h => by cases h; exact .bl b
  | .int i, _, h => by cases h; exact .int i
  | .str x, _, h => by cases h; exact .str x
  | .list ds, _, h => by
    cases h with
    | lst hs ha => exact .lst (ex_l e hs) (dps_ex e ds _ ha)
  | .tuple ds, _, h => by
    cases h with
    | tup hs ha => exact .tup (ex_t e hs) (dps_ex e ds _ ha)
  | .dict _, _, h => by cases h
theorem dps_ex {K : PySem.W.Frag} {H H' : Hp} (e : Ex H H') : ∀ (ds : List PyData) (vs : List V), DpAll K H vs ds → DpAll K H' vs ds
  | [], _, h => by cases h; exact .nil
  | d :: ds, _, h => by
    cases h with
    | cons h1 h2 => exact .cons (dp_ex e d _ h1) (dps_ex e ds _ h2)
end
theorem dps_len {K : PySem.W.Frag} {H : Hp} : ∀ {vs : List V} {ds : List PyData}, DpAll K H vs ds → vs.length = ds.length
  | _, _, .nil => rfl
  | _, _, .cons _ t => congrArg (· + 1) (dps_len t)
theorem dps_get {K : PySem.W.Frag} {H : Hp} : ∀ {vs : List V} {ds : List PyData} {i : Nat} {d : PyData}, DpAll K H vs ds → ds[i]? = some d → ∃ v, vs[i]? = some v ∧ Dp K H v d
  | _, _, _, _, .nil, e => by simp at e
  | _, _, 0, _, .cons h _, e => by simp at e; subst e; exact ⟨_, rfl, h⟩
  | _, _, i + 1, d, .cons _ t, e => by
    obtain ⟨v, h1, h2⟩ := dps_get (i := i) (d := d) t (by simpa using e)
    exact ⟨v, by simpa using h1, h2⟩
theorem dps_getV {K : PySem.W.Frag} {H : Hp} {vs : List V} {ds : List PyData} {i : Nat} {v : V} (h : DpAll K H vs ds) (e : vs[i]? = some v) : ∃ d, ds[i]? = some d ∧ Dp K H v d := by
  obtain ⟨hi, _⟩ := List.getElem?_eq_some_iff.mp e
  have hi' : i < ds.length := by rw [← dps_len h]; exact hi
  obtain ⟨v', e', hd⟩ := dps_get h (List.getElem?_eq_getElem hi')
  rw [e] at e'
  cases e'
  exact ⟨_, List.getElem?_eq_getElem hi', hd⟩
theorem dps_app {K : PySem.W.Frag} {H : Hp} : ∀ {vs ws : List V} {ds es : List PyData}, DpAll K H vs ds → DpAll K H ws es → DpAll K H (vs ++ ws) (ds ++ es)
  | _, _, _, _, .nil, s => s
  | _, _, _, _, .cons h t, s => .cons h (dps_app t s)
theorem dps_set {K : PySem.W.Frag} {H : Hp} {v : V} {d : PyData} (h : Dp K H v d) : ∀ {vs : List V} {ds : List PyData} (i : Nat), DpAll K H vs ds → DpAll K H (vs.set i v) (ds.set i d)
  | _, _, _, .nil => .nil
  | _, _, 0, .cons _ t => .cons h t
  | _, _, i + 1, .cons g t => .cons g (dps_set h i t)
theorem dps_take {K : PySem.W.Frag} {H : Hp} : ∀ {vs : List V} {ds : List PyData} (n : Nat), DpAll K H vs ds → DpAll K H (vs.take n) (ds.take n)
  | _, _, 0, _ => .nil
  | _, _, _ + 1, .nil => .nil
  | _, _, n + 1, .cons r t => .cons r (dps_take n t)
theorem dps_drop {K : PySem.W.Frag} {H : Hp} : ∀ {vs : List V} {ds : List PyData} (n : Nat), DpAll K H vs ds → DpAll K H (vs.drop n) (ds.drop n)
  | _, _, 0, r => r
  | _, _, _ + 1, .nil => .nil
  | _, _, n + 1, .cons _ t => dps_drop n t
theorem dps_ints {K : PySem.W.Frag} {H : Hp} : ∀ ns : List Int, DpAll K H (ns.map V.int) (ns.map PyData.int)
  | [] => .nil
  | n :: ns => .cons (.int n) (dps_ints ns)
theorem ints_of {K : PySem.W.Frag} {H : Hp} : ∀ {ns : List Int} {vs : List V}, DpAll K H vs (ns.map PyData.int) → vs = ns.map V.int
  | [], _, .nil => rfl
  | n :: ns, _, .cons h t => by
    cases h
    rw [ints_of t]
    rfl
theorem bools_of {K : PySem.W.Frag} {H : Hp} : ∀ {ns : List Bool} {vs : List V}, DpAll K H vs (ns.map PyData.bool) → vs = ns.map V.bl
  | [], _, .nil => rfl
  | n :: ns, _, .cons h t => by
    cases h
    rw [bools_of t]
    rfl

theorem shaped_int (i : Int) : SeqAt.shaped (.int i) = true := by simp [SeqAt.shaped, PyData.canLay0, PyData.depth]
theorem shaped_bool (i : Bool) : SeqAt.shaped (.bool i) = true := by simp [SeqAt.shaped, PyData.canLay0, PyData.depth]
theorem shaped_none : SeqAt.shaped .none = true := by simp [SeqAt.shaped, PyData.canLay0, PyData.depth]
theorem canLay_ints : ∀ ns : List Int, PyData.canLayAll0 (ns.map PyData.int) = true
  | [] => by simp [PyData.canLayAll0]
  | n :: ns => by simp [PyData.canLayAll0, PyData.canLay0, canLay_ints ns]
theorem eqv_int (i j : Int) : PyData.eqv (.int i) (.int j) = decide (i = j) := by simp [PyData.eqv, Bool.beq_eq_decide_eq]
theorem eqv_bool (i j : Bool) : PyData.eqv (.bool i) (.bool j) = (i == j) := by simp [PyData.eqv]
theorem depth_ints : ∀ ns : List Int, PyData.depthAll (ns.map PyData.int) = 0
  | [] => by simp [PyData.depthAll]
  | n :: ns => by simp [PyData.depthAll, PyData.depth, depth_ints ns]
theorem shaped_ints (ns : List Int) : SeqAt.shaped (.list (ns.map PyData.int)) = true := by simp [SeqAt.shaped, PyData.canLay0, PyData.depth, canLay_ints, depth_ints]
theorem shaped_str {x : Str} (h : PyData.strOk x = true) : SeqAt.shaped (.str x) = true := by simp [SeqAt.shaped, PyData.canLay0, PyData.depth, h]
/-! ### the pair of heaps: H0 what is data, H all -/
structure Ext (H0 H H0' H' : Hp) : Prop where
  e0 : Ex H0 H0'
  e1 : Ex H H'
  e2 : Ex H0' H'
  fr : ∀ p, H0 p = none → H p ≠ none → H0' p = none
theorem Ext.refl {H0 H : Hp} (e : Ex H0 H) : Ext H0 H H0 H := ⟨Ex.refl _, Ex.refl _, e, fun _ h _ => h⟩
theorem ne_none {H H' : Hp} (e : Ex H H') {p : Addr} (h : H p ≠ none) : H' p ≠ none := by
  cases q : H p with
  | none => exact absurd q h
  | some o => rw [e p o q]; exact fun z => nomatch z
theorem Ext.trans {H0 H H1 H' H2 H'' : Hp} (a : Ext H0 H H1 H') (b : Ext H1 H' H2 H'') : Ext H0 H H2 H'' :=
  ⟨a.e0.trans b.e0, a.e1.trans b.e1, b.e2, fun p h1 h2 => b.fr p (a.fr p h1 h2) (ne_none a.e1 h2)⟩
theorem free0 {H0 H : Hp} (e : Ex H0 H) {p : Addr} (h : H p = none) : H0 p = none := Evl.fresh_back e h
theorem ex_upd {H0 H : Hp} {p : Addr} {o : HO} (e : Ex H0 H) (h : H p = none) : Ex (upd H0 p o) (upd H p o) := fun a u q => by
  by_cases ha : a = p
  · subst ha; rw [upd_same] at q ⊢; exact q
  · rw [upd_ne ha] at q ⊢; exact e a u q
/-- a new piece of data -/
theorem Ext.new {H0 H : Hp} {p : Addr} {o : HO} (e : Ex H0 H) (h : H p = none) : Ext H0 H (upd H0 p o) (upd H p o) :=
  ⟨Ex.new (free0 e h), Ex.new h, ex_upd e h, fun q h1 h2 => by
    have : q ≠ p := fun z => h2 (by rw [z]; exact h)
    rw [upd_ne this]; exact h1⟩
/-- a new object that is no data -/
theorem Ext.newH {H0 H : Hp} {p : Addr} {o : HO} (e : Ex H0 H) (h : H p = none) : Ext H0 H H0 (upd H p o) :=
  ⟨Ex.refl _, Ex.new h, e.trans (Ex.new h), fun q h1 _ => h1⟩

structure Bs where
  H0 : Hp
  H : Hp
  ks : List Addr
  E : WX := fun _ _ _ _ => False
structure Fra (B : Bs) (H0 H : Hp) : Prop where
  e0 : Ex B.H0 H0
  e1 : ∀ b o, B.H b = some o → b ∉ B.ks → H b = some o
  e2 : Ex H0 H
  fr : ∀ p, B.H0 p = none → B.H p ≠ none → H0 p = none
  th : ∀ p, B.H p ≠ none → H p ≠ none
theorem Fra.ext {B : Bs} {H0 H H0' H' : Hp} (f : Fra B H0 H) (x : Ext H0 H H0' H') : Fra B H0' H' :=
  ⟨f.e0.trans x.e0, fun b o h n => x.e1 b o (f.e1 b o h n), x.e2, fun p h1 h2 => x.fr p (f.fr p h1 h2) (f.th p h2), fun p h => ne_none x.e1 (f.th p h)⟩
theorem Fra.refl {H0 H : Hp} {ks : List Addr} {E : WX} (e : Ex H0 H) : Fra ⟨H0, H, ks, E⟩ H0 H := ⟨Ex.refl _, fun _ _ h _ => h, e, fun _ h _ => h, fun _ h => h⟩
theorem Fra.toExt {H0 H H0' H' : Hp} {E : WX} (f : Fra ⟨H0, H, [], E⟩ H0' H') : Ext H0 H H0' H' := ⟨f.e0, fun b o h => f.e1 b o h (fun z => nomatch z), f.e2, f.fr⟩
theorem Fra.ofExt {H0 H H0' H' : Hp} {ks : List Addr} {E : WX} (x : Ext H0 H H0' H') : Fra ⟨H0, H, ks, E⟩ H0' H' := ⟨x.e0, fun b o h _ => x.e1 b o h, x.e2, x.fr, fun _ h => ne_none x.e1 h⟩
theorem Fra.trans {B : Bs} {H0 H H0' H' : Hp} {ks : List Addr} {E : WX} (f : Fra B H0 H) (g : Fra ⟨H0, H, ks, E⟩ H0' H') (hk : ∀ p ∈ ks, p ∈ B.ks ∨ B.H p = none) : Fra B H0' H' :=
  ⟨f.e0.trans g.e0, fun b o h n => g.e1 b o (f.e1 b o h n) (fun z => (hk b z).elim n fun q => nomatch (q.symm.trans h)), g.e2, fun p h1 h2 => g.fr p (f.fr p h1 h2) (f.th p h2), fun p h => g.th p (f.th p h)⟩

/-- a slot: not known, data, a value as it is -/
inductive Sl where
  | un
  | dat (d : PyData)
  | raw (v : V)
/-- what stands at an address that is owned -/
inductive OV where
  | lst (ds : List PyData)
  | ho (o : HO)
  | obj (C : Addr) (fs : List (Str × Sl))
  | ls (xs : List Sl)
abbrev Gam := List Sl
abbrev Sto := List (Addr × OV)
abbrev keys (S : Sto) : List Addr := S.map (·.1)
def SlOk (K : PySem.W.Frag) (H0 : Hp) (o : Option (Option V)) : Sl → Prop
  | .un => True
  | .dat d => ∃ v, o = some (some v) ∧ Dp K H0 v d
  | .raw v => o = some (some v)
theorem SlOk.ext {K : PySem.W.Frag} {H0 H0' : Hp} {o : Option (Option V)} (e : Ex H0 H0') : ∀ {s : Sl}, SlOk K H0 o s → SlOk K H0' o s
  | .un, _ => trivial
  | .dat d, ⟨v, h1, h2⟩ => ⟨v, h1, dp_ex e d v h2⟩
  | .raw _, h => h
theorem SlOk.dat {K : PySem.W.Frag} {H0 : Hp} {v : V} {d : PyData} (h : Dp K H0 v d) : SlOk K H0 (some (some v)) (.dat d) := ⟨v, rfl, h⟩
theorem SlOk.toDp {K : PySem.W.Frag} {H0 : Hp} {v : V} {d : PyData} (h : SlOk K H0 (some (some v)) (.dat d)) : Dp K H0 v d := by
  obtain ⟨v', e1, hv⟩ := h
  cases e1
  exact hv
/-- the attributes -/
inductive FsOk (K : PySem.W.Frag) (H0 : Hp) : List (Str × V) → List (Str × Sl) → Prop
  | nil : FsOk K H0 [] []
  | cons {x : Str} {v : V} {s : Sl} {vs : List (Str × V)} {fs : List (Str × Sl)} (h : SlOk K H0 (some (some v)) s) (t : FsOk K H0 vs fs) : FsOk K H0 ((x, v) :: vs) ((x, s) :: fs)
theorem FsOk.ext {K : PySem.W.Frag} {H0 H0' : Hp} (e : Ex H0 H0') : ∀ {vs : List (Str × V)} {fs : List (Str × Sl)}, FsOk K H0 vs fs → FsOk K H0' vs fs
  | _, _, .nil => .nil
  | _, _, .cons h t => .cons (h.ext e) (t.ext e)
theorem FsOk.len {K : PySem.W.Frag} {H0 : Hp} : ∀ {vs : List (Str × V)} {fs : List (Str × Sl)}, FsOk K H0 vs fs → vs.length = fs.length
  | _, _, .nil => rfl
  | _, _, .cons _ t => congrArg (· + 1) t.len
theorem FsOk.get {K : PySem.W.Frag} {H0 : Hp} {f : Str} : ∀ {vs : List (Str × V)} {fs : List (Str × Sl)} {s : Sl}, FsOk K H0 vs fs → fs.lookup f = some s → ∃ v, vs.lookup f = some v ∧ SlOk K H0 (some (some v)) s
  | _, _, s, .nil, e => by cases e
  | _, _, s, .cons (x := x) (v := v) h t, e => by
    rw [List.lookup_cons] at e ⊢
    cases hb : f == x with
    | true => rw [hb] at e; cases e; exact ⟨v, rfl, h⟩
    | false => rw [hb] at e; exact t.get e
theorem FsOk.no {K : PySem.W.Frag} {H0 : Hp} {f : Str} : ∀ {vs : List (Str × V)} {fs : List (Str × Sl)}, FsOk K H0 vs fs → fs.lookup f = none → vs.lookup f = none
  | _, _, .nil, _ => rfl
  | _, _, .cons (x := x) h t, e => by
    rw [List.lookup_cons] at e ⊢
    cases hb : f == x with
    | true => rw [hb] at e; cases e
    | false => rw [hb] at e; exact t.no e
def putS (f : Str) (s : Sl) : List (Str × Sl) → List (Str × Sl)
  | [] => [(f, s)]
  | (g, x) :: r => if g = f then (g, s) :: r else (g, x) :: putS f s r
theorem FsOk.put {K : PySem.W.Frag} {H0 : Hp} {f : Str} {v : V} {s : Sl} (h : SlOk K H0 (some (some v)) s) : ∀ {vs : List (Str × V)} {fs : List (Str × Sl)}, FsOk K H0 vs fs → FsOk K H0 (putF f v vs) (putS f s fs)
  | _, _, .nil => .cons h .nil
  | _, _, .cons (x := x) h' t => by
    unfold putF putS
    by_cases e : x = f
    · rw [if_pos e, if_pos e]; exact .cons h t
    · rw [if_neg e, if_neg e]; exact .cons h' (t.put h)
def OvOk (K : PySem.W.Frag) (H0 H : Hp) (p : Addr) : OV → Prop
  | .lst ds => ∃ vs, H p = some (.lst vs) ∧ DpAll K H0 vs ds
  | .ho o => H p = some o
  | .obj C fs => ∃ dx vs, H p = some (.ins C dx vs) ∧ FsOk K H0 vs fs
  | .ls xs => ∃ vs, H p = some (.lst vs) ∧ Paired (fun v s => SlOk K H0 (some (some v)) s) vs xs
theorem paired_imp {α β : Type} {R Q : α → β → Prop} (k : ∀ a b, R a b → Q a b) : ∀ {xs : List α} {ys : List β}, Paired R xs ys → Paired Q xs ys
  | _, _, .nil => .nil
  | _, _, .cons h t => .cons (k _ _ h) (paired_imp k t)
theorem OvOk.ne {K : PySem.W.Frag} {H0 H : Hp} {p : Addr} : ∀ {ov : OV}, OvOk K H0 H p ov → H p ≠ none
  | .lst _, ⟨_, h, _⟩ => by rw [h]; exact fun z => nomatch z
  | .ho _, h => by rw [show H p = _ from h]; exact fun z => nomatch z
  | .obj _ _, ⟨_, _, h, _⟩ => by rw [h]; exact fun z => nomatch z
  | .ls _, ⟨_, h, _⟩ => by rw [h]; exact fun z => nomatch z
theorem OvOk.ext {K : PySem.W.Frag} {H0 H H0' H' : Hp} {p : Addr} (e0 : Ex H0 H0') (e1 : ∀ o, H p = some o → H' p = some o) : ∀ {ov : OV}, OvOk K H0 H p ov → OvOk K H0' H' p ov
  | .lst ds, ⟨vs, h, k⟩ => ⟨vs, e1 _ h, dps_ex e0 ds vs k⟩
  | .ho _, h => e1 _ h
  | .obj _ _, ⟨dx, vs, h, k⟩ => ⟨dx, vs, e1 _ h, k.ext e0⟩
  | .ls _, ⟨vs, h, k⟩ => ⟨vs, e1 _ h, paired_imp (fun _ _ q => q.ext e0) k⟩
structure EnvOk (K : PySem.W.Frag) (H0 : Hp) (σ : St) (Γ : Gam) : Prop where
  len : σ.length = Γ.length
  at_ : ∀ (i : Nat) (s : Sl), Γ[i]? = some s → SlOk K H0 (σ[i]?) s
theorem EnvOk.ext {K : PySem.W.Frag} {H0 H0' : Hp} {σ : St} {Γ : Gam} (e : Ex H0 H0') (h : EnvOk K H0 σ Γ) : EnvOk K H0' σ Γ := ⟨h.len, fun i s q => (h.at_ i s q).ext e⟩
theorem EnvOk.set {K : PySem.W.Frag} {H0 : Hp} {σ : St} {Γ : Gam} (h : EnvOk K H0 σ Γ) (i : Nat) {v : V} {s : Sl} (q : SlOk K H0 (some (some v)) s) : EnvOk K H0 (σ.set i (some v)) (Γ.set i s) := by
  refine ⟨by rw [List.length_set, List.length_set]; exact h.len, fun j t e => ?_⟩
  by_cases hj : i = j
  · subst hj
    have hi : i < Γ.length := by
      by_cases hi : i < Γ.length
      · exact hi
      · rw [List.getElem?_eq_none_iff.mpr (by rw [List.length_set]; omega)] at e; cases e
    rw [List.getElem?_set_self hi] at e
    cases e
    rw [List.getElem?_set_self (by rw [h.len]; exact hi)]
    exact q
  · rw [List.getElem?_set_ne hj] at e ⊢
    exact h.at_ j t e
structure StoOk (K : PySem.W.Frag) (H0 H : Hp) (S : Sto) : Prop where
  at_ : ∀ p ov, (p, ov) ∈ S → H0 p = none ∧ OvOk K H0 H p ov
  nd : (keys S).Nodup
theorem StoOk.ext {K : PySem.W.Frag} {H0 H H0' H' : Hp} {S : Sto} (h : StoOk K H0 H S) (x : Ext H0 H H0' H') : StoOk K H0' H' S := by
  refine ⟨fun p ov m => ?_, h.nd⟩
  obtain ⟨h1, h2⟩ := h.at_ p ov m
  exact ⟨x.fr p h1 (OvOk.ne h2), OvOk.ext x.e0 (fun o => x.e1 p o) h2⟩
theorem StoOk.nil {K : PySem.W.Frag} {H0 H : Hp} : StoOk K H0 H [] := ⟨fun _ _ h => (nomatch h), List.Pairwise.nil⟩
theorem mem_keys {S : Sto} {p : Addr} {ov : OV} (h : (p, ov) ∈ S) : p ∈ keys S := List.mem_map.mpr ⟨_, h, rfl⟩
theorem of_keys {S : Sto} {p : Addr} (h : p ∈ keys S) : ∃ ov, (p, ov) ∈ S := by
  obtain ⟨⟨q, ov⟩, h1, h2⟩ := List.mem_map.mp h
  cases h2
  exact ⟨ov, h1⟩

/-- the state at a point of a body -/
structure At (K : PySem.W.Frag) (B : Bs) (H0 : Hp) (Γ : Gam) (S : Sto) (σ : St) (H : Hp) : Prop where
  fra : Fra B H0 H
  env : EnvOk K H0 σ Γ
  sto : StoOk K H0 H S
  wr : ∀ p ∈ keys S, p ∈ B.ks ∨ B.H p = none
theorem At.ext {K : PySem.W.Frag} {B : Bs} {H0 H H0' H' : Hp} {Γ : Gam} {S : Sto} {σ : St} (a : At K B H0 Γ S σ H) (x : Ext H0 H H0' H') : At K B H0' Γ S σ H' := ⟨a.fra.ext x, a.env.ext x.e0, a.sto.ext x, a.wr⟩
theorem At.set {K : PySem.W.Frag} {B : Bs} {H0 H : Hp} {Γ : Gam} {S : Sto} {σ : St} (a : At K B H0 Γ S σ H) (i : Nat) {v : V} {s : Sl} (q : SlOk K H0 (some (some v)) s) : At K B H0 (Γ.set i s) S (σ.set i (some v)) H := ⟨a.fra, a.env.set i q, a.sto, a.wr⟩
theorem At.e2 {K : PySem.W.Frag} {B : Bs} {H0 H : Hp} {Γ : Gam} {S : Sto} {σ : St} (a : At K B H0 Γ S σ H) : Ex H0 H := a.fra.e2

/-! ### judgements -/
def rd (K : PySem.W.Frag) (B : Bs) (Γ : Gam) (S : Sto) (r : Sl) : TE := fun σ H Q => ∃ H0, At K B H0 Γ S σ H ∧ ∀ v H0' H', At K B H0' Γ S σ H' → Ex H0 H0' → SlOk K H0' (some (some v)) r → Q v H'
def ra (K : PySem.W.Frag) (B : Bs) (Γ : Gam) (S : Sto) (ds : List PyData) : TA := fun σ H Q => ∃ H0, At K B H0 Γ S σ H ∧ ∀ vs H0' H', At K B H0' Γ S σ H' → Ex H0 H0' → DpAll K H0' vs ds → Q vs H'
def rt (K : PySem.W.Frag) (B : Bs) (Γ : Gam) (S : Sto) (b : Bool) : TT := fun σ H Q => ∃ H0, At K B H0 Γ S σ H ∧ ∀ H0' H', At K B H0' Γ S σ H' → Ex H0 H0' → Q b H'
/-- e is the data d; e is the value v; the arguments; the test -/
abbrev GD (X : Cx) (B : Bs) (Γ : Gam) (S : Sto) (e : Expr) (d : PyData) : Prop := PE X e (rd X.K B Γ S (.dat d))
abbrev GR (X : Cx) (B : Bs) (Γ : Gam) (S : Sto) (e : Expr) (v : V) : Prop := PE X e (rd X.K B Γ S (.raw v))
abbrev GA (X : Cx) (B : Bs) (Γ : Gam) (S : Sto) (es : List Expr) (ds : List PyData) : Prop := PA X es (ra X.K B Γ S ds)
abbrev GT (X : Cx) (B : Bs) (Γ : Gam) (S : Sto) (e : Expr) (b : Bool) : Prop := PT X e (rt X.K B Γ S b)
section
variable {X : Cx} {B : Bs} {Γ : Gam} {S : Sto} {a b c e : Expr} {es : List Expr} {d d1 d2 d3 : PyData} {ds : List PyData} {pos : Pos} {i j : Int} {k k1 k2 : Bool} {x y : Str}
theorem gd_cast (h : GD X B Γ S e d) (q : d = d1) : GD X B Γ S e d1 := q ▸ h
theorem gt_cast {k' : Bool} (h : GT X B Γ S e k) (q : k = k') : GT X B Γ S e k' := q ▸ h
theorem ge_var {n : Nat} {r : Sl} (h : PE X e (tVar n)) (q : Γ[n]? = some r) (hu : r ≠ .un) : PE X e (rd X.K B Γ S r) := h.imp fun σ H Q ⟨H0, at0, k⟩ => by
  have z := at0.env.at_ n _ q
  cases r with
  | un => exact absurd rfl hu
  | dat d =>
    obtain ⟨v, h1, h2⟩ := z
    exact ⟨v, h1, k v H0 H at0 (Ex.refl _) ⟨v, rfl, h2⟩⟩
  | raw v => exact ⟨v, z, k v H0 H at0 (Ex.refl _) rfl⟩
theorem gd_var {n : Nat} (h : PE X e (tVar n)) (q : Γ[n]? = some (.dat d)) : GD X B Γ S e d := ge_var h q (fun z => nomatch z)
theorem gr_var {n : Nat} {v : V} (h : PE X e (tVar n)) (q : Γ[n]? = some (.raw v)) : GR X B Γ S e v := ge_var h q (fun z => nomatch z)
theorem gd_con {v : V} (h : PE X e (tC v)) (q : ∀ H0, Dp X.K H0 v d) : GD X B Γ S e d := h.imp fun σ H Q ⟨H0, at0, k⟩ => k v H0 H at0 (Ex.refl _) ⟨v, rfl, q H0⟩
theorem gr_con {v : V} (h : PE X e (tC v)) : GR X B Γ S e v := h.imp fun σ H Q ⟨H0, at0, k⟩ => k v H0 H at0 (Ex.refl _) rfl
theorem gd_int {j : Nat} : GD X B Γ S (.Constant (.int i) j pos) (.int i) := gd_con pe_int fun _ => .int i
theorem gd_str {j : Nat} : GD X B Γ S (.Constant (.str x) j pos) (.str x) := gd_con pe_str fun _ => .str x
theorem gd_bl {j : Nat} : GD X B Γ S (.Constant (.bool k) j pos) (.bool k) := gd_con pe_bl fun _ => .bl k
theorem gd_non {j : Nat} : GD X B Γ S (.Constant .none j pos) .none := gd_con pe_non fun _ => .non

/-! ### operators by values -/
def OpD (K : PySem.W.Frag) (r : R2) (d1 d2 d : PyData) : Prop := ∀ H0 H v w, Ex H0 H → Dp K H0 v d1 → Dp K H0 w d2 → ∀ Q : VK, (∀ z H0' H', Ext H0 H H0' H' → Dp K H0' z d → Q z H') → r v w H Q
theorem bin_go {r : R2} (o : OpD X.K r d1 d2 d) {σ : St} {H : Hp} {Q : VK} (h : rd X.K B Γ S (.dat d) σ H Q) : tOp r (rd X.K B Γ S (.dat d1)) (rd X.K B Γ S (.dat d2)) σ H Q := by
  obtain ⟨H0, at0, k⟩ := h
  refine ⟨H0, at0, fun v H1 H' at1 e1 hv => ⟨H1, at1, fun w H2 H'' at2 e2 hw => ?_⟩⟩
  exact o H2 H'' v w at2.e2 (dp_ex e2 _ _ hv.toDp) hw.toDp Q fun z H3 H3' x3 hz => k z H3 H3' (at2.ext x3) ((e1.trans e2).trans x3.e0) ⟨z, rfl, hz⟩
theorem gd_op {op : Operator} {r : R2} (ho : OpR X (binaryOp op) r) (o : OpD X.K r d1 d2 d) (ha : GD X B Γ S a d1) (hb : GD X B Γ S b d2) : GD X B Γ S (.BinOp a op b pos) d := (pe_op ho ha hb).imp fun _ _ _ h => bin_go o h
theorem gd_cmp {op : CmpOp} {r : R2} (ho : OpR X (compareOp op) r) (o : OpD X.K r d1 d2 d) (hm : behindInMarks op b = false) (ha : GD X B Γ S a d1) (hb : GD X B Γ S b d2) : GD X B Γ S (.Compare a [op] [b] pos) d := (pe_cmpR ho ha hb hm).imp fun _ _ _ h => bin_go o h
theorem test_go {t : TE} (h : ∀ σ H Q, rd X.K B Γ S (.dat (.bool k)) σ H Q → t σ H Q) : ∀ σ H (Q : Bool → Hp → Prop), rt X.K B Γ S k σ H Q → tTest t σ H Q := fun σ H Q ⟨H0, at0, q⟩ => h σ H _ ⟨H0, at0, fun v H0' H' at1 e1 hv => by
  have hv := hv.toDp
  cases hv
  exact ⟨k, rfl, q H0' H' at1 e1⟩⟩
theorem gt_cmp {op : CmpOp} {r : R2} (ho : OpR X (compareOp op) r) (o : OpD X.K r d1 d2 (.bool k)) (hm : behindInMarks op b = false) (ha : GD X B Γ S a d1) (hb : GD X B Γ S b d2) : GT X B Γ S (.Compare a [op] [b] pos) k :=
  (pt_cmpR ho ha hb hm).imp fun σ H Q h => test_go (fun _ _ _ h => bin_go o h) σ H Q h
theorem gt_val (h : GD X B Γ S e (.bool k)) (he : ∀ whole, isTrue e X.env whole = (do let v ← whole; standAt e.pos; holding [v] (truthy v)) := by intro _; rfl) : GT X B Γ S e k :=
  (pt_val h he).imp fun σ H Q ⟨H0, at0, q⟩ => ⟨H0, at0, fun v H0' H' at1 e1 hv => by
    have hv := hv.toDp
    cases hv
    exact ⟨k, rfl, q H0' H' at1 e1⟩⟩
theorem od_I0 {K : PySem.W.Frag} {g : Int → Int → V} {d : PyData} (hd : ∀ H0, Dp K H0 (g i j) d) : OpD K (rI0 g) (.int i) (.int j) d := fun H0 H v w e hv hw Q k => by
  cases hv
  cases hw
  exact ⟨i, j, rfl, rfl, k _ H0 H (Ext.refl e) (hd H0)⟩
theorem od_I {K : PySem.W.Frag} {C : Int → Int → Prop} {g : Int → Int → V} {d : PyData} (hc : C i j) (hd : ∀ H0, Dp K H0 (g i j) d) : OpD K (rI C g) (.int i) (.int j) d := fun H0 H v w e hv hw Q k => by
  cases hv
  cases hw
  exact ⟨i, j, rfl, rfl, hc, k _ H0 H (Ext.refl e) (hd H0)⟩
theorem gd_add (ha : GD X B Γ S a (.int i)) (hb : GD X B Γ S b (.int j)) : GD X B Γ S (.BinOp a .Add b pos) (.int (i + j)) := gd_op op_add (od_I0 fun _ => .int _) ha hb
theorem gd_sub (ha : GD X B Γ S a (.int i)) (hb : GD X B Γ S b (.int j)) : GD X B Γ S (.BinOp a .Sub b pos) (.int (i - j)) := gd_op op_sub (od_I0 fun _ => .int _) ha hb
theorem op_mulB : OpR X (binaryOp .Mult) (rI IntMulOk fun i j => .int (i * j)) := opI fun _ _ _ _ _ _ _ hc q => mul_int q hc
theorem gd_mul (hc : IntMulOk i j) (ha : GD X B Γ S a (.int i)) (hb : GD X B Γ S b (.int j)) : GD X B Γ S (.BinOp a .Mult b pos) (.int (i * j)) := gd_op op_mulB (od_I hc fun _ => .int _) ha hb
theorem gd_mod (hc : 0 < j) (ha : GD X B Γ S a (.int i)) (hb : GD X B Γ S b (.int j)) : GD X B Γ S (.BinOp a .Mod b pos) (.int (i % j)) := gd_op op_mod (od_I hc fun _ => .int _) ha hb
theorem gd_fdiv (hc : CDiv i j) (ha : GD X B Γ S a (.int i)) (hb : GD X B Γ S b (.int j)) : GD X B Γ S (.BinOp a .FloorDiv b pos) (.int (i / j)) := gd_op op_fdiv (od_I hc fun _ => .int _) ha hb
theorem gd_pow (hc : CPow i j) (ha : GD X B Γ S a (.int i)) (hb : GD X B Γ S b (.int j)) : GD X B Γ S (.BinOp a .Pow b pos) (.int (i ^ j.toNat)) := gd_op op_pow (od_I hc fun _ => .int _) ha hb
theorem gd_lt (ha : GD X B Γ S a (.int i)) (hb : GD X B Γ S b (.int j)) : GD X B Γ S (.Compare a [.Lt] [b] pos) (.bool (decide (i < j))) := gd_cmp op_lt (od_I0 fun _ => .bl _) (nomark _) ha hb
theorem gd_le (ha : GD X B Γ S a (.int i)) (hb : GD X B Γ S b (.int j)) : GD X B Γ S (.Compare a [.LtE] [b] pos) (.bool (decide (i ≤ j))) := gd_cmp op_le (od_I0 fun _ => .bl _) (nomark _) ha hb
theorem gd_gt (ha : GD X B Γ S a (.int i)) (hb : GD X B Γ S b (.int j)) : GD X B Γ S (.Compare a [.Gt] [b] pos) (.bool (decide (j < i))) := gd_cmp op_gt (od_I0 fun _ => .bl _) (nomark _) ha hb
theorem gd_ge (ha : GD X B Γ S a (.int i)) (hb : GD X B Γ S b (.int j)) : GD X B Γ S (.Compare a [.GtE] [b] pos) (.bool (decide (j ≤ i))) := gd_cmp op_ge (od_I0 fun _ => .bl _) (nomark _) ha hb
theorem gt_lt (ha : GD X B Γ S a (.int i)) (hb : GD X B Γ S b (.int j)) : GT X B Γ S (.Compare a [.Lt] [b] pos) (decide (i < j)) := gt_cmp op_lt (od_I0 fun _ => .bl _) (nomark _) ha hb
theorem gt_le (ha : GD X B Γ S a (.int i)) (hb : GD X B Γ S b (.int j)) : GT X B Γ S (.Compare a [.LtE] [b] pos) (decide (i ≤ j)) := gt_cmp op_le (od_I0 fun _ => .bl _) (nomark _) ha hb
theorem gt_gt (ha : GD X B Γ S a (.int i)) (hb : GD X B Γ S b (.int j)) : GT X B Γ S (.Compare a [.Gt] [b] pos) (decide (j < i)) := gt_cmp op_gt (od_I0 fun _ => .bl _) (nomark _) ha hb
theorem gt_ge (ha : GD X B Γ S a (.int i)) (hb : GD X B Γ S b (.int j)) : GT X B Γ S (.Compare a [.GtE] [b] pos) (decide (j ≤ i)) := gt_cmp op_ge (od_I0 fun _ => .bl _) (nomark _) ha hb
/-- == and != of data -/
theorem od_eq {K : PySem.W.Frag} (h1 : SeqAt.shaped d1 = true) (h2 : SeqAt.shaped d2 = true) : OpD K (rEqD K) d1 d2 (.bool (PyData.eqv d1 d2)) := fun H0 H v w e hv hw Q k => ⟨d1, d2, dp_ex e _ _ hv, dp_ex e _ _ hw, h1, h2, k _ H0 H (Ext.refl e) (.bl _)⟩
theorem od_ne {K : PySem.W.Frag} (h1 : SeqAt.shaped d1 = true) (h2 : SeqAt.shaped d2 = true) : OpD K (rNeD K) d1 d2 (.bool (!PyData.eqv d1 d2)) := fun H0 H v w e hv hw Q k => ⟨d1, d2, dp_ex e _ _ hv, dp_ex e _ _ hw, h1, h2, k _ H0 H (Ext.refl e) (.bl _)⟩
theorem gd_eq (hu : X.A.units + 64 < cLine) (ha : GD X B Γ S a d1) (hb : GD X B Γ S b d2) (h1 : SeqAt.shaped d1 = true) (h2 : SeqAt.shaped d2 = true) : GD X B Γ S (.Compare a [.Eq] [b] pos) (.bool (PyData.eqv d1 d2)) := gd_cmp (op_eqD hu) (od_eq h1 h2) (nomark _) ha hb
theorem gd_ne (hu : X.A.units + 64 < cLine) (ha : GD X B Γ S a d1) (hb : GD X B Γ S b d2) (h1 : SeqAt.shaped d1 = true) (h2 : SeqAt.shaped d2 = true) : GD X B Γ S (.Compare a [.NotEq] [b] pos) (.bool (!PyData.eqv d1 d2)) := gd_cmp (op_neD hu) (od_ne h1 h2) (nomark _) ha hb
theorem gt_eq (hu : X.A.units + 64 < cLine) (ha : GD X B Γ S a d1) (hb : GD X B Γ S b d2) (h1 : SeqAt.shaped d1 = true) (h2 : SeqAt.shaped d2 = true) : GT X B Γ S (.Compare a [.Eq] [b] pos) (PyData.eqv d1 d2) := gt_cmp (op_eqD hu) (od_eq h1 h2) (nomark _) ha hb
theorem gt_ne (hu : X.A.units + 64 < cLine) (ha : GD X B Γ S a d1) (hb : GD X B Γ S b d2) (h1 : SeqAt.shaped d1 = true) (h2 : SeqAt.shaped d2 = true) : GT X B Γ S (.Compare a [.NotEq] [b] pos) (!PyData.eqv d1 d2) := gt_cmp (op_neD hu) (od_ne h1 h2) (nomark _) ha hb
/-- is None -/
def isN : PyData → Bool
  | .none => true
  | _ => false
theorem isN_of {K : PySem.W.Frag} {H : Hp} {v : V} (h : Dp K H v d) : decide (v = .non) = isN d := by
  cases h <;> rfl
theorem gd_isN {n : Nat} {p2 : Pos} (ha : GD X B Γ S a d) : GD X B Γ S (.Compare a [.Is] [.Constant .none n p2] pos) (.bool (isN d)) := (pe_cmp (pc_isN ha) rfl).imp fun σ H Q ⟨H0, at0, k⟩ => ⟨H0, at0, fun v H0' H' at1 e1 hv => k _ H0' H' at1 e1 ⟨_, rfl, by rw [isN_of hv.toDp]; exact .bl _⟩⟩
theorem gd_notN {n : Nat} {p2 : Pos} (ha : GD X B Γ S a d) : GD X B Γ S (.Compare a [.IsNot] [.Constant .none n p2] pos) (.bool (!isN d)) := (pe_cmp (pc_notN ha) rfl).imp fun σ H Q ⟨H0, at0, k⟩ => ⟨H0, at0, fun v H0' H' at1 e1 hv => k _ H0' H' at1 e1 ⟨_, rfl, by rw [isN_of hv.toDp]; exact .bl _⟩⟩

/-! ### in, of flat data -/
def flatD : PyData → Bool
  | .none => true
  | .bool _ => true
  | .int _ => true
  | .str _ => true
  | _ => false
theorem flat_of {K : PySem.W.Frag} {H : Hp} {v : V} (h : Dp K H v d) (f : flatD d = true) : flatV v = true := by
  cases h <;> first | rfl | exact absurd f Bool.false_ne_true
theorem eqV_of {K : PySem.W.Frag} {H : Hp} {v w : V} (h : Dp K H v d1) (h2 : Dp K H w d2) (f : flatD d1 = true) (g : flatD d2 = true) : eqV v w = PyData.eqv d1 d2 := by
  cases h <;> first | exact absurd f Bool.false_ne_true | (cases h2 <;> first | exact absurd g Bool.false_ne_true | (simp [eqV, PyData.eqv]))
def inD (d : PyData) (ds : List PyData) : Bool := ds.any fun e => PyData.eqv e d
theorem inV_of {K : PySem.W.Frag} {H : Hp} {w : V} (h2 : Dp K H w d) (g : flatD d = true) : ∀ {vs : List V} {ds : List PyData}, DpAll K H vs ds → ds.all flatD = true → vs.all flatV = true ∧ inV w vs = inD d ds
  | _, _, .nil, _ => ⟨rfl, rfl⟩
  | _, _, .cons h t, f => by
    rw [List.all_cons, Bool.and_eq_true] at f
    obtain ⟨i1, i2⟩ := inV_of h2 g t f.2
    refine ⟨by rw [List.all_cons, flat_of h f.1, i1]; rfl, ?_⟩
    unfold inV inD at i2 ⊢
    rw [List.any_cons, List.any_cons, eqV_of h h2 f.1 g, i2]
theorem od_in {K : PySem.W.Frag} (g : flatD d = true) (f : ds.all flatD = true) : OpD K (rIn K false) d (.tuple ds) (.bool (inD d ds)) := fun H0 H v w e hv hw Q k => by
  cases hw with
  | tup hs ha =>
    obtain ⟨i1, i2⟩ := inV_of hv g ha f
    refine ⟨_, _, rfl, .inr (ex_t e hs), flat_of hv g, i1, k _ H0 H (Ext.refl e) ?_⟩
    show Dp K H0 (.bl (inV v _)) _
    rw [i2]
    exact .bl _
theorem od_inL {K : PySem.W.Frag} (g : flatD d = true) (f : ds.all flatD = true) : OpD K (rIn K false) d (.list ds) (.bool (inD d ds)) := fun H0 H v w e hv hw Q k => by
  cases hw with
  | lst hs ha =>
    obtain ⟨i1, i2⟩ := inV_of hv g ha f
    refine ⟨_, _, rfl, .inl (ex_l e hs), flat_of hv g, i1, k _ H0 H (Ext.refl e) ?_⟩
    show Dp K H0 (.bl (inV v _)) _
    rw [i2]
    exact .bl _
theorem gd_in (hm : behindInMarks .In b = false) (ha : GD X B Γ S a d) (hb : GD X B Γ S b (.tuple ds)) (g : flatD d = true) (f : ds.all flatD = true) : GD X B Γ S (.Compare a [.In] [b] pos) (.bool (inD d ds)) := gd_cmp op_in_seq (od_in g f) hm ha hb
theorem gt_in (hm : behindInMarks .In b = false) (ha : GD X B Γ S a d) (hb : GD X B Γ S b (.tuple ds)) (g : flatD d = true) (f : ds.all flatD = true) : GT X B Γ S (.Compare a [.In] [b] pos) (inD d ds) := gt_cmp op_in_seq (od_in g f) hm ha hb

/-! ### subscripts -/
theorem ixh {d : PyData} {l : List PyData} : atI (d :: l) 0 = some d := atI_nat (j := 0) rfl
theorem od_ixL {K : PySem.W.Frag} (q : atI ds i = some d) : OpD K (rIx K) (.list ds) (.int i) d := fun H0 H v w e hv hw Q k => by
  cases hw
  cases hv with
  | @lst p xs _ hs ha =>
    have hl := dps_len ha
    obtain ⟨n, e1, e2⟩ : ∃ n, ixN ds.length i = some n ∧ ds[n]? = some d := by
      unfold atI at q
      cases z : ixN ds.length i with
      | none => rw [z] at q; cases q
      | some n => rw [z] at q; exact ⟨n, rfl, q⟩
    obtain ⟨u, u1, u2⟩ := dps_get ha e2
    exact .inl ⟨p, xs, i, u, rfl, rfl, ex_l e hs, by unfold atI; rw [hl, e1]; exact u1, k u H0 H (Ext.refl e) u2⟩
theorem od_ixT {K : PySem.W.Frag} (q : atI ds i = some d) : OpD K (rIx K) (.tuple ds) (.int i) d := fun H0 H v w e hv hw Q k => by
  cases hw
  cases hv with
  | @tup p xs _ hs ha =>
    have hl := dps_len ha
    obtain ⟨n, e1, e2⟩ : ∃ n, ixN ds.length i = some n ∧ ds[n]? = some d := by
      unfold atI at q
      cases z : ixN ds.length i with
      | none => rw [z] at q; cases q
      | some n => rw [z] at q; exact ⟨n, rfl, q⟩
    obtain ⟨u, u1, u2⟩ := dps_get ha e2
    exact .inr (.inl ⟨p, xs, i, u, rfl, rfl, ex_t e hs, by unfold atI; rw [hl, e1]; exact u1, k u H0 H (Ext.refl e) u2⟩)
theorem gd_ix (o : OpD X.K (rIx X.K) d1 d2 d) (ha : GD X B Γ S a d1) (hb : GD X B Γ S b d2) (hs : PlainIx b := by exact fun _ _ => rfl) : GD X B Γ S (.Subscript a b pos) d := (pe_ix ix_seq ha hb hs).imp fun _ _ _ h => bin_go o h
theorem gd_ixL (ha : GD X B Γ S a (.list ds)) (hb : GD X B Γ S b (.int i)) (q : atI ds i = some d) (hs : PlainIx b := by exact fun _ _ => rfl) : GD X B Γ S (.Subscript a b pos) d := gd_ix (od_ixL q) ha hb hs
theorem gd_ixT (ha : GD X B Γ S a (.tuple ds)) (hb : GD X B Γ S b (.int i)) (q : atI ds i = some d) (hs : PlainIx b := by exact fun _ _ => rfl) : GD X B Γ S (.Subscript a b pos) d := gd_ix (od_ixT q) ha hb hs

/-! ### and, or, not, if -/
theorem gt_not (ha : GT X B Γ S a k) : GT X B Γ S (.UnaryOp .Not a pos) (!k) := (pt_not ha).imp fun σ H Q ⟨H0, at0, q⟩ => ⟨H0, at0, q⟩
theorem gd_not (ha : GD X B Γ S a (.bool k)) : GD X B Γ S (.UnaryOp .Not a pos) (.bool (!k)) := (pe_not ha).imp fun σ H Q ⟨H0, at0, q⟩ => ⟨H0, at0, fun v H0' H' at1 e1 hv => by
  have hv := hv.toDp
  cases hv
  exact ⟨k, rfl, q _ H0' H' at1 e1 ⟨_, rfl, .bl _⟩⟩⟩
abbrev GW (X : Cx) (B : Bs) (Γ : Gam) (S : Sto) (e : Expr) (b : Bool) : Prop := PW X e (rt X.K B Γ S b)
theorem gw_and1 (ha : GT X B Γ S a k) : GW X B Γ S (.BoolOp .And [a] pos) k := pw_and1 ha
theorem gw_or1 (ha : GT X B Γ S a k) : GW X B Γ S (.BoolOp .Or [a] pos) k := pw_or1 ha
variable {rest : List Expr}
theorem gw_and (ha : GT X B Γ S a k1) (hb : k1 = true → GW X B Γ S (.BoolOp .And (b :: rest) pos) k2) : GW X B Γ S (.BoolOp .And (a :: b :: rest) pos) (k1 && k2) := by
  refine ⟨fun wh pins s σ H Q I h => ?_⟩
  obtain ⟨H0, at0, q⟩ := h
  refine isTrue_and (thn (ha.run pins s σ H (fun c H' => c = k1 ∧ ∃ H0', At X.K B H0' Γ S σ H' ∧ Ex H0 H0') I ⟨H0, at0, fun H0' H' at1 e1 => ⟨rfl, H0', at1, e1⟩⟩) fun c s1 h1 => ?_)
  obtain ⟨H1, I1, rfl, H0', at1, x1⟩ := h1
  cases c with
  | true => exact (hb rfl).run wh pins s1 σ H1 Q I1 ⟨H0', at1, fun H2 H2' at2 e2 => q H2 H2' at2 (x1.trans e2)⟩
  | false => exact ⟨H1, I1, q H0' H1 at1 x1⟩
theorem gw_or (ha : GT X B Γ S a k1) (hb : k1 = false → GW X B Γ S (.BoolOp .Or (b :: rest) pos) k2) : GW X B Γ S (.BoolOp .Or (a :: b :: rest) pos) (k1 || k2) := by
  refine ⟨fun wh pins s σ H Q I h => ?_⟩
  obtain ⟨H0, at0, q⟩ := h
  refine isTrue_or (thn (ha.run pins s σ H (fun c H' => c = k1 ∧ ∃ H0', At X.K B H0' Γ S σ H' ∧ Ex H0 H0') I ⟨H0, at0, fun H0' H' at1 e1 => ⟨rfl, H0', at1, e1⟩⟩) fun c s1 h1 => ?_)
  obtain ⟨H1, I1, rfl, H0', at1, x1⟩ := h1
  cases c with
  | true => exact ⟨H1, I1, q H0' H1 at1 x1⟩
  | false => exact (hb rfl).run wh pins s1 σ H1 Q I1 ⟨H0', at1, fun H2 H2' at2 e2 => q H2 H2' at2 (x1.trans e2)⟩
theorem gw_dead (h : False) : GW X B Γ S e false := h.elim
theorem gd_dead (h : False) : GD X B Γ S e (.bool false) := h.elim
theorem gt_of (h : GW X B Γ S e k) : GT X B Γ S e k := h.pt
theorem gd_one {op : BoolOp} (h : GD X B Γ S a d) : GD X B Γ S (.BoolOp op [a] pos) d := pe_one h
theorem gd_and (ha : GD X B Γ S a (.bool k1)) (hb : k1 = true → GD X B Γ S (.BoolOp .And (b :: rest) pos) (.bool k2)) : GD X B Γ S (.BoolOp .And (a :: b :: rest) pos) (.bool (k1 && k2)) := by
  refine ⟨fun pins s σ H Q I h => ?_⟩
  obtain ⟨H0, at0, q⟩ := h
  refine BoolOp_and (thn (ha.run pins s σ H (fun c H' => c = .bl k1 ∧ ∃ H0', At X.K B H0' Γ S σ H' ∧ Ex H0 H0') I ⟨H0, at0, fun v H0' H' at1 e1 hv => ?_⟩) fun v s1 ⟨x, H1, I1, r1, q1⟩ => ?_)
  · have hv := hv.toDp
    cases hv
    exact ⟨rfl, H0', at1, e1⟩
  obtain ⟨rfl, H0', at1, x1⟩ := q1
  cases r1
  refine wpAny_truthy_bool ?_
  cases k1 with
  | true => exact (hb rfl).run pins s1 σ H1 Q I1 ⟨H0', at1, fun v H2 H2' at2 e2 hv => q v H2 H2' at2 (x1.trans e2) hv⟩
  | false => exact ⟨.bl false, H1, I1, rfl, q _ H0' H1 at1 x1 ⟨_, rfl, .bl _⟩⟩
theorem gd_or (ha : GD X B Γ S a (.bool k1)) (hb : k1 = false → GD X B Γ S (.BoolOp .Or (b :: rest) pos) (.bool k2)) : GD X B Γ S (.BoolOp .Or (a :: b :: rest) pos) (.bool (k1 || k2)) := by
  refine ⟨fun pins s σ H Q I h => ?_⟩
  obtain ⟨H0, at0, q⟩ := h
  refine BoolOp_or (thn (ha.run pins s σ H (fun c H' => c = .bl k1 ∧ ∃ H0', At X.K B H0' Γ S σ H' ∧ Ex H0 H0') I ⟨H0, at0, fun v H0' H' at1 e1 hv => ?_⟩) fun v s1 ⟨x, H1, I1, r1, q1⟩ => ?_)
  · have hv := hv.toDp
    cases hv
    exact ⟨rfl, H0', at1, e1⟩
  obtain ⟨rfl, H0', at1, x1⟩ := q1
  cases r1
  refine wpAny_truthy_bool ?_
  cases k1 with
  | true => exact ⟨.bl true, H1, I1, rfl, q _ H0' H1 at1 x1 ⟨_, rfl, .bl _⟩⟩
  | false => exact (hb rfl).run pins s1 σ H1 Q I1 ⟨H0', at1, fun v H2 H2' at2 e2 hv => q v H2 H2' at2 (x1.trans e2) hv⟩
theorem gd_ite (hc : GT X B Γ S c k) (ha : k = true → GD X B Γ S a d) (hb : k = false → GD X B Γ S b d) : GD X B Γ S (.IfExp c a b pos) d := by
  refine ⟨fun pins s σ H Q I h => ?_⟩
  obtain ⟨H0, at0, q⟩ := h
  refine wpAny_IfExp (thn (hc.run pins s σ H (fun c H' => c = k ∧ ∃ H0', At X.K B H0' Γ S σ H' ∧ Ex H0 H0') I ⟨H0, at0, fun H0' H' at1 e1 => ⟨rfl, H0', at1, e1⟩⟩) fun v s1 h1 => ?_)
  obtain ⟨H1, I1, rfl, H0', at1, x1⟩ := h1
  cases v with
  | true => exact (ha rfl).run pins s1 σ H1 Q I1 ⟨H0', at1, fun v H2 H2' at2 e2 hv => q v H2 H2' at2 (x1.trans e2) hv⟩
  | false => exact (hb rfl).run pins s1 σ H1 Q I1 ⟨H0', at1, fun v H2 H2' at2 e2 hv => q v H2 H2' at2 (x1.trans e2) hv⟩

/-! ### argument lists, displays, calls -/
theorem ga_nil : GA X B Γ S [] [] := pa_nil.imp fun σ H Q ⟨H0, at0, k⟩ => k [] H0 H at0 (Ex.refl _) .nil
theorem ga_cons (ha : GD X B Γ S e d) (hr : GA X B Γ S es ds) (hs : starEach (e :: es) X.env = (false, eval e X.env) :: starEach es X.env := by rfl) : GA X B Γ S (e :: es) (d :: ds) := (pa_cons ha hr hs).imp fun σ H Q ⟨H0, at0, k⟩ =>
  ⟨H0, at0, fun v H1 H' at1 e1 hv => ⟨H1, at1, fun vs H2 H'' at2 e2 hvs => k _ H2 H'' at2 (e1.trans e2) (.cons (dp_ex e2 _ _ hv.toDp) hvs)⟩⟩
theorem gd_tup {x1 : Nat} (h : GA X B Γ S es ds) (hl : ds.length ≤ 100000) : GD X B Γ S (.Tuple es x1 pos) (.tuple ds) := (pe_tup h).imp fun σ H Q ⟨H0, at0, k⟩ => ⟨H0, at0, fun vs H1 H' at1 e1 hvs =>
  ⟨by rw [dps_len hvs]; exact Evl.sz_of hl, fun p hp => k (.ref p) _ _ (at1.ext (Ext.new at1.e2 hp)) (e1.trans (Ex.new (free0 at1.e2 hp))) ⟨_, rfl, .tup (.inl (.inl upd_same)) (dps_ex (Ex.new (free0 at1.e2 hp)) _ _ hvs)⟩⟩⟩
theorem gd_lst (h : GA X B Γ S es ds) (hl : ds.length ≤ 100000) : GD X B Γ S (.List es pos) (.list ds) := (pe_lst h).imp fun σ H Q ⟨H0, at0, k⟩ => ⟨H0, at0, fun vs H1 H' at1 e1 hvs =>
  ⟨by rw [dps_len hvs]; exact Evl.sz_of hl, fun p hp => k (.ref p) _ _ (at1.ext (Ext.new at1.e2 hp)) (e1.trans (Ex.new (free0 at1.e2 hp))) ⟨_, rfl, .lst (.inl (.inl upd_same)) (dps_ex (Ex.new (free0 at1.e2 hp)) _ _ hvs)⟩⟩⟩
/-- a call by values -/
def CaD (K : PySem.W.Frag) (r : List V → Hp → VK → Prop) (ds : List PyData) (d : PyData) : Prop := ∀ H0 H vs, Ex H0 H → DpAll K H0 vs ds → ∀ Q : VK, (∀ z H0' H', Ext H0 H H0' H' → Dp K H0' z d → Q z H') → r vs H Q
theorem gd_callB {f : Str} {p : Pos} {id : String} {r : List V → Hp → VK → Prop} (hc : CallR X (.builtin id) r) (o : CaD X.K r ds d) (hg : Gl X f) (hm : X.mg f = none) (hv : bootBuiltins f = some (.builtin id)) (ha : GA X B Γ S (e :: es) ds) (hn : f ≠ "__name__" := by decide) (hdb : (f == ("__debug__" : Str)) = false := by decide)
    (he : starEach (e :: es) X.env = (false, eval e X.env) :: starEach es X.env := by rfl) (hpl : (backTo pos (starEach es X.env)).any (·.1) = false := by rfl) : GD X B Γ S (.Call (.Name f p) (e :: es) [] pos) d :=
  (pe_callB hc hg hm hv ha hn hdb he hpl).imp fun σ H Q ⟨H0, at0, k⟩ => ⟨H0, at0, fun vs H1 H' at1 e1 hvs => o H1 H' vs at1.e2 hvs Q fun z H2 H2' x2 hz => k z H2 H2' (at1.ext x2) (e1.trans x2.e0) ⟨z, rfl, hz⟩⟩
theorem gd_callTy {f : Str} {p : Pos} {T : String} {r : List V → Hp → VK → Prop} (hc : CallR X (.type T) r) (o : CaD X.K r ds d) (hg : Gl X f) (hm : X.mg f = none) (hv : bootBuiltins f = some (.type T)) (ha : GA X B Γ S (e :: es) ds) (hn : f ≠ "__name__" := by decide) (hdb : (f == ("__debug__" : Str)) = false := by decide)
    (he : starEach (e :: es) X.env = (false, eval e X.env) :: starEach es X.env := by rfl) (hpl : (backTo pos (starEach es X.env)).any (·.1) = false := by rfl) : GD X B Γ S (.Call (.Name f p) (e :: es) [] pos) d :=
  (pe_callTy hc hg hm hv ha hn hdb he hpl).imp fun σ H Q ⟨H0, at0, k⟩ => ⟨H0, at0, fun vs H1 H' at1 e1 hvs => o H1 H' vs at1.e2 hvs Q fun z H2 H2' x2 hz => k z H2 H2' (at1.ext x2) (e1.trans x2.e0) ⟨z, rfl, hz⟩⟩
theorem ca_len {K : PySem.W.Frag} {es : List PyData} (h : d = .list es ∨ d = .tuple es) : CaD K (fun xs H Q => ∃ x n, xs = [x] ∧ LenV K x H n ∧ Q (.int n) H) [d] (.int (es.length : Int)) := fun H0 H vs e hvs Q k => by
  cases hvs with
  | cons hv ht =>
    cases ht
    rcases h with rfl | rfl
    · cases hv with
      | lst hs ha => exact ⟨_, es.length, rfl, .inl ⟨_, ex_l e hs, (dps_len ha).symm⟩, k _ H0 H (Ext.refl e) (.int _)⟩
    · cases hv with
      | tup hs ha => exact ⟨_, es.length, rfl, .inr ⟨_, ex_t e hs, (dps_len ha).symm⟩, k _ H0 H (Ext.refl e) (.int _)⟩
theorem ca_list {K : PySem.W.Frag} {es : List PyData} (h : d = .list es ∨ d = .tuple es) : CaD K (fun xs H Q => ∃ p ys, xs = [.ref p] ∧ (SqL K H p ys ∨ SqT K H p ys) ∧ ∀ l, H l = none → Q (.ref l) (upd H l (.lst ys))) [d] (.list es) := fun H0 H vs e hvs Q k => by
  cases hvs with
  | cons hv ht =>
    cases ht
    rcases h with rfl | rfl
    · cases hv with
      | lst hs ha => exact ⟨_, _, rfl, .inl (ex_l e hs), fun l hl => k _ _ _ (Ext.new e hl) (.lst (.inl (.inl upd_same)) (dps_ex (Ex.new (free0 e hl)) _ _ ha))⟩
    · cases hv with
      | tup hs ha => exact ⟨_, _, rfl, .inr (ex_t e hs), fun l hl => k _ _ _ (Ext.new e hl) (.lst (.inl (.inl upd_same)) (dps_ex (Ex.new (free0 e hl)) _ _ ha))⟩
theorem ca_intB {K : PySem.W.Frag} : CaD K (fun xs H Q => (∃ i, xs = [.int i] ∧ Q (.int i) H) ∨ ∃ k, xs = [.bl k] ∧ Q (.int (if k then 1 else 0)) H) [.bool k] (.int (if k then 1 else 0)) := fun H0 H vs e hvs Q q => by
  cases hvs with
  | cons hv ht =>
    cases ht
    cases hv
    exact .inr ⟨k, rfl, q _ H0 H (Ext.refl e) (.int _)⟩
theorem ca_all {K : PySem.W.Frag} {bs : List Bool} : CaD K (rAll K) [.list (bs.map PyData.bool)] (.bool (bs.all id)) := fun H0 H vs e hvs Q k => by
  cases hvs with
  | cons hv ht =>
    cases ht
    cases hv with
    | lst hs ha => exact ⟨_, bs, rfl, by rw [← bools_of ha]; exact ex_l e hs, k _ H0 H (Ext.refl e) (.bl _)⟩
theorem ca_any {K : PySem.W.Frag} {bs : List Bool} : CaD K (rAny K) [.list (bs.map PyData.bool)] (.bool (bs.any id)) := fun H0 H vs e hvs Q k => by
  cases hvs with
  | cons hv ht =>
    cases ht
    cases hv with
    | lst hs ha => exact ⟨_, bs, rfl, by rw [← bools_of ha]; exact ex_l e hs, k _ H0 H (Ext.refl e) (.bl _)⟩
/-- the type's name -/
def tyN : PyData → String
  | .none => "NoneType"
  | .bool _ => "bool"
  | .int _ => "int"
  | .str _ => "str"
  | .list _ => "list"
  | .tuple _ => "tuple"
  | .dict _ => "dict"
theorem tyx_of {K : PySem.W.Frag} {H0 H : Hp} {v : V} (e : Ex H0 H) (h : Dp K H0 v d) : TyX K H v (.type (tyN d)) := by
  cases h with
  | non => exact .base .non
  | bl b => exact .base (.bl b)
  | int i => exact .base (.int i)
  | str x => exact .base (.str x)
  | lst hs ha =>
    rcases ex_l e hs with (h | ⟨o, h⟩) | ⟨o, its, n, h1, h2, _⟩
    · exact .base (.lst h)
    · exact .base (.frz h)
    · exact .kList h1 h2
  | tup hs ha =>
    rcases ex_t e hs with (h | ⟨o, h⟩) | ⟨o, its, n, h1, h2, _⟩
    · exact .base (.tup h)
    · exact .fTuple h
    · exact .kTuple h1 h2
theorem kit_NoneType_int : kitB "NoneType" "int" = some false := by decide +kernel
theorem kit_NoneType_bool : kitB "NoneType" "bool" = some false := by decide +kernel
theorem kit_NoneType_str : kitB "NoneType" "str" = some false := by decide +kernel
theorem kit_NoneType_list : kitB "NoneType" "list" = some false := by decide +kernel
theorem kit_NoneType_tuple : kitB "NoneType" "tuple" = some false := by decide +kernel
theorem kit_bool_int : kitB "bool" "int" = some true := by decide +kernel
theorem kit_bool_bool : kitB "bool" "bool" = some true := by decide +kernel
theorem kit_bool_str : kitB "bool" "str" = some false := by decide +kernel
theorem kit_bool_list : kitB "bool" "list" = some false := by decide +kernel
theorem kit_bool_tuple : kitB "bool" "tuple" = some false := by decide +kernel
theorem kit_int_int : kitB "int" "int" = some true := by decide +kernel
theorem kit_int_bool : kitB "int" "bool" = some false := by decide +kernel
theorem kit_int_str : kitB "int" "str" = some false := by decide +kernel
theorem kit_int_list : kitB "int" "list" = some false := by decide +kernel
theorem kit_int_tuple : kitB "int" "tuple" = some false := by decide +kernel
theorem kit_str_int : kitB "str" "int" = some false := by decide +kernel
theorem kit_str_bool : kitB "str" "bool" = some false := by decide +kernel
theorem kit_str_str : kitB "str" "str" = some true := by decide +kernel
theorem kit_str_list : kitB "str" "list" = some false := by decide +kernel
theorem kit_str_tuple : kitB "str" "tuple" = some false := by decide +kernel
theorem kit_list_int : kitB "list" "int" = some false := by decide +kernel
theorem kit_list_bool : kitB "list" "bool" = some false := by decide +kernel
theorem kit_list_str : kitB "list" "str" = some false := by decide +kernel
theorem kit_list_list : kitB "list" "list" = some true := by decide +kernel
theorem kit_list_tuple : kitB "list" "tuple" = some false := by decide +kernel
theorem kit_tuple_int : kitB "tuple" "int" = some false := by decide +kernel
theorem kit_tuple_bool : kitB "tuple" "bool" = some false := by decide +kernel
theorem kit_tuple_str : kitB "tuple" "str" = some false := by decide +kernel
theorem kit_tuple_list : kitB "tuple" "list" = some false := by decide +kernel
theorem kit_tuple_tuple : kitB "tuple" "tuple" = some true := by decide +kernel
theorem kit_dict_int : kitB "dict" "int" = some false := by decide +kernel
theorem kit_dict_bool : kitB "dict" "bool" = some false := by decide +kernel
theorem kit_dict_str : kitB "dict" "str" = some false := by decide +kernel
theorem kit_dict_list : kitB "dict" "list" = some false := by decide +kernel
theorem kit_dict_tuple : kitB "dict" "tuple" = some false := by decide +kernel
/-- isinstance(e, T), T a built-in type -/
theorem gd_isi {f T : Str} {n : String} {p p2 : Pos} (hg : Gl X f) (hm : X.mg f = none) (hv : bootBuiltins f = some (.builtin "isinstance")) (hT : PE X (.Name T p2) (tC (.ty n))) (ha : GD X B Γ S a d) (hk : kitB (tyN d) n = some k)
    (hn : f ≠ "__name__" := by decide) (hdb : (f == ("__debug__" : Str)) = false := by decide)
    (he : starEach [a, .Name T p2] X.env = (false, eval a X.env) :: starEach [.Name T p2] X.env := by rfl) (he2 : starEach [.Name T p2] X.env = (false, eval (.Name T p2) X.env) :: starEach [] X.env := by rfl) (hpl : (backTo pos (starEach [.Name T p2] X.env)).any (·.1) = false := by rfl) : GD X B Γ S (.Call (.Name f p) [a, .Name T p2] [] pos) (.bool k) :=
  (pe_callB call_isi hg hm hv (pa_cons ha (pa_cons hT pa_nil he2) he) hn hdb he hpl).imp fun σ H Q ⟨H0, at0, q⟩ => ⟨H0, at0, fun v H1 H' at1 e1 hv => ⟨v, .ty n, .type (tyN d), .type n, k, rfl, .ty n, tyx_of at1.e2 hv.toDp, kit_ty hk, q _ H1 H' at1 e1 ⟨_, rfl, .bl _⟩⟩⟩

/-! ### more operators -/
def rCatL (K : PySem.W.Frag) : R2 := fun x y H Q => ∃ l b xs zs, x = .ref l ∧ y = .ref b ∧ SqL K H l xs ∧ SqL K H b zs ∧ xs.length + zs.length ≤ sizeLine ∧ ∀ p, H p = none → Q (.ref p) (upd H p (.lst (xs ++ zs)))
theorem op_catL : OpR X (binaryOp .Add) (rCatL X.K) := fun pins s σ H x y v u Q inv rx ry ⟨l, b, xs, zs, ex, ey, hx, hy, room, q⟩ => by
  subst ex ey
  cases rx; cases ry
  obtain ⟨left, rl, pl, _⟩ := inv.list hx
  obtain ⟨right, rr, pr, _⟩ := inv.list hy
  have n1 := rl.length
  have n2 := rr.length
  rcases pl.isList with ⟨⟨_, d1, _, sl1⟩, o1, c1, m1, e1⟩
  rcases pr.isList with ⟨⟨_, d2, _, sl2⟩, o2, c2, m2, e2⟩
  dsimp only at c1 e1 c2 e2
  subst c1 e1 c2 e2
  have joined : left.toArray ++ right.toArray = (left ++ right).toArray := by simp
  refine concat_meets ⟨_, o1, rfl⟩ ⟨_, o2, rfl⟩ noFill_list_add seq_list_add PySem.F.slot_list_add PySem.F.entry_list_add (PySem.F.args_list_add_2 _ _) (list_addW l b left.toArray right.toArray m1 m2 d1 d2 sl1 sl2 (by simp only [List.size_toArray]; omega)) ⟨o1, o2, ?_⟩
  rw [joined]
  exact ⟨.ref _, _, inv.lnew (t' := s.toks) (rl.append rr) (by rw [List.length_append]; omega), rfl, q _ inv.fresh⟩
theorem od_cat {K : PySem.W.Frag} {xs ys : List PyData} (h : xs.length + ys.length ≤ 100000) : OpD K (rCatL K) (.list xs) (.list ys) (.list (xs ++ ys)) := fun H0 H v w e hv hw Q k => by
  cases hv with
  | lst hs ha =>
    cases hw with
    | lst hs' ha' =>
      exact ⟨_, _, _, _, rfl, rfl, ex_l e hs, ex_l e hs', by rw [dps_len ha, dps_len ha']; exact Evl.sz_of h, fun p hp => k _ _ _ (Ext.new e hp) (.lst (.inl (.inl upd_same)) (dps_ex (Ex.new (free0 e hp)) _ _ (dps_app ha ha')))⟩
theorem gd_cat {xs ys : List PyData} (ha : GD X B Γ S a (.list xs)) (hb : GD X B Γ S b (.list ys)) (h : xs.length + ys.length ≤ 100000) : GD X B Γ S (.BinOp a .Add b pos) (.list (xs ++ ys)) := gd_op op_catL (od_cat h) ha hb
theorem od_addS {K : PySem.W.Frag} {x y : Str} (h : x.length + y.length ≤ sizeLine) : OpD K (fun x y H Q => ∃ i j, x = .str i ∧ y = .str j ∧ i.length + j.length ≤ sizeLine ∧ Q (.str (i ++ j)) H) (.str x) (.str y) (.str (x ++ y)) := fun H0 H v w e hv hw Q k => by
  cases hv
  cases hw
  exact ⟨x, y, rfl, rfl, h, k _ H0 H (Ext.refl e) (.str _)⟩
theorem gd_addS (ha : GD X B Γ S a (.str x)) (hb : GD X B Γ S b (.str y)) (h : x.length + y.length ≤ sizeLine) : GD X B Γ S (.BinOp a .Add b pos) (.str (x ++ y)) := gd_op op_add_str (od_addS h) ha hb
theorem gd_neg (ha : GD X B Γ S a (.int i)) : GD X B Γ S (.UnaryOp .USub a pos) (.int (-i)) := (pe_un un_neg ha).imp fun σ H Q ⟨H0, at0, k⟩ => ⟨H0, at0, fun v H0' H' at1 e1 hv => by
  have hv := hv.toDp
  cases hv
  exact ⟨i, rfl, k _ H0' H' at1 e1 ⟨_, rfl, .int _⟩⟩⟩
theorem od_notIn {K : PySem.W.Frag} (g : flatD d = true) (f : ds.all flatD = true) : OpD K (rIn K true) d (.tuple ds) (.bool (!inD d ds)) := fun H0 H v w e hv hw Q k => by
  cases hw with
  | tup hs ha =>
    obtain ⟨i1, i2⟩ := inV_of hv g ha f
    refine ⟨_, _, rfl, .inr (ex_t e hs), flat_of hv g, i1, k _ H0 H (Ext.refl e) ?_⟩
    show Dp K H0 (.bl (!inV v _)) _
    rw [i2]
    exact .bl _
theorem gd_notIn (hm : behindInMarks .NotIn b = false) (ha : GD X B Γ S a d) (hb : GD X B Γ S b (.tuple ds)) (g : flatD d = true) (f : ds.all flatD = true) : GD X B Γ S (.Compare a [.NotIn] [b] pos) (.bool (!inD d ds)) := gd_cmp op_notIn_seq (od_notIn g f) hm ha hb
theorem gt_notIn (hm : behindInMarks .NotIn b = false) (ha : GD X B Γ S a d) (hb : GD X B Γ S b (.tuple ds)) (g : flatD d = true) (f : ds.all flatD = true) : GT X B Γ S (.Compare a [.NotIn] [b] pos) (!inD d ds) := gt_cmp op_notIn_seq (od_notIn g f) hm ha hb
theorem gd_inL (hm : behindInMarks .In b = false) (ha : GD X B Γ S a d) (hb : GD X B Γ S b (.list ds)) (g : flatD d = true) (f : ds.all flatD = true) : GD X B Γ S (.Compare a [.In] [b] pos) (.bool (inD d ds)) := gd_cmp op_in_seq (od_inL g f) hm ha hb
theorem gt_inL (hm : behindInMarks .In b = false) (ha : GD X B Γ S a d) (hb : GD X B Γ S b (.list ds)) (g : flatD d = true) (f : ds.all flatD = true) : GT X B Γ S (.Compare a [.In] [b] pos) (inD d ds) := gt_cmp op_in_seq (od_inL g f) hm ha hb
/-- a op b op' c of ints -/
theorem chain_goT {p p' : Int → Int → Bool} {l : Int} (hp : p i j = true) {σ : St} {H : Hp} {Q : VK} (h : rd X.K B Γ S (.dat (.bool (p i j && p' j l))) σ H Q) : tChain (rI0 fun i j => .bl (p i j)) (rI0 fun i j => .bl (p' i j)) (rd X.K B Γ S (.dat (.int i))) (rd X.K B Γ S (.dat (.int j))) (rd X.K B Γ S (.dat (.int l))) σ H Q := by
  obtain ⟨H0, at0, k⟩ := h
  refine ⟨H0, at0, fun v H1 H' at1 x1 hv => ⟨H1, at1, fun w H2 H'' at2 x2 hw => ?_⟩⟩
  have hv := hv.toDp
  cases hv
  have hw := hw.toDp
  cases hw
  refine ⟨i, j, rfl, rfl, p i j, rfl, ?_⟩
  rw [hp] at k ⊢
  exact iteT ⟨H2, at2, fun z H3 H3' at3 x3 hz => by
    have hz := hz.toDp
    cases hz
    exact ⟨j, l, rfl, rfl, k _ H3 H3' at3 ((x1.trans x2).trans x3) ⟨_, rfl, by rw [Bool.true_and]; exact .bl _⟩⟩⟩
theorem chain_goF {p p' : Int → Int → Bool} {l : Int} (hp : p i j = false) {σ : St} {H : Hp} {Q : VK} (h : rd X.K B Γ S (.dat (.bool (p i j && p' j l))) σ H Q) : tChain (rI0 fun i j => .bl (p i j)) (rI0 fun i j => .bl (p' i j)) (rd X.K B Γ S (.dat (.int i))) (rd X.K B Γ S (.dat (.int j))) (fun _ _ _ => False) σ H Q := by
  obtain ⟨H0, at0, k⟩ := h
  refine ⟨H0, at0, fun v H1 H' at1 x1 hv => ⟨H1, at1, fun w H2 H'' at2 x2 hw => ?_⟩⟩
  have hv := hv.toDp
  cases hv
  have hw := hw.toDp
  cases hw
  refine ⟨i, j, rfl, rfl, p i j, rfl, ?_⟩
  rw [hp] at k ⊢
  exact iteF (k _ H2 H'' at2 (x1.trans x2) ⟨_, rfl, by rw [Bool.false_and]; exact .bl _⟩)
theorem gd_chain {op op' : CmpOp} {p p' : Int → Int → Bool} {l : Int} (ho : OpR X (compareOp op) (rI0 fun i j => .bl (p i j))) (ho' : OpR X (compareOp op') (rI0 fun i j => .bl (p' i j))) (ha : GD X B Γ S a (.int i)) (hb : GD X B Γ S b (.int j)) (hc : p i j = true → GD X B Γ S c (.int l))
    (hm : lastMarks [op, op'] [b, c] = false := by with_unfolding_all rfl) : GD X B Γ S (.Compare a [op, op'] [b, c] pos) (.bool (p i j && p' j l)) := by
  cases hp : p i j with
  | true => exact (pe_chain ho ho' ha hb (hc hp) hm).imp fun σ H Q h => chain_goT hp (by rw [hp]; exact h)
  | false =>
    have hn : PE X c (fun _ _ _ => False) := ⟨fun _ _ _ _ _ _ h => h.elim⟩
    exact (pe_chain ho ho' ha hb hn hm).imp fun σ H Q h => chain_goF (p' := p') (l := l) hp (by rw [hp]; exact h)
theorem gt_chain {op op' : CmpOp} {p p' : Int → Int → Bool} {l : Int} (ho : OpR X (compareOp op) (rI0 fun i j => .bl (p i j))) (ho' : OpR X (compareOp op') (rI0 fun i j => .bl (p' i j))) (ha : GD X B Γ S a (.int i)) (hb : GD X B Γ S b (.int j)) (hc : p i j = true → GD X B Γ S c (.int l))
    (hm : lastMarks [op, op'] [b, c] = false := by with_unfolding_all rfl) : GT X B Γ S (.Compare a [op, op'] [b, c] pos) (p i j && p' j l) := by
  cases hp : p i j with
  | true => exact (pt_chain ho ho' ha hb (hc hp) hm).imp (test_go fun σ H Q h => chain_goT hp (by rw [hp]; exact h))
  | false =>
    have hn : PE X c (fun _ _ _ => False) := ⟨fun _ _ _ _ _ _ h => h.elim⟩
    exact (pt_chain ho ho' ha hb hn hm).imp (test_go fun σ H Q h => chain_goF (p' := p') (l := l) hp (by rw [hp]; exact h))
theorem gt_chain_le_lt {l : Int} (ha : GD X B Γ S a (.int i)) (hb : GD X B Γ S b (.int j)) (hc : decide (i ≤ j) = true → GD X B Γ S c (.int l)) (hm : lastMarks [.LtE, .Lt] [b, c] = false := by with_unfolding_all rfl) : GT X B Γ S (.Compare a [.LtE, .Lt] [b, c] pos) (decide (i ≤ j) && decide (j < l)) := gt_chain op_le op_lt ha hb hc hm
theorem gd_chain_le_lt {l : Int} (ha : GD X B Γ S a (.int i)) (hb : GD X B Γ S b (.int j)) (hc : decide (i ≤ j) = true → GD X B Γ S c (.int l)) (hm : lastMarks [.LtE, .Lt] [b, c] = false := by with_unfolding_all rfl) : GD X B Γ S (.Compare a [.LtE, .Lt] [b, c] pos) (.bool (decide (i ≤ j) && decide (j < l))) := gd_chain op_le op_lt ha hb hc hm
/-- slices of lists -/
abbrev GO (X : Cx) (B : Bs) (Γ : Gam) (S : Sto) (e : Option Expr) (o : Option Int) : Prop := PO X e (fun σ H Q => ∃ H0, At X.K B H0 Γ S σ H ∧ ∀ H0' H', At X.K B H0' Γ S σ H' → Ex H0 H0' → Q o H')
theorem go_none : GO X B Γ S none none := ⟨fun pins s σ H Q I ⟨H0, at0, k⟩ => (po_none (X := X)).run pins s σ H Q I (k H0 H at0 (Ex.refl _))⟩
theorem go_some (h : GD X B Γ S e (.int i)) : GO X B Γ S (some e) (some i) := ⟨fun pins s σ H Q I ⟨H0, at0, k⟩ => (po_some h).run pins s σ H Q I ⟨H0, at0, fun v H0' H' at1 e1 hv => by
  have hv := hv.toDp
  cases hv
  exact ⟨i, rfl, k H0' H' at1 e1⟩⟩⟩
def cutD (xs : List PyData) (lo hi : Option Int) : List PyData := (xs.drop (HT.sIx xs.length 0 lo)).take (HT.sIx xs.length xs.length hi - HT.sIx xs.length 0 lo)
theorem gd_slice {xs : List PyData} {lo hi : Option Expr} {l u : Option Int} {p2 : Pos} (ha : GD X B Γ S a (.list xs)) (hl : GO X B Γ S lo l) (hu : GO X B Γ S hi u) : GD X B Γ S (.Subscript a (.Slice lo hi none p2) pos) (.list (cutD xs l u)) :=
  (pe_slice sl_list ha hl hu).imp fun σ H Q ⟨H0, at0, k⟩ => ⟨H0, at0, fun v H1 H' at1 x1 hv => ⟨H1, at1, fun H2 H'' at2 x2 => ⟨H2, at2, fun H3 H3' at3 x3 => by
    have hv := dp_ex (x2.trans x3) _ _ hv.toDp
    cases hv with
    | @lst q vs _ hs ha =>
      refine ⟨q, vs, rfl, ex_l at3.e2 hs, fun p hp => k _ _ _ (at3.ext (Ext.new at3.e2 hp)) (((x1.trans x2).trans x3).trans (Ex.new (free0 at3.e2 hp))) ⟨_, rfl, .lst (.inl (.inl upd_same)) (dps_ex (Ex.new (free0 at3.e2 hp)) _ _ ?_)⟩⟩
      unfold cutV cutD
      rw [dps_len ha]
      exact dps_take _ (dps_drop _ ha)⟩⟩⟩
theorem ca_strI {K : PySem.W.Frag} (h : i.natAbs.log2 < 1920) : CaD K (fun xs H Q => ∃ i, xs = [.int i] ∧ i.natAbs.log2 < 1920 ∧ Q (.str (toString i)) H) [.int i] (.str (toString i)) := fun H0 H vs e hvs Q q => by
  cases hvs with
  | cons hv ht =>
    cases ht
    cases hv
    exact ⟨i, rfl, h, q _ H0 H (Ext.refl e) (.str _)⟩
/-! ### calls of defs -/
/-- a pure def: R tells what it gives -/
def SpD (K : PySem.W.Frag) (R : List PyData → PyData → Prop) : Sp := fun vs H Q _ => ∃ H0 ds d, Ex H0 H ∧ R ds d ∧ DpAll K H0 vs ds ∧ ∀ v H0' H', Ext H0 H H0' H' → Dp K H0' v d → Q v H'
theorem gd_call {CX : CXT} {n : Nat} {f : Addr} {fd : FuncData} {ps : List Str} {R : List PyData → PyData → Prop} {E : XK} {x : Str} {p : Pos} (F : FnOk X.prog X.w X.K X.mg X.base CX n f fd ps (SpD X.K R)) (hr : Room n X.A) (hg : Gl X x) (hm : X.mg x = some (.ref f)) (hk : PySem.W.keepIn X.K (.ref f) = true) (hb : Binds X.K fd ps []) (hx : Passes CX X E)
    (ha : GA X B Γ S (e :: es) ds) (q : R ds d) (hdb : (x == ("__debug__" : Str)) = false := by decide) (he : starEach (e :: es) X.env = (false, eval e X.env) :: starEach es X.env := by rfl) (hpl : (backTo pos (starEach es X.env)).any (·.1) = false := by rfl) :
    GD X B Γ S (.Call (.Name x p) (e :: es) [] pos) d := (pe_call F hr hg hm hk hb .nil hx ha hdb he hpl).imp fun σ H Q ⟨H0, at0, k⟩ => ⟨H0, at0, fun vs H1 H' at1 e1 hvs => by
  show SpD X.K R (vs ++ []) H' Q E
  rw [List.append_nil]
  exact ⟨H1, ds, d, at1.e2, q, hvs, fun v H2 H2' x2 hv => k v H2 H2' (at1.ext x2) (e1.trans x2.e0) ⟨v, rfl, hv⟩⟩⟩
end

/-! ### statements -/
structure Po where
  N : Gam → Sto → Prop
  R : Sl → Sto → Prop
  bk : Gam → Sto → Prop := fun _ _ => False
  ct : Gam → Sto → Prop := fun _ _ => False
  ex : Value → Gam → Sto → Prop := fun _ _ _ => False
structure Endz (K : PySem.W.Frag) (B : Bs) (P : Po) (D : Ends) : Prop where
  nx : ∀ Γ S H0 σ H, P.N Γ S → At K B H0 Γ S σ H → D.nx σ H
  rt : ∀ r Γ S v H0 σ H, P.R r S → At K B H0 Γ S σ H → SlOk K H0 (some (some v)) r → D.rt v H
  bk : ∀ Γ S H0 σ H, P.bk Γ S → At K B H0 Γ S σ H → D.bk σ H
  ct : ∀ Γ S H0 σ H, P.ct Γ S → At K B H0 Γ S σ H → D.ct σ H
  ex : ∀ cls Γ S H0 σ H, P.ex cls Γ S → At K B H0 Γ S σ H → B.E cls none σ H
def rs (K : PySem.W.Frag) (B : Bs) (Γ : Gam) (S : Sto) (P : Po) : TS := fun D σ H => ∃ H0, At K B H0 Γ S σ H ∧ Endz K B P D
abbrev GS (X : Cx) (B : Bs) (Γ : Gam) (S : Sto) (st : Stmt) (P : Po) : Prop := PS X st (rs X.K B Γ S P)
abbrev GSs (X : Cx) (B : Bs) (Γ : Gam) (S : Sto) (st : List Stmt) (P : Po) : Prop := PSs X st (rs X.K B Γ S P)
/-- an expression that may change what is owned, and may raise -/
def re (K : PySem.W.Frag) (B : Bs) (Γ : Gam) (S : Sto) (Pe : Sl → Sto → Prop) (ex : Value → Gam → Sto → Prop) : TE := fun σ H Q => ∃ H0, At K B H0 Γ S σ H ∧
  (∀ r S' v H0' H', Pe r S' → At K B H0' Γ S' σ H' → Ex H0 H0' → SlOk K H0' (some (some v)) r → Q v H') ∧ ∀ cls S' H0' H', ex cls Γ S' → At K B H0' Γ S' σ H' → B.E cls none σ H'
/-- a test of that kind -/
def rtE (K : PySem.W.Frag) (B : Bs) (Γ : Gam) (S : Sto) (Pt : Bool → Sto → Prop) (ex : Value → Gam → Sto → Prop) : TT := fun σ H Q => ∃ H0, At K B H0 Γ S σ H ∧
  (∀ b S' H0' H', Pt b S' → At K B H0' Γ S' σ H' → Ex H0 H0' → Q b H') ∧ ∀ cls S' H0' H', ex cls Γ S' → At K B H0' Γ S' σ H' → B.E cls none σ H'
abbrev GE (X : Cx) (B : Bs) (Γ : Gam) (S : Sto) (e : Expr) (Pe : Sl → Sto → Prop) (ex : Value → Gam → Sto → Prop) : Prop := PE X e (re X.K B Γ S Pe ex)
abbrev GTE (X : Cx) (B : Bs) (Γ : Gam) (S : Sto) (e : Expr) (Pt : Bool → Sto → Prop) (ex : Value → Gam → Sto → Prop) : Prop := PT X e (rtE X.K B Γ S Pt ex)
section
variable {X : Cx} {B : Bs} {Γ : Gam} {S : Sto} {st : Stmt} {rest : List Stmt} {a b c e : Expr} {d : PyData} {pos : Pos} {k : Bool} {P : Po}
theorem gss_nil (h : P.N Γ S) : GSs X B Γ S [] P := pss_nil.imp fun D σ H ⟨H0, at0, z⟩ => z.nx Γ S H0 σ H h at0
theorem gss_cons {M : Gam → Sto → Prop} (h1 : GS X B Γ S st { P with N := M }) (h2 : ∀ Γ' S', M Γ' S' → GSs X B Γ' S' rest P) : GSs X B Γ S (st :: rest) P := by
  have h2' : PSs X rest (fun D σ H => ∃ Γ' S', M Γ' S' ∧ rs X.K B Γ' S' P D σ H) := ⟨fun pins s σ H D I ⟨Γ', S', m, q⟩ => (h2 Γ' S' m).run pins s σ H D I q⟩
  exact (pss_cons h1 h2').imp fun D σ H ⟨H0, at0, z⟩ => ⟨H0, at0, fun Γ' S' H1 σ' H' m at1 => ⟨Γ', S', m, H1, at1, z⟩, z.rt, z.bk, z.ct, z.ex⟩
theorem gss_seq {Γ' : Gam} {S' : Sto} (h1 : GS X B Γ S st { P with N := fun Γ1 S1 => Γ1 = Γ' ∧ S1 = S' }) (h2 : GSs X B Γ' S' rest P) : GSs X B Γ S (st :: rest) P := gss_cons h1 fun _ _ ⟨e1, e2⟩ => by subst e1 e2; exact h2
theorem gss_one (h1 : GS X B Γ S st P) : GSs X B Γ S [st] P := pss_one h1
theorem gs_set {i : Nat} {x : Str} {pos' : Pos} {r : Sl} (hN : X.N.Nodup) (hi : X.N[i]? = some x) (hx : Loc X.env.scope x) (he : PE X e (rd X.K B Γ S r)) (q : P.N (Γ.set i r) S) (hs : swapsWith e (some (.Name x pos')) pos.line X.env = pure false := by rfl)
    (hf : X.fn x = true ∨ X.env.scope.names.lookup x = some .local := by first | exact .inl rfl | exact .inr rfl | assumption) : GS X B Γ S (.Assign [.Name x pos'] e pos) P :=
  (ps_set hN hi hx he hs hf).imp fun D σ H ⟨H0, at0, z⟩ => ⟨H0, at0, fun v H0' H' at1 e1 hv => z.nx _ _ H0' _ H' q (at1.set i hv)⟩
theorem gss_set {i : Nat} {x : Str} {pos' : Pos} {r : Sl} (hN : X.N.Nodup) (hi : X.N[i]? = some x) (hx : Loc X.env.scope x) (he : PE X e (rd X.K B Γ S r)) (h2 : GSs X B (Γ.set i r) S rest P) (hs : swapsWith e (some (.Name x pos')) pos.line X.env = pure false := by rfl)
    (hf : X.fn x = true ∨ X.env.scope.names.lookup x = some .local := by first | exact .inl rfl | exact .inr rfl | assumption) : GSs X B Γ S (.Assign [.Name x pos'] e pos :: rest) P := gss_seq (gs_set hN hi hx he ⟨rfl, rfl⟩ hs hf) h2
theorem gs_if {t u : List Stmt} (hc : GT X B Γ S c k) (h1 : k = true → GSs X B Γ S t P) (h2 : k = false → GSs X B Γ S u P) : GS X B Γ S (.If c t u pos) P := by
  cases k with
  | true => exact (ps_if hc (h1 rfl) pss_never).imp fun D σ H ⟨H0, at0, z⟩ => ⟨H0, at0, fun H0' H' at1 _ => iteT ⟨H0', at1, z⟩⟩
  | false => exact (ps_if hc pss_never (h2 rfl)).imp fun D σ H ⟨H0, at0, z⟩ => ⟨H0, at0, fun H0' H' at1 _ => iteF ⟨H0', at1, z⟩⟩
theorem gss_if {t u : List Stmt} (hc : GT X B Γ S c k) (h1 : k = true → GSs X B Γ S t { P with N := fun Γ' S' => GSs X B Γ' S' rest P }) (h2 : k = false → GSs X B Γ S u { P with N := fun Γ' S' => GSs X B Γ' S' rest P }) : GSs X B Γ S (.If c t u pos :: rest) P :=
  gss_cons (gs_if hc h1 h2) fun _ _ h => h
/-- an if behind which the slots are F of some x with Pr x -/
theorem gss_join {α : Type} (F : Gam → α → Gam) (Pr : α → Prop) {t u : List Stmt} (hc : GT X B Γ S c k) (h1 : k = true → GSs X B Γ S t { P with N := fun Γ' S' => ∃ x, Pr x ∧ Γ' = F Γ x ∧ S' = S })
    (h2 : k = false → GSs X B Γ S u { P with N := fun Γ' S' => ∃ x, Pr x ∧ Γ' = F Γ x ∧ S' = S }) (h3 : ∀ x, Pr x → GSs X B (F Γ x) S rest P) : GSs X B Γ S (.If c t u pos :: rest) P :=
  gss_cons (gs_if hc h1 h2) fun Γ' S' h => by obtain ⟨x, p, rfl, rfl⟩ := h; exact h3 x p
theorem gs_ret {r : Sl} (he : PE X e (rd X.K B Γ S r)) (q : P.R r S) : GS X B Γ S (.Return (some e) pos) P := (ps_ret he).imp fun D σ H ⟨H0, at0, z⟩ => ⟨H0, at0, fun v H0' H' at1 _ hv => z.rt r Γ S v H0' σ H' q at1 hv⟩
theorem ret_all {t : Stmt} (h : GS X B Γ S t { P with N := fun _ _ => False }) : GSs X B Γ S (t :: rest) P := by
  have h2 : PSs X rest tNever := pss_never
  exact (pss_cons h h2).imp fun D σ H ⟨H0, at0, z⟩ => ⟨H0, at0, fun _ _ _ _ _ m _ => m.elim, z.rt, z.bk, z.ct, z.ex⟩
theorem gss_ret {r : Sl} (he : PE X e (rd X.K B Γ S r)) (q : P.R r S) : GSs X B Γ S (.Return (some e) pos :: rest) P := ret_all (gs_ret he q)
theorem gs_doc {x : Str} {j : Nat} {pos' : Pos} (q : P.N Γ S) : GS X B Γ S (.Expr (.Constant (.str x) j pos) pos') P := ps_doc.imp fun D σ H ⟨H0, at0, z⟩ => z.nx Γ S H0 σ H q at0
theorem gss_mono {Q : Po} (h : GSs X B Γ S rest P) (n : ∀ Γ S, P.N Γ S → Q.N Γ S) (r : ∀ v S, P.R v S → Q.R v S) (b : ∀ Γ S, P.bk Γ S → Q.bk Γ S) (c : ∀ Γ S, P.ct Γ S → Q.ct Γ S) (x : ∀ z Γ S, P.ex z Γ S → Q.ex z Γ S) : GSs X B Γ S rest Q := h.imp fun D σ H ⟨H0, at0, z⟩ =>
  ⟨H0, at0, fun Γ S H0 σ H q => z.nx Γ S H0 σ H (n Γ S q), fun v Γ S u H0 σ H q => z.rt v Γ S u H0 σ H (r v S q), fun Γ S H0 σ H q => z.bk Γ S H0 σ H (b Γ S q), fun Γ S H0 σ H q => z.ct Γ S H0 σ H (c Γ S q), fun y Γ S H0 σ H q => z.ex y Γ S H0 σ H (x y Γ S q)⟩
/-! ### with effects -/
variable {Pe : Sl → Sto → Prop} {ex : Value → Gam → Sto → Prop} {Pt : Bool → Sto → Prop}
theorem ge_of {r : Sl} (h : PE X e (rd X.K B Γ S r)) (q : Pe r S) : GE X B Γ S e Pe ex := h.imp fun σ H Q ⟨H0, at0, k, _⟩ => ⟨H0, at0, fun v H0' H' at1 e1 hv => k r S v H0' H' q at1 e1 hv⟩
theorem gs_setE {i : Nat} {x : Str} {pos' : Pos} (hN : X.N.Nodup) (hi : X.N[i]? = some x) (hx : Loc X.env.scope x) (he : GE X B Γ S e (fun r S' => P.N (Γ.set i r) S') P.ex) (hs : swapsWith e (some (.Name x pos')) pos.line X.env = pure false := by rfl)
    (hf : X.fn x = true ∨ X.env.scope.names.lookup x = some .local := by first | exact .inl rfl | exact .inr rfl | assumption) : GS X B Γ S (.Assign [.Name x pos'] e pos) P :=
  (ps_set hN hi hx he hs hf).imp fun D σ H ⟨H0, at0, z⟩ => ⟨H0, at0, fun r S' v H0' H' q at1 e1 hv => z.nx _ _ H0' _ H' q (at1.set i hv), fun cls S' H0' H' q at1 => z.ex cls Γ S' H0' σ H' q at1⟩
theorem gs_exprE (he : GE X B Γ S e (fun _ S' => P.N Γ S') P.ex) (hs : swapsWith e none pos.line X.env = pure false := by rfl) : GS X B Γ S (.Expr e pos) P :=
  (ps_expr he hs).imp fun D σ H ⟨H0, at0, z⟩ => ⟨H0, at0, fun r S' v H0' H' q at1 e1 hv => z.nx _ _ H0' _ H' q at1, fun cls S' H0' H' q at1 => z.ex cls Γ S' H0' σ H' q at1⟩
theorem gs_retE (he : GE X B Γ S e P.R P.ex) : GS X B Γ S (.Return (some e) pos) P :=
  (ps_ret he).imp fun D σ H ⟨H0, at0, z⟩ => ⟨H0, at0, fun r S' v H0' H' q at1 e1 hv => z.rt r Γ S' v H0' σ H' q at1 hv, fun cls S' H0' H' q at1 => z.ex cls Γ S' H0' σ H' q at1⟩
theorem gte_of {k : Bool} (h : GT X B Γ S c k) (q : Pt k S) : GTE X B Γ S c Pt ex := h.imp fun σ H Q ⟨H0, at0, k1, _⟩ => ⟨H0, at0, fun H0' H' at1 e1 => k1 k S H0' H' q at1 e1⟩
theorem gs_ifE {t u : List Stmt} (hc : GTE X B Γ S c Pt P.ex) (h1 : ∀ S', Pt true S' → GSs X B Γ S' t P) (h2 : ∀ S', Pt false S' → GSs X B Γ S' u P) : GS X B Γ S (.If c t u pos) P := by
  have h1' : PSs X t (fun D σ H => ∃ S', Pt true S' ∧ rs X.K B Γ S' P D σ H) := ⟨fun pins s σ H D I ⟨S', m, q⟩ => (h1 S' m).run pins s σ H D I q⟩
  have h2' : PSs X u (fun D σ H => ∃ S', Pt false S' ∧ rs X.K B Γ S' P D σ H) := ⟨fun pins s σ H D I ⟨S', m, q⟩ => (h2 S' m).run pins s σ H D I q⟩
  exact (ps_if hc h1' h2').imp fun D σ H ⟨H0, at0, z⟩ => ⟨H0, at0, fun b S' H0' H' q at1 e1 => by
    cases b with
    | true => exact iteT ⟨S', q, H0', at1, z⟩
    | false => exact iteF ⟨S', q, H0', at1, z⟩, fun cls S' H0' H' q at1 => z.ex cls Γ S' H0' σ H' q at1⟩
end

/-! ### a pure def by its body -/
/-- the slots at the entry -/
def gam (n : Nat) (ds : List PyData) : Gam := ds.map Sl.dat ++ List.replicate (n - ds.length) .un
def gamS (n : Nat) (as : List Sl) : Gam := as ++ List.replicate (n - as.length) .un
abbrev ArgsOk (K : PySem.W.Frag) (H0 : Hp) (vs : List V) (as : List Sl) : Prop := Paired (fun v s => SlOk K H0 (some (some v)) s) vs as
theorem ArgsOk.get {K : PySem.W.Frag} {H0 : Hp} : ∀ {vs : List V} {as : List Sl} {i : Nat} {s : Sl}, ArgsOk K H0 vs as → as[i]? = some s → ∃ v, vs[i]? = some v ∧ SlOk K H0 (some (some v)) s
  | _, _, _, _, .nil, e => by simp at e
  | _, _, 0, _, .cons r _, e => by simp at e; subst e; exact ⟨_, rfl, r⟩
  | _, _, i + 1, s, .cons _ t, e => by
    obtain ⟨u, h1, h2⟩ := ArgsOk.get (i := i) (s := s) t (by simpa using e)
    exact ⟨u, by simpa using h1, h2⟩
theorem args_of {K : PySem.W.Frag} {H0 : Hp} : ∀ {vs : List V} {ds : List PyData}, DpAll K H0 vs ds → ArgsOk K H0 vs (ds.map Sl.dat)
  | _, _, .nil => .nil
  | _, _, .cons h t => .cons (SlOk.dat h) (args_of t)
theorem env_startS {K : PySem.W.Frag} {H0 : Hp} {N : List Str} {vs : List V} {as : List Sl} (h : ArgsOk K H0 vs as) (hl : as.length ≤ N.length) : EnvOk K H0 (L2.start N vs) (gamS N.length as) := by
  have e : vs.length = as.length := Paired.length h
  refine ⟨?_, fun i s q => ?_⟩
  · unfold L2.start gamS
    rw [List.length_append, List.length_append, List.length_map, List.length_replicate, List.length_replicate, e]
  · unfold gamS at q
    by_cases hi : i < as.length
    · rw [List.getElem?_append_left hi] at q
      obtain ⟨v, h1, h2⟩ := ArgsOk.get h q
      unfold L2.start
      rw [List.getElem?_append_left (by rw [List.length_map, e]; exact hi), List.getElem?_map, h1]
      exact h2
    · rw [List.getElem?_append_right (by omega), List.getElem?_replicate] at q
      split at q
      · cases q; trivial
      · cases q
theorem gam_S {n : Nat} {ds : List PyData} : gam n ds = gamS n (ds.map Sl.dat) := by unfold gam gamS; rw [List.length_map]
/-- a def or method that may change what is owned and may raise: what is asked, what is told -/
def NewK (H : Hp) (S S' : Sto) : Prop := ∀ p ∈ keys S', p ∈ keys S ∨ H p = none
abbrev Rq := List Sl → Sto → (Sl → Sto → Prop) → (Value → Sto → Prop) → Prop
def SpM (K : PySem.W.Frag) (R : Rq) : Sp := fun vs H Q E => ∃ H0 as S PR PX, Ex H0 H ∧ R as S PR PX ∧ ArgsOk K H0 vs as ∧ StoOk K H0 H S ∧
  (∀ r S' v H0' H', PR r S' → Fra ⟨H0, H, keys S, fun _ _ _ _ => False⟩ H0' H' → StoOk K H0' H' S' → NewK H S S' → SlOk K H0' (some (some v)) r → Q v H') ∧
  ∀ cls S' H0' H', PX cls S' → Fra ⟨H0, H, keys S, fun _ _ _ _ => False⟩ H0' H' → StoOk K H0' H' S' → NewK H S S' → E cls none H'
theorem Fra.toE {H0 H H0' H' : Hp} {ks : List Addr} {E E' : WX} (f : Fra ⟨H0, H, ks, E⟩ H0' H') : Fra ⟨H0, H, ks, E'⟩ H0' H' := ⟨f.e0, f.e1, f.e2, f.fr, f.th⟩
section
variable {P : Program} {w : World} {K : PySem.W.Frag} {mg : Str → Option Value} {base : Heap}
theorem pure_def {x qual : Str} {st : Stmt} {f : Addr} {fd : FuncData} {N ps : List Str} {n : Nat} {R : List PyData → PyData → Prop} (F : Fun K x qual st f fd) (Sc : FnScope N ps (defScope st)) (hlen : ∀ ds d, R ds d → ds.length = ps.length)
    (hbody : ∀ (cdv : Value) (A : Around) (outer : List Env) (s : Shared) (H : Hp) (E : XK) (B : Bs) (ds : List PyData) (d : PyData), Room n (A.deeper (envOfC qual (defScope st) s.heap.objs.size f cdv)) → R ds d →
      GSs (cxOf CX0 P w K mg base N qual (defScope st) f cdv A outer s H E).nox B (gam N.length ds) [] (defBody st) { N := fun _ _ => d = .none, R := fun r _ => r = .dat d }) : FnOk P w K mg base CX0 (n + 1) f fd ps (SpD K R) := by
  refine F.ok Sc (fun vs H Q E h => ?_) (fun cdv A outer s H vs Q E hr h => ?_)
  · obtain ⟨H0, ds, d, _, hR, hv, _⟩ := h
    rw [dps_len hv]
    exact hlen ds d hR
  · obtain ⟨H0, ds, d, e, hR, hv, k⟩ := h
    have hle : ps.length ≤ N.length := by have := congrArg List.length Sc.pre; rw [List.length_take] at this; omega
    refine ⟨_, hbody cdv A outer s H E ⟨H0, H, [], fun _ _ _ _ => False⟩ ds d hr hR, H0, ⟨Fra.refl e, by rw [gam_S]; exact env_startS (args_of hv) (by rw [List.length_map, hlen ds d hR]; exact hle), StoOk.nil, fun p z => nomatch z⟩, ?_, ?_, ?_, ?_, ?_⟩
    · intro Γ S H0' σ H' hd at1
      subst hd
      exact k .non H0' H' at1.fra.toExt .non
    · intro r Γ S v H0' σ H' hr at1 hv
      subst hr
      exact k v H0' H' at1.fra.toExt hv.toDp
    · intro _ _ _ _ _ h _
      exact h.elim
    · intro _ _ _ _ _ h _
      exact h.elim
    · intro _ _ _ _ _ _ h _
      exact h.elim
/-- .. with owned things, nothing raised -/
theorem mut_def0 {x qual : Str} {st : Stmt} {f : Addr} {fd : FuncData} {N ps : List Str} {n : Nat} {R : Rq} (F : Fun K x qual st f fd) (Sc : FnScope N ps (defScope st)) (hlen : ∀ as S PR PX, R as S PR PX → as.length = ps.length)
    (hbody : ∀ (cdv : Value) (A : Around) (outer : List Env) (s : Shared) (H : Hp) (E : XK) (B : Bs) (as : List Sl) (S : Sto) (PR : Sl → Sto → Prop) (PX : Value → Sto → Prop), Room n (A.deeper (envOfC qual (defScope st) s.heap.objs.size f cdv)) → R as S PR PX →
      GSs (cxOf CX0 P w K mg base N qual (defScope st) f cdv A outer s H E).nox B (gamS N.length as) S (defBody st) { N := fun _ S' => PR (.dat .none) S', R := PR }) : FnOk P w K mg base CX0 (n + 1) f fd ps (SpM K R) := by
  refine F.ok Sc (fun vs H Q E h => ?_) (fun cdv A outer s H vs Q E hr h => ?_)
  · obtain ⟨H0, as, S, PR, PX, _, hR, hv, _⟩ := h
    rw [Paired.length hv]
    exact hlen as S PR PX hR
  · obtain ⟨H0, as, S, PR, PX, e, hR, hv, hS, k, kx⟩ := h
    have hle : ps.length ≤ N.length := by have := congrArg List.length Sc.pre; rw [List.length_take] at this; omega
    refine ⟨_, hbody cdv A outer s H E ⟨H0, H, keys S, fun _ _ _ _ => False⟩ as S PR PX hr hR, H0, ⟨Fra.refl e, env_startS hv (by rw [hlen as S PR PX hR]; exact hle), hS, fun p z => .inl z⟩, ?_, ?_, ?_, ?_, ?_⟩
    · intro Γ S' H0' σ H' hd at1
      exact k _ S' .non H0' H' hd at1.fra at1.sto at1.wr ⟨_, rfl, .non⟩
    · intro r Γ S' v H0' σ H' hr at1 hv
      exact k r S' v H0' H' hr at1.fra at1.sto at1.wr hv
    · intro _ _ _ _ _ h _
      exact h.elim
    · intro _ _ _ _ _ h _
      exact h.elim
    · intro _ _ _ _ _ _ h _
      exact h.elim
end
theorem law_sp {K : PySem.W.Frag} {R : List PyData → PyData → Prop} {H : Hp} {a : Addr} {ns : List Int} {E : XK} (hR : R [.list (ns.map PyData.int)] (.bool true)) (hS : SqL K H a (ns.map V.int)) : SpD K R [.ref a] H (fun v _ => v = .bl true) E :=
  ⟨H, _, _, Ex.refl H, hR, .cons (.lst hS (dps_ints ns)) .nil, fun v H0' H' _ hv => by cases hv; rfl⟩
/-! ### what is owned, changed -/
theorem free_of {K : PySem.W.Frag} {H0 H : Hp} {S : Sto} {p : Addr} (h : StoOk K H0 H S) (hp : H p = none) : p ∉ keys S := fun z => by
  obtain ⟨ov, m⟩ := of_keys z
  exact OvOk.ne (h.at_ p ov m).2 hp
theorem nd_at {S : Sto} (nd : (keys S).Nodup) {n : Nat} {p : Addr} {ov : OV} (hn : S[n]? = some (p, ov)) {q : Addr} {ow : OV} {m : Nat} (hm : S[m]? = some (q, ow)) (h : m ≠ n) : q ≠ p := fun e => by
  subst e
  have h1 : (keys S)[n]? = some q := by rw [List.getElem?_map, hn]; rfl
  have h2 : (keys S)[m]? = some q := by rw [List.getElem?_map, hm]; rfl
  exact h (nd_ix nd h2 h1)
theorem keys_set {S : Sto} {n : Nat} {p : Addr} {ov ow : OV} (hn : S[n]? = some (p, ov)) : keys (S.set n (p, ow)) = keys S := by
  refine List.ext_getElem? fun m => ?_
  rw [List.getElem?_map, List.getElem?_map]
  by_cases h : n = m
  · subst h
    obtain ⟨hl, _⟩ := List.getElem?_eq_some_iff.mp hn
    rw [List.getElem?_set_self hl, hn]
    rfl
  · rw [List.getElem?_set_ne h]
theorem At.write {K : PySem.W.Frag} {B : Bs} {H0 H : Hp} {Γ : Gam} {S : Sto} {σ : St} {n : Nat} {p : Addr} {ov ow : OV} {o : HO} (a : At K B H0 Γ S σ H) (hn : S[n]? = some (p, ov)) (hw : OvOk K H0 (upd H p o) p ow) : At K B H0 Γ (S.set n (p, ow)) σ (upd H p o) := by
  have hm : (p, ov) ∈ S := List.mem_of_getElem? hn
  obtain ⟨h0, h1⟩ := a.sto.at_ p ov hm
  have hne := OvOk.ne h1
  have hp : ∀ b, H b = none → b ≠ p := fun b e z => hne (by rw [← z]; exact e)
  refine ⟨⟨a.fra.e0, fun b o' e nb => ?_, fun b o' e => ?_, a.fra.fr, fun b e => ?_⟩, a.env, ⟨fun q ow' hq => ?_, ?_⟩, fun q hq => ?_⟩
  · have : b ≠ p := fun z => (a.wr p (mem_keys hm)).elim (fun k => nb (by rw [z]; exact k)) fun k => by rw [z, k] at e; cases e
    rw [upd_ne this]; exact a.fra.e1 b o' e nb
  · rw [upd_ne (ne_of_none e h0)]; exact a.fra.e2 b o' e
  · by_cases z : b = p
    · subst z; rw [upd_same]; exact fun q => nomatch q
    · rw [upd_ne z]; exact a.fra.th b e
  · obtain ⟨m, hm'⟩ := List.getElem?_of_mem hq
    by_cases z : n = m
    · subst z
      obtain ⟨hl, _⟩ := List.getElem?_eq_some_iff.mp hn
      rw [List.getElem?_set_self hl] at hm'
      cases hm'
      exact ⟨h0, hw⟩
    · rw [List.getElem?_set_ne z] at hm'
      obtain ⟨k0, k1⟩ := a.sto.at_ q ow' (List.mem_of_getElem? hm')
      have : q ≠ p := nd_at a.sto.nd hn hm' (fun e => z e.symm)
      exact ⟨k0, OvOk.ext (Ex.refl _) (fun o' e => by rw [upd_ne this]; exact e) k1⟩
  · rw [keys_set hn]; exact a.sto.nd
  · rw [keys_set hn] at hq; exact a.wr q hq
/-- a new owned thing -/
theorem At.own {K : PySem.W.Frag} {B : Bs} {H0 H : Hp} {Γ : Gam} {S : Sto} {σ : St} {p : Addr} {ow : OV} {o : HO} (a : At K B H0 Γ S σ H) (hp : H p = none) (hw : OvOk K H0 (upd H p o) p ow) : At K B H0 Γ ((p, ow) :: S) σ (upd H p o) := by
  have b := a.ext (Ext.newH (o := o) a.e2 hp)
  refine ⟨b.fra, b.env, ⟨fun q ow' hq => ?_, ?_⟩, fun q hq => ?_⟩
  · rcases List.mem_cons.mp hq with e | hq
    · cases e; exact ⟨free0 a.e2 hp, hw⟩
    · exact b.sto.at_ q ow' hq
  · exact List.nodup_cons.mpr ⟨free_of a.sto hp, b.sto.nd⟩
  · rcases List.mem_cons.mp hq with e | hq
    · cases e
      refine .inr ?_
      cases z : B.H p with
      | none => rfl
      | some o' => exact absurd hp (a.fra.th p (by rw [z]; exact fun q => nomatch q))
    · exact a.wr q hq
/-- an owned list is data from now on -/
theorem At.freeze {K : PySem.W.Frag} {B : Bs} {H0 H : Hp} {Γ : Gam} {S : Sto} {σ : St} {n : Nat} {p : Addr} {ds : List PyData} (a : At K B H0 Γ S σ H) (hn : S[n]? = some (p, .lst ds)) (hk : B.H p = none) : ∃ H0', Ex H0 H0' ∧ At K B H0' Γ (S.eraseIdx n) σ H ∧ Dp K H0' (.ref p) (.list ds) := by
  have hm : (p, OV.lst ds) ∈ S := List.mem_of_getElem? hn
  obtain ⟨h0, vs, h1, h2⟩ := a.sto.at_ p _ hm
  have e0 : Ex H0 (upd H0 p (.lst vs)) := Ex.new h0
  refine ⟨upd H0 p (.lst vs), e0, ⟨⟨a.fra.e0.trans e0, a.fra.e1, fun b o e => ?_, fun b e1 e2 => ?_, a.fra.th⟩, a.env.ext e0, ⟨fun q ow hq => ?_, ?_⟩, fun q hq => ?_⟩, .lst (.inl (.inl upd_same)) (dps_ex e0 _ _ h2)⟩
  · by_cases z : b = p
    · subst z; rw [upd_same] at e; cases e; exact h1
    · rw [upd_ne z] at e; exact a.fra.e2 b o e
  · have : b ≠ p := fun z => e2 (by rw [z]; exact hk)
    rw [upd_ne this]; exact a.fra.fr b e1 e2
  · obtain ⟨m, hm'⟩ := List.getElem?_of_mem hq
    obtain ⟨m', hne, hm''⟩ : ∃ m', m' ≠ n ∧ S[m']? = some (q, ow) := by
      rw [List.getElem?_eraseIdx] at hm'
      split at hm'
      · exact ⟨m, by omega, hm'⟩
      · exact ⟨m + 1, by omega, hm'⟩
    obtain ⟨k0, k1⟩ := a.sto.at_ q ow (List.mem_of_getElem? hm'')
    have : q ≠ p := nd_at a.sto.nd hn hm'' hne
    exact ⟨by rw [upd_ne this]; exact k0, OvOk.ext e0 (fun o' e => e) k1⟩
  · have sub : (keys (S.eraseIdx n)).Sublist (keys S) := (List.eraseIdx_sublist S n).map _
    exact a.sto.nd.sublist sub
  · have sub : (keys (S.eraseIdx n)).Sublist (keys S) := (List.eraseIdx_sublist S n).map _
    exact a.wr q (sub.subset hq)

/-! ### attributes -/
def idxF (f : Str) : List Str → Option Nat
  | [] => none
  | g :: r => if g = f then some 0 else (idxF f r).map (· + 1)
theorem idxF_cons {f g : Str} {s : Sl} {t : List (Str × Sl)} : idxF f (((g, s) :: t).map (·.1)) = if g = f then some 0 else (idxF f (t.map (·.1))).map (· + 1) := rfl
theorem idxF_look {f : Str} : ∀ {fs : List (Str × Sl)} {j : Nat} {x : Str} {r : Sl}, idxF f (fs.map (·.1)) = some j → fs[j]? = some (x, r) → fs.lookup f = some r
  | [], _, _, _, h, _ => by cases h
  | (g, s) :: t, j, x, r, h, e => by
    rw [idxF_cons] at h
    rw [List.lookup_cons]
    by_cases z : g = f
    · rw [if_pos z] at h; cases h
      cases e
      rw [beq_iff_eq.mpr z.symm]
    · rw [if_neg z] at h
      rw [beq_eq_false_iff_ne.mpr (fun q => z q.symm)]
      cases q : idxF f (t.map (·.1)) with
      | none => rw [q] at h; cases h
      | some k =>
        rw [q] at h; cases h
        exact idxF_look q (by simpa using e)
theorem idxF_no {f : Str} : ∀ {fs : List (Str × Sl)}, idxF f (fs.map (·.1)) = none → fs.lookup f = none
  | [], _ => rfl
  | (g, s) :: t, h => by
    rw [idxF_cons] at h
    rw [List.lookup_cons]
    by_cases z : g = f
    · rw [if_pos z] at h; cases h
    · rw [if_neg z] at h
      rw [beq_eq_false_iff_ne.mpr (fun q => z q.symm)]
      cases q : idxF f (t.map (·.1)) with
      | none => exact idxF_no q
      | some k => rw [q] at h; cases h
theorem putS_at {f : Str} {r : Sl} : ∀ {fs : List (Str × Sl)} {j : Nat}, idxF f (fs.map (·.1)) = some j → putS f r fs = fs.set j (f, r)
  | [], _, h => by cases h
  | (g, s) :: t, j, h => by
    rw [idxF_cons] at h
    unfold putS
    by_cases z : g = f
    · rw [if_pos z] at h; cases h
      rw [if_pos z, z]; rfl
    · rw [if_neg z] at h
      rw [if_neg z]
      cases q : idxF f (t.map (·.1)) with
      | none => rw [q] at h; cases h
      | some k =>
        rw [q] at h; cases h
        rw [putS_at q]; rfl
def setF (j : Option Nat) (f : Str) (r : Sl) (fs : List (Str × Sl)) : List (Str × Sl) := match j with
  | some j => fs.set j (f, r)
  | none => fs ++ [(f, r)]
theorem putS_no {f : Str} {r : Sl} : ∀ {fs : List (Str × Sl)}, idxF f (fs.map (·.1)) = none → putS f r fs = fs ++ [(f, r)]
  | [], _ => rfl
  | (g, s) :: t, h => by
    rw [idxF_cons] at h
    unfold putS
    by_cases z : g = f
    · rw [if_pos z] at h; cases h
    · rw [if_neg z] at h
      rw [if_neg z]
      cases q : idxF f (t.map (·.1)) with
      | none => rw [putS_no q]; rfl
      | some k => rw [q] at h; cases h
section
variable {X : Cx} {B : Bs} {Γ : Gam} {S : Sto} {st : Stmt} {rest : List Stmt} {a b c e o : Expr} {es : List Expr} {d : PyData} {ds : List PyData} {pos : Pos} {k : Bool} {P : Po} {n : Nat} {p : Addr} {i : Int} {f : Str} {C : Addr} {fs : List (Str × Sl)} {names : List Str} {r : Sl}
/-- o.f -/
theorem ge_fld {j : Nat} {x : Str} (ho : GR X B Γ S o (.ref p)) (hn : S[n]? = some (p, .obj C fs)) (hc : Cls X.K C) (hf : NoAttr X.K C f) (hnm : fs.map (·.1) = names) (hj : idxF f names = some j) (hr : fs[j]? = some (x, r)) (hu : r ≠ .un)
    (hb : attributeBase o f X.env (eval o X.env) = eval o X.env := by rfl) : PE X (.Attribute o f pos) (rd X.K B Γ S r) := (pe_fld ho hb).imp fun σ H Q ⟨H0, at0, k⟩ => ⟨H0, at0, fun v H1 H' at1 e1 hv => by
  have hv : (some (some v) : Option (Option V)) = some (some (.ref p)) := hv
  cases hv
  obtain ⟨h0, dx, vs, h1, h2⟩ := at1.sto.at_ p _ (List.mem_of_getElem? hn)
  subst hnm
  obtain ⟨v, h3, h4⟩ := h2.get (idxF_look hj hr)
  exact ⟨p, C, dx, vs, v, rfl, h1, hc, hf, h3, k v H1 H' at1 e1 h4⟩⟩
/-- o.f = e, an attribute that is there -/
theorem gs_fld {j : Nat} {pos' : Pos} (ho : GR X B Γ S o (.ref p)) (he : PE X e (rd X.K B Γ S r)) (hn : S[n]? = some (p, .obj C fs)) (hc : Cls X.K C) (hf : NoAttr X.K C f) (hnm : fs.map (·.1) = names) (hj : idxF f names = some j) (hl : fs.length < 1000)
    (q : P.N Γ (S.set n (p, .obj C (fs.set j (f, r))))) (hs : swapsWith e (some (.Attribute o f pos')) pos.line X.env = pure false := by rfl) : GS X B Γ S (.Assign [.Attribute o f pos'] e pos) P := (ps_fld ho he hs).imp fun D σ H ⟨H0, at0, z⟩ => ⟨H0, at0, fun y H1 H' at1 e1 hy => ⟨H1, at1, fun v H2 H'' at2 e2 hv => by
  have hv : (some (some v) : Option (Option V)) = some (some (.ref p)) := hv
  cases hv
  obtain ⟨h0, dx, vs, h1, h2⟩ := at2.sto.at_ p _ (List.mem_of_getElem? hn)
  subst hnm
  refine ⟨p, C, dx, vs, rfl, h1, hc, hf, by rw [h2.len]; exact hl, ?_⟩
  exact z.nx _ _ H2 σ _ q (at2.write hn ⟨dx, _, upd_same, by rw [← putS_at hj]; exact FsOk.put (hy.ext e2) h2⟩)⟩⟩
/-- o.f = e, a new attribute -/
theorem gs_fldNew {pos' : Pos} (ho : GR X B Γ S o (.ref p)) (he : PE X e (rd X.K B Γ S r)) (hn : S[n]? = some (p, .obj C fs)) (hc : Cls X.K C) (hf : NoAttr X.K C f) (hnm : fs.map (·.1) = names) (hj : idxF f names = none) (hl : fs.length < 1000)
    (q : P.N Γ (S.set n (p, .obj C (fs ++ [(f, r)])))) (hs : swapsWith e (some (.Attribute o f pos')) pos.line X.env = pure false := by rfl) : GS X B Γ S (.Assign [.Attribute o f pos'] e pos) P := (ps_fld ho he hs).imp fun D σ H ⟨H0, at0, z⟩ => ⟨H0, at0, fun y H1 H' at1 e1 hy => ⟨H1, at1, fun v H2 H'' at2 e2 hv => by
  have hv : (some (some v) : Option (Option V)) = some (some (.ref p)) := hv
  cases hv
  obtain ⟨h0, dx, vs, h1, h2⟩ := at2.sto.at_ p _ (List.mem_of_getElem? hn)
  subst hnm
  refine ⟨p, C, dx, vs, rfl, h1, hc, hf, by rw [h2.len]; exact hl, ?_⟩
  exact z.nx _ _ H2 σ _ q (at2.write hn ⟨dx, _, upd_same, by rw [← putS_no hj]; exact FsOk.put (hy.ext e2) h2⟩)⟩⟩
/-- o.f = e, e with effects (a new list): the object stands at n behind it -/
theorem gs_fldE {j : Option Nat} {pos' : Pos} {Pe : Sl → Sto → Prop} (he : GE X B Γ S e Pe P.ex) (hc : Cls X.K C) (hf : NoAttr X.K C f)
    (q : ∀ r S', Pe r S' → ∃ n fs names, GR X B Γ S' o (.ref p) ∧ S'[n]? = some (p, .obj C fs) ∧ fs.map (·.1) = names ∧ idxF f names = j ∧ fs.length < 1000 ∧ P.N Γ (S'.set n (p, .obj C (setF j f r fs))))
    (hs : swapsWith e (some (.Attribute o f pos')) pos.line X.env = pure false := by rfl) : GS X B Γ S (.Assign [.Attribute o f pos'] e pos) P := by
  have ho : PE X o (fun σ H Q => ∃ r S', Pe r S' ∧ rd X.K B Γ S' (.raw (.ref p)) σ H Q) := ⟨fun pins s σ H Q I ⟨r, S', m, z⟩ => by
    obtain ⟨n, fs, names, h1, _⟩ := q r S' m
    exact h1.run pins s σ H Q I z⟩
  refine (ps_fld ho he hs).imp fun D σ H ⟨H0, at0, z⟩ => ⟨H0, at0, fun r S' y H1 H' m at1 e1 hy => ⟨r, S', m, H1, at1, fun v H2 H'' at2 e2 hv => ?_⟩, fun cls S' H0' H' q at1 => z.ex cls Γ S' H0' σ H' q at1⟩
  have hv : (some (some v) : Option (Option V)) = some (some (.ref p)) := hv
  cases hv
  obtain ⟨n, fs, names, _, hn, hnm, hj, hl, qq⟩ := q r S' m
  obtain ⟨h0, dx, vs, h1, h2⟩ := at2.sto.at_ p _ (List.mem_of_getElem? hn)
  subst hnm
  refine ⟨p, C, dx, vs, rfl, h1, hc, hf, by rw [h2.len]; exact hl, ?_⟩
  refine z.nx _ _ H2 σ _ qq (at2.write hn ⟨dx, _, upd_same, ?_⟩)
  cases j with
  | some j => show FsOk _ _ _ (fs.set j (f, r)); rw [← putS_at hj]; exact FsOk.put (hy.ext e2) h2
  | none => show FsOk _ _ _ (fs ++ [(f, r)]); rw [← putS_no hj]; exact FsOk.put (hy.ext e2) h2
/-! ### owned lists -/
theorem gd_ixO (ho : GR X B Γ S o (.ref p)) (hi : GD X B Γ S b (.int i)) (hn : S[n]? = some (p, .lst ds)) (q : atI ds i = some d) (hs : PlainIx b := by exact fun _ _ => rfl) : GD X B Γ S (.Subscript o b pos) d := (pe_ix ix_list ho hi hs).imp fun σ H Q ⟨H0, at0, k⟩ => ⟨H0, at0, fun v H1 H' at1 e1 hv => ⟨H1, at1, fun w H2 H'' at2 e2 hw => by
  have hv : (some (some v) : Option (Option V)) = some (some (.ref p)) := hv
  cases hv
  have hw := hw.toDp
  cases hw
  obtain ⟨h0, vs, h1, h2⟩ := at2.sto.at_ p _ (List.mem_of_getElem? hn)
  have hl := dps_len h2
  obtain ⟨m, q1, q2⟩ : ∃ m, ixN ds.length i = some m ∧ ds[m]? = some d := by
    unfold atI at q
    cases z : ixN ds.length i with
    | none => rw [z] at q; cases q
    | some m => rw [z] at q; exact ⟨m, rfl, q⟩
  obtain ⟨u, u1, u2⟩ := dps_get h2 q2
  exact ⟨p, vs, i, u, rfl, rfl, .inl (.inl h1), by unfold atI; rw [hl, q1]; exact u1, k u H2 H'' at2 (e1.trans e2) ⟨u, rfl, u2⟩⟩⟩⟩
theorem gd_lenO {nm : Str} {p2 : Pos} (hg : Gl X nm) (hm : X.mg nm = none) (hv : bootBuiltins nm = some (.builtin "len")) (ho : GR X B Γ S o (.ref p)) (hn : S[n]? = some (p, .lst ds)) (hnn : nm ≠ "__name__" := by decide) (hdb : (nm == ("__debug__" : Str)) = false := by decide)
    (he : starEach [o] X.env = (false, eval o X.env) :: starEach [] X.env := by rfl) (hpl : (backTo pos (starEach [] X.env)).any (·.1) = false := by rfl) : GD X B Γ S (.Call (.Name nm p2) [o] [] pos) (.int (ds.length : Int)) :=
  (pe_callB call_len_seq hg hm hv (pa_cons ho pa_nil he) hnn hdb he hpl).imp fun σ H Q ⟨H0, at0, k⟩ => ⟨H0, at0, fun v H1 H' at1 e1 hv => by
    have hv : (some (some v) : Option (Option V)) = some (some (.ref p)) := hv
    cases hv
    obtain ⟨h0, vs, h1, h2⟩ := at1.sto.at_ p _ (List.mem_of_getElem? hn)
    exact ⟨p, vs, rfl, .inl (.inl (.inl h1)), k _ H1 H' at1 e1 ⟨_, rfl, by rw [dps_len h2]; exact .int _⟩⟩⟩
/-- o[i] = e -/
theorem gs_setO {m : Nat} {tpos : Pos} (ho : GR X B Γ S o (.ref p)) (hi : GD X B Γ S b (.int i)) (he : GD X B Γ S e d) (hn : S[n]? = some (p, .lst ds)) (hx : ixN ds.length i = some m) (q : P.N Γ (S.set n (p, .lst (ds.set m d))))
    (ha : ∀ v, assign (.Subscript o b tpos) X.env v = (do
      let ov ← holding [v] (eval o X.env)
      let iv ← holding [v, ov] (eval b X.env)
      standAt tpos
      holding [v, ov, iv] (setItem ov iv v)
      release [v, ov, iv] []) := by intro _; rfl)
    (hs : swapsWithSole [.Subscript o b tpos] e pos.line X.env = pure false := by rfl) (hw : swappedStores [.Subscript o b tpos] e X.env = pure none := by rfl)
    (h1 : (assignEach [.Subscript o b tpos] X.env).map (·.2) = [assign (.Subscript o b tpos) X.env] := by rfl) : GS X B Γ S (.Assign [.Subscript o b tpos] e pos) P :=
  (ps_asg he (pg_sub ho hi set_list ha) hs hw h1).imp fun D σ H ⟨H0, at0, z⟩ => ⟨H0, at0, fun y H1 H' at1 e1 hy => ⟨H1, at1, fun v H2 H'' at2 e2 hv => ⟨H2, at2, fun w H3 H3' at3 e3 hw => by
    have hv : (some (some v) : Option (Option V)) = some (some (.ref p)) := hv
    cases hv
    have hw := hw.toDp
    cases hw
    obtain ⟨h0, vs, h1, h2⟩ := at3.sto.at_ p _ (List.mem_of_getElem? hn)
    refine ⟨p, vs, i, m, rfl, rfl, h1, by rw [dps_len h2]; exact hx, ?_⟩
    exact z.nx _ _ H3 σ _ q (at3.write hn ⟨_, upd_same, dps_set (dp_ex (e2.trans e3) _ _ hy.toDp) m h2⟩)⟩⟩⟩
/-- o.append(e) -/
theorem gs_appO {apos epos : Pos} (ho : GR X B Γ S o (.ref p)) (he : GD X B Γ S e d) (hn : S[n]? = some (p, .lst ds)) (hz : ds.length < 100000) (q : P.N Γ (S.set n (p, .lst (ds ++ [d]))))
    (hbase : attributeBase o "append" X.env (eval o X.env) = eval o X.env := by rfl)
    (hfew : ((backTo pos (starEach [e] X.env)).all (fun x => !x.1) && (backToKw pos (keywordEach [] X.env)).all (fun x => x.1.isSome)
      && decide (([e] : List Expr).length + ([] : List Keyword).length + (if ([] : List Keyword).isEmpty then 0 else 1) < 30)) = true := by rfl)
    (hline : (apos.endLine == pos.line) = true := by rfl) (hs : starEach [e] X.env = (false, eval e X.env) :: starEach [] X.env := by rfl) (hplain : (backTo pos (starEach [] X.env)).any (·.1) = false := by rfl)
    (hsw : swapsWith (.Call (.Attribute o "append" apos) [e] [] pos) none epos.line X.env = pure false := by rfl) : GS X B Γ S (.Expr (.Call (.Attribute o "append" apos) [e] [] pos) epos) P :=
  (ps_expr (pe_bm PySem.F.plainAttrs_list PySem.F.slot_list_append PySem.F.type_list_append mt_append ho (pa_cons he pa_nil hs) hbase hfew hline hs hplain) hsw).imp fun D σ H ⟨H0, at0, z⟩ => ⟨H0, at0, fun v H1 H' at1 e1 hv => by
    have hv : (some (some v) : Option (Option V)) = some (some (.ref p)) := hv
    cases hv
    obtain ⟨h0, vs, h1, h2⟩ := at1.sto.at_ p _ (List.mem_of_getElem? hn)
    refine ⟨.inl ⟨rfl, _, .inl (.inl h1)⟩, H1, at1, fun y H2 H'' at2 e2 hy => ?_⟩
    obtain ⟨h0', vs', h1', h2'⟩ := at2.sto.at_ p _ (List.mem_of_getElem? hn)
    exact ⟨p, vs', y, rfl, rfl, h1', by rw [dps_len h2']; exact Evl.sz_lt hz, z.nx _ _ H2 σ _ q (at2.write hn ⟨_, upd_same, dps_app h2' (.cons hy.toDp .nil)⟩)⟩⟩
/-- a new owned list -/
theorem ge_lst (h : GA X B Γ S es ds) (hl : ds.length ≤ 100000) {ex : Value → Gam → Sto → Prop} : GE X B Γ S (.List es pos) (fun r S' => ∃ p, B.H p = none ∧ r = .raw (.ref p) ∧ S' = (p, .lst ds) :: S) ex := (pe_lst h).imp fun σ H Q ⟨H0, at0, k, _⟩ => ⟨H0, at0, fun vs H1 H' at1 e1 hvs =>
  ⟨by rw [dps_len hvs]; exact Evl.sz_of hl, fun p hp => k _ _ (.ref p) H1 _ ⟨p, by
      have := (at1.own (ow := .lst ds) (o := .lst vs) hp ⟨vs, upd_same, hvs⟩)
      cases z : B.H p with
      | none => rfl
      | some o' => exact absurd hp (at1.fra.th p (by rw [z]; exact fun q => nomatch q)), rfl, rfl⟩ (at1.own hp ⟨vs, upd_same, hvs⟩) e1 rfl⟩⟩
/-- list(e), owned -/
theorem ge_list {nm : Str} {p2 : Pos} {es : List PyData} (hg : Gl X nm) (hm : X.mg nm = none) (hv : bootBuiltins nm = some (.type "list")) (he : GD X B Γ S e (.list es)) {ex : Value → Gam → Sto → Prop} (hnn : nm ≠ "__name__" := by decide) (hdb : (nm == ("__debug__" : Str)) = false := by decide)
    (hst : starEach [e] X.env = (false, eval e X.env) :: starEach [] X.env := by rfl) (hpl : (backTo pos (starEach [] X.env)).any (·.1) = false := by rfl) : GE X B Γ S (.Call (.Name nm p2) [e] [] pos) (fun r S' => ∃ p, B.H p = none ∧ r = .raw (.ref p) ∧ S' = (p, .lst es) :: S) ex :=
  (pe_callTy call_list_of hg hm hv (pa_cons he pa_nil hst) hnn hdb hst hpl).imp fun σ H Q ⟨H0, at0, k, _⟩ => ⟨H0, at0, fun v H1 H' at1 e1 hv => by
    have hv := hv.toDp
    cases hv with
    | @lst q vs _ hs ha =>
      refine ⟨q, vs, rfl, .inl (ex_l at1.e2 hs), fun l hl => k _ _ (.ref l) H1 _ ⟨l, ?_, rfl, rfl⟩ (at1.own hl ⟨vs, upd_same, ha⟩) e1 rfl⟩
      cases z : B.H l with
      | none => rfl
      | some o' => exact absurd hl (at1.fra.th l (by rw [z]; exact fun q => nomatch q))⟩
/-- list(e) of an owned list, owned -/
theorem ge_listO {nm : Str} {p2 : Pos} {es : List PyData} (hg : Gl X nm) (hm : X.mg nm = none) (hv : bootBuiltins nm = some (.type "list")) (he : GR X B Γ S e (.ref p)) (hn : S[n]? = some (p, .lst es)) {ex : Value → Gam → Sto → Prop} (hnn : nm ≠ "__name__" := by decide) (hdb : (nm == ("__debug__" : Str)) = false := by decide)
    (hst : starEach [e] X.env = (false, eval e X.env) :: starEach [] X.env := by rfl) (hpl : (backTo pos (starEach [] X.env)).any (·.1) = false := by rfl) : GE X B Γ S (.Call (.Name nm p2) [e] [] pos) (fun r S' => ∃ p, B.H p = none ∧ r = .raw (.ref p) ∧ S' = (p, .lst es) :: S) ex :=
  (pe_callTy call_list_of hg hm hv (pa_cons he pa_nil hst) hnn hdb hst hpl).imp fun σ H Q ⟨H0, at0, k, _⟩ => ⟨H0, at0, fun v H1 H' at1 e1 hv => by
    have hv : (some (some v) : Option (Option V)) = some (some (.ref p)) := hv
    cases hv
    obtain ⟨h0, vs, h1, h2⟩ := at1.sto.at_ p _ (List.mem_of_getElem? hn)
    refine ⟨p, vs, rfl, .inl (.inl (.inl h1)), fun l hl => k _ _ (.ref l) H1 _ ⟨l, ?_, rfl, rfl⟩ (at1.own hl ⟨vs, upd_same, h2⟩) e1 rfl⟩
    cases z : B.H l with
    | none => rfl
    | some o' => exact absurd hl (at1.fra.th l (by rw [z]; exact fun q => nomatch q))⟩
/-- an owned list handed on as data -/
theorem ge_freeze {ex : Value → Gam → Sto → Prop} (h : GR X B Γ S e (.ref p)) (hn : S[n]? = some (p, .lst ds)) (hk : B.H p = none) : GE X B Γ S e (fun r S' => r = .dat (.list ds) ∧ S' = S.eraseIdx n) ex := h.imp fun σ H Q ⟨H0, at0, k, _⟩ => ⟨H0, at0, fun v H1 H' at1 e1 hv => by
  have hv : (some (some v) : Option (Option V)) = some (some (.ref p)) := hv
  cases hv
  obtain ⟨H2, e2, at2, hd⟩ := at1.freeze hn hk
  exact k _ _ _ H2 H' ⟨rfl, rfl⟩ at2 (e1.trans e2) ⟨_, rfl, hd⟩⟩
end
/-! ### calls that may change what is owned -/
def raS (K : PySem.W.Frag) (B : Bs) (Γ : Gam) (S : Sto) (as : List Sl) : TA := fun σ H Q => ∃ H0, At K B H0 Γ S σ H ∧ ∀ vs H0' H', At K B H0' Γ S σ H' → Ex H0 H0' → ArgsOk K H0' vs as → Q vs H'
abbrev GAS (X : Cx) (B : Bs) (Γ : Gam) (S : Sto) (es : List Expr) (as : List Sl) : Prop := PA X es (raS X.K B Γ S as)
theorem ArgsOk.ext {K : PySem.W.Frag} {H0 H0' : Hp} (e : Ex H0 H0') {vs : List V} {as : List Sl} (h : ArgsOk K H0 vs as) : ArgsOk K H0' vs as := Paired.mapP h fun _ _ z => SlOk.ext e z
theorem none_B {B : Bs} {H0 H : Hp} (f : Fra B H0 H) {p : Addr} (hp : H p = none) : B.H p = none := by
  cases z : B.H p with
  | none => rfl
  | some o' => exact absurd hp (f.th p (by rw [z]; exact fun q => nomatch q))
theorem At.call {K : PySem.W.Frag} {B : Bs} {H0 H H0' H' : Hp} {Γ : Gam} {S1 S1' F : Sto} {σ : St} {E : WX} (a : At K B H0 Γ (S1 ++ F) σ H) (g : Fra ⟨H0, H, keys S1, E⟩ H0' H') (hS : StoOk K H0' H' S1') (nk : NewK H S1 S1') : At K B H0' Γ (S1' ++ F) σ H' := by
  have hk : keys (S1 ++ F) = keys S1 ++ keys F := List.map_append
  have nd := a.sto.nd
  rw [hk] at nd
  obtain ⟨nd1, nd2, nd3⟩ := List.nodup_append.mp nd
  have w1 : ∀ p ∈ keys S1, p ∈ B.ks ∨ B.H p = none := fun p hp => a.wr p (by rw [hk]; exact List.mem_append_left _ hp)
  have inF : ∀ q ow, (q, ow) ∈ F → H0 q = none ∧ OvOk K H0 H q ow ∧ q ∉ keys S1 := fun q ow hq => by
    obtain ⟨k0, k1⟩ := a.sto.at_ q ow (List.mem_append_right _ hq)
    exact ⟨k0, k1, fun z => nd3 q z q (mem_keys hq) rfl⟩
  refine ⟨a.fra.trans g w1, a.env.ext g.e0, ⟨fun q ow hq => ?_, ?_⟩, fun q hq => ?_⟩
  · rcases List.mem_append.mp hq with hq | hq
    · exact hS.at_ q ow hq
    · obtain ⟨k0, k1, k2⟩ := inF q ow hq
      exact ⟨g.fr q k0 (OvOk.ne k1), OvOk.ext g.e0 (fun o e => g.e1 q o e k2) k1⟩
  · rw [show keys (S1' ++ F) = keys S1' ++ keys F from List.map_append]
    refine List.nodup_append.mpr ⟨hS.nd, nd2, fun p hp q hq => ?_⟩
    obtain ⟨ow, hq⟩ := of_keys hq
    obtain ⟨_, k1, k2⟩ := inF q ow hq
    intro e
    subst e
    exact (nk p hp).elim k2 fun z => OvOk.ne k1 z
  · rw [show keys (S1' ++ F) = keys S1' ++ keys F from List.map_append] at hq
    rcases List.mem_append.mp hq with hq | hq
    · exact (nk q hq).elim (w1 q) fun z => .inr (none_B a.fra z)
    · exact a.wr q (by rw [hk]; exact List.mem_append_right _ hq)
theorem StoOk.left {K : PySem.W.Frag} {H0 H : Hp} {S1 F : Sto} (h : StoOk K H0 H (S1 ++ F)) : StoOk K H0 H S1 := ⟨fun p ov m => h.at_ p ov (List.mem_append_left _ m), by
  have nd := h.nd
  rw [show keys (S1 ++ F) = keys S1 ++ keys F from List.map_append] at nd
  exact (List.nodup_append.mp nd).1⟩
theorem spm_of {K : PySem.W.Frag} {B : Bs} {H0 H : Hp} {Γ : Gam} {S1 F : Sto} {σ : St} {R : Rq} {as : List Sl} {PR : Sl → Sto → Prop} {PX : Value → Sto → Prop} {vs : List V} {Q : VK} {E : XK} (a : At K B H0 Γ (S1 ++ F) σ H) (hR : R as S1 PR PX) (ha : ArgsOk K H0 vs as)
    (k : ∀ r S1' v H0' H', PR r S1' → At K B H0' Γ (S1' ++ F) σ H' → Ex H0 H0' → SlOk K H0' (some (some v)) r → Q v H') (kx : ∀ cls S1' H0' H', PX cls S1' → At K B H0' Γ (S1' ++ F) σ H' → Ex H0 H0' → E cls none H') : SpM K R vs H Q E :=
  ⟨H0, as, S1, PR, PX, a.e2, hR, ha, a.sto.left, fun r S' v H0' H' p g hS nk hv => k r S' v H0' H' p (a.call g hS nk) g.e0 hv, fun cls S' H0' H' p g hS nk => kx cls S' H0' H' p (a.call g hS nk) g.e0⟩
/-- how a call of a method is evaluated -/
abbrev MethForm (X : Cx) (o : Expr) (m : Str) (es : List Expr) (pos apos : Pos) (pl : Sem Bool) : Prop := eval (.Call (.Attribute o m apos) es [] pos) X.env = (do let recv ← eval o X.env; standAt apos.atName; let (fn, fst) ← holding [recv] (getMethod recv m pl); callWith pos fn fst (backTo pos (starEach es X.env)) (backToKw pos (keywordEach [] X.env)))
/-- a method call whose exception is wished for at the slots -/
def tMethW (C : Addr) (m : Str) (sp : Sp) (E : St → XK) (ta : TE) (t : TA) : TE := fun σ H Q => ta σ H fun x H1 => ∃ a dx fs, x = .ref a ∧ H1 a = some (.ins C dx fs) ∧ fs.lookup m = none ∧ t σ H1 fun vs H2 => sp (x :: vs) H2 Q (E σ)
section
variable {X : Cx} {CX : CXT} {k : Nat} {f C : Addr} {fd : FuncData} {ps : List Str} {sp : Sp} {E : St → XK} {m : Str} {pos apos : Pos} {e o : Expr} {es : List Expr} {ta : TE} {t : TA}
theorem pe_methW {pl : Sem Bool} (he : PE X o ta) (c : Cls X.K C) (hm : Meth X.K C m f) (F : FnOk X.prog X.w X.K X.mg X.base CX k f fd ps sp) (hr : Room k X.A) (hb : Binds X.K fd ps []) (hx : ∀ σ, PassesAt CX X σ (E σ)) (ha : PA X (e :: es) t)
    (hst : starEach (e :: es) X.env = (false, eval e X.env) :: starEach es X.env := by rfl)
    (hpl : (backTo pos (starEach es X.env)).any (·.1) = false := by rfl) (ht : MethForm X o m (e :: es) pos apos pl := by rfl) : PE X (.Call (.Attribute o m apos) (e :: es) [] pos) (tMethW C m sp E ta t) :=
  ⟨fun pins s0 σ0 H0 Q0 inv hq => PySem.W.methodCall_KW (pl := pl) (thn (he.run pins s0 σ0 H0 _ inv hq) fun recv s1 ⟨_, H1, inv1, hrel, a, dx, fs, hxa, hobj, hno, q1⟩ => by
    subst hxa
    have hrecv : recv = Value.ref a := hrel
    subst hrecv
    exact getmeth_ok inv1 hobj c hm hno (PySem.W.callWith_K (h₀ := X.base) (first := [.ref a]) inv.ok.mod.kin hm.kp (thn (ha.run pos pins s1 σ0 H1 _ inv1 q1) fun us s2 ⟨vs, H2, inv2, hv, q2⟩ => ⟨inv2.kIn, run_fnS (us := .ref a :: us) (vs := .ref a :: vs) F hr hb (hx σ0) inv2 (.cons rfl hv) q2⟩) hst hpl)) ht⟩
theorem pe_methW0 {pl : Sem Bool} (he : PE X o ta) (c : Cls X.K C) (hm : Meth X.K C m f) (F : FnOk X.prog X.w X.K X.mg X.base CX k f fd ps sp) (hr : Room k X.A) (hb : Binds X.K fd ps []) (hx : ∀ σ, PassesAt CX X σ (E σ)) (ht : MethForm X o m [] pos apos pl := by rfl) : PE X (.Call (.Attribute o m apos) [] [] pos) (tMethW C m sp E ta tNil) :=
  ⟨fun pins s0 σ0 H0 Q0 inv hq => PySem.W.methodCall_KW (pl := pl) (thn (he.run pins s0 σ0 H0 _ inv hq) fun recv s1 ⟨_, H1, inv1, hrel, a, dx, fs, hxa, hobj, hno, q1⟩ => by
    subst hxa
    have hrecv : recv = Value.ref a := hrel
    subst hrecv
    exact getmeth_ok inv1 hobj c hm hno (PySem.W.callWith_K0 (first := [.ref a]) inv1.kIn hm.kp (run_fnS (us := [.ref a]) (vs := [.ref a]) F hr hb (hx σ0) inv1 (.cons rfl .nil) q1))) ht⟩
end
section
variable {X : Cx} {B : Bs} {Γ : Gam} {S S1 F : Sto} {a b c e o : Expr} {es : List Expr} {pos apos : Pos} {P : Po} {n : Nat} {q : Addr} {fs : List (Str × Sl)} {names : List Str} {r : Sl} {as : List Sl} {CX : CXT} {lv : Nat} {f C : Addr} {fd : FuncData} {ps : List Str} {R : Rq} {PR : Sl → Sto → Prop} {PX : Value → Sto → Prop} {m x : Str} {p : Pos}
theorem gas_nil : GAS X B Γ S [] [] := pa_nil.imp fun σ H Q ⟨H0, at0, k⟩ => k [] H0 H at0 (Ex.refl _) .nil
theorem gas_cons (he : PE X e (rd X.K B Γ S r)) (ht : GAS X B Γ S es as) (hs : starEach (e :: es) X.env = (false, eval e X.env) :: starEach es X.env := by rfl) : GAS X B Γ S (e :: es) (r :: as) := (pa_cons he ht hs).imp fun σ H Q ⟨H0, at0, k⟩ =>
  ⟨H0, at0, fun v H1 H' at1 e1 hv => ⟨H1, at1, fun vs H2 H'' at2 e2 hvs => k _ H2 H'' at2 (e1.trans e2) (.cons (hv.ext e2) hvs)⟩⟩
abbrev PostR (PR : Sl → Sto → Prop) (F : Sto) : Sl → Sto → Prop := fun r S' => ∃ S1', PR r S1' ∧ S' = S1' ++ F
abbrev PostX (PX : Value → Sto → Prop) (F : Sto) : Value → Gam → Sto → Prop := fun cls _ S' => ∃ S1', PX cls S1' ∧ S' = S1' ++ F
/-- o.m(e, ..) -/
theorem ge_meth {pl : Sem Bool} (ho : GR X B Γ (S1 ++ F) o (.ref q)) (hn : (S1 ++ F)[n]? = some (q, .obj C fs)) (c : Cls X.K C) (hm : Meth X.K C m f) (hnm : fs.map (·.1) = names) (hj : idxF m names = none) (Gf : FnOk X.prog X.w X.K X.mg X.base CX lv f fd ps (SpM X.K R)) (hr : Room lv X.A) (hb : Binds X.K fd ps [])
    (hx : ∀ σ, PassesAt CX X σ fun cls d H => B.E cls d σ H) (ha : GAS X B Γ (S1 ++ F) (e :: es) as) (hR : R (.raw (.ref q) :: as) S1 PR PX)
    (hst : starEach (e :: es) X.env = (false, eval e X.env) :: starEach es X.env := by rfl) (hpl : (backTo pos (starEach es X.env)).any (·.1) = false := by rfl)
    (ht : MethForm X o m (e :: es) pos apos pl := by rfl) :
    GE X B Γ (S1 ++ F) (.Call (.Attribute o m apos) (e :: es) [] pos) (PostR PR F) (PostX PX F) := (pe_methW ho c hm Gf hr hb hx ha hst hpl ht).imp fun σ H Q ⟨H0, at0, k, kx⟩ => ⟨H0, at0, fun v H1 H' at1 e1 hv => by
  have hv : (some (some v) : Option (Option V)) = some (some (.ref q)) := hv
  cases hv
  obtain ⟨h0, dx, vs, h1, h2⟩ := at1.sto.at_ q _ (List.mem_of_getElem? hn)
  subst hnm
  exact ⟨q, dx, vs, rfl, h1, h2.no (idxF_no hj), H1, at1, fun us H2 H'' at2 e2 hus => spm_of at2 hR (.cons rfl hus) (fun r S1' v H0' H' p a2 e3 hv => k r _ v H0' H' ⟨S1', p, rfl⟩ a2 ((e1.trans e2).trans e3) hv) fun cls S1' H0' H' p a2 e3 => kx cls _ H0' H' ⟨S1', p, rfl⟩ a2⟩⟩
/-- o.m() -/
theorem ge_meth0 {pl : Sem Bool} (ho : GR X B Γ (S1 ++ F) o (.ref q)) (hn : (S1 ++ F)[n]? = some (q, .obj C fs)) (c : Cls X.K C) (hm : Meth X.K C m f) (hnm : fs.map (·.1) = names) (hj : idxF m names = none) (Gf : FnOk X.prog X.w X.K X.mg X.base CX lv f fd ps (SpM X.K R)) (hr : Room lv X.A) (hb : Binds X.K fd ps [])
    (hx : ∀ σ, PassesAt CX X σ fun cls d H => B.E cls d σ H) (hR : R [.raw (.ref q)] S1 PR PX)
    (ht : MethForm X o m [] pos apos pl := by rfl) :
    GE X B Γ (S1 ++ F) (.Call (.Attribute o m apos) [] [] pos) (PostR PR F) (PostX PX F) := (pe_methW0 ho c hm Gf hr hb hx ht).imp fun σ H Q ⟨H0, at0, k, kx⟩ => ⟨H0, at0, fun v H1 H' at1 e1 hv => by
  have hv : (some (some v) : Option (Option V)) = some (some (.ref q)) := hv
  cases hv
  obtain ⟨h0, dx, vs, h1, h2⟩ := at1.sto.at_ q _ (List.mem_of_getElem? hn)
  subst hnm
  refine ⟨q, dx, vs, rfl, h1, h2.no (idxF_no hj), ?_⟩
  show SpM X.K R [V.ref q] H' Q fun cls d H => B.E cls d σ H
  exact spm_of at1 hR (.cons rfl .nil) (fun r S1' v H0' H' p a2 e3 hv => k r _ v H0' H' ⟨S1', p, rfl⟩ a2 (e1.trans e3) hv) fun cls S1' H0' H' p a2 e3 => kx cls _ H0' H' ⟨S1', p, rfl⟩ a2⟩
/-- f(e, ..) -/
theorem ge_call (Gf : FnOk X.prog X.w X.K X.mg X.base CX lv f fd ps (SpM X.K R)) (hr : Room lv X.A) (hg : Gl X x) (hm : X.mg x = some (.ref f)) (hk : PySem.W.keepIn X.K (.ref f) = true) (hb : Binds X.K fd ps []) (hx : ∀ σ, PassesAt CX X σ fun cls d H => B.E cls d σ H)
    (ha : GAS X B Γ (S1 ++ F) (e :: es) as) (hR : R as S1 PR PX) (hdb : (x == ("__debug__" : Str)) = false := by decide) (he : starEach (e :: es) X.env = (false, eval e X.env) :: starEach es X.env := by rfl) (hpl : (backTo pos (starEach es X.env)).any (·.1) = false := by rfl) :
    GE X B Γ (S1 ++ F) (.Call (.Name x p) (e :: es) [] pos) (PostR PR F) (PostX PX F) := (pe_callS (E := fun σ cls d H => B.E cls d σ H) Gf hr hg hm hk hb hx ha hdb he hpl).imp fun σ H Q ⟨H0, at0, k, kx⟩ => ⟨H0, at0, fun us H2 H'' at2 e2 hus =>
  spm_of at2 hR hus (fun r S1' v H0' H' p a2 e3 hv => k r _ v H0' H' ⟨S1', p, rfl⟩ a2 (e2.trans e3) hv) fun cls S1' H0' H' p a2 e3 => kx cls _ H0' H' ⟨S1', p, rfl⟩ a2⟩
/-- a pure one: what is owned stays -/
theorem gd_ofE {d : PyData} (h : GE X B Γ S e (fun r S' => r = .dat d ∧ S' = S) (fun _ _ _ => False)) : GD X B Γ S e d := h.imp fun σ H Q ⟨H0, at0, k⟩ => ⟨H0, at0, fun r S' v H0' H' ⟨e1, e2⟩ at1 e3 hv => by subst e1 e2; exact k v H0' H' at1 e3 hv, fun _ _ _ _ z => z.elim⟩
theorem ge_mono {Pe Pe' : Sl → Sto → Prop} {ex ex' : Value → Gam → Sto → Prop} (h : GE X B Γ S e Pe ex) (h1 : ∀ r S', Pe r S' → Pe' r S') (h2 : ∀ c S', ex c Γ S' → ex' c Γ S') : GE X B Γ S e Pe' ex' := h.imp fun σ H Q ⟨H0, at0, k, kx⟩ => ⟨H0, at0, fun r S' v H0' H' p => k r S' v H0' H' (h1 r S' p), fun cls S' H0' H' p => kx cls S' H0' H' (h2 cls S' p)⟩
/-- C(e, ..): a new object, by its __init__ -/
theorem ge_make {E : XK} (M : Mk X.K C f) (Gf : FnOk X.prog X.w X.K X.mg X.base CX lv f fd ps (SpM X.K R)) (hr : Room (lv + 1) X.A) (hg : Gl X x) (hm : X.mg x = some (.ref C)) (hb : Binds X.K fd ps []) (hx : Passes CX X E) (hE : ∀ cls σ H, B.E cls none σ H → E cls none H)
    (ha : GAS X B Γ (S1 ++ F) (e :: es) as) {PRx : Addr → Sto → Prop} {PXx : Addr → Value → Sto → Prop} (hR : ∀ y, R (.raw (.ref y) :: as) ((y, .obj C []) :: S1) (fun r S' => r = .dat .none ∧ PRx y S') (PXx y)) (hdb : (x == ("__debug__" : Str)) = false := by decide)
    (he : starEach (e :: es) X.env = (false, eval e X.env) :: starEach es X.env := by rfl) (hpl : (backTo pos (starEach es X.env)).any (·.1) = false := by rfl) :
    GE X B Γ (S1 ++ F) (.Call (.Name x p) (e :: es) [] pos) (fun r S' => ∃ y S1', B.H y = none ∧ PRx y S1' ∧ r = .raw (.ref y) ∧ S' = S1' ++ F) (fun cls _ S' => ∃ y S1', PXx y cls S1' ∧ S' = S1' ++ F) := (pe_make M Gf hr hg hm hb .nil hx ha hdb he hpl).imp fun σ H Q ⟨H0, at0, k, kx⟩ => ⟨H0, at0, fun us H2 H'' at2 e2 hus => by
  intro y dx hy hdx hne
  have a3 := at2.ext (Ext.newH (o := .own y) at2.e2 hdx)
  have hy' : (upd H'' dx (.own y)) y = none := by rw [upd_ne (fun z => hne z.symm)]; exact hy
  have a4 := a3.own (ow := .obj C []) (o := .ins C dx []) hy' ⟨dx, [], upd_same, .nil⟩
  have hB : B.H y = none := none_B at2.fra hy
  show SpM X.K R (V.ref y :: (us ++ [])) _ _ _
  rw [List.append_nil]
  refine spm_of (S1 := (y, .obj C []) :: S1) a4 (hR y) (.cons rfl hus) (fun r S1' v H0' H' pp a5 e5 hv => ?_) fun cls S1' H0' H' pp a5 e5 => ?_
  · obtain ⟨hr', hp⟩ := pp
    subst hr'
    have hv := hv.toDp
    cases hv
    exact ⟨rfl, k _ _ (.ref y) H0' H' ⟨y, S1', hB, hp, rfl, rfl⟩ a5 (e2.trans e5) rfl⟩
  · exact hE cls σ H' (kx cls _ H0' H' ⟨y, S1', pp, rfl⟩ a5)⟩
end
/-! ### texts made, errors raised -/
def okJ : Str → List Str → Prop
  | _, [] => True
  | acc, y :: r => (acc ++ y).length ≤ sizeLine ∧ okJ (acc ++ y) r
section
variable {X : Cx} {B : Bs} {Γ : Gam} {S : Sto} {a b c e e0 : Expr} {es : List Expr} {d : PyData} {pos pos2 : Pos} {P : Po} {i : Int} {x : Str} {p : Pos} {r : Sl}
theorem rd_un (h : PE X e (rd X.K B Γ S r)) : PE X e (rd X.K B Γ S .un) := h.imp fun σ H Q ⟨H0, at0, k⟩ => ⟨H0, at0, fun v H0' H' at1 e1 _ => k v H0' H' at1 e1 trivial⟩
theorem gd_fmt (h : GD X B Γ S e (.int i)) (hi : i.natAbs.log2 < 1920) : GD X B Γ S (.FormattedValue e (-1) none pos) (.str (toString i)) := (pe_fmt h).imp fun σ H Q ⟨H0, at0, k⟩ => ⟨H0, at0, fun v H1 H' at1 e1 hv => by
  have hv := hv.toDp
  cases hv
  exact .inr ⟨i, rfl, hi, k _ H1 H' at1 e1 ⟨_, rfl, .str _⟩⟩⟩
inductive PJd (X : Cx) (B : Bs) (Γ : Gam) (S : Sto) : List Expr → List Str → Prop
  | nil : PJd X B Γ S [] []
  | cons {e : Expr} {y : Str} {es : List Expr} {ys : List Str} (h : GD X B Γ S e (.str y)) (t : PJd X B Γ S es ys) : PJd X B Γ S (e :: es) (y :: ys)
theorem pjd_run : ∀ {es : List Expr} {ys : List Str}, PJd X B Γ S es ys → ∃ ts, PJ X es ts ∧ ∀ (acc : Str) (σ : St) (H : Hp) (Q : Str → Hp → Prop) (H0 : Hp), At X.K B H0 Γ S σ H → okJ acc ys → (∀ out H0' H', At X.K B H0' Γ S σ H' → Ex H0 H0' → Q out H') → tJs ts acc σ H Q
  | _, _, .nil => ⟨[], .nil, fun acc σ H Q H0 at0 _ k => k acc H0 H at0 (Ex.refl _)⟩
  | _, _, .cons (y := y) h t => by
    obtain ⟨ts, h1, h2⟩ := pjd_run t
    refine ⟨_ :: ts, .cons h h1, fun acc σ H Q H0 at0 ok k => ⟨H0, at0, fun v H1 H' at1 e1 hv => ?_⟩⟩
    have hv := hv.toDp
    cases hv
    exact ⟨y, rfl, ok.1, h2 _ σ H' Q H1 at1 ok.2 fun out H2 H'' at2 e2 => k out H2 H'' at2 (e1.trans e2)⟩
theorem ge_join {v1 v2 : Expr} {rest : List Expr} {ys : List Str} (h : PJd X B Γ S (v1 :: v2 :: rest) ys) (ok : okJ Str.empty ys) : PE X (.JoinedStr (v1 :: v2 :: rest) pos) (rd X.K B Γ S .un) := by
  obtain ⟨ts, h1, h2⟩ := pjd_run h
  exact (pe_joined h1).imp fun σ H Q ⟨H0, at0, k⟩ => h2 _ σ H _ H0 at0 ok fun out H0' H' at1 e1 => k _ H0' H' at1 e1 trivial
/-- an own exception made from one argument: its context is none -/
theorem mkN {C : Addr} {bmB : List Value} {nB newId initId : String} {x : Str} {e0 : Expr} {ta : TE} {p p2 : Pos} (Fx : ExcBaseFacts nB newId initId bmB) (q : PySem.W.excIn X.K C bmB newId = true) (gC : X.mg x = some (.ref C)) (kC : PySem.W.keepIn X.K (.ref C) = true) (rC : Raises X (.ref C)) (hg : Gl X x)
    (he : PE X e0 ta) (hst : starEach [e0] X.env = (false, eval e0 X.env) :: starEach [] X.env := by rfl) (hdb : (x == ("__debug__" : Str)) = false := by decide) :
    L2N.PMk X (.Call (.Name x p) [e0] [] p2) (fun σ0 H0 Q0 => ta σ0 H0 fun _ H1 => Q0 (.ref C) none H1) := fun pins s0 σ0 H0 Q0 inv hq => wpAny_Call_Name_kw (ld_glob inv hg gC (PySem.W.callWith_K (h₀ := X.base) inv.ok.mod.kin kC (by
      rw [hst]
      show wpAny _ _ (spliced ((false, eval e0 X.env) :: backTo p2 (starEach [] X.env))) _ _ s0
      exact Calls.spliced_cons (thn (he.run pins s0 σ0 H0 _ inv hq) fun u0 s2 ⟨v0, H2, inv2, r2, q2⟩ => Calls.spliced_nil ⟨inv2.kIn, by
        show wpAny _ _ (call (.ref C) [u0]) _ _ _
        obtain ⟨w1, w2, w3, w4, w5, w6, w7, w8, w9, v1, v2, v3, v4, v5, v6, v7, mN, hC, hN, hni, TT⟩ := exc_obj inv2.kIn q
        exact wpAny_call_exc_subT Fx TT hC hN hni (fun _ _ made => L2N.mk_of inv2 made rC q2 (inv2.hok.gone made.new)) (by show 1 ≤ sizeLine; rw [sizeLine_eq]; omega)⟩)) hst (by rfl)) hdb)
theorem gs_raise {C : Addr} {bmB : List Value} {nB newId initId : String} (hc : X.calm = true) (tk : L2N.Takes X B.E) (Fx : ExcBaseFacts nB newId initId bmB) (q : PySem.W.excIn X.K C bmB newId = true) (gC : X.mg x = some (.ref C)) (kC : PySem.W.keepIn X.K (.ref C) = true) (rC : Raises X (.ref C)) (hg : Gl X x)
    (he : PE X e0 (rd X.K B Γ S r)) (hp : P.ex (.ref C) Γ S) (hs : starEach [e0] X.env = (false, eval e0 X.env) :: starEach [] X.env := by rfl) (hdb : (x == ("__debug__" : Str)) = false := by decide) : GS X B Γ S (.Raise (some (.Call (.Name x p) [e0] [] pos2)) none pos) P :=
  (L2N.ps_raise hc tk (mkN Fx q gC kC rC hg (rd_un he) hs hdb)).imp fun D σ H ⟨H0, at0, z⟩ => ⟨H0, at0, fun v H1 H' at1 e1 hv => z.ex (.ref C) Γ S H1 σ H' hp at1⟩
/-- a statement that isn't come to -/
theorem gs_dead {st : Stmt} (h : False) : GS X B Γ S st P := h.elim
end
section
variable {P : Program} {w : World} {K : PySem.W.Frag} {mg : Str → Option Value} {base : Heap}
/-- a def that may raise, what it raises having no context -/
theorem okN {x qual : Str} {st : Stmt} {f : Addr} {fd : FuncData} {N ps : List Str} {n : Nat} {sp : Sp} (F : Fun K x qual st f fd) (Sc : FnScope N ps (defScope st)) (hl : ∀ vs H Q E, sp vs H Q E → vs.length = ps.length)
    (hb : ∀ (cd0 : Value) (A : Around) (out : List Env) (s0 : Shared) (H : Hp) (vs : List V) (Q : VK) (E : XK), Room n (A.deeper (envOfC qual (defScope st) s0.heap.objs.size f cd0)) → sp vs H Q E →
      ∃ t, PSs (cxOf (L2N.CX P w) P w K mg base N qual (defScope st) f cd0 A out s0 H E) (defBody st) t ∧ t { nx := fun _ H' => Q .non H', rt := Q } (start N vs) H) : FnOk P w K mg base (L2N.CX P w) (n + 1) f fd ps sp := by
  obtain ⟨_, _, _, _, _, _, cd0, _, _, hfd, hlk, hcode⟩ := F.ex
  subst hfd
  exact fn_of hlk hcode Sc hl fun A out s0 H vs Q E hr h => hb cd0 A out s0 H vs Q E hr h
/-- a def that may change what is owned, and may raise -/
theorem mut_def {x qual : Str} {st : Stmt} {f : Addr} {fd : FuncData} {N ps : List Str} {n : Nat} {R : Rq} (F : Fun K x qual st f fd) (Sc : FnScope N ps (defScope st)) (hlen : ∀ as S PR PX, R as S PR PX → as.length = ps.length)
    (hbody : ∀ (cdv : Value) (A : Around) (outer : List Env) (s : Shared) (H : Hp) (E : XK) (H0 Hh : Hp) (ks : List Addr) (as : List Sl) (S : Sto) (PR : Sl → Sto → Prop) (PX : Value → Sto → Prop), Room n (A.deeper (envOfC qual (defScope st) s.heap.objs.size f cdv)) → R as S PR PX →
      GSs (cxOf (L2N.CX P w) P w K mg base N qual (defScope st) f cdv A outer s H E) ⟨H0, Hh, ks, fun cls d _ H => E cls d H⟩ (gamS N.length as) S (defBody st) { N := fun _ S' => PR (.dat .none) S', R := PR, ex := fun cls _ S' => PX cls S' }) : FnOk P w K mg base (L2N.CX P w) (n + 1) f fd ps (SpM K R) := by
  refine okN F Sc (fun vs H Q E h => ?_) (fun cdv A outer s H vs Q E hr h => ?_)
  · obtain ⟨H0, as, S, PR, PX, _, hR, hv, _⟩ := h
    rw [Paired.length hv]
    exact hlen as S PR PX hR
  · obtain ⟨H0, as, S, PR, PX, e, hR, hv, hS, k, kx⟩ := h
    have hle : ps.length ≤ N.length := by have := congrArg List.length Sc.pre; rw [List.length_take] at this; omega
    refine ⟨_, hbody cdv A outer s H E H0 H (keys S) as S PR PX hr hR, H0, ⟨Fra.refl e, env_startS hv (by rw [hlen as S PR PX hR]; exact hle), hS, fun p z => .inl z⟩, ?_, ?_, ?_, ?_, ?_⟩
    · intro Γ S' H0' σ H' hd at1
      exact k _ S' .non H0' H' hd at1.fra.toE at1.sto at1.wr ⟨_, rfl, .non⟩
    · intro r Γ S' v H0' σ H' hr at1 hv
      exact k r S' v H0' H' hr at1.fra.toE at1.sto at1.wr hv
    · intro _ _ _ _ _ h _
      exact h.elim
    · intro _ _ _ _ _ h _
      exact h.elim
    · intro cls Γ S' H0' σ H' h at1
      exact kx cls S' H0' H' h at1.fra.toE at1.sto at1.wr
end

/-! ### loops -/
theorem At.rebase {K : PySem.W.Frag} {B : Bs} {H0 H : Hp} {Γ : Gam} {S : Sto} {σ : St} (a : At K B H0 Γ S σ H) : At K { B with H0 := H0 } H0 Γ S σ H := ⟨⟨Ex.refl _, a.fra.e1, a.fra.e2, fun _ h _ => h, a.fra.th⟩, a.env, a.sto, a.wr⟩
theorem At.unbase {K : PySem.W.Frag} {B : Bs} {G Hg H0 H : Hp} {Γ : Gam} {S : Sto} {σ : St} (g : Fra B G Hg) (a : At K { B with H0 := G } H0 Γ S σ H) : At K B H0 Γ S σ H := ⟨⟨g.e0.trans a.fra.e0, a.fra.e1, a.fra.e2, fun p h1 h2 => a.fra.fr p (g.fr p h1 h2) h2, a.fra.th⟩, a.env, a.sto, a.wr⟩
abbrev Bs.at (B : Bs) (G : Hp) : Bs := { B with H0 := G }
section
variable {X : Cx} {B : Bs} {Γ : Gam} {S : Sto} {a b c e it : Expr} {es : List Expr} {d : PyData} {ds : List PyData} {pos pos2 pos3 : Pos} {P : Po} {n : Int} {x : Str} {p : Pos} {j : Nat} {body : List Stmt}
/-- what the turn number i of a loop is to reach -/
abbrev Po.turn (P : Po) (I : Nat → Gam → Sto → Prop) (i : Nat) : Po := { N := I (i + 1), R := P.R, bk := P.N, ct := I (i + 1), ex := P.ex }
theorem turn_endz {K : PySem.W.Frag} {D : Ends} {I : Nat → Gam → Sto → Prop} {i : Nat} {G Hg : Hp} (g : Fra B G Hg) (z : Endz K B P D) (N : St → Hp → Prop) (hN : ∀ Γ' S' H0 σ H, I (i + 1) Γ' S' → At K B H0 Γ' S' σ H → Ex G H0 → N σ H) : Endz K (B.at G) (P.turn I i) { D with nx := N, ct := N, bk := D.nx } :=
  ⟨fun Γ' S' H0 σ H q a => hN Γ' S' H0 σ H q (a.unbase g) a.fra.e0, fun r Γ' S' v H0 σ H q a hv => z.rt r Γ' S' v H0 σ H q (a.unbase g) hv, fun Γ' S' H0 σ H q a => z.nx Γ' S' H0 σ H q (a.unbase g), fun Γ' S' H0 σ H q a => hN Γ' S' H0 σ H q (a.unbase g) a.fra.e0, fun cls Γ' S' H0 σ H q a => z.ex cls Γ' S' H0 σ H q (a.unbase g)⟩
/-- for x in range(n) -/
theorem gs_forR (hp : PassesOwn (model X.prog X.w) X.A X.env X.xe) (hc : X.calm = true) (hg : Gl X "range") (hm : X.mg "range" = none) (he : GD X B Γ S e (.int n)) (hn : 0 ≤ n ∧ n < 2 ^ 62) (hN : X.N.Nodup) (hj : X.N[j]? = some x) (hx : Loc X.env.scope x) (I : Nat → Gam → Sto → Prop) (h0 : I 0 Γ S)
    (hb : ∀ (i : Nat) Γ' S' G, (i : Int) < n → I i Γ' S' → GSs X (B.at G) (Γ'.set j (.dat (.int (i : Int)))) S' body (P.turn I i)) (hd : ∀ Γ' S', I n.toNat Γ' S' → P.N Γ' S')
    (hs : starEach [e] X.env = [(false, eval e X.env)] := by rfl) (hf : X.fn x = true ∨ X.env.scope.names.lookup x = some .local := by first | exact .inl rfl | exact .inr rfl | assumption) : GS X B Γ S (.For (.Name x p) (.Call (.Name "range" pos2) [e] [] pos3) body [] pos) P := by
  have hbody : PSs X body (fun D σ H => ∃ (i : Nat) (Γ' : Gam) (S' : Sto) (G : Hp), (i : Int) < n ∧ I i Γ' S' ∧ rs X.K (B.at G) (Γ'.set j (.dat (.int (i : Int)))) S' (P.turn I i) D σ H) := ⟨fun pins s σ H D Iv ⟨i, Γ', S', G, h1, h2, z⟩ => (hb i Γ' S' G h1 h2).run pins s σ H D Iv z⟩
  refine (ps_for hp hc (pi_range1 hg hm (pa_cons he pa_nil (by rw [hs]; rfl)) hs) (pg_name (i := j) hN hj hx hf) hbody).imp fun D σ H ⟨H0, at0, z⟩ => ⟨H0, at0, fun v H1 H' at1 e1 hv => ?_⟩
  have hv := hv.toDp
  cases hv
  refine ⟨n, rfl, by omega, by omega, for_range (lo := 0) (n := n.toNat) (g := gName j) (tb := fun D σ H => ∃ (i : Nat) (Γ' : Gam) (S' : Sto) (G : Hp), (i : Int) < n ∧ I i Γ' S' ∧ rs X.K (B.at G) (Γ'.set j (.dat (.int (i : Int)))) S' (P.turn I i) D σ H) (D := D) (fun i σ H => ∃ Γ' S' H0, I i Γ' S' ∧ At X.K B H0 Γ' S' σ H) ⟨Γ, S, H1, h0, at1⟩ (fun i σ H hi pv => ?_) fun σ H pv => ?_⟩
  · obtain ⟨Γ', S', G, hI, at2⟩ := pv
    have e0 : (0 : Int) + (i : Int) = (i : Int) := Int.zero_add _
    show ∃ (i' : Nat) (Γ' : Gam) (S' : Sto) (G : Hp), (i' : Int) < n ∧ I i' Γ' S' ∧ rs X.K (B.at G) (Γ'.set j (.dat (.int (i' : Int)))) S' (P.turn I i') _ (σ.set j (some (.int ((0 : Int) + (i : Int))))) H
    rw [e0]
    exact ⟨i, Γ', S', G, by omega, hI, G, at2.rebase.set j ⟨_, rfl, .int _⟩, turn_endz at2.fra z _ fun Γ1 S1 H2 σ2 H3 q a _ => ⟨Γ1, S1, H2, q, a⟩⟩
  · obtain ⟨Γ', S', G, hI, at2⟩ := pv
    exact z.nx Γ' S' G σ H (hd Γ' S' hI) at2
/-- for x in a list that is data -/
theorem gs_forL (hp : PassesOwn (model X.prog X.w) X.A X.env X.xe) (hc : X.calm = true) (he : GD X B Γ S it (.list ds)) (hN : X.N.Nodup) (hj : X.N[j]? = some x) (hx : Loc X.env.scope x) (I : Nat → Gam → Sto → Prop) (h0 : I 0 Γ S)
    (hb : ∀ (i : Nat) d Γ' S' G, ds[i]? = some d → I i Γ' S' → GSs X (B.at G) (Γ'.set j (.dat d)) S' body (P.turn I i)) (hd : ∀ Γ' S', I ds.length Γ' S' → P.N Γ' S')
    (hs : ∀ y, foldedSetIterable it X.env y = pure y := by intro _; rfl) (hf : X.fn x = true ∨ X.env.scope.names.lookup x = some .local := by first | exact .inl rfl | exact .inr rfl | assumption) : GS X B Γ S (.For (.Name x p) it body [] pos) P := by
  have hbody : PSs X body (fun D σ H => ∃ (i : Nat) (d : PyData) (Γ' : Gam) (S' : Sto) (G : Hp), ds[i]? = some d ∧ I i Γ' S' ∧ rs X.K (B.at G) (Γ'.set j (.dat d)) S' (P.turn I i) D σ H) := ⟨fun pins s σ H D Iv ⟨i, d, Γ', S', G, h1, h2, z⟩ => (hb i d Γ' S' G h1 h2).run pins s σ H D Iv z⟩
  refine (ps_for hp hc (pi_list he) (pg_name (i := j) hN hj hx hf) hbody hs).imp fun D σ H ⟨H0, at0, z⟩ => ⟨H0, at0, fun v H1 H' at1 e1 hv => ?_⟩
  have hv := hv.toDp
  cases hv with
  | @lst a xs _ hl ha =>
    refine ⟨a, rfl, ⟨xs, ex_l at1.e2 hl⟩, for_list (K := X.K) (a := a) (xs := xs) (g := gName j) (tb := fun D σ H => ∃ (i : Nat) (d : PyData) (Γ' : Gam) (S' : Sto) (G : Hp), ds[i]? = some d ∧ I i Γ' S' ∧ rs X.K (B.at G) (Γ'.set j (.dat d)) S' (P.turn I i) D σ H) (D := D) (fun i σ H => ∃ Γ' S' H0, I i Γ' S' ∧ At X.K B H0 Γ' S' σ H ∧ Ex H1 H0) ⟨Γ, S, H1, h0, at1, Ex.refl _⟩ (fun i σ H _ pv => ?_) (fun i y σ H hi pv => ?_) fun σ H pv => ?_⟩
    · obtain ⟨Γ', S', G, hI, at2, e2⟩ := pv
      exact ex_l at2.e2 (ex_l e2 hl)
    · obtain ⟨Γ', S', G, hI, at2, e2⟩ := pv
      obtain ⟨d, h1, h2⟩ := dps_getV ha hi
      exact ⟨i, d, Γ', S', G, h1, hI, G, at2.rebase.set j ⟨_, rfl, dp_ex e2 _ _ h2⟩, turn_endz at2.fra z _ fun Γ1 S1 H2 σ2 H3 q a e3 => ⟨Γ1, S1, H2, q, a, e2.trans e3⟩⟩
    · obtain ⟨Γ', S', G, hI, at2, e2⟩ := pv
      rw [dps_len ha] at hI
      exact z.nx Γ' S' G σ H (hd Γ' S' hI) at2
/-- for k, x in enumerate(a list that is data) -/
theorem gs_forE {k : Nat} {kk : Nat} {y : Str} {p2 tpos : Pos} (hp : PassesOwn (model X.prog X.w) X.A X.env X.xe) (hc : X.calm = true) (hg : Gl X "enumerate") (hm : X.mg "enumerate" = none) (he : GD X B Γ S it (.list ds)) (hN : X.N.Nodup) (hj : X.N[j]? = some x) (hx : Loc X.env.scope x) (hk : X.N[k]? = some y) (hy : Loc X.env.scope y) (I : Nat → Gam → Sto → Prop) (h0 : I 0 Γ S)
    (hb : ∀ (i : Nat) d Γ' S' G, ds[i]? = some d → I i Γ' S' → GSs X (B.at G) ((Γ'.set j (.dat (.int (i : Int)))).set k (.dat d)) S' body (P.turn I i)) (hd : ∀ Γ' S', I ds.length Γ' S' → P.N Γ' S')
    (hs : starEach [it] X.env = [(false, eval it X.env)] := by rfl) (hl2 : (assignEach [.Name x p, .Name y p2] X.env).length = 2 := by rfl) (hst : (assignEach [.Name x p, .Name y p2] X.env).findIdx? (·.1) = none := by rfl)
    (ha1 : (assignEach [.Name x p, .Name y p2] X.env).map (·.2) = assign (.Name x p) X.env :: (assignEach [.Name y p2] X.env).map (·.2) := by rfl) (ha2 : (assignEach [.Name y p2] X.env).map (·.2) = assign (.Name y p2) X.env :: (assignEach [] X.env).map (·.2) := by rfl)
    (hf : X.fn x = true ∨ X.env.scope.names.lookup x = some .local := by first | exact .inl rfl | exact .inr rfl | assumption) (hf2 : X.fn y = true ∨ X.env.scope.names.lookup y = some .local := by first | exact .inl rfl | exact .inr rfl | assumption) :
    GS X B Γ S (.For (.Tuple [.Name x p, .Name y p2] kk tpos) (.Call (.Name "enumerate" pos2) [it] [] pos3) body [] pos) P := by
  have hbody : PSs X body (fun D σ H => ∃ (i : Nat) (d : PyData) (Γ' : Gam) (S' : Sto) (G : Hp), ds[i]? = some d ∧ I i Γ' S' ∧ rs X.K (B.at G) ((Γ'.set j (.dat (.int (i : Int)))).set k (.dat d)) S' (P.turn I i) D σ H) := ⟨fun pins s σ H D Iv ⟨i, d, Γ', S', G, h1, h2, z⟩ => (hb i d Γ' S' G h1 h2).run pins s σ H D Iv z⟩
  refine (ps_for hp hc (pi_enum hg hm (pa_cons he pa_nil (by rw [hs]; rfl)) hs) (pg_tup hc (pgs_cons (pg_name (i := j) hN hj hx hf) (pgs_cons (pg_name (i := k) hN hk hy hf2) pgs_nil ha2) ha1) hl2 hst) hbody).imp fun D σ H ⟨H0, at0, z⟩ => ⟨H0, at0, fun v H1 H' at1 e1 hv => ?_⟩
  have hv := hv.toDp
  cases hv with
  | @lst a xs _ hl ha =>
    refine ⟨a, xs, rfl, ex_l at1.e2 hl, fun i m σ H => m = xs.length - i ∧ i ≤ xs.length ∧ ∃ Γ' S' H0, I i Γ' S' ∧ At X.K B H0 Γ' S' σ H ∧ Ex H1 H0, ⟨xs.length, by simp, Nat.zero_le _, Γ, S, H1, h0, at1, Ex.refl _⟩, ?_⟩
    rintro i m σ H ⟨rfl, hi, Γ', S', G, hI, at2, e2⟩
    have hq : SqL X.K H a xs := ex_l at2.e2 (ex_l e2 hl)
    by_cases hlt : i < xs.length
    · refine .inr ⟨⟨xs, xs[i], hq, by simp [hlt]⟩, fun σ' H' => i + 1 ≤ xs.length ∧ ∃ Γ' S' H0, I (i + 1) Γ' S' ∧ At X.K B H0 Γ' S' σ' H' ∧ Ex H1 H0, fun σ' H' p' => ⟨xs.length - (i + 1), by omega, rfl, p'⟩, fun v H' y => ?_⟩
      obtain ⟨T, u, rfl, hT, rfl, hu⟩ := y
      have hi2 := hu xs hq
      obtain ⟨d, h1, h2⟩ := dps_getV ha hi2
      have xt := Ext.new (o := .tup [.int (i : Nat), u]) at2.e2 hT
      have at3 := at2.ext xt
      refine ⟨T, [.int (i : Nat), u], rfl, .inl (.inl upd_same), rfl, _, _, rfl, _, _, rfl, rfl, ?_⟩
      exact ⟨i, d, Γ', S', _, h1, hI, _, (at3.rebase.set j (s := .dat (.int (i : Int))) ⟨_, rfl, .int _⟩).set k (s := .dat d) ⟨_, rfl, dp_ex (e2.trans xt.e0) _ _ h2⟩, turn_endz at3.fra z _ fun Γ1 S1 H2 σ2 H3 q a e3 => ⟨hlt, Γ1, S1, H2, q, a, (e2.trans xt.e0).trans e3⟩⟩
    · have e : i = xs.length := by omega
      subst e
      rw [dps_len ha] at hI
      exact .inl ⟨⟨xs, hq, Nat.le_refl _⟩, z.nx Γ' S' G σ H (hd Γ' S' hI) at2⟩

/-! ### comprehensions -/
def wipeG (Γ : Gam) : List Nat → Gam
  | [] => Γ
  | v :: vs => (wipeG Γ vs).set v .un
theorem env_un {K : PySem.W.Frag} {H0 : Hp} {σ : St} {Γ : Gam} {v : Nat} (h : EnvOk K H0 σ Γ) : EnvOk K H0 (σ.set v none) (Γ.set v .un) := by
  refine ⟨by rw [List.length_set, List.length_set]; exact h.len, fun i s q => ?_⟩
  by_cases hj : v = i
  · subst hj
    have hi : v < Γ.length := by
      by_cases hi : v < Γ.length
      · exact hi
      · rw [List.getElem?_eq_none_iff.mpr (by rw [List.length_set]; omega)] at q; cases q
    rw [List.getElem?_set_self hi] at q
    cases q
    trivial
  · rw [List.getElem?_set_ne hj] at q ⊢
    exact h.at_ i s q
theorem env_wipe {K : PySem.W.Frag} {H0 : Hp} {σ : St} {Γ : Gam} (h : EnvOk K H0 σ Γ) : ∀ vs, EnvOk K H0 (wipe σ vs) (wipeG Γ vs)
  | [] => h
  | v :: vs => env_un (env_wipe h vs)
theorem At.wipe {K : PySem.W.Frag} {B : Bs} {H0 H : Hp} {Γ : Gam} {S : Sto} {σ : St} (a : At K B H0 Γ S σ H) (vs : List Nat) : At K B H0 (wipeG Γ vs) S (L2.wipe σ vs) H := ⟨a.fra, env_wipe a.env vs, a.sto, a.wr⟩
theorem wipe_set1 {σ : St} {j : Nat} {x : Option V} : wipe ((wipe σ [j]).set j x) [j] = wipe σ [j] := by
  show ((σ.set j none).set j x).set j none = σ.set j none
  rw [List.set_set, List.set_set]
theorem At.frame {K : PySem.W.Frag} {B : Bs} {H0 H H0' H' : Hp} {Γ Γ' : Gam} {S : Sto} {σ σ' : St} (a : At K B H0 Γ S σ H) (b : At K B H0' Γ' S σ' H') (e : Ex H0 H0') : At K B H0' Γ S σ H' := ⟨b.fra, a.env.ext e, b.sto, b.wr⟩
/-- what the block's element is to give -/
def teR (K : PySem.W.Frag) (B : Bs) (Γ : Gam) (S : Sto) (n : Int) (j : Nat) (g : Nat → PyData) : TE := fun σ H Q => ∃ (i : Nat) (D : Addr) (acc : List PyData), (i : Int) < n ∧ rd K B ((wipeG Γ [j]).set j (.dat (.int (i : Int)))) ((D, .lst acc) :: S) (.dat (g i)) σ H Q
theorem lcR_go (g : Nat → PyData) (hn : 0 ≤ n ∧ n ≤ 100000) {σ : St} {H : Hp} {Q : VK} (h : rd X.K B Γ S (.dat (.list ((List.range n.toNat).map g))) σ H Q) : tLc (iRng1 (tCons (rd X.K B Γ S (.dat (.int n))) tNil)) (gName j) tYes (teR X.K B Γ S n j g) [j] σ H Q := by
  obtain ⟨H0, at0, k⟩ := h
  refine ⟨H0, at0, fun v H1 H' at1 e1 hv => ?_⟩
  have hv := hv.toDp
  cases hv
  refine ⟨n, rfl, by omega, by omega, fun D hD => ?_⟩
  have hB : B.H D = none := none_B at1.fra hD
  refine lc_range (lo := 0) (n := n.toNat) (g := gName j) (tt := tYes) (te := teR X.K B Γ S n j g) (vs := [j]) (σ := σ) (D := D) (Qd := fun H => Q (.ref D) H) (fun i H => i ≤ n.toNat ∧ ∃ H0, At X.K B H0 Γ ((D, .lst ((List.range i).map g)) :: S) σ H ∧ Ex H1 H0) ⟨Nat.zero_le _, H1, at1.own hD ⟨[], upd_same, .nil⟩, Ex.refl _⟩ (fun i H hi pv => ?_) fun H pv => ?_
  · obtain ⟨_, G, at2, e2⟩ := pv
    have e0 : (0 : Int) + (i : Int) = (i : Int) := Int.zero_add _
    refine ⟨wipe_set1, ?_⟩
    refine ⟨i, D, _, by omega, G, (at2.wipe [j]).set j ⟨_, rfl, by rw [e0]; exact .int _⟩, fun v H2 H'' at3 e3 hv => ?_⟩
    obtain ⟨_, acc, h1, h2⟩ := at3.sto.at_ D _ List.mem_cons_self
    refine ⟨acc, h1, ?_, by omega, H2, ?_, e2.trans e3⟩
    · rw [dps_len h2, List.length_map, List.length_range]; exact Evl.sz_lt (by omega)
    · have a4 := at2.frame at3 e3
      have a5 := a4.write (n := 0) (ow := .lst ((List.range i).map g ++ [g i])) (o := .lst (acc ++ [v])) rfl ⟨_, upd_same, dps_app h2 (.cons hv.toDp .nil)⟩
      rw [List.range_succ, List.map_append]
      exact a5
  · obtain ⟨_, G, at2, e2⟩ := pv
    obtain ⟨G', e3, at3, hd⟩ := at2.freeze (n := 0) rfl hB
    exact k _ G' H at3 ((e1.trans e2).trans e3) ⟨_, rfl, hd⟩
/-- [elt for x in range(n)] -/
theorem gd_lcR {elt : Expr} {scope : Scope} {lp : Pos} (g : Nat → PyData) (hc : X.calm = true) (hN : X.N.Nodup) (hg : Gl X "range") (hm : X.mg "range" = none) (he : GD X B Γ S e (.int n)) (hn : 0 ≤ n ∧ n ≤ 100000) (ok : BlkOk X.N X.env.scope scope [(x, j)])
    (htg : ∀ (s : Shared) (H : Hp) (C : Addr) (cl : List (Str × Addr)) (fp : List Addr), PG (X.blk s H scope (compEnvC scope cl C X.env) fp) (.Name x p) (gName j))
    (hel : ∀ (i : Nat) (D : Addr) (acc : List PyData), (i : Int) < n → ∀ (s : Shared) (H : Hp) (C : Addr) (cl : List (Str × Addr)) (fp : List Addr), GD (X.blk s H scope (compEnvC scope cl C X.env) fp) B ((wipeG Γ [j]).set j (.dat (.int (i : Int)))) ((D, .lst acc) :: S) elt (g i))
    (hs : starEach [e] X.env = [(false, eval e X.env)] := by rfl) : GD X B Γ S (.ListComp elt [⟨.Name x p, .Call (.Name "range" pos2) [e] [] pos3, [], 0⟩] scope lp) (.list ((List.range n.toNat).map g)) :=
  (pe_lc (own := [(x, j)]) hc hN (pi_range1 hg hm (pa_cons he pa_nil (by rw [hs]; rfl)) hs) ok htg (fun _ _ _ _ _ => pts_nil) (te := teR X.K B Γ S n j g) (fun s H C cl fp => ⟨fun pins s' σ H' Q Iv ⟨i, D, acc, h1, z⟩ => (hel i D acc h1 s H C cl fp).run pins s' σ H' Q Iv z⟩)).imp fun σ H Q h => lcR_go g hn h
/-- y = [elt for x in range(n)] -/
theorem gs_setLcR {elt : Expr} {scope : Scope} {lp spos py : Pos} {y : Str} {P : Po} (i : Nat) (g : Nat → PyData) (hy : X.N[i]? = some y) (hyl : X.env.scope.names.lookup y = some .local) (hsw : swapsWith (.ListComp elt [⟨.Name x p, .Call (.Name "range" pos2) [e] [] pos3, [], 0⟩] scope lp) (some (.Name y py)) spos.line X.env = pure true) (hc : X.calm = true) (hN : X.N.Nodup) (hg : Gl X "range") (hm : X.mg "range" = none) (he : GD X B Γ S e (.int n)) (hn : 0 ≤ n ∧ n ≤ 100000) (ok : BlkOk X.N X.env.scope scope [(x, j)])
    (htg : ∀ (s : Shared) (H : Hp) (C : Addr) (cl : List (Str × Addr)) (fp : List Addr), PG (X.blk s H scope (compEnvC scope cl C X.env) fp) (.Name x p) (gName j))
    (hel : ∀ (i : Nat) (D : Addr) (acc : List PyData), (i : Int) < n → ∀ (s : Shared) (H : Hp) (C : Addr) (cl : List (Str × Addr)) (fp : List Addr), GD (X.blk s H scope (compEnvC scope cl C X.env) fp) B ((wipeG Γ [j]).set j (.dat (.int (i : Int)))) ((D, .lst acc) :: S) elt (g i))
    (hs : starEach [e] X.env = [(false, eval e X.env)] := by rfl) 
    (q : P.N (Γ.set i (.dat (.list ((List.range n.toNat).map g)))) S) : GS X B Γ S (.Assign [.Name y py] (.ListComp elt [⟨.Name x p, .Call (.Name "range" pos2) [e] [] pos3, [], 0⟩] scope lp) spos) P :=
  (ps_setLc (own := [(x, j)]) hc hN hy hyl hsw (pi_range1 hg hm (pa_cons he pa_nil (by rw [hs]; rfl)) hs) ok htg (fun _ _ _ _ _ => pts_nil) (te := teR X.K B Γ S n j g) (fun s H C cl fp => ⟨fun pins s' σ H' Q Iv ⟨i, D, acc, h1, z⟩ => (hel i D acc h1 s H C cl fp).run pins s' σ H' Q Iv z⟩)).imp fun D σ H ⟨H0, at0, z⟩ => lcR_go g hn ⟨H0, at0, fun v H0' H' at1 e1 hv => z.nx _ _ H0' _ H' q (at1.set i hv)⟩
end
/-! ### xs[i] op= e of an owned list of ints -/
def rGetN (K : PySem.W.Frag) : V → V → Hp → VK → Prop := fun x y H Q => ∃ p xs i v, x = .ref p ∧ y = .int i ∧ 0 ≤ i ∧ SqL K H p xs ∧ xs[i.toNat]? = some v ∧ Q v H
theorem get_listN {X : Cx} : PGet X (rGetN X.K) := by
  intro pins s σ H x y v u Q I rx ry h
  obtain ⟨p, xs, i, z, rfl, rfl, h0, hq, he, q⟩ := h
  cases rx
  obtain ⟨t, rfl⟩ := ry
  obtain ⟨its, r, pl, hz⟩ := I.list hq
  obtain ⟨w, ew, rw'⟩ := r.get he
  have hl := r.length
  have hn := line63
  have hi := (List.getElem?_eq_some_iff.mp he).1
  exact wpAny_getItem_list pl.isList h0 (by omega) (by simpa using ew) ⟨z, H, I, rw', q⟩
def tipI (C : Int → Int → Prop) (f : Int → Int → Int) : TIp := fun x y H Q => ∃ i j, x = .int i ∧ y = .int j ∧ C i j ∧ Q (.int (f i j)) H
theorem ip_addT {X : Cx} : PIp X .Add (tipI (fun _ _ => True) fun i j => i + j) := fun pins s σ H x y v u Q I r1 r2 ⟨i, j, e1, e2, _, q⟩ => ip_add pins s σ H x y v u Q I r1 r2 ⟨i, j, e1, e2, q⟩
theorem ip_mulT {X : Cx} : PIp X .Mult (tipI IntMulOk fun i j => i * j) := by
  intro pins s σ H x y v u Q I r1 r2 h
  obtain ⟨i, j, e1, e2, hc, q⟩ := h
  subst e1 e2
  obtain ⟨t, rfl⟩ := r1
  obtain ⟨t', rfl⟩ := r2
  exact PyProof.Rows.imul_int ⟨.int _, H, I.tok _, ⟨_, rfl⟩, q⟩ hc
section
variable {X : Cx} {B : Bs} {Γ : Gam} {S : Sto} {a b c e o : Expr} {ds : List PyData} {pos tpos : Pos} {P : Po} {n : Nat} {p : Addr} {z w : Int} {m : Nat}
theorem gs_augO {op : Operator} {C : Int → Int → Prop} {f : Int → Int → Int} (hp : PIp X op (tipI C f)) (ho : GR X B Γ S o (.ref p)) (hi : GD X B Γ S b (.int (m : Int))) (he : GD X B Γ S e (.int w)) (hn : S[n]? = some (p, .lst ds)) (hz : ds[m]? = some (.int z)) (hC : C z w)
    (q : P.N Γ (S.set n (p, .lst (ds.set m (.int (f z w))))))
    (ha : ∀ ov iv new, augStore b ov iv new = (do holding [new, ov, iv] (setItem ov iv new); release [new, ov, iv] []; pure .next) := by intros; rfl) : GS X B Γ S (.AugAssign (.Subscript o b tpos) op e pos) P :=
  (ps_augS ho hi get_listN he hp set_list ha).imp fun D σ H ⟨H0, at0, zz⟩ => ⟨H0, at0, fun v H1 H' at1 e1 hv => ⟨H1, at1, fun y H2 H'' at2 e2 hy => by
    have hv : (some (some v) : Option (Option V)) = some (some (.ref p)) := hv
    cases hv
    have hy := hy.toDp
    cases hy
    obtain ⟨h0, vs, h1, h2⟩ := at2.sto.at_ p _ (List.mem_of_getElem? hn)
    obtain ⟨u, u1, u2⟩ := dps_get h2 hz
    cases u2
    refine ⟨p, vs, _, _, rfl, rfl, Int.natCast_nonneg m, .inl (.inl h1), u1, H2, at2, fun v3 H3 H3' at3 e3 hv3 => ?_⟩
    have hv3 := hv3.toDp
    cases hv3
    refine ⟨z, w, rfl, rfl, hC, ?_⟩
    obtain ⟨h0', vs', h1', h2'⟩ := at3.sto.at_ p _ (List.mem_of_getElem? hn)
    have hm := (List.getElem?_eq_some_iff.mp hz).1
    refine ⟨p, vs', _, m, rfl, rfl, h1', ?_, ?_⟩
    · unfold ixN
      rw [if_pos (Int.natCast_nonneg m), if_pos (by rw [dps_len h2']; omega), Int.toNat_natCast]
    · exact zz.nx _ _ H3 σ _ q (at3.write hn ⟨_, upd_same, dps_set (.int _) m h2'⟩)⟩⟩
end
/-! ### a part of what is owned, in another order -/
theorem At.pick {K : PySem.W.Frag} {B : Bs} {H0 H : Hp} {Γ : Gam} {S S2 : Sto} {σ : St} (a : At K B H0 Γ S σ H) (is : List Nat) (nd : is.Nodup) (h : is.map (fun i => S[i]?) = S2.map some) : At K B H0 Γ S2 σ H := by
  have hm : ∀ e ∈ S2, e ∈ S := fun e he => by
    have : some e ∈ S2.map some := List.mem_map.mpr ⟨e, he, rfl⟩
    rw [← h] at this
    obtain ⟨i, _, hi⟩ := List.mem_map.mp this
    exact List.mem_of_getElem? hi
  have key : ∀ (is : List Nat) (S2 : Sto), is.Nodup → is.map (fun i => S[i]?) = S2.map some → (keys S2).Nodup := by
    intro is
    induction is with
    | nil => intro S2 _ h; cases S2 with
      | nil => exact List.nodup_nil
      | cons _ _ => cases h
    | cons i is ih =>
      intro S2 nd h
      cases S2 with
      | nil => cases h
      | cons e S2 =>
        obtain ⟨p, ov⟩ := e
        have h1 : S[i]? = some (p, ov) := (List.cons.inj h).1
        have h2 := (List.cons.inj h).2
        obtain ⟨n1, n2⟩ := List.nodup_cons.mp nd
        refine List.nodup_cons.mpr ⟨fun z => ?_, ih S2 n2 h2⟩
        obtain ⟨ow, hz⟩ := of_keys z
        have : some (p, ow) ∈ S2.map some := List.mem_map.mpr ⟨_, hz, rfl⟩
        rw [← h2] at this
        obtain ⟨k, hk, hk2⟩ := List.mem_map.mp this
        exact nd_at a.sto.nd h1 hk2 (fun e => n1 (e ▸ hk)) rfl
  refine ⟨a.fra, a.env, ⟨fun p ov m => a.sto.at_ p ov (hm _ m), key is S2 nd h⟩, fun p hp => ?_⟩
  obtain ⟨ov, m⟩ := of_keys hp
  exact a.wr p (mem_keys (hm _ m))
section
variable {X : Cx} {B : Bs} {Γ : Gam} {S S1 S2 F : Sto} {a b c e o : Expr} {es : List Expr} {pos apos : Pos} {P : Po} {n : Nat} {q : Addr} {fs : List (Str × Sl)} {names : List Str} {r : Sl} {as : List Sl} {CX : CXT} {lv : Nat} {f C : Addr} {fd : FuncData} {ps : List Str} {R : Rq} {PR : Sl → Sto → Prop} {PX : Value → Sto → Prop} {m x : Str} {p : Pos} {rest : List Stmt} {d : PyData}
theorem gss_pick (is : List Nat) (nd : is.Nodup) (h : is.map (fun i => S[i]?) = S2.map some) (k : GSs X B Γ S2 rest P) : GSs X B Γ S rest P := k.imp fun D σ H ⟨H0, at0, z⟩ => ⟨H0, at0.pick is nd h, z⟩
/-- a statement that leaves the slots as they are -/
theorem gss_keep {st : Stmt} (Ms : Sto → Prop) (h1 : GS X B Γ S st { P with N := fun Γ' S' => Γ' = Γ ∧ Ms S' }) (h2 : ∀ S', Ms S' → GSs X B Γ S' rest P) : GSs X B Γ S (st :: rest) P := gss_cons h1 fun Γ' S' ⟨e, m⟩ => e ▸ h2 S' m
theorem gs_imp {st : Stmt} {Q : Po} (h : GS X B Γ S st P) (n : ∀ Γ S, P.N Γ S → Q.N Γ S) (r : ∀ v S, P.R v S → Q.R v S) (b : ∀ Γ S, P.bk Γ S → Q.bk Γ S) (c : ∀ Γ S, P.ct Γ S → Q.ct Γ S) (x : ∀ z Γ S, P.ex z Γ S → Q.ex z Γ S) : GS X B Γ S st Q := h.imp fun D σ H ⟨H0, at0, z⟩ =>
  ⟨H0, at0, fun Γ S H0 σ H q => z.nx Γ S H0 σ H (n Γ S q), fun v Γ S u H0 σ H q => z.rt v Γ S u H0 σ H (r v S q), fun Γ S H0 σ H q => z.bk Γ S H0 σ H (b Γ S q), fun Γ S H0 σ H q => z.ct Γ S H0 σ H (c Γ S q), fun y Γ S H0 σ H q => z.ex y Γ S H0 σ H (x y Γ S q)⟩
/-- the same store, told otherwise -/
theorem gss_sto (h : S = S2) (k : GSs X B Γ S2 rest P) : GSs X B Γ S rest P := h ▸ k
/-- a method that changes nothing and gives data -/
theorem gd_methP {pl : Sem Bool} (ho : GR X B Γ (S1 ++ F) o (.ref q)) (hn : (S1 ++ F)[n]? = some (q, .obj C fs)) (c : Cls X.K C) (hm : Meth X.K C m f) (hnm : fs.map (·.1) = names) (hj : idxF m names = none) (Gf : FnOk X.prog X.w X.K X.mg X.base CX0 lv f fd ps (SpM X.K R)) (hr : Room lv X.A) (hb : Binds X.K fd ps [])
    (ha : GAS X B Γ (S1 ++ F) (e :: es) as) (hR : R (.raw (.ref q) :: as) S1 (fun r S' => r = .dat d ∧ S' = S1) (fun _ _ => False))
    (hst : starEach (e :: es) X.env = (false, eval e X.env) :: starEach es X.env := by rfl) (hpl : (backTo pos (starEach es X.env)).any (·.1) = false := by rfl)
    (ht : MethForm X o m (e :: es) pos apos pl := by rfl) : GD X B Γ (S1 ++ F) (.Call (.Attribute o m apos) (e :: es) [] pos) d :=
  gd_ofE (ge_mono (ge_meth ho hn c hm hnm hj Gf hr hb (fun _ _ _ _ _ _ _ h => h.elim) ha hR hst hpl ht) (fun r S' ⟨S1', ⟨h1, h2⟩, h3⟩ => by subst h1 h2 h3; exact ⟨rfl, rfl⟩) fun cls S' ⟨_, h, _⟩ => h)
/-- a def that changes nothing and gives data, some of its arguments owned -/
theorem gd_callP (Gf : FnOk X.prog X.w X.K X.mg X.base CX0 lv f fd ps (SpM X.K R)) (hr : Room lv X.A) (hg : Gl X x) (hm : X.mg x = some (.ref f)) (hk : PySem.W.keepIn X.K (.ref f) = true) (hb : Binds X.K fd ps []) (ha : GAS X B Γ (S1 ++ F) (e :: es) as) (hR : R as S1 (fun r S' => r = .dat d ∧ S' = S1) (fun _ _ => False))
    (hdb : (x == ("__debug__" : Str)) = false := by decide) (he : starEach (e :: es) X.env = (false, eval e X.env) :: starEach es X.env := by rfl) (hpl : (backTo pos (starEach es X.env)).any (·.1) = false := by rfl) : GD X B Γ (S1 ++ F) (.Call (.Name x p) (e :: es) [] pos) d :=
  gd_ofE (ge_mono (ge_call Gf hr hg hm hk hb (fun _ _ _ _ _ _ _ h => h.elim) ha hR hdb he hpl) (fun r S' ⟨S1', ⟨h1, h2⟩, h3⟩ => by subst h1 h2 h3; exact ⟨rfl, rfl⟩) fun cls S' ⟨_, h, _⟩ => h)
end
/-! ### lists that are data or owned -/
section
variable {X : Cx} {B : Bs} {Γ : Gam} {S : Sto} {e o it : Expr} {es : List Expr} {d : PyData} {ds : List PyData} {pos pos2 pos3 : Pos} {P : Po} {n : Nat} {x nm : Str} {p2 : Pos} {j : Nat} {body : List Stmt}
def LSl (S : Sto) (r : Sl) (ds : List PyData) : Prop := r = .dat (.list ds) ∨ ∃ p, r = .raw (.ref p) ∧ (p, OV.lst ds) ∈ S
inductive GLs (X : Cx) (B : Bs) (Γ : Gam) (S : Sto) (e : Expr) (ds : List PyData) : Prop
  | dat (h : GD X B Γ S e (.list ds))
  | own (p : Addr) (n : Nat) (h : GR X B Γ S e (.ref p)) (hn : S[n]? = some (p, .lst ds))
theorem gls_var {r : Sl} (h : PE X e (tVar n)) (q : Γ[n]? = some r) (hr : LSl S r ds) : GLs X B Γ S e ds := by
  rcases hr with rfl | ⟨p, rfl, hm⟩
  · exact .dat (gd_var h q)
  · obtain ⟨i, hi⟩ := List.getElem?_of_mem hm
    exact .own p i (gr_var h q) hi
theorem gl_len (hg : Gl X nm) (hm : X.mg nm = none) (hv : bootBuiltins nm = some (.builtin "len")) (ho : GLs X B Γ S o ds) (hnn : nm ≠ "__name__" := by decide) (hdb : (nm == ("__debug__" : Str)) = false := by decide)
    (he : starEach [o] X.env = (false, eval o X.env) :: starEach [] X.env := by rfl) (hpl : (backTo pos (starEach [] X.env)).any (·.1) = false := by rfl) : GD X B Γ S (.Call (.Name nm p2) [o] [] pos) (.int (ds.length : Int)) := by
  cases ho with
  | dat h => exact gd_callB call_len (ca_len (.inl rfl)) hg hm hv (ga_cons h ga_nil he) hnn hdb he hpl
  | own p n h hn => exact gd_lenO hg hm hv h hn hnn hdb he hpl
theorem gl_list (hg : Gl X nm) (hm : X.mg nm = none) (hv : bootBuiltins nm = some (.type "list")) (he : GLs X B Γ S e ds) {ex : Value → Gam → Sto → Prop} (hnn : nm ≠ "__name__" := by decide) (hdb : (nm == ("__debug__" : Str)) = false := by decide)
    (hst : starEach [e] X.env = (false, eval e X.env) :: starEach [] X.env := by rfl) (hpl : (backTo pos (starEach [] X.env)).any (·.1) = false := by rfl) : GE X B Γ S (.Call (.Name nm p2) [e] [] pos) (fun r S' => ∃ p, B.H p = none ∧ r = .raw (.ref p) ∧ S' = (p, .lst ds) :: S) ex := by
  cases he with
  | dat h => exact ge_list hg hm hv h hnn hdb hst hpl
  | own p n h hn => exact ge_listO hg hm hv h hn hnn hdb hst hpl
/-- .. and given as data at once: nobody else holds it -/
theorem gl_listD (hg : Gl X nm) (hm : X.mg nm = none) (hv : bootBuiltins nm = some (.type "list")) (he : GLs X B Γ S e ds) (hnn : nm ≠ "__name__" := by decide) (hdb : (nm == ("__debug__" : Str)) = false := by decide)
    (hst : starEach [e] X.env = (false, eval e X.env) :: starEach [] X.env := by rfl) (hpl : (backTo pos (starEach [] X.env)).any (·.1) = false := by rfl) : GD X B Γ S (.Call (.Name nm p2) [e] [] pos) (.list ds) :=
  (gl_list hg hm hv he (ex := fun _ _ _ => False) hnn hdb hst hpl).imp fun σ H Q ⟨H0, at0, k⟩ => ⟨H0, at0, fun r S' v H0' H' ⟨p, hp, er, es⟩ at1 e1 hv => by
    subst er es
    have hv : (some (some v) : Option (Option V)) = some (some (.ref p)) := hv
    cases hv
    obtain ⟨H2, e2, at2, hd⟩ := at1.freeze (n := 0) rfl hp
    exact k _ H2 H' at2 (e1.trans e2) ⟨_, rfl, hd⟩, fun _ _ _ _ z => z.elim⟩
/-- for k, x in enumerate(a list that is owned and stays) -/
theorem gs_forEO {p : Addr} {px : Pos} {k : Nat} {kk : Nat} {y : Str} {p2 tpos : Pos} (hp : PassesOwn (model X.prog X.w) X.A X.env X.xe) (hc : X.calm = true) (hg : Gl X "enumerate") (hm : X.mg "enumerate" = none) (he : GR X B Γ S it (.ref p)) (hN : X.N.Nodup) (hj : X.N[j]? = some x) (hx : Loc X.env.scope x) (hk : X.N[k]? = some y) (hy : Loc X.env.scope y) (I : Nat → Gam → Sto → Prop) (h0 : I 0 Γ S)
    (hkp : ∀ i Γ' S', I i Γ' S' → (p, OV.lst ds) ∈ S')
    (hb : ∀ (i : Nat) d Γ' S' G, ds[i]? = some d → I i Γ' S' → GSs X (B.at G) ((Γ'.set j (.dat (.int (i : Int)))).set k (.dat d)) S' body (P.turn I i)) (hd : ∀ Γ' S', I ds.length Γ' S' → P.N Γ' S')
    (hs : starEach [it] X.env = [(false, eval it X.env)] := by rfl) (hl2 : (assignEach [.Name x px, .Name y p2] X.env).length = 2 := by rfl) (hst : (assignEach [.Name x px, .Name y p2] X.env).findIdx? (·.1) = none := by rfl)
    (ha1 : (assignEach [.Name x px, .Name y p2] X.env).map (·.2) = assign (.Name x px) X.env :: (assignEach [.Name y p2] X.env).map (·.2) := by rfl) (ha2 : (assignEach [.Name y p2] X.env).map (·.2) = assign (.Name y p2) X.env :: (assignEach [] X.env).map (·.2) := by rfl)
    (hf : X.fn x = true ∨ X.env.scope.names.lookup x = some .local := by first | exact .inl rfl | exact .inr rfl | assumption) (hf2 : X.fn y = true ∨ X.env.scope.names.lookup y = some .local := by first | exact .inl rfl | exact .inr rfl | assumption) :
    GS X B Γ S (.For (.Tuple [.Name x px, .Name y p2] kk tpos) (.Call (.Name "enumerate" pos2) [it] [] pos3) body [] pos) P := by
  have hbody : PSs X body (fun D σ H => ∃ (i : Nat) (d : PyData) (Γ' : Gam) (S' : Sto) (G : Hp), ds[i]? = some d ∧ I i Γ' S' ∧ rs X.K (B.at G) ((Γ'.set j (.dat (.int (i : Int)))).set k (.dat d)) S' (P.turn I i) D σ H) := ⟨fun pins s σ H D Iv ⟨i, d, Γ', S', G, h1, h2, z⟩ => (hb i d Γ' S' G h1 h2).run pins s σ H D Iv z⟩
  refine (ps_for hp hc (pi_enum hg hm (pa_cons he pa_nil (by rw [hs]; rfl)) hs) (pg_tup hc (pgs_cons (pg_name (i := j) hN hj hx hf) (pgs_cons (pg_name (i := k) hN hk hy hf2) pgs_nil ha2) ha1) hl2 hst) hbody).imp fun D σ H ⟨H0, at0, z⟩ => ⟨H0, at0, fun v H1 H' at1 e1 hv => ?_⟩
  have hv : (some (some v) : Option (Option V)) = some (some (.ref p)) := hv
  cases hv
  obtain ⟨_, xs, hl, _⟩ := at1.sto.at_ p _ (hkp 0 Γ S h0)
  refine ⟨p, xs, rfl, .inl (.inl hl), fun i m σ H => m = ds.length - i ∧ i ≤ ds.length ∧ ∃ Γ' S' H0, I i Γ' S' ∧ At X.K B H0 Γ' S' σ H ∧ Ex H1 H0, ⟨ds.length, by simp, Nat.zero_le _, Γ, S, H1, h0, at1, Ex.refl _⟩, ?_⟩
  rintro i m σ H ⟨rfl, hi, Γ', S', G, hI, at2, e2⟩
  obtain ⟨_, xs, hl, ha⟩ := at2.sto.at_ p _ (hkp i Γ' S' hI)
  have hq : SqL X.K H p xs := .inl (.inl hl)
  have hln := dps_len ha
  by_cases hlt : i < ds.length
  · have hlx : i < xs.length := by omega
    refine .inr ⟨⟨xs, xs[i], hq, by simp [hlx]⟩, fun σ' H' => i + 1 ≤ ds.length ∧ ∃ Γ' S' H0, I (i + 1) Γ' S' ∧ At X.K B H0 Γ' S' σ' H' ∧ Ex H1 H0, fun σ' H' p' => ⟨ds.length - (i + 1), by omega, rfl, p'⟩, fun v H' y => ?_⟩
    obtain ⟨T, u, rfl, hT, rfl, hu⟩ := y
    have hi2 := hu xs hq
    obtain ⟨d, h1, h2⟩ := dps_getV ha hi2
    have xt := Ext.new (o := .tup [.int (i : Nat), u]) at2.e2 hT
    have at3 := at2.ext xt
    refine ⟨T, [.int (i : Nat), u], rfl, .inl (.inl upd_same), rfl, _, _, rfl, _, _, rfl, rfl, ?_⟩
    exact ⟨i, d, Γ', S', _, h1, hI, _, (at3.rebase.set j (s := .dat (.int (i : Int))) ⟨_, rfl, .int _⟩).set k (s := .dat d) ⟨_, rfl, dp_ex xt.e0 _ _ h2⟩, turn_endz at3.fra z _ fun Γ1 S1 H2 σ2 H3 q a e3 => ⟨hlt, Γ1, S1, H2, q, a, (e2.trans xt.e0).trans e3⟩⟩
  · have e : i = ds.length := by omega
    subst e
    exact .inl ⟨⟨xs, hq, by omega⟩, z.nx Γ' S' G σ H (hd Γ' S' hI) at2⟩
theorem gl_forE {px : Pos} {k : Nat} {kk : Nat} {y : Str} {p2 tpos : Pos} (hp : PassesOwn (model X.prog X.w) X.A X.env X.xe) (hc : X.calm = true) (hg : Gl X "enumerate") (hm : X.mg "enumerate" = none) (he : GLs X B Γ S it ds) (hN : X.N.Nodup) (hj : X.N[j]? = some x) (hx : Loc X.env.scope x) (hk : X.N[k]? = some y) (hy : Loc X.env.scope y) (I : Nat → Gam → Sto → Prop) (h0 : I 0 Γ S)
    (hkp : ∀ i Γ' S', I i Γ' S' → S' = S)
    (hb : ∀ (i : Nat) d Γ' S' G, ds[i]? = some d → I i Γ' S' → GSs X (B.at G) ((Γ'.set j (.dat (.int (i : Int)))).set k (.dat d)) S' body (P.turn I i)) (hd : ∀ Γ' S', I ds.length Γ' S' → P.N Γ' S')
    (hs : starEach [it] X.env = [(false, eval it X.env)] := by rfl) (hl2 : (assignEach [.Name x px, .Name y p2] X.env).length = 2 := by rfl) (hst : (assignEach [.Name x px, .Name y p2] X.env).findIdx? (·.1) = none := by rfl)
    (ha1 : (assignEach [.Name x px, .Name y p2] X.env).map (·.2) = assign (.Name x px) X.env :: (assignEach [.Name y p2] X.env).map (·.2) := by rfl) (ha2 : (assignEach [.Name y p2] X.env).map (·.2) = assign (.Name y p2) X.env :: (assignEach [] X.env).map (·.2) := by rfl)
    (hf : X.fn x = true ∨ X.env.scope.names.lookup x = some .local := by first | exact .inl rfl | exact .inr rfl | assumption) (hf2 : X.fn y = true ∨ X.env.scope.names.lookup y = some .local := by first | exact .inl rfl | exact .inr rfl | assumption) :
    GS X B Γ S (.For (.Tuple [.Name x px, .Name y p2] kk tpos) (.Call (.Name "enumerate" pos2) [it] [] pos3) body [] pos) P := by
  cases he with
  | dat h => exact gs_forE hp hc hg hm h hN hj hx hk hy I h0 hb hd hs hl2 hst ha1 ha2 hf hf2
  | own p n h hn => exact gs_forEO hp hc hg hm h hN hj hx hk hy I h0 (fun i Γ' S' q => hkp i Γ' S' q ▸ List.mem_of_getElem? hn) hb hd hs hl2 hst ha1 ha2 hf hf2
end
section
variable {X : Cx} {B : Bs} {Γ : Gam} {S F : Sto} {e : Expr} {es : List Expr} {d : PyData} {ds : List PyData} {pos : Pos} {P : Po} {n lv : Nat} {x : Str} {p : Pos} {as : List Sl} {f : Addr} {fd : FuncData} {ps : List Str} {R : Rq} {r : Sl} {o : Addr × OV}
theorem LSl.cons (h : LSl S r ds) : LSl (o :: S) r ds := h.imp id fun ⟨p, h1, h2⟩ => ⟨p, h1, List.mem_cons_of_mem _ h2⟩
theorem LSl.app (h : LSl F r ds) : LSl (S ++ F) r ds := h.imp id fun ⟨p, h1, h2⟩ => ⟨p, h1, List.mem_append_right _ h2⟩
theorem LSl.ne (h : LSl S r ds) : r ≠ .un := by
  rcases h with rfl | ⟨p, rfl, _⟩ <;> exact fun z => nomatch z
theorem gd_callP0 (Gf : FnOk X.prog X.w X.K X.mg X.base CX0 lv f fd ps (SpM X.K R)) (hr : Room lv X.A) (hg : Gl X x) (hm : X.mg x = some (.ref f)) (hk : PySem.W.keepIn X.K (.ref f) = true) (hb : Binds X.K fd ps []) (ha : GAS X B Γ S (e :: es) as) (hR : R as S (fun r S' => r = .dat d ∧ S' = S) (fun _ _ => False))
    (hdb : (x == ("__debug__" : Str)) = false := by decide) (he : starEach (e :: es) X.env = (false, eval e X.env) :: starEach es X.env := by rfl) (hpl : (backTo pos (starEach es X.env)).any (·.1) = false := by rfl) : GD X B Γ S (.Call (.Name x p) (e :: es) [] pos) d := by
  have ha' : GAS X B Γ (S ++ []) (e :: es) as := by rw [List.append_nil]; exact ha
  have := gd_callP (F := []) (p := p) Gf hr hg hm hk hb ha' hR hdb he hpl
  rwa [List.append_nil] at this
theorem gss_then {st : Stmt} {rest : List Stmt} (h : GS X B Γ S st { P with N := fun Γ' S' => GSs X B Γ' S' rest P }) : GSs X B Γ S (st :: rest) P := gss_cons h fun _ _ q => q
end
/-! ### a new list -/
def GF (X : Cx) (B : Bs) (Γ : Gam) (S : Sto) (e : Expr) (ds : List PyData) : Prop := ∀ ex : Value → Gam → Sto → Prop, GE X B Γ S e (fun r S' => ∃ p, B.H p = none ∧ r = .raw (.ref p) ∧ S' = (p, .lst ds) :: S) ex
section
variable {X : Cx} {B : Bs} {Γ : Gam} {S : Sto} {e o : Expr} {es : List Expr} {ds : List PyData} {pos pos' p2 : Pos} {P : Po} {n : Nat} {p C : Addr} {fs : List (Str × Sl)} {names : List Str} {f nm x : Str}
theorem gf_lst (h : GA X B Γ S es ds) (hl : ds.length ≤ 100000) : GF X B Γ S (.List es pos) ds := fun _ => ge_lst h hl
theorem gf_list (hg : Gl X nm) (hm : X.mg nm = none) (hv : bootBuiltins nm = some (.type "list")) (he : GLs X B Γ S e ds) (hnn : nm ≠ "__name__" := by decide) (hdb : (nm == ("__debug__" : Str)) = false := by decide)
    (hst : starEach [e] X.env = (false, eval e X.env) :: starEach [] X.env := by rfl) (hpl : (backTo pos (starEach [] X.env)).any (·.1) = false := by rfl) : GF X B Γ S (.Call (.Name nm p2) [e] [] pos) ds := fun _ => gl_list hg hm hv he hnn hdb hst hpl
theorem gs_fldF {j : Option Nat} (he : GF X B Γ S e ds) (ho : ∀ S', GR X B Γ S' o (.ref p)) (hn : S[n]? = some (p, .obj C fs)) (hc : Cls X.K C) (hf : NoAttr X.K C f) (hnm : fs.map (·.1) = names) (hj : idxF f names = j) (hl : fs.length < 1000)
    (q : ∀ b, B.H b = none → P.N Γ ((b, .lst ds) :: S.set n (p, .obj C (setF j f (.raw (.ref b)) fs))))
    (hs : swapsWith e (some (.Attribute o f pos')) pos.line X.env = pure false := by rfl) : GS X B Γ S (.Assign [.Attribute o f pos'] e pos) P :=
  gs_fldE (he P.ex) hc hf (fun r S' ⟨b, hb, hr, hS⟩ => by subst hr hS; exact ⟨n + 1, fs, names, ho _, by rw [List.getElem?_cons_succ]; exact hn, hnm, hj, hl, q b hb⟩) hs
/-- x = a new list -/
theorem gs_setF {i : Nat} (he : GF X B Γ S e ds) (hN : X.N.Nodup) (hi : X.N[i]? = some x) (hx : Loc X.env.scope x) (q : ∀ b, B.H b = none → P.N (Γ.set i (.raw (.ref b))) ((b, .lst ds) :: S)) (hs : swapsWith e (some (.Name x pos')) pos.line X.env = pure false := by rfl) (hf : X.fn x = true ∨ X.env.scope.names.lookup x = some .local := by first | exact .inl rfl | exact .inr rfl | assumption) : GS X B Γ S (.Assign [.Name x pos'] e pos) P :=
  gs_setE hN hi hx (ge_mono (he P.ex) (fun r S' ⟨b, hb, hr, hS⟩ => by subst hr hS; exact q b hb) fun _ _ h => h) hs
end
section
variable {X : Cx} {B : Bs} {Γ : Gam} {S S1 F : Sto} {e : Expr} {es : List Expr} {pos : Pos} {n lv : Nat} {x : Str} {p : Pos} {as : List Sl} {C f : Addr} {fd : FuncData} {ps : List Str} {R : Rq} {CX : CXT}
/-- C(e, ..), told by what follows -/
theorem ge_makeQ {E : XK} {Pe : Sl → Sto → Prop} {ex : Value → Gam → Sto → Prop} (M : Mk X.K C f) (Gf : FnOk X.prog X.w X.K X.mg X.base CX lv f fd ps (SpM X.K R)) (hr : Room (lv + 1) X.A) (hg : Gl X x) (hm : X.mg x = some (.ref C)) (hb : Binds X.K fd ps []) (hx : Passes CX X E) (hE : ∀ cls σ H, B.E cls none σ H → E cls none H)
    {PRx : Addr → Sto → Prop} {PXx : Addr → Value → Sto → Prop} (ha : GAS X B Γ (S1 ++ F) (e :: es) as) (hR : ∀ y, R (.raw (.ref y) :: as) ((y, .obj C []) :: S1) (fun r S' => r = .dat .none ∧ PRx y S') (PXx y)) 
    (q : ∀ y S1', B.H y = none → PRx y S1' → Pe (.raw (.ref y)) (S1' ++ F)) (qx : ∀ y cls S1', PXx y cls S1' → ex cls Γ (S1' ++ F)) (hdb : (x == ("__debug__" : Str)) = false := by decide)
    (he : starEach (e :: es) X.env = (false, eval e X.env) :: starEach es X.env := by rfl) (hpl : (backTo pos (starEach es X.env)).any (·.1) = false := by rfl) :
    GE X B Γ (S1 ++ F) (.Call (.Name x p) (e :: es) [] pos) Pe ex :=
  ge_mono (ge_make (PRx := PRx) (PXx := PXx) M Gf hr hg hm hb hx hE ha hR hdb he hpl) (fun r S' ⟨y, S1', hy, hp, h1, h2⟩ => by subst h1 h2; exact q y S1' hy hp) fun cls S' ⟨y, S1', hp, h⟩ => by subst h; exact qx y cls S1' hp
end
section
variable {X : Cx} {B : Bs} {Γ : Gam} {S : Sto} {a : Expr} {d : PyData} {pos : Pos}
theorem gt_isN {n : Nat} {p2 : Pos} (ha : GD X B Γ S a d) : GT X B Γ S (.Compare a [.Is] [.Constant .none n p2] pos) (isN d) := (pt_cmp (pc_isN ha) rfl).imp (test_go fun σ H Q ⟨H0, at0, k⟩ => ⟨H0, at0, fun v H0' H' at1 e1 hv => k _ H0' H' at1 e1 ⟨_, rfl, by rw [isN_of hv.toDp]; exact .bl _⟩⟩)
theorem gt_notN {n : Nat} {p2 : Pos} (ha : GD X B Γ S a d) : GT X B Γ S (.Compare a [.IsNot] [.Constant .none n p2] pos) (!isN d) := (pt_cmp (pc_notN ha) rfl).imp (test_go fun σ H Q ⟨H0, at0, k⟩ => ⟨H0, at0, fun v H0' H' at1 e1 hv => k _ H0' H' at1 e1 ⟨_, rfl, by rw [isN_of hv.toDp]; exact .bl _⟩⟩)
end
section
variable {X : Cx} {B : Bs} {Γ : Gam} {S : Sto} {rest : List Stmt} {P : Po} {p : Addr} {ds : List PyData} {n i : Nat}
/-- what a slot alone holds is data from here on -/
theorem gss_freeze (i n : Nat) (hi : Γ[i]? = some (.raw (.ref p))) (hn : S[n]? = some (p, .lst ds)) (hB : B.H p = none) (k : GSs X B (Γ.set i (.dat (.list ds))) (S.eraseIdx n) rest P) : GSs X B Γ S rest P := k.imp fun D σ H ⟨H0, at0, z⟩ => by
  obtain ⟨H2, e2, at2, hd⟩ := at0.freeze hn hB
  refine ⟨H2, ⟨at2.fra, ⟨by rw [List.length_set]; exact at2.env.len, fun j s q => ?_⟩, at2.sto, at2.wr⟩, z⟩
  by_cases e : i = j
  · subst e
    have hl : i < Γ.length := (List.getElem?_eq_some_iff.mp hi).1
    rw [List.getElem?_set_self hl] at q
    cases q
    have := at2.env.at_ i _ hi
    exact ⟨_, this, hd⟩
  · rw [List.getElem?_set_ne e] at q
    exact at2.env.at_ j s q
end
section
variable {X : Cx} {B : Bs} {Γ : Gam} {S : Sto} {o b a : Expr} {ds : List PyData} {d : PyData} {i : Int} {pos : Pos}
theorem gl_ix (ho : GLs X B Γ S o ds) (hi : GD X B Γ S b (.int i)) (q : atI ds i = some d) (hs : PlainIx b := by exact fun _ _ => rfl) : GD X B Γ S (.Subscript o b pos) d := by
  cases ho with
  | dat h => exact gd_ixL h hi q hs
  | own p n h hn => exact gd_ixO h hi hn q hs
theorem gl_isL {f : Str} {p p2 : Pos} (hg : Gl X f) (hm : X.mg f = none) (hv : bootBuiltins f = some (.builtin "isinstance")) (hT : PE X (.Name "list" p2) (tC (.ty "list"))) (ha : GLs X B Γ S a ds)
    (hn : f ≠ "__name__" := by decide) (hdb : (f == ("__debug__" : Str)) = false := by decide)
    (he : starEach [a, .Name "list" p2] X.env = (false, eval a X.env) :: starEach [.Name "list" p2] X.env := by rfl) (he2 : starEach [.Name "list" p2] X.env = (false, eval (.Name "list" p2) X.env) :: starEach [] X.env := by rfl) (hpl : (backTo pos (starEach [.Name "list" p2] X.env)).any (·.1) = false := by rfl) : GD X B Γ S (.Call (.Name f p) [a, .Name "list" p2] [] pos) (.bool true) := by
  cases ha with
  | dat h => exact gd_isi hg hm hv hT h kit_list_list hn hdb he he2 hpl
  | own q n h hnn =>
    exact (pe_callB call_isi hg hm hv (pa_cons h (pa_cons hT pa_nil he2) he) hn hdb he hpl).imp fun σ H Q ⟨H0, at0, k⟩ => ⟨H0, at0, fun v H1 H' at1 e1 hv => by
      have hv : (some (some v) : Option (Option V)) = some (some (.ref q)) := hv
      cases hv
      obtain ⟨_, vs, h1, _⟩ := at1.sto.at_ q _ (List.mem_of_getElem? hnn)
      exact ⟨.ref q, .ty "list", .type "list", .type "list", true, rfl, .ty "list", .base (.lst h1), kit_ty kit_list_list, k _ H1 H' at1 e1 ⟨_, rfl, .bl _⟩⟩⟩
end
/-! ### try -/
section
variable {X : Cx} {B : Bs} {Γ : Gam} {S : Sto} {pos : Pos} {P : Po} {body : List Stmt}
abbrev Bs.E0 (B : Bs) (W : WX) : Bs := { B with E := W }
theorem At.reE {K : PySem.W.Frag} {W : WX} {H0 H : Hp} {σ : St} (a : At K B H0 Γ S σ H) : At K (B.E0 W) H0 Γ S σ H := ⟨a.fra.toE, a.env, a.sto, a.wr⟩
theorem At.unE {K : PySem.W.Frag} {W : WX} {H0 H : Hp} {σ : St} (a : At K (B.E0 W) H0 Γ S σ H) : At K B H0 Γ S σ H := ⟨a.fra.toE, a.env, a.sto, a.wr⟩
/-- which clause an exception of the class goes to; none lets it through -/
def Sel (K : PySem.W.Frag) (cls : Value) (Γ : Gam) (S : Sto) : List (Value × (Gam → Sto → Prop)) → Prop
  | [] => False
  | (c, Pc) :: r => ∃ b, PySem.W.exmOne K cls c = some b ∧ (b = true → Pc Γ S) ∧ (b = false → Sel K cls Γ S r)
inductive HdG (X : Cx) (B : Bs) (P : Po) : List ExceptHandler → List (Value × (Gam → Sto → Prop)) → Prop
  | nil : HdG X B P [] []
  | cons {x : Str} {c : Value} {Pc : Gam → Sto → Prop} {b₀ : Stmt} {suite : List Stmt} {np pos' : Pos} {hds : List ExceptHandler} {l : List (Value × (Gam → Sto → Prop))} (hc : Names X x c)
      (hsu : ∀ (a : Addr) (oe : Obj) (pn : List (Addr × Obj)) Γ' S', Pc Γ' S' → GSs (X.suite a ((a, oe) :: pn)) B Γ' S' (b₀ :: suite) P) (r : HdG X B P hds l) : HdG X B P (.ExceptHandler (some (.Name x np)) none (b₀ :: suite) pos' :: hds) ((c, Pc) :: l)
def tsOf (K : PySem.W.Frag) (B : Bs) (P : Po) (Pc : Gam → Sto → Prop) : Addr → Value → Option Addr → TS := fun _ _ _ D σ H => ∃ Γ' S', Pc Γ' S' ∧ rs K B Γ' S' P D σ H
theorem HdG.toOk {hds : List ExceptHandler} {l : List (Value × (Gam → Sto → Prop))} (h : HdG X B P hds l) : L2N.HdsOk X hds (l.map fun p => (p.1, tsOf X.K B P p.2)) := by
  induction h with
  | nil => exact .nil
  | cons hc hsu r ih => exact .cons hc (fun a oe cls d pn _ _ => ⟨fun pins s σ H D I ⟨Γ', S', hp, z⟩ => (hsu a oe pn Γ' S' hp).run pins s σ H D I z⟩) ih
/-- try: body, except A: .., except B: .. (what the body raises is caught) -/
theorem gs_tryM {h₀ : ExceptHandler} {hds : List ExceptHandler} {l : List (Value × (Gam → Sto → Prop))} (hs : X.stack = X.env :: X.outer) (hf : X.env.frame = some X.env.locals) (Px : Value → Gam → Sto → Prop)
    (hb : ∀ (W : WX) (pn : List (Addr × Obj)) (xe : Value → Shared → Prop), L2N.Takes (X.tr pn xe) W → PassesOwn (model X.prog X.w) X.A X.env xe → GSs (X.tr pn xe) (B.E0 W) Γ S body { N := P.N, R := P.R, bk := P.bk, ct := P.ct, ex := Px })
    (hsel : ∀ cls Γ' S', Px cls Γ' S' → Sel X.K cls Γ' S' l) (hh : HdG X B P (h₀ :: hds) l) : GS X B Γ S (.Try body (h₀ :: hds) [] [] pos) P :=
  (L2N.ps_try_many (Wout := fun _ _ _ _ => False) (tb := fun W => rs X.K (B.E0 W) Γ S { N := P.N, R := P.R, bk := P.bk, ct := P.ct, ex := Px }) hs hf (fun _ _ ⟨_, _, _, _, _, _, _, _, _, _, _, _, _, _, _, _, w⟩ => w.elim) hb hh.toOk).imp fun D σ H ⟨H0, at0, z⟩ =>
    ⟨H0, at0.reE, fun Γ' S' H0' σ' H' q a => z.nx Γ' S' H0' σ' H' q a.unE, fun r Γ' S' v H0' σ' H' q a hv => z.rt r Γ' S' v H0' σ' H' q a.unE hv, fun Γ' S' H0' σ' H' q a => z.bk Γ' S' H0' σ' H' q a.unE, fun Γ' S' H0' σ' H' q a => z.ct Γ' S' H0' σ' H' q a.unE, fun cls Γ' S' H0' σ' H' q a => by
      have h := hsel cls Γ' S' q
      have a2 : At X.K B H0' Γ' S' σ' H' := a.unE
      show wMany X.K _ D _ cls none σ' H'
      clear q hsel hh hb a
      induction l with
      | nil => exact h.elim
      | cons p r ih =>
        obtain ⟨b, h1, h2, h3⟩ := h
        exact ⟨b, h1, fun hb _ _ => ⟨Γ', S', h2 hb, H0', a2, z⟩, fun hb => ih (h3 hb)⟩⟩
end
/-! ### a def that is asked of the exception in hand -/
structure FnE (P : Program) (w : World) (K : PySem.W.Frag) (mg : Str → Option Value) (base : Heap) (n : Nat) (f : Addr) (fd : FuncData) (ps : List Str) (R : Value → PyData → Prop) : Prop where
  one : ps.length = 1
  run : ∀ (A : Around) (out : List Env) (s0 : Shared) (H : Hp) (ag : Args) (p : Addr × Obj) (cls : Value) (d : PyData) (Q : VK) (E : XK), L2H.RoomH n A → L2H.Hot1 A p → L2H.PinOk out H s0 p → Env0 P w K mg base A out s0 H → BindsTo s0 fd ag (ps.zip [Value.ref p.1]) → Zc cls none p.2 → (∃ v, p.2.data = .fields v) → R cls d →
    (∃ H0, Ex H0 H ∧ ∀ v H0' H', Ext H0 H H0' H' → Dp K H0' v d → Q v H') → codeAny (model P w) A (.call (.ref f) ag) (CR CX0 out P w H s0 Q E) s0
section
variable {P : Program} {w : World} {K : PySem.W.Frag} {mg : Str → Option Value} {base : Heap}
theorem fnE_of {x qual : Str} {st : Stmt} {f : Addr} {fd : FuncData} {N ps : List Str} {n : Nat} {R : Value → PyData → Prop} (F : Fun K x qual st f fd) (Sc : FnScope N ps (defScope st)) (h1 : ps.length = 1)
    (hbody : ∀ (cd0 : Value) (A : Around) (out : List Env) (s0 : Shared) (H : Hp) (E : XK) (B : Bs) (p : Addr × Obj) (cls : Value) (d : PyData), L2H.RoomH n (A.deeper (envOfC qual (defScope st) s0.heap.objs.size f cd0)) → Zc cls none p.2 → (∃ v, p.2.data = .fields v) → R cls d →
      GSs (L2H.cxH CX0 P w K mg base N qual (defScope st) f cd0 A out s0 H E p) B (gamS N.length [.raw (.ref p.1)]) [] (defBody st) { N := fun _ _ => d = .none, R := fun r _ => r = .dat d }) : FnE P w K mg base (n + 1) f fd ps R := by
  refine ⟨h1, ?_⟩
  intro A out s0 H ag p cls d Q E room hot pin env hbind hz hdat hR ⟨H0, hex, hQ⟩
  obtain ⟨_, _, _, _, _, _, cd0, _, _, hfd, hlk, hcode⟩ := F.ex
  subst hfd
  have kin : K.In s0.heap := env.mod.kin.keeps fun _ _ e => (env.bs _ _ e).1
  have free : s0.heap.NoLimit := env.mod.nolimit.keeps fun _ _ e => (env.bs _ _ e).1
  have hv : Vals [V.ref p.1] [Value.ref p.1] := .cons rfl .nil
  refine codeAny_call_function room.depth (kin _ _ hlk) rfl Sc.co Sc.gen rfl (PySem.W.codeRec_of kin hcode) (hbind _ _ _ _ (wpAny_newFunctionEnv_cells Sc.kind (fun y hy => ?_) fun env2 he s1 made => ?_))
  · rcases Sc.par y.1 (List.of_mem_zip (a := y.1) (b := y.2) hy).1 with q | q
    · exact Or.inl q
    · exact Or.inr ⟨q, PySem.W.cellsFrom_some _ _ _ (Or.inl q)⟩
  subst he
  refine ⟨free.keeps made.toInCall.keep, codeAny_func ?_⟩
  have start : Inv (L2H.cxH CX0 P w K mg base N qual (defScope st) f cd0 A out s0 H E p) [] (L2.start N [V.ref p.1]) H s1 := L2H.inv_startH Sc pin env (by rw [h1]; rfl) hv made
  have hle : ps.length ≤ N.length := by have := congrArg List.length Sc.pre; rw [List.length_take] at this; omega
  have go := hbody cd0 A out s0 H E ⟨H0, H, [], fun _ _ _ _ => False⟩ p cls d (room.deeper _) hz hdat hR
  have done : ∀ {σ2 : St} {H2 : Hp} {v2 : V} {u2 : Value} {s2 : Shared}, Inv (L2H.cxH CX0 P w K mg base N qual (defScope st) f cd0 A out s0 H E p) [] σ2 H2 s2 → RelV v2 u2 → Q v2 H2 → CE out P w H s0 Q u2 s2 := fun {σ2 H2 v2 u2 s2} J rv q => ⟨v2, H2, J.os, J.bare, J.base, J.hok, rv, q⟩
  refine wpAny_mono (go.run [] s1 (L2.start N [V.ref p.1]) H { nx := fun _ H' => Q .non H', rt := Q } start ⟨H0, ⟨Fra.refl hex, env_startS (as := [.raw (.ref p.1)]) (.cons rfl .nil) (by show 1 ≤ N.length; omega), StoOk.nil, fun _ z => nomatch z⟩, ?_, ?_, ?_, ?_, ?_⟩) (fun fl s2 hs => ?_) fun _ _ z => z
  · intro Γ S' H0' σ2 H2 hd a
    subst hd
    exact hQ _ H0' H2 a.fra.toExt .non
  · intro r Γ S' v H0' σ2 H2 hr a hv2
    subst hr
    exact hQ _ H0' H2 a.fra.toExt hv2.toDp
  · exact fun _ _ _ _ _ z => z.elim
  · exact fun _ _ _ _ _ z => z.elim
  · exact fun _ _ _ _ _ _ z => z.elim
  · cases fl with
    | ret u2 =>
      obtain ⟨_, _, _, J, rv, q⟩ := hs
      exact done J rv q
    | next =>
      obtain ⟨_, _, J, q⟩ := hs
      exact done (v2 := V.non) (u2 := Value.none) J rfl q
    | brk => exact False.elim hs.choose_spec.choose_spec.2
    | cont => exact False.elim hs.choose_spec.choose_spec.2
end
section
variable {X : Cx} {B : Bs} {Γ : Gam} {S : Sto} {a e : Expr} {d : PyData} {pos : Pos}
theorem call_isP {q D : Addr} {oe : Obj} (hin : (q, oe) ∈ X.pn) (C : ExcC X.K D) (hz : Zc (.ref D) none oe) (hf : ∃ v, oe.data = .fields v) : CallR X (.builtin "isinstance") (rIsE X.K D q) := by
  intro pins s σ H xs us Q inv r ⟨c, cv, b, hxs, hcv, hk, hQ⟩
  subst hxs
  obtain ⟨u1, u2, rfl, r1, r2⟩ : ∃ u1 u2, us = [u1, u2] ∧ RelV (.ref q) u1 ∧ RelV c u2 := by
    cases r with
    | cons r1 r =>
      cases r with
      | cons r2 r =>
        cases r
        exact ⟨_, _, rfl, r1, r2⟩
  cases r1
  have e2 := hcv _ r2
  subst e2
  have stands := (inv.pin (q, oe) (List.mem_append_left _ hin)).1
  obtain ⟨v, hv⟩ := hf
  have at_ : PySem.W.InstAt s.heap q oe D none := by
    rcases oe with ⟨_, _, _, _⟩
    obtain ⟨z1, z2⟩ := hz
    simp only at z1 z2 hv
    subst z1 z2 hv
    exact ⟨stands, rfl, rfl, trivial⟩
  exact PySem.W.kia_one (PySem.W.handS_kitx_exc C.hg C.hk C.hs C.hd C.ha C.hn C.ht C.hm) inv.kIn at_ hk (fun z => nomatch z) fun t => ⟨.bl b, H, inv.kept (t' := t) fun _ _ z => z, rfl, hQ⟩
/-- isinstance(e, T), e the exception in hand -/
theorem gd_isE {q D : Addr} {oe : Obj} {f T : Str} {p p2 : Pos} {c : V} {cv : Value} {b : Bool} (hin : (q, oe) ∈ X.pn) (C : ExcC X.K D) (hz : Zc (.ref D) none oe) (hf : ∃ v, oe.data = .fields v) (hg : Gl X f) (hm : X.mg f = none) (hv : bootBuiltins f = some (.builtin "isinstance"))
    (hT : PE X (.Name T p2) (tC c)) (hcv : ∀ u, RelV c u → u = cv) (hk : PySem.W.kitOne X.K (.ref D) cv = some b) (ha : GR X B Γ S a (.ref q)) (hn : f ≠ "__name__" := by decide) (hdb : (f == ("__debug__" : Str)) = false := by decide)
    (he : starEach [a, .Name T p2] X.env = (false, eval a X.env) :: starEach [.Name T p2] X.env := by rfl) (he2 : starEach [.Name T p2] X.env = (false, eval (.Name T p2) X.env) :: starEach [] X.env := by rfl) (hpl : (backTo pos (starEach [.Name T p2] X.env)).any (·.1) = false := by rfl) : GD X B Γ S (.Call (.Name f p) [a, .Name T p2] [] pos) (.bool b) :=
  (pe_callB (call_isP hin C hz hf) hg hm hv (pa_cons ha (pa_cons hT pa_nil he2) he) hn hdb he hpl).imp fun σ H Q ⟨H0, at0, k⟩ => ⟨H0, at0, fun v H1 H' at1 e1 hv => by
    have hv : (some (some v) : Option (Option V)) = some (some (.ref q)) := hv
    cases hv
    exact ⟨c, cv, b, rfl, hcv, hk, k _ H1 H' at1 e1 ⟨_, rfl, .bl _⟩⟩⟩
/-- f(e), e the exception in hand -/
theorem gd_callE {n : Nat} {x : Str} {q : Pos} {f : Addr} {fd : FuncData} {ps : List Str} {R : Value → PyData → Prop} {p : Addr × Obj} {cls : Value} (F : FnE X.prog X.w X.K X.mg X.base n f fd ps R) (room : L2H.RoomH n X.A) (hot : L2H.Hot1 X.A p) (hin : p ∈ X.pn) (hz : Zc cls none p.2) (hdat : ∃ v, p.2.data = .fields v) (hR : R cls d)
    (hg : Gl X x) (hm : X.mg x = some (.ref f)) (hk : PySem.W.keepIn X.K (.ref f) = true) (hb : Binds X.K fd ps []) (ha : GR X B Γ S e (.ref p.1)) (hdb : (x == ("__debug__" : Str)) = false := by decide)
    (he : starEach [e] X.env = (false, eval e X.env) :: starEach [] X.env := by rfl) (hpl : (backTo pos (starEach [] X.env)).any (·.1) = false := by rfl) : GD X B Γ S (.Call (.Name x q) [e] [] pos) d := by
  refine ⟨fun pins s σ H Q inv ⟨H0, at0, k⟩ => wpAny_Call_Name_kw (ld_glob inv hg hm (PySem.W.callWith_K (h₀ := X.base) inv.ok.mod.kin hk (thn ((gas_cons ha gas_nil he).run pos pins s σ H (fun vs H1 => vs = [V.ref p.1] ∧ ∃ H2, At X.K B H2 Γ S σ H1 ∧ Ex H0 H2) inv ⟨H0, at0, fun vs H1 H' at1 e1 hvs => ?_⟩) fun us s1 hh => ?_) he hpl) hdb)⟩
  · cases hvs with
    | cons h1 h2 =>
      cases h2
      have h1 : (some (some _) : Option (Option V)) = some (some (.ref p.1)) := h1
      cases h1
      exact ⟨rfl, H1, at1, e1⟩
  · obtain ⟨vs, H1, inv1, r, hvs, H2, at1, e1⟩ := hh
    subst hvs
    refine ⟨inv1.kIn, ?_⟩
    obtain ⟨rfl⟩ : us = [Value.ref p.1] := by
      cases r with
      | cons r1 r2 =>
        cases r2
        cases r1
        rfl
    have bnd := hb s1 [Value.ref p.1] inv1.kIn (by rw [List.append_nil, F.one]; rfl)
    rw [List.append_nil] at bnd
    have there := inv1.pin p (List.mem_append_left _ hin)
    have pin : L2H.PinOk X.stack H1 s1 p := ⟨there.1, there.2.1, fun z => (List.mem_cons.mp (inv1.stkSub p.1 z)).elim there.2.2.1 there.2.2.2.1, there.2.2.2.2⟩
    have run := F.run X.A X.stack s1 H1 ⟨[Value.ref p.1], []⟩ p cls d Q (fun _ _ _ => False) room hot pin inv1.env0 bnd hz hdat hR ⟨H2, at1.e2, fun v H0' H' ext hd => k v H0' H' (at1.ext ext) (e1.trans ext.e0) ⟨_, rfl, hd⟩⟩
    refine wpAny_call (codeAny_mono run fun r s2 hq => ?_)
    match r, hq with
    | .error _, hq => exact False.elim hq
    | .ok (.ret _), hq => exact inv1.after hq
    | .ok .next, hq => exact False.elim hq
    | .ok .brk, hq => exact False.elim hq
    | .ok .cont, hq => exact False.elim hq
end
section
variable {X : Cx} {B : Bs} {Γ : Gam} {S : Sto} {pos pos' np : Pos} {P : Po} {body suite : List Stmt} {b₀ : Stmt} {x n : Str} {c : Value} {i : Nat}
/-- the ends of a suite whose name goes -/
abbrev Po.named (P : Po) (i : Nat) : Po := { N := fun Γ S => P.N (Γ.set i .un) S, R := P.R, bk := fun Γ S => P.bk (Γ.set i .un) S, ct := fun Γ S => P.ct (Γ.set i .un) S }
theorem At.unset {K : PySem.W.Frag} {H0 H : Hp} {σ : St} (a : At K B H0 Γ S σ H) (i : Nat) : At K B H0 (Γ.set i .un) S (σ.set i none) H := ⟨a.fra, env_un a.env, a.sto, a.wr⟩
def tsA (K : PySem.W.Frag) (B : Bs) (P : Po) (i : Nat) (Pc : Value → Gam → Sto → Prop) : Addr → Value → Option Addr → TS := fun a cls d D σ H => d = none ∧ ∃ Γ' S', Pc cls Γ' S' ∧ rs K B (Γ'.set i (.raw (.ref a))) S' (P.named i) D σ H
/-- try: body, except T as n: suite (all that the body raises is of T) -/
theorem gs_tryA (hs : X.stack = X.env :: X.outer) (hf : X.env.frame = some X.env.locals) (hN : X.N.Nodup) (hi : X.N[i]? = some n) (hln : X.env.kindOf n = some .local) (hc : Names X x c) (Px : Value → Gam → Sto → Prop)
    (hb : ∀ (W : WX) (pn : List (Addr × Obj)) (xe : Value → Shared → Prop), L2N.Takes (X.tr pn xe) W → PassesOwn (model X.prog X.w) X.A X.env xe → GSs (X.tr pn xe) (B.E0 W) Γ S body { N := P.N, R := P.R, bk := P.bk, ct := P.ct, ex := Px })
    (hm : ∀ cls Γ' S', Px cls Γ' S' → PySem.W.exmOne X.K cls c = some true)
    (hsu : ∀ (a : Addr) (oe : Obj) (cls : Value) (pn : List (Addr × Obj)) Γ' S', L2N.Zn cls none oe → (∃ v, oe.data = .fields v) → Px cls Γ' S' → GSs (X.suite a ((a, oe) :: pn)) B (Γ'.set i (.raw (.ref a))) S' (b₀ :: suite) (P.named i)) :
    GS X B Γ S (.Try body [.ExceptHandler (some (.Name x np)) (some n) (b₀ :: suite) pos'] [] [] pos) P :=
  (L2N.ps_try_as (Wout := fun _ _ _ _ => False) (ts := tsA X.K B P i Px) (tb := fun W => rs X.K (B.E0 W) Γ S { N := P.N, R := P.R, bk := P.bk, ct := P.ct, ex := Px }) hs hf hN hi hln hc (fun _ _ ⟨_, _, _, _, _, _, _, _, _, _, _, _, _, _, _, _, w⟩ => w.elim) hb
    (fun a oe cls d pn hz hd => ⟨fun pins s σ H D inv ⟨e, Γ', S', q, z⟩ => by subst e; exact (hsu a oe cls pn Γ' S' hz hd q).run pins s σ H D inv z⟩)).imp fun D σ H ⟨H0, at0, z⟩ =>
    ⟨H0, at0.reE, fun Γ' S' H0' σ' H' q a => z.nx Γ' S' H0' σ' H' q a.unE, fun r Γ' S' v H0' σ' H' q a hv => z.rt r Γ' S' v H0' σ' H' q a.unE hv, fun Γ' S' H0' σ' H' q a => z.bk Γ' S' H0' σ' H' q a.unE, fun Γ' S' H0' σ' H' q a => z.ct Γ' S' H0' σ' H' q a.unE, fun cls Γ' S' H0' σ' H' q a =>
      ⟨true, hm cls Γ' S' q, fun _ b _ => ⟨rfl, Γ', S', q, H0', a.unE.set i (v := .ref b) (s := .raw (.ref b)) rfl, fun Γ1 S1 G σ1 H1 q1 a1 => z.nx _ _ G _ H1 q1 (a1.unset i), fun r Γ1 S1 v G σ1 H1 q1 a1 hv => z.rt r Γ1 S1 v G σ1 H1 q1 a1 hv, fun Γ1 S1 G σ1 H1 q1 a1 => z.bk _ _ G _ H1 q1 (a1.unset i), fun Γ1 S1 G σ1 H1 q1 a1 => z.ct _ _ G _ H1 q1 (a1.unset i), fun _ _ _ _ _ _ w _ => w.elim⟩, fun w => nomatch w⟩⟩
end
/-! ### lists of what is no data -/
def raE (K : PySem.W.Frag) (B : Bs) (Γ : Gam) (S : Sto) (Pa : List Sl → Sto → Prop) : TA := fun σ H Q => ∃ H0, At K B H0 Γ S σ H ∧ ∀ as S' vs H0' H', Pa as S' → At K B H0' Γ S' σ H' → Ex H0 H0' → ArgsOk K H0' vs as → Q vs H'
/-- a row of expressions, each with effects, nothing raised -/
abbrev GEA (X : Cx) (B : Bs) (Γ : Gam) (S : Sto) (es : List Expr) (Pa : List Sl → Sto → Prop) : Prop := PA X es (raE X.K B Γ S Pa)
section
variable {X : Cx} {B : Bs} {Γ : Gam} {S : Sto} {e o b it : Expr} {es : List Expr} {ds : List PyData} {ws : List V} {pos : Pos} {P : Po} {n : Nat} {p : Addr} {r : Sl} {x : Str} {j : Nat} {body : List Stmt} {px : Pos}
theorem gea_nil {Pa : List Sl → Sto → Prop} (h : Pa [] S) : GEA X B Γ S [] Pa := pa_nil.imp fun σ H Q ⟨H0, at0, k⟩ => k [] S [] H0 H h at0 (Ex.refl _) .nil
theorem gea_cons {Pe : Sl → Sto → Prop} {Pa : List Sl → Sto → Prop} (he : GE X B Γ S e Pe (fun _ _ _ => False)) (ht : ∀ r S', Pe r S' → GEA X B Γ S' es (fun as S'' => Pa (r :: as) S'')) (hs : starEach (e :: es) X.env = (false, eval e X.env) :: starEach es X.env := by rfl) : GEA X B Γ S (e :: es) Pa := by
  have hrest : PA X es (fun σ H Q => ∃ r S', Pe r S' ∧ raE X.K B Γ S' (fun as S'' => Pa (r :: as) S'') σ H Q) := ⟨fun pos pins s σ H Q I ⟨r, S', hp, z⟩ => (ht r S' hp).run pos pins s σ H Q I z⟩
  exact (pa_cons he hrest hs).imp fun σ H Q ⟨H0, at0, k⟩ => ⟨H0, at0, fun r S' v H1 H' hp at1 e1 hv => ⟨r, S', hp, H1, at1, fun as S'' vs H2 H'' hp2 at2 e2 hvs => k (r :: as) S'' (v :: vs) H2 H'' hp2 at2 (e1.trans e2) (.cons (hv.ext e2) hvs)⟩, fun _ _ _ _ w => w.elim⟩
theorem raws_of {K : PySem.W.Frag} {H0 : Hp} : ∀ {ws vs : List V}, ArgsOk K H0 vs (ws.map Sl.raw) → vs = ws
  | [], _, .nil => rfl
  | w :: ws, _, .cons h t => by
    have h : (some (some _) : Option (Option V)) = some (some w) := h
    cases h
    rw [raws_of t]
/-- [e, ..], the elements no data -/
theorem ge_lsR {Pa : List V → Sto → Prop} (h : GEA X B Γ S es (fun as S' => ∃ ws, as = ws.map Sl.raw ∧ ws.length ≤ 100000 ∧ Pa ws S')) {ex : Value → Gam → Sto → Prop} : GE X B Γ S (.List es pos) (fun r S' => ∃ p ws S1, B.H p = none ∧ Pa ws S1 ∧ r = .raw (.ref p) ∧ S' = (p, .ho (.lst ws)) :: S1) ex :=
  (pe_lst h).imp fun σ H Q ⟨H0, at0, k, _⟩ => ⟨H0, at0, fun as S' vs H1 H' ⟨ws, e, hl, hp⟩ at1 e1 hvs => by
    subst e
    have e := raws_of hvs
    subst e
    exact ⟨Evl.sz_of hl, fun q hq => k _ _ (.ref q) H1 _ ⟨q, vs, S', none_B at1.fra hq, hp, rfl, rfl⟩ (at1.own (ow := .ho (.lst vs)) (o := .lst vs) hq upd_same) e1 rfl⟩⟩
/-- [e, ..], each element data or not -/
theorem ge_lsS {Pa : List Sl → Sto → Prop} (h : GEA X B Γ S es (fun as S' => as.length ≤ 100000 ∧ Pa as S')) {ex : Value → Gam → Sto → Prop} : GE X B Γ S (.List es pos) (fun r S' => ∃ p as S1, B.H p = none ∧ Pa as S1 ∧ r = .raw (.ref p) ∧ S' = (p, .ls as) :: S1) ex :=
  (pe_lst h).imp fun σ H Q ⟨H0, at0, k, _⟩ => ⟨H0, at0, fun as S' vs H1 H' ⟨hl, hp⟩ at1 e1 hvs =>
    ⟨by rw [Paired.length hvs]; exact Evl.sz_of hl, fun q hq => k _ _ (.ref q) H1 _ ⟨q, as, S', none_B at1.fra hq, hp, rfl, rfl⟩ (at1.own (ow := .ls as) (o := .lst vs) hq ⟨vs, upd_same, hvs⟩) e1 rfl⟩⟩
theorem atI_V {vs : List V} {i : Nat} {v : V} (h : vs[i]? = some v) : atI vs (i : Int) = some v := atI_nat h
/-- o[i] of such a list -/
theorem ge_ixS {as : List Sl} {i : Nat} (ho : GR X B Γ S o (.ref p)) (hi : GD X B Γ S b (.int (i : Int))) (hn : S[n]? = some (p, .ls as)) (q : as[i]? = some r) (hs : PlainIx b := by exact fun _ _ => rfl) : PE X (.Subscript o b pos) (rd X.K B Γ S r) := (pe_ix ix_list ho hi hs).imp fun σ H Q ⟨H0, at0, k⟩ => ⟨H0, at0, fun v H1 H' at1 e1 hv => ⟨H1, at1, fun w H2 H'' at2 e2 hw => by
  have hv : (some (some v) : Option (Option V)) = some (some (.ref p)) := hv
  cases hv
  have hw := hw.toDp
  cases hw
  obtain ⟨_, vs, h1, h2⟩ := at2.sto.at_ p _ (List.mem_of_getElem? hn)
  have hl := Paired.length h2
  obtain ⟨hj, _⟩ := List.getElem?_eq_some_iff.mp q
  have hu : vs[i]? = some vs[i] := List.getElem?_eq_getElem (by omega)
  exact ⟨p, vs, _, vs[i], rfl, rfl, .inl (.inl h1), atI_V hu, k _ H2 H'' at2 (e1.trans e2) (by
    obtain ⟨u, h3, h4⟩ := ArgsOk.get (i := i) h2 q
    rw [hu] at h3
    cases h3
    exact h4)⟩⟩⟩
theorem gr_ixR {v : V} {i : Nat} (ho : GR X B Γ S o (.ref p)) (hi : GD X B Γ S b (.int (i : Int))) (hn : S[n]? = some (p, .ho (.lst ws))) (q : ws[i]? = some v) (hs : PlainIx b := by exact fun _ _ => rfl) : GR X B Γ S (.Subscript o b pos) v := (pe_ix ix_list ho hi hs).imp fun σ H Q ⟨H0, at0, k⟩ => ⟨H0, at0, fun z H1 H' at1 e1 hv => ⟨H1, at1, fun w H2 H'' at2 e2 hw => by
  have hv : (some (some z) : Option (Option V)) = some (some (.ref p)) := hv
  cases hv
  have hw := hw.toDp
  cases hw
  obtain ⟨_, h1⟩ := at2.sto.at_ p _ (List.mem_of_getElem? hn)
  exact ⟨p, ws, _, v, rfl, rfl, .inl (.inl h1), atI_V q, k _ H2 H'' at2 (e1.trans e2) rfl⟩⟩⟩
/-- o.append(e), e no data, perhaps made there -/
theorem gs_appR {apos epos : Pos} {Pe : Sl → Sto → Prop} (ho : GR X B Γ S o (.ref p)) (hz0 : ∃ ws, (p, OV.ho (.lst ws)) ∈ S) (he : GE X B Γ S e Pe P.ex) (q : ∀ r S', Pe r S' → ∃ n ws v, r = .raw v ∧ S'[n]? = some (p, .ho (.lst ws)) ∧ ws.length < 100000 ∧ P.N Γ (S'.set n (p, .ho (.lst (ws ++ [v])))))
    (hbase : attributeBase o "append" X.env (eval o X.env) = eval o X.env := by rfl)
    (hfew : ((backTo pos (starEach [e] X.env)).all (fun x => !x.1) && (backToKw pos (keywordEach [] X.env)).all (fun x => x.1.isSome)
      && decide (([e] : List Expr).length + ([] : List Keyword).length + (if ([] : List Keyword).isEmpty then 0 else 1) < 30)) = true := by rfl)
    (hline : (apos.endLine == pos.line) = true := by rfl) (hs : starEach [e] X.env = (false, eval e X.env) :: starEach [] X.env := by rfl) (hplain : (backTo pos (starEach [] X.env)).any (·.1) = false := by rfl)
    (hsw : swapsWith (.Call (.Attribute o "append" apos) [e] [] pos) none epos.line X.env = pure false := by rfl) : GS X B Γ S (.Expr (.Call (.Attribute o "append" apos) [e] [] pos) epos) P :=
  (ps_expr (pe_bm PySem.F.plainAttrs_list PySem.F.slot_list_append PySem.F.type_list_append mt_append ho (pa_cons he pa_nil hs) hbase hfew hline hs hplain) hsw).imp fun D σ H ⟨H0, at0, z⟩ => ⟨H0, at0, fun v H1 H' at1 e1 hv => by
    have hv : (some (some v) : Option (Option V)) = some (some (.ref p)) := hv
    cases hv
    obtain ⟨ws0, hm0⟩ := hz0
    obtain ⟨_, h1⟩ := at1.sto.at_ p _ hm0
    refine ⟨.inl ⟨rfl, _, .inl (.inl h1)⟩, H1, at1, fun r S' y H2 H'' hp at2 e2 hy => ?_, fun cls S' H2 H'' hx at2 => z.ex cls Γ S' H2 σ H'' hx at2⟩
    obtain ⟨n, ws, u, rfl, hn, hl, hN⟩ := q r S' hp
    have hy : (some (some y) : Option (Option V)) = some (some u) := hy
    cases hy
    obtain ⟨_, h2⟩ := at2.sto.at_ p _ (List.mem_of_getElem? hn)
    exact ⟨p, ws, _, rfl, rfl, h2, Evl.sz_lt hl, z.nx _ _ H2 σ _ hN (at2.write hn upd_same)⟩⟩
/-- for x in such a list, which stays -/
theorem gs_forRaw (hp : PassesOwn (model X.prog X.w) X.A X.env X.xe) (hc : X.calm = true) (he : GR X B Γ S it (.ref p)) (hN : X.N.Nodup) (hj : X.N[j]? = some x) (hx : Loc X.env.scope x) (I : Nat → Gam → Sto → Prop) (h0 : I 0 Γ S) (hk : ∀ i Γ' S', I i Γ' S' → (p, OV.ho (.lst ws)) ∈ S')
    (hb : ∀ (i : Nat) v Γ' S' G, ws[i]? = some v → I i Γ' S' → GSs X (B.at G) (Γ'.set j (.raw v)) S' body (P.turn I i)) (hd : ∀ Γ' S', I ws.length Γ' S' → P.N Γ' S')
    (hs : ∀ y, foldedSetIterable it X.env y = pure y := by intro _; rfl) (hf : X.fn x = true ∨ X.env.scope.names.lookup x = some .local := by first | exact .inl rfl | exact .inr rfl | assumption) : GS X B Γ S (.For (.Name x px) it body [] pos) P := by
  have hbody : PSs X body (fun D σ H => ∃ (i : Nat) (v : V) (Γ' : Gam) (S' : Sto) (G : Hp), ws[i]? = some v ∧ I i Γ' S' ∧ rs X.K (B.at G) (Γ'.set j (.raw v)) S' (P.turn I i) D σ H) := ⟨fun pins s σ H D Iv ⟨i, v, Γ', S', G, h1, h2, z⟩ => (hb i v Γ' S' G h1 h2).run pins s σ H D Iv z⟩
  refine (ps_for hp hc (pi_list he) (pg_name (i := j) hN hj hx hf) hbody hs).imp fun D σ H ⟨H0, at0, z⟩ => ⟨H0, at0, fun v H1 H' at1 e1 hv => ?_⟩
  have hv : (some (some v) : Option (Option V)) = some (some (.ref p)) := hv
  cases hv
  have now : ∀ {i : Nat} {Γ' : Gam} {S' : Sto} {G Hn : Hp} {σ' : St}, I i Γ' S' → At X.K B G Γ' S' σ' Hn → SqL X.K Hn p ws := fun hI a => .inl (.inl (a.sto.at_ p _ (hk _ _ _ hI)).2)
  refine ⟨p, rfl, ⟨ws, now h0 at1⟩, for_list (K := X.K) (a := p) (xs := ws) (g := gName j) (tb := fun D σ H => ∃ (i : Nat) (v : V) (Γ' : Gam) (S' : Sto) (G : Hp), ws[i]? = some v ∧ I i Γ' S' ∧ rs X.K (B.at G) (Γ'.set j (.raw v)) S' (P.turn I i) D σ H) (D := D) (fun i σ H => ∃ Γ' S' H0, I i Γ' S' ∧ At X.K B H0 Γ' S' σ H) ⟨Γ, S, H1, h0, at1⟩ (fun i σ H _ pv => ?_) (fun i y σ H hi pv => ?_) fun σ H pv => ?_⟩
  · obtain ⟨Γ', S', G, hI, at2⟩ := pv
    exact now hI at2
  · obtain ⟨Γ', S', G, hI, at2⟩ := pv
    exact ⟨i, y, Γ', S', G, hi, hI, G, at2.rebase.set j (s := .raw y) rfl, turn_endz at2.fra z _ fun Γ1 S1 H2 σ2 H3 q a _ => ⟨Γ1, S1, H2, q, a⟩⟩
  · obtain ⟨Γ', S', G, hI, at2⟩ := pv
    exact z.nx Γ' S' G σ H (hd Γ' S' hI) at2
end
section
variable {X : Cx} {B : Bs} {Γ : Gam} {S : Sto} {a b : Expr} {ds es : List PyData} {ws : List V} {d : PyData} {pos : Pos} {p : Addr}
/-- lists that are owned, seen as data as they stand -/
abbrev Seen (S : Sto) (ws : List V) (ds : List PyData) : Prop := Paired (fun w d => ∃ q es, w = .ref q ∧ d = .list es ∧ (q, OV.lst es) ∈ S) ws ds
theorem seen_all {K : PySem.W.Frag} {H0 H : Hp} (e : Ex H0 H) (h : StoOk K H0 H S) : ∀ {ws : List V} {ds : List PyData}, Seen S ws ds → DpAll K H ws ds
  | _, _, .nil => .nil
  | _, _, .cons ⟨q, es, h1, h2, h3⟩ t => by
    subst h1 h2
    obtain ⟨_, vs, k1, k2⟩ := h.at_ q _ h3
    exact .cons (.lst (.inl (.inl k1)) (dps_ex e _ _ k2)) (seen_all e h t)
theorem gt_neV (hu : X.A.units + 64 < cLine) (ha : GR X B Γ S a (.ref p)) (hb : GD X B Γ S b d) (hm : (p, OV.ho (.lst ws)) ∈ S) (hs : Seen S ws ds) (h1 : SeqAt.shaped (.list ds) = true) (h2 : SeqAt.shaped d = true) : GT X B Γ S (.Compare a [.NotEq] [b] pos) (!PyData.eqv (.list ds) d) :=
  (pt_cmpR (op_neD hu) ha hb (nomark _)).imp fun σ H Q ⟨H0, at0, k⟩ => ⟨H0, at0, fun v H1 H' at1 e1 hv => ⟨H1, at1, fun w H2 H'' at2 e2 hw => by
    have hv : (some (some v) : Option (Option V)) = some (some (.ref p)) := hv
    cases hv
    obtain ⟨_, k1⟩ := at2.sto.at_ p _ hm
    exact ⟨.list ds, d, .lst (.inl (.inl k1)) (seen_all at2.e2 at2.sto hs), dp_ex at2.e2 _ _ hw.toDp, h1, h2, _, rfl, k H2 H'' at2 (e1.trans e2)⟩⟩⟩
end
/-! ### tests with effects -/
section
variable {X : Cx} {B : Bs} {Γ : Gam} {S : Sto} {a b : Expr} {rest : List Expr} {d : PyData} {pos : Pos} {Pe : Sl → Sto → Prop} {Pt Pt' : Bool → Sto → Prop} {ex : Value → Gam → Sto → Prop}
abbrev GWE (X : Cx) (B : Bs) (Γ : Gam) (S : Sto) (e : Expr) (Pt : Bool → Sto → Prop) (ex : Value → Gam → Sto → Prop) : Prop := PW X e (rtE X.K B Γ S Pt ex)
theorem gwe_or1 (ha : GTE X B Γ S a Pt ex) : GWE X B Γ S (.BoolOp .Or [a] pos) Pt ex := pw_or1 ha
theorem gwe_or (ha : GTE X B Γ S a Pt' ex) (ht : ∀ S', Pt' true S' → Pt true S') (hb : ∀ S', Pt' false S' → GWE X B Γ S' (.BoolOp .Or (b :: rest) pos) Pt ex) : GWE X B Γ S (.BoolOp .Or (a :: b :: rest) pos) Pt ex := by
  refine ⟨fun wh pins s σ H Q I h => ?_⟩
  obtain ⟨H0, at0, q, qx⟩ := h
  refine isTrue_or (thn (ha.run pins s σ H (fun c H' => ∃ S' H0', Pt' c S' ∧ At X.K B H0' Γ S' σ H' ∧ Ex H0 H0') I ⟨H0, at0, fun c S' H0' H' hp at1 e1 => ⟨S', H0', hp, at1, e1⟩, qx⟩) fun c s1 h1 => ?_)
  obtain ⟨H1, I1, S', H0', hp, at1, x1⟩ := h1
  cases c with
  | true => exact ⟨H1, I1, q true S' H0' H1 (ht S' hp) at1 x1⟩
  | false => exact (hb S' hp).run wh pins s1 σ H1 Q I1 ⟨H0', at1, fun c2 S2 H2 H2' hp2 at2 e2 => q c2 S2 H2 H2' hp2 at2 (x1.trans e2), qx⟩
theorem gte_w (h : GWE X B Γ S a Pt ex) : GTE X B Γ S a Pt ex := h.pt
/-- e != f, e with effects -/
theorem gte_ne (hu : X.A.units + 64 < cLine) (ha : GE X B Γ S a Pe ex) (hb : ∀ r S', Pe r S' → GD X B Γ S' b d) (hd : ∀ r S', Pe r S' → ∃ d1, r = .dat d1 ∧ SeqAt.shaped d1 = true ∧ SeqAt.shaped d = true ∧ Pt (!PyData.eqv d1 d) S') : GTE X B Γ S (.Compare a [.NotEq] [b] pos) Pt ex := by
  have hb' : PE X b (fun σ H Q => ∃ r S', Pe r S' ∧ rd X.K B Γ S' (.dat d) σ H Q) := ⟨fun pins s σ H Q I ⟨r, S', m, z⟩ => (hb r S' m).run pins s σ H Q I z⟩
  refine (pt_cmpR (op_neD hu) ha hb' (nomark _)).imp fun σ H Q ⟨H0, at0, k, kx⟩ => ⟨H0, at0, fun r S' v H1 H' hp at1 e1 hv => ⟨r, S', hp, H1, at1, fun w H2 H'' at2 e2 hw => ?_⟩, kx⟩
  obtain ⟨d1, hr, s1, s2, hP⟩ := hd r S' hp
  subst hr
  exact ⟨d1, d, dp_ex (e2.trans at2.e2) _ _ hv.toDp, dp_ex at2.e2 _ _ hw.toDp, s1, s2, _, rfl, k _ S' H2 H'' hP at2 (e1.trans e2)⟩
end
/-! ### what is owned, in any order, less some -/
def Within (S2 S : Sto) : Prop := ∃ l : Sto, l.Perm S2 ∧ l.Sublist S
theorem Within.of_perm {S2 S : Sto} (h : S.Perm S2) : Within S2 S := ⟨S, h, List.Sublist.refl _⟩
theorem Within.keys_nd {S2 S : Sto} (h : Within S2 S) (nd : (keys S).Nodup) : (keys S2).Nodup := by
  obtain ⟨l, hp, hs⟩ := h
  exact (hp.map _).nodup_iff.mp (nd.sublist (hs.map _))
theorem At.within {K : PySem.W.Frag} {B : Bs} {H0 H : Hp} {Γ : Gam} {S S2 : Sto} {σ : St} (a : At K B H0 Γ S σ H) (h : Within S2 S) : At K B H0 Γ S2 σ H := by
  have hin : ∀ e ∈ S2, e ∈ S := fun e he => by
    obtain ⟨l, hp, hs⟩ := h
    exact hs.subset (hp.mem_iff.mpr he)
  refine ⟨a.fra, a.env, ⟨fun p ov m => a.sto.at_ p ov (hin _ m), h.keys_nd a.sto.nd⟩, fun p hp => ?_⟩
  obtain ⟨ov, m⟩ := of_keys hp
  exact a.wr p (mem_keys (hin _ m))
section
variable {X : Cx} {B : Bs} {Γ : Gam} {S S2 : Sto} {rest : List Stmt} {P : Po}
theorem gss_within (h : Within S2 S) (k : GSs X B Γ S2 rest P) : GSs X B Γ S rest P := k.imp fun D σ H ⟨H0, at0, z⟩ => ⟨H0, at0.within h, z⟩
end
/-! ### a comprehension over a list of what is no data -/
section
variable {X : Cx} {B : Bs} {Γ : Gam} {S : Sto} {o elt : Expr} {ws : List V} {q : Addr} {x : Str} {p lp : Pos} {j : Nat} {scope : Scope}
def teW (K : PySem.W.Frag) (B : Bs) (Γ : Gam) (S : Sto) (ws : List V) (j : Nat) (g : Nat → PyData) : TE := fun σ H Q => ∃ (i : Nat) (D : Addr) (acc : List PyData) (v : V), ws[i]? = some v ∧ rd K B ((wipeG Γ [j]).set j (.raw v)) ((D, .lst acc) :: S) (.dat (g i)) σ H Q
theorem gd_lcW (g : Nat → PyData) (hc : X.calm = true) (hN : X.N.Nodup) (ho : GR X B Γ S o (.ref q)) (hm : (q, OV.ho (.lst ws)) ∈ S) (hl : ws.length ≤ 100000) (ok : BlkOk X.N X.env.scope scope [(x, j)])
    (htg : ∀ (s : Shared) (H : Hp) (C : Addr) (cl : List (Str × Addr)) (fp : List Addr), PG (X.blk s H scope (compEnvC scope cl C X.env) fp) (.Name x p) (gName j))
    (hel : ∀ (i : Nat) (D : Addr) (acc : List PyData) (v : V), ws[i]? = some v → ∀ (s : Shared) (H : Hp) (C : Addr) (cl : List (Str × Addr)) (fp : List Addr), GD (X.blk s H scope (compEnvC scope cl C X.env) fp) B ((wipeG Γ [j]).set j (.raw v)) ((D, .lst acc) :: S) elt (g i))
    (hfs : ∀ y, foldedSetIterable o X.env y = pure y := by intro _; rfl) : GD X B Γ S (.ListComp elt [⟨.Name x p, o, [], 0⟩] scope lp) (.list ((List.range ws.length).map g)) :=
  (pe_lc (own := [(x, j)]) hc hN (pi_list ho) ok htg (fun _ _ _ _ _ => pts_nil) (te := teW X.K B Γ S ws j g) (fun s H C cl fp => ⟨fun pins s' σ H' Q Iv ⟨i, D, acc, v, h1, z⟩ => (hel i D acc v h1 s H C cl fp).run pins s' σ H' Q Iv z⟩) hfs).imp fun σ H Q ⟨H0, at0, k⟩ => ⟨H0, at0, fun v H1 H' at1 e1 hv => by
    have hv : (some (some v) : Option (Option V)) = some (some (.ref q)) := hv
    cases hv
    obtain ⟨_, here⟩ := at1.sto.at_ q _ hm
    refine ⟨q, rfl, ⟨ws, .inl (.inl here)⟩, fun D hD => ?_⟩
    have hB : B.H D = none := none_B at1.fra hD
    refine lc_list (K := X.K) (a := q) (xs := ws) (g := gName j) (tt := tYes) (te := teW X.K B Γ S ws j g) (vs := [j]) (σ := σ) (D := D) (Qd := fun H => Q (.ref D) H) (fun i H => i ≤ ws.length ∧ ∃ H0, At X.K B H0 Γ ((D, .lst ((List.range i).map g)) :: S) σ H ∧ Ex H1 H0) ⟨Nat.zero_le _, H1, at1.own hD ⟨[], upd_same, .nil⟩, Ex.refl _⟩ (fun i H _ pv => ?_) (fun i y H hi pv => ?_) fun H pv => ?_
    · obtain ⟨_, G, at2, _⟩ := pv
      exact .inl (.inl (at2.sto.at_ q _ (List.mem_cons_of_mem _ hm)).2)
    · obtain ⟨_, G, at2, e2⟩ := pv
      have hlt : i < ws.length := (List.getElem?_eq_some_iff.mp hi).1
      refine ⟨wipe_set1, ?_⟩
      refine ⟨i, D, _, y, hi, G, (at2.wipe [j]).set j (s := .raw y) rfl, fun v H2 H'' at3 e3 hv => ?_⟩
      obtain ⟨_, acc, h1, h2⟩ := at3.sto.at_ D _ List.mem_cons_self
      refine ⟨acc, h1, ?_, hlt, H2, ?_, e2.trans e3⟩
      · rw [dps_len h2, List.length_map, List.length_range]; exact Evl.sz_lt (by omega)
      · have a4 := at2.frame at3 e3
        have a5 := a4.write (n := 0) (ow := .lst ((List.range i).map g ++ [g i])) (o := .lst (acc ++ [v])) rfl ⟨_, upd_same, dps_app h2 (.cons hv.toDp .nil)⟩
        rw [List.range_succ, List.map_append]
        exact a5
    · obtain ⟨_, G, at2, e2⟩ := pv
      obtain ⟨G', e3, at3, hd⟩ := at2.freeze (n := 0) rfl hB
      exact k _ G' H at3 ((e1.trans e2).trans e3) ⟨_, rfl, hd⟩⟩
/-- a pure expression asks for a part of the store only -/
theorem gd_within {S2 F : Sto} {e : Expr} {d : PyData} (hp : S.Perm (S2 ++ F)) (h : GD X B Γ (S2 ++ F) e d) : GD X B Γ S e d := h.imp fun σ H Q ⟨H0, at0, k⟩ => ⟨H0, at0.within (.of_perm hp), fun v H1 H' at1 e1 hv => k v H1 H' (at1.within (.of_perm hp.symm)) e1 hv⟩
end
/-! ### more of lists, stores -/
section
variable {X : Cx} {B : Bs} {Γ Γ2 : Gam} {S S2 : Sto} {e : Expr} {es : List Expr} {ds : List PyData} {pos pos' lpos : Pos} {P : Po} {x : Str} {r : Sl} {rest : List Stmt}
theorem gea_F {Pa : List Sl → Sto → Prop} (he : GF X B Γ S e ds) (ht : ∀ p, B.H p = none → GEA X B Γ ((p, .lst ds) :: S) es (fun as S'' => Pa (.raw (.ref p) :: as) S'')) (hs : starEach (e :: es) X.env = (false, eval e X.env) :: starEach es X.env := by rfl) : GEA X B Γ S (e :: es) Pa :=
  gea_cons (he _) (fun r S' ⟨p, hp, hr, hS⟩ => by subst hr hS; exact ht p hp) hs
theorem gea_v {Pa : List Sl → Sto → Prop} (he : PE X e (rd X.K B Γ S r)) (ht : GEA X B Γ S es (fun as S'' => Pa (r :: as) S'')) (hs : starEach (e :: es) X.env = (false, eval e X.env) :: starEach es X.env := by rfl) : GEA X B Γ S (e :: es) Pa :=
  gea_cons (Pe := fun r' S' => r' = r ∧ S' = S) (ge_of he ⟨rfl, rfl⟩) (fun r' S' ⟨h1, h2⟩ => by subst h1 h2; exact ht) hs
/-- x = [e, ..], the elements no data -/
theorem gs_setLsR {i : Nat} (hN : X.N.Nodup) (hi : X.N[i]? = some x) (hx : Loc X.env.scope x) (h : GEA X B Γ S es (fun as S' => ∃ ws, as = ws.map Sl.raw ∧ ws.length ≤ 100000 ∧ ∀ p, B.H p = none → P.N (Γ.set i (.raw (.ref p))) ((p, .ho (.lst ws)) :: S')))
    (hs : swapsWith (.List es lpos) (some (.Name x pos')) pos.line X.env = pure false := by rfl) (hf : X.fn x = true ∨ X.env.scope.names.lookup x = some .local := by first | exact .inl rfl | exact .inr rfl | assumption) : GS X B Γ S (.Assign [.Name x pos'] (.List es lpos) pos) P :=
  gs_setE hN hi hx (ge_mono (ge_lsR (ex := P.ex) (Pa := fun ws S' => ∀ p, B.H p = none → P.N (Γ.set i (.raw (.ref p))) ((p, .ho (.lst ws)) :: S')) h) (fun r S' ⟨p, ws, S1, hp, hN, hr, hS⟩ => by subst hr hS; exact hN p hp) fun _ _ h => h) hs hf
/-- the same state, told otherwise -/
theorem gss_at (h1 : Γ = Γ2) (h2 : S = S2) (k : GSs X B Γ2 S2 rest P) : GSs X B Γ S rest P := h1 ▸ h2 ▸ k
end
/-! ### while; what is told at the ends; tuples -/
section
variable {X : Cx} {B : Bs} {Γ : Gam} {S : Sto} {a b c e it : Expr} {es : List Expr} {d : PyData} {ds : List PyData} {pos lpos : Pos} {P : Po} {x : Str} {px : Pos} {r : Sl} {rest body : List Stmt} {k : Bool} {j : Nat} {i : Int}
abbrev Po.wturn (P : Po) (I : Nat → Gam → Sto → Prop) (m : Nat) : Po := { N := fun Γ' S' => ∃ m', m' < m ∧ I m' Γ' S', R := P.R, bk := P.N, ct := fun Γ' S' => ∃ m', m' < m ∧ I m' Γ' S', ex := P.ex }
theorem gs_while (hp : PassesOwn (model X.prog X.w) X.A X.env X.xe) (I : Nat → Gam → Sto → Prop) (m0 : Nat) (h0 : I m0 Γ S)
    (hb : ∀ m Γ' S', I m Γ' S' → ∃ k, GT X B Γ' S' c k ∧ (k = true → GSs X B Γ' S' body (P.wturn I m)) ∧ (k = false → P.N Γ' S')) : GS X B Γ S (.While c body [] pos) P := by
  have hc : PT X c (fun σ H Q => ∃ Γ' S' k, GT X B Γ' S' c k ∧ rt X.K B Γ' S' k σ H Q) := ⟨fun pins s σ H Q Iv ⟨_, _, _, h, z⟩ => h.run pins s σ H Q Iv z⟩
  have hbody : PSs X body (fun D σ H => ∃ m Γ' S', GSs X B Γ' S' body (P.wturn I m) ∧ rs X.K B Γ' S' (P.wturn I m) D σ H) := ⟨fun pins s σ H D Iv ⟨_, _, _, h, z⟩ => h.run pins s σ H D Iv z⟩
  refine (ps_while hp hc hbody).imp fun D σ H ⟨H0, at0, z⟩ => ⟨fun m σ H => ∃ Γ' S' H0, I m Γ' S' ∧ At X.K B H0 Γ' S' σ H, ⟨m0, Γ, S, H0, h0, at0⟩, fun m σ H ⟨Γ', S', H0, hI, at1⟩ => ?_⟩
  obtain ⟨k, ht, h1, h2⟩ := hb m Γ' S' hI
  refine ⟨Γ', S', k, ht, H0, at1, fun H0' H' at2 _ => ?_⟩
  cases k with
  | true =>
    rw [if_pos rfl]
    have nx : ∀ Γ1 S1 H1 σ1 H1', (∃ m', m' < m ∧ I m' Γ1 S1) → At X.K B H1 Γ1 S1 σ1 H1' → ∃ m', m' < m ∧ ∃ Γ' S' H0, I m' Γ' S' ∧ At X.K B H0 Γ' S' σ1 H1' := fun Γ1 S1 H1 σ1 H1' ⟨m', hm, q⟩ a => ⟨m', hm, Γ1, S1, H1, q, a⟩
    exact ⟨fun σ' H' => ∃ m', m' < m ∧ ∃ Γ' S' H0, I m' Γ' S' ∧ At X.K B H0 Γ' S' σ' H', fun σ' H' q => q, m, Γ', S', h1 rfl, H0', at2, nx, z.rt, z.nx, nx, z.ex⟩
  | false => rw [if_neg Bool.false_ne_true]; exact z.nx Γ' S' H0' σ H' (h2 rfl) at2
/-- what is told, with a part of what is owned -/
theorem gss_post {R' : Sl → Sto → Prop} {ex' : Value → Gam → Sto → Prop} (h : GSs X B Γ S rest { P with R := R', ex := ex' }) (kr : ∀ r S', R' r S' → ∃ S2, Within S2 S' ∧ P.R r S2) (kx : ∀ cls Γ' S', ex' cls Γ' S' → ∃ S2, Within S2 S' ∧ P.ex cls Γ' S2) : GSs X B Γ S rest P :=
  h.imp fun D σ H ⟨H0, at0, z⟩ => ⟨H0, at0, z.nx, fun r Γ' S' v H0' σ' H' q a hv => by
    obtain ⟨S2, w, p⟩ := kr r S' q
    exact z.rt r Γ' S2 v H0' σ' H' p (a.within w) hv, z.bk, z.ct, fun cls Γ' S' H0' σ' H' q a => by
    obtain ⟨S2, w, p⟩ := kx cls Γ' S' q
    exact z.ex cls Γ' S2 H0' σ' H' p (a.within w)⟩
theorem Within.refl {S : Sto} : Within S S := ⟨S, .refl _, .refl _⟩
theorem Within.right {S1 S : Sto} : Within S (S1 ++ S) := ⟨S, .refl _, List.sublist_append_right _ _⟩
theorem Within.left {S1 S : Sto} : Within S1 (S1 ++ S) := ⟨S1, .refl _, List.sublist_append_left _ _⟩
theorem Within.skip {o : Addr × OV} {S1 S : Sto} (h : Within S1 S) : Within S1 (o :: S) := by
  obtain ⟨l, hp, hs⟩ := h
  exact ⟨l, hp, hs.cons _⟩
theorem Within.keep {o : Addr × OV} {S1 S : Sto} (h : Within S1 S) : Within (o :: S1) (o :: S) := by
  obtain ⟨l, hp, hs⟩ := h
  exact ⟨o :: l, hp.cons _, hs.cons_cons _⟩
/-- for x in a list that is owned and stays -/
theorem gs_forO {p : Addr} (hp : PassesOwn (model X.prog X.w) X.A X.env X.xe) (hc : X.calm = true) (he : GR X B Γ S it (.ref p)) (hN : X.N.Nodup) (hj : X.N[j]? = some x) (hx : Loc X.env.scope x) (I : Nat → Gam → Sto → Prop) (h0 : I 0 Γ S)
    (hkp : ∀ i Γ' S', I i Γ' S' → (p, OV.lst ds) ∈ S')
    (hb : ∀ (i : Nat) d Γ' S' G, ds[i]? = some d → I i Γ' S' → GSs X (B.at G) (Γ'.set j (.dat d)) S' body (P.turn I i)) (hd : ∀ Γ' S', I ds.length Γ' S' → P.N Γ' S')
    (hs : ∀ y, foldedSetIterable it X.env y = pure y := by intro _; rfl) (hf : X.fn x = true ∨ X.env.scope.names.lookup x = some .local := by first | exact .inl rfl | exact .inr rfl | assumption) : GS X B Γ S (.For (.Name x px) it body [] pos) P := by
  have hbody : PSs X body (fun D σ H => ∃ (i : Nat) (d : PyData) (Γ' : Gam) (S' : Sto) (G : Hp), ds[i]? = some d ∧ I i Γ' S' ∧ rs X.K (B.at G) (Γ'.set j (.dat d)) S' (P.turn I i) D σ H) := ⟨fun pins s σ H D Iv ⟨i, d, Γ', S', G, h1, h2, z⟩ => (hb i d Γ' S' G h1 h2).run pins s σ H D Iv z⟩
  refine (ps_for hp hc (pi_list he) (pg_name (i := j) hN hj hx hf) hbody hs).imp fun D σ H ⟨H0, at0, z⟩ => ⟨H0, at0, fun v H1 H' at1 e1 hv => ?_⟩
  have hv : (some (some v) : Option (Option V)) = some (some (.ref p)) := hv
  cases hv
  obtain ⟨_, xs, hl, _⟩ := at1.sto.at_ p _ (hkp 0 Γ S h0)
  refine ⟨p, rfl, ⟨xs, .inl (.inl hl)⟩, fun i m σ H => m = ds.length - i ∧ i ≤ ds.length ∧ ∃ Γ' S' H0, I i Γ' S' ∧ At X.K B H0 Γ' S' σ H, ⟨ds.length, by simp, Nat.zero_le _, Γ, S, H1, h0, at1⟩, ?_⟩
  rintro i m σ H ⟨rfl, hi, Γ', S', G, hI, at2⟩
  obtain ⟨_, xs, hl, ha⟩ := at2.sto.at_ p _ (hkp i Γ' S' hI)
  have hq : SqL X.K H p xs := .inl (.inl hl)
  have hln := dps_len ha
  by_cases hlt : i < ds.length
  · have hlx : i < xs.length := by omega
    refine .inr ⟨⟨xs, xs[i], hq, by simp [hlx]⟩, fun σ' H' => i + 1 ≤ ds.length ∧ ∃ Γ' S' H0, I (i + 1) Γ' S' ∧ At X.K B H0 Γ' S' σ' H', fun σ' H' p' => ⟨ds.length - (i + 1), by omega, rfl, p'⟩, fun v H' y => ?_⟩
    obtain ⟨rfl, hu⟩ := y
    have hi2 := hu xs hq
    obtain ⟨d, h1, h2⟩ := dps_getV ha hi2
    exact ⟨i, d, Γ', S', G, h1, hI, G, at2.rebase.set j (s := .dat d) ⟨_, rfl, h2⟩, turn_endz at2.fra z _ fun Γ1 S1 H2 σ2 H3 q a e3 => ⟨hlt, Γ1, S1, H2, q, a⟩⟩
  · have e : i = ds.length := by omega
    subst e
    exact .inl ⟨⟨xs, hq, by omega⟩, z.nx Γ' S' G σ H (hd Γ' S' hI) at2⟩
/-- for x in a list that is data or owned (among F, which stays) -/
theorem gl_for {n : Nat} {F : Sto} (hp : PassesOwn (model X.prog X.w) X.A X.env X.xe) (hc : X.calm = true) (he : PE X it (tVar n)) (hq : Γ[n]? = some r) (hr : LSl F r ds) (hN : X.N.Nodup) (hj : X.N[j]? = some x) (hx : Loc X.env.scope x) (I : Nat → Gam → Sto → Prop) (h0 : I 0 Γ S)
    (hkp : ∀ i Γ' S', I i Γ' S' → ∀ e ∈ F, e ∈ S')
    (hb : ∀ (i : Nat) d Γ' S' G, ds[i]? = some d → I i Γ' S' → GSs X (B.at G) (Γ'.set j (.dat d)) S' body (P.turn I i)) (hd : ∀ Γ' S', I ds.length Γ' S' → P.N Γ' S')
    (hs : ∀ y, foldedSetIterable it X.env y = pure y := by intro _; rfl) (hf : X.fn x = true ∨ X.env.scope.names.lookup x = some .local := by first | exact .inl rfl | exact .inr rfl | assumption) : GS X B Γ S (.For (.Name x px) it body [] pos) P := by
  rcases hr with rfl | ⟨p, rfl, hm⟩
  · exact gs_forL hp hc (gd_var he hq) hN hj hx I h0 hb hd hs hf
  · exact gs_forO hp hc (gr_var he hq) hN hj hx I h0 (fun i Γ' S' q => hkp i Γ' S' q _ hm) hb hd hs hf
theorem dats_of {K : PySem.W.Frag} {H0 : Hp} : ∀ {ds : List PyData} {vs : List V}, ArgsOk K H0 vs (ds.map Sl.dat) → DpAll K H0 vs ds
  | [], _, .nil => .nil
  | d :: ds, _, .cons h t => .cons (SlOk.toDp h) (dats_of t)
/-- a tuple of data, its parts with effects -/
theorem ge_tupD {n : Nat} {Pe : Sl → Sto → Prop} {ex : Value → Gam → Sto → Prop} (h : GEA X B Γ S es (fun as S' => ∃ ds, as = ds.map Sl.dat ∧ ds.length ≤ 100000 ∧ Pe (.dat (.tuple ds)) S')) : GE X B Γ S (.Tuple es n pos) Pe ex :=
  (pe_tup h).imp fun σ H Q ⟨H0, at0, k, _⟩ => ⟨H0, at0, fun as S' vs H1 H' ⟨ds, e, hl, hp⟩ at1 e1 hvs => by
    subst e
    have hvs := dats_of hvs
    exact ⟨by rw [dps_len hvs]; exact Evl.sz_of hl, fun p hp' => k _ S' (.ref p) _ _ hp (at1.ext (Ext.new at1.e2 hp')) (e1.trans (Ex.new (free0 at1.e2 hp'))) ⟨_, rfl, .tup (.inl (.inl upd_same)) (dps_ex (Ex.new (free0 at1.e2 hp')) _ _ hvs)⟩⟩⟩
/-- a tuple whose parts are no data -/
theorem ge_tupR {n : Nat} {Pe : Sl → Sto → Prop} {ex : Value → Gam → Sto → Prop} (h : GEA X B Γ S es (fun as S' => ∃ ws, as = ws.map Sl.raw ∧ ws.length ≤ 100000 ∧ ∀ p, B.H p = none → Pe (.raw (.ref p)) ((p, .ho (.tup ws)) :: S'))) : GE X B Γ S (.Tuple es n pos) Pe ex :=
  (pe_tup h).imp fun σ H Q ⟨H0, at0, k, _⟩ => ⟨H0, at0, fun as S' vs H1 H' ⟨ws, e, hl, hp⟩ at1 e1 hvs => by
    subst e
    have e := raws_of hvs
    subst e
    exact ⟨Evl.sz_of hl, fun q hq => k _ _ (.ref q) H1 _ (hp q (none_B at1.fra hq)) (at1.own (ow := .ho (.tup vs)) (o := .tup vs) hq upd_same) e1 rfl⟩⟩
/-- a part that is an owned list, handed on as data -/
theorem gea_fz {p : Addr} {n : Nat} {Pa : List Sl → Sto → Prop} (he : GR X B Γ S e (.ref p)) (hn : S[n]? = some (p, .lst ds)) (hk : B.H p = none) (ht : GEA X B Γ (S.eraseIdx n) es (fun as S'' => Pa (.dat (.list ds) :: as) S'')) (hs : starEach (e :: es) X.env = (false, eval e X.env) :: starEach es X.env := by rfl) : GEA X B Γ S (e :: es) Pa :=
  gea_cons (ge_freeze he hn hk) (fun r S' ⟨hr, hS⟩ => by subst hr hS; exact ht) hs
theorem gl_dp {K : PySem.W.Frag} {H0 H : Hp} {σ : St} {p : Addr} {n : Nat} (a : At K B H0 Γ S σ H) (hn : S[n]? = some (p, .lst ds)) : Dp K H (.ref p) (.list ds) := by
  obtain ⟨_, vs, h1, h2⟩ := a.sto.at_ p _ (List.mem_of_getElem? hn)
  exact .lst (.inl (.inl h1)) (dps_ex a.e2 _ _ h2)
theorem gd_eqO {d2 : PyData} (hu : X.A.units + 64 < cLine) (ha : GLs X B Γ S a ds) (hb : GD X B Γ S b d2) (h1 : SeqAt.shaped (.list ds) = true) (h2 : SeqAt.shaped d2 = true) : GD X B Γ S (.Compare a [.Eq] [b] pos) (.bool (PyData.eqv (.list ds) d2)) := by
  cases ha with
  | dat h => exact gd_eq hu h hb h1 h2
  | own p n h hn =>
    exact (pe_cmpR (op_eqD hu) h hb (nomark _)).imp fun σ H Q ⟨H0, at0, k⟩ => ⟨H0, at0, fun v H1 H' at1 e1 hv => ⟨H1, at1, fun w H2 H'' at2 e2 hw => by
      have hv : (some (some v) : Option (Option V)) = some (some (.ref p)) := hv
      cases hv
      exact ⟨_, _, gl_dp at2 hn, dp_ex at2.e2 _ _ hw.toDp, h1, h2, k _ H2 H'' at2 (e1.trans e2) ⟨_, rfl, .bl _⟩⟩⟩⟩
theorem gd_neO {d2 : PyData} (hu : X.A.units + 64 < cLine) (ha : GLs X B Γ S a ds) (hb : GD X B Γ S b d2) (h1 : SeqAt.shaped (.list ds) = true) (h2 : SeqAt.shaped d2 = true) : GD X B Γ S (.Compare a [.NotEq] [b] pos) (.bool (!PyData.eqv (.list ds) d2)) := by
  cases ha with
  | dat h => exact gd_ne hu h hb h1 h2
  | own p n h hn =>
    exact (pe_cmpR (op_neD hu) h hb (nomark _)).imp fun σ H Q ⟨H0, at0, k⟩ => ⟨H0, at0, fun v H1 H' at1 e1 hv => ⟨H1, at1, fun w H2 H'' at2 e2 hw => by
      have hv : (some (some v) : Option (Option V)) = some (some (.ref p)) := hv
      cases hv
      exact ⟨_, _, gl_dp at2 hn, dp_ex at2.e2 _ _ hw.toDp, h1, h2, k _ H2 H'' at2 (e1.trans e2) ⟨_, rfl, .bl _⟩⟩⟩⟩
theorem gt_eqO {d2 : PyData} (hu : X.A.units + 64 < cLine) (ha : GLs X B Γ S a ds) (hb : GD X B Γ S b d2) (h1 : SeqAt.shaped (.list ds) = true) (h2 : SeqAt.shaped d2 = true) : GT X B Γ S (.Compare a [.Eq] [b] pos) (PyData.eqv (.list ds) d2) := by
  cases ha with
  | dat h => exact gt_eq hu h hb h1 h2
  | own p n h hn =>
    exact (pt_cmpR (op_eqD hu) h hb (nomark _)).imp fun σ H Q ⟨H0, at0, k⟩ => ⟨H0, at0, fun v H1 H' at1 e1 hv => ⟨H1, at1, fun w H2 H'' at2 e2 hw => by
      have hv : (some (some v) : Option (Option V)) = some (some (.ref p)) := hv
      cases hv
      exact ⟨_, _, gl_dp at2 hn, dp_ex at2.e2 _ _ hw.toDp, h1, h2, _, rfl, k H2 H'' at2 (e1.trans e2)⟩⟩⟩
theorem gt_neO {d2 : PyData} (hu : X.A.units + 64 < cLine) (ha : GLs X B Γ S a ds) (hb : GD X B Γ S b d2) (h1 : SeqAt.shaped (.list ds) = true) (h2 : SeqAt.shaped d2 = true) : GT X B Γ S (.Compare a [.NotEq] [b] pos) (!PyData.eqv (.list ds) d2) := by
  cases ha with
  | dat h => exact gt_ne hu h hb h1 h2
  | own p n h hn =>
    exact (pt_cmpR (op_neD hu) h hb (nomark _)).imp fun σ H Q ⟨H0, at0, k⟩ => ⟨H0, at0, fun v H1 H' at1 e1 hv => ⟨H1, at1, fun w H2 H'' at2 e2 hw => by
      have hv : (some (some v) : Option (Option V)) = some (some (.ref p)) := hv
      cases hv
      exact ⟨_, _, gl_dp at2 hn, dp_ex at2.e2 _ _ hw.toDp, h1, h2, _, rfl, k H2 H'' at2 (e1.trans e2)⟩⟩⟩
theorem gd_rawI (h : GR X B Γ S e (.int i)) : GD X B Γ S e (.int i) := h.imp fun σ H Q ⟨H0, at0, k⟩ => ⟨H0, at0, fun v H1 H' at1 e1 hv => by
  have hv : (some (some v) : Option (Option V)) = some (some (.int i)) := hv
  cases hv
  exact k _ H1 H' at1 e1 ⟨_, rfl, .int _⟩⟩
end
/-! ### what is new; defs that tell what was owned at first -/
section
variable {X : Cx} {B : Bs} {Γ : Gam} {S1 F : Sto} {rest : List Stmt} {P : Po}
theorem gss_new (hk : ∀ q ∈ B.ks, q ∈ keys F) (k : (∀ e ∈ S1, B.H e.1 = none) → GSs X B Γ (S1 ++ F) rest P) : GSs X B Γ (S1 ++ F) rest P := by
  by_cases q : ∀ e ∈ S1, B.H e.1 = none
  · exact k q
  · refine ⟨fun pins s σ H D I ⟨H0, at0, z⟩ => absurd (fun e he => ?_) q⟩
    have nd := at0.sto.nd
    rw [show keys (S1 ++ F) = keys S1 ++ keys F from List.map_append] at nd
    rcases at0.wr e.1 (by rw [show keys (S1 ++ F) = keys S1 ++ keys F from List.map_append]; exact List.mem_append_left _ (List.mem_map.mpr ⟨e, he, rfl⟩)) with h | h
    · exact absurd rfl ((List.nodup_append.mp nd).2.2 e.1 (List.mem_map.mpr ⟨e, he, rfl⟩) e.1 (hk _ h))
    · exact h
end
section
variable {P : Program} {w : World} {K : PySem.W.Frag} {mg : Str → Option Value} {base : Heap}
theorem mut_defK {x qual : Str} {st : Stmt} {f : Addr} {fd : FuncData} {N ps : List Str} {n : Nat} {R : Rq} (F : Fun K x qual st f fd) (Sc : FnScope N ps (defScope st)) (hlen : ∀ as S PR PX, R as S PR PX → as.length = ps.length)
    (hbody : ∀ (cdv : Value) (A : Around) (outer : List Env) (s : Shared) (H : Hp) (E : XK) (H0 Hh : Hp) (as : List Sl) (S : Sto) (PR : Sl → Sto → Prop) (PX : Value → Sto → Prop), Room n (A.deeper (envOfC qual (defScope st) s.heap.objs.size f cdv)) → R as S PR PX →
      GSs (cxOf (L2N.CX P w) P w K mg base N qual (defScope st) f cdv A outer s H E) ⟨H0, Hh, keys S, fun cls d _ H => E cls d H⟩ (gamS N.length as) S (defBody st) { N := fun _ S' => PR (.dat .none) S', R := PR, ex := fun cls _ S' => PX cls S' }) : FnOk P w K mg base (L2N.CX P w) (n + 1) f fd ps (SpM K R) := by
  refine okN F Sc (fun vs H Q E h => ?_) (fun cdv A outer s H vs Q E hr h => ?_)
  · obtain ⟨H0, as, S, PR, PX, _, hR, hv, _⟩ := h
    rw [Paired.length hv]
    exact hlen as S PR PX hR
  · obtain ⟨H0, as, S, PR, PX, e, hR, hv, hS, k, kx⟩ := h
    have hle : ps.length ≤ N.length := by have := congrArg List.length Sc.pre; rw [List.length_take] at this; omega
    refine ⟨_, hbody cdv A outer s H E H0 H as S PR PX hr hR, H0, ⟨Fra.refl e, env_startS hv (by rw [hlen as S PR PX hR]; exact hle), hS, fun p z => .inl z⟩, ?_, ?_, ?_, ?_, ?_⟩
    · intro Γ S' H0' σ H' hd at1
      exact k _ S' .non H0' H' hd at1.fra.toE at1.sto at1.wr ⟨_, rfl, .non⟩
    · intro r Γ S' v H0' σ H' hr at1 hv
      exact k r S' v H0' H' hr at1.fra.toE at1.sto at1.wr hv
    · intro _ _ _ _ _ h _
      exact h.elim
    · intro _ _ _ _ _ h _
      exact h.elim
    · intro cls Γ S' H0' σ H' h at1
      exact kx cls S' H0' H' h at1.fra.toE at1.sto at1.wr
theorem mut_def0K {x qual : Str} {st : Stmt} {f : Addr} {fd : FuncData} {N ps : List Str} {n : Nat} {R : Rq} (F : Fun K x qual st f fd) (Sc : FnScope N ps (defScope st)) (hlen : ∀ as S PR PX, R as S PR PX → as.length = ps.length)
    (hbody : ∀ (cdv : Value) (A : Around) (outer : List Env) (s : Shared) (H : Hp) (E : XK) (B : Bs) (as : List Sl) (S : Sto) (PR : Sl → Sto → Prop) (PX : Value → Sto → Prop), Room n (A.deeper (envOfC qual (defScope st) s.heap.objs.size f cdv)) → B.ks = keys S → R as S PR PX →
      GSs (cxOf CX0 P w K mg base N qual (defScope st) f cdv A outer s H E).nox B (gamS N.length as) S (defBody st) { N := fun _ S' => PR (.dat .none) S', R := PR }) : FnOk P w K mg base CX0 (n + 1) f fd ps (SpM K R) := by
  refine F.ok Sc (fun vs H Q E h => ?_) (fun cdv A outer s H vs Q E hr h => ?_)
  · obtain ⟨H0, as, S, PR, PX, _, hR, hv, _⟩ := h
    rw [Paired.length hv]
    exact hlen as S PR PX hR
  · obtain ⟨H0, as, S, PR, PX, e, hR, hv, hS, k, kx⟩ := h
    have hle : ps.length ≤ N.length := by have := congrArg List.length Sc.pre; rw [List.length_take] at this; omega
    refine ⟨_, hbody cdv A outer s H E ⟨H0, H, keys S, fun _ _ _ _ => False⟩ as S PR PX hr rfl hR, H0, ⟨Fra.refl e, env_startS hv (by rw [hlen as S PR PX hR]; exact hle), hS, fun p z => .inl z⟩, ?_, ?_, ?_, ?_, ?_⟩
    · intro Γ S' H0' σ H' hd at1
      exact k _ S' .non H0' H' hd at1.fra at1.sto at1.wr ⟨_, rfl, .non⟩
    · intro r Γ S' v H0' σ H' hr at1 hv
      exact k r S' v H0' H' hr at1.fra at1.sto at1.wr hv
    · intro _ _ _ _ _ h _
      exact h.elim
    · intro _ _ _ _ _ h _
      exact h.elim
    · intro _ _ _ _ _ _ h _
      exact h.elim
theorem pure_defK {x qual : Str} {st : Stmt} {f : Addr} {fd : FuncData} {N ps : List Str} {n : Nat} {R : List PyData → PyData → Prop} (F : Fun K x qual st f fd) (Sc : FnScope N ps (defScope st)) (hlen : ∀ ds d, R ds d → ds.length = ps.length)
    (hbody : ∀ (cdv : Value) (A : Around) (outer : List Env) (s : Shared) (H : Hp) (E : XK) (B : Bs) (ds : List PyData) (d : PyData), Room n (A.deeper (envOfC qual (defScope st) s.heap.objs.size f cdv)) → B.ks = [] → R ds d →
      GSs (cxOf CX0 P w K mg base N qual (defScope st) f cdv A outer s H E).nox B (gam N.length ds) [] (defBody st) { N := fun _ _ => d = .none, R := fun r _ => r = .dat d }) : FnOk P w K mg base CX0 (n + 1) f fd ps (SpD K R) := by
  refine F.ok Sc (fun vs H Q E h => ?_) (fun cdv A outer s H vs Q E hr h => ?_)
  · obtain ⟨H0, ds, d, _, hR, hv, _⟩ := h
    rw [dps_len hv]
    exact hlen ds d hR
  · obtain ⟨H0, ds, d, e, hR, hv, k⟩ := h
    have hle : ps.length ≤ N.length := by have := congrArg List.length Sc.pre; rw [List.length_take] at this; omega
    refine ⟨_, hbody cdv A outer s H E ⟨H0, H, [], fun _ _ _ _ => False⟩ ds d hr rfl hR, H0, ⟨Fra.refl e, by rw [gam_S]; exact env_startS (args_of hv) (by rw [List.length_map, hlen ds d hR]; exact hle), StoOk.nil, fun p z => nomatch z⟩, ?_, ?_, ?_, ?_, ?_⟩
    · intro Γ S H0' σ H' hd at1
      subst hd
      exact k .non H0' H' at1.fra.toExt .non
    · intro r Γ S v H0' σ H' hr at1 hv
      subst hr
      exact k v H0' H' at1.fra.toExt hv.toDp
    · intro _ _ _ _ _ h _
      exact h.elim
    · intro _ _ _ _ _ h _
      exact h.elim
    · intro _ _ _ _ _ _ h _
      exact h.elim
end
/-! ### lists of slots changed; comprehensions over data; tuples that are no data -/
theorem paired_set {α β : Type} {R : α → β → Prop} {x : α} {y : β} (h : R x y) : ∀ {xs : List α} {ys : List β} (i : Nat), Paired R xs ys → Paired R (xs.set i x) (ys.set i y)
  | _, _, _, .nil => .nil
  | _, _, 0, .cons _ t => .cons h t
  | _, _, i + 1, .cons g t => .cons g (paired_set h i t)
theorem ca_min2 {K : PySem.W.Frag} {i j : Int} : CaD K (fun xs H Q => ∃ i j, xs = [.int i, .int j] ∧ Q (.int (if j < i then j else i)) H) [.int i, .int j] (.int (if j < i then j else i)) := fun H0 H vs e hvs Q k => by
  cases hvs with
  | cons hv ht =>
    cases ht with
    | cons hw hn =>
      cases hn
      cases hv
      cases hw
      exact ⟨i, j, rfl, k _ H0 H (Ext.refl e) (.int _)⟩
theorem ca_max2 {K : PySem.W.Frag} {i j : Int} : CaD K (fun xs H Q => ∃ i j, xs = [.int i, .int j] ∧ Q (.int (if j > i then j else i)) H) [.int i, .int j] (.int (if j > i then j else i)) := fun H0 H vs e hvs Q k => by
  cases hvs with
  | cons hv ht =>
    cases ht with
    | cons hw hn =>
      cases hn
      cases hv
      cases hw
      exact ⟨i, j, rfl, k _ H0 H (Ext.refl e) (.int _)⟩
section
variable {X : Cx} {B : Bs} {Γ : Gam} {S : Sto} {a b e o it elt : Expr} {d : PyData} {ds : List PyData} {ws : List V} {as : List Sl} {pos : Pos} {P : Po} {x f T : Str} {r : Sl} {k : Bool} {j n m : Nat} {i : Int} {p : Addr} {v : V} {px lp p2 : Pos} {scope : Scope}
/-- o[i] = e of a list of slots -/
theorem gs_setS {tpos : Pos} (ho : GR X B Γ S o (.ref p)) (hi : GD X B Γ S b (.int i)) (he : PE X e (rd X.K B Γ S r)) (hn : S[n]? = some (p, .ls as)) (hx : ixN as.length i = some m) (q : P.N Γ (S.set n (p, .ls (as.set m r))))
    (ha : ∀ v, assign (.Subscript o b tpos) X.env v = (do
      let ov ← holding [v] (eval o X.env)
      let iv ← holding [v, ov] (eval b X.env)
      standAt tpos
      holding [v, ov, iv] (setItem ov iv v)
      release [v, ov, iv] []) := by intro _; rfl)
    (hs : swapsWithSole [.Subscript o b tpos] e pos.line X.env = pure false := by rfl) (hw : swappedStores [.Subscript o b tpos] e X.env = pure none := by rfl)
    (h1 : (assignEach [.Subscript o b tpos] X.env).map (·.2) = [assign (.Subscript o b tpos) X.env] := by rfl) : GS X B Γ S (.Assign [.Subscript o b tpos] e pos) P :=
  (ps_asg he (pg_sub ho hi set_list ha) hs hw h1).imp fun D σ H ⟨H0, at0, z⟩ => ⟨H0, at0, fun y H1 H' at1 e1 hy => ⟨H1, at1, fun v H2 H'' at2 e2 hv => ⟨H2, at2, fun w H3 H3' at3 e3 hw => by
    have hv : (some (some v) : Option (Option V)) = some (some (.ref p)) := hv
    cases hv
    have hw := hw.toDp
    cases hw
    obtain ⟨_, vs, h1, h2⟩ := at3.sto.at_ p _ (List.mem_of_getElem? hn)
    refine ⟨p, vs, i, m, rfl, rfl, h1, by rw [Paired.length h2]; exact hx, ?_⟩
    exact z.nx _ _ H3 σ _ q (at3.write hn ⟨_, upd_same, paired_set (R := fun v s => SlOk X.K H3 (some (some v)) s) (hy.ext (e2.trans e3)) m h2⟩)⟩⟩⟩
def teL (K : PySem.W.Frag) (B : Bs) (Γ : Gam) (S : Sto) (ds : List PyData) (j : Nat) (g : Nat → PyData) : TE := fun σ H Q => ∃ (i : Nat) (D : Addr) (acc : List PyData) (d : PyData), ds[i]? = some d ∧ rd K B ((wipeG Γ [j]).set j (.dat d)) ((D, .lst acc) :: S) (.dat (g i)) σ H Q
theorem lcL_go (g : Nat → PyData) (hl : ds.length ≤ 100000) {σ : St} {H : Hp} {Q : VK} (h : rd X.K B Γ S (.dat (.list ((List.range ds.length).map g))) σ H Q) : tLc (iList X.K (rd X.K B Γ S (.dat (.list ds)))) (gName j) tYes (teL X.K B Γ S ds j g) [j] σ H Q := by
  obtain ⟨H0, at0, k⟩ := h
  refine ⟨H0, at0, fun v H1 H' at1 e1 hv => ?_⟩
  have hv := hv.toDp
  cases hv with
  | @lst q vs _ hq ha =>
    have hln := dps_len ha
    refine ⟨q, rfl, ⟨vs, ex_l at1.e2 hq⟩, fun D hD => ?_⟩
    have hB : B.H D = none := none_B at1.fra hD
    refine L2.lc_list (K := X.K) (a := q) (xs := vs) (g := gName j) (tt := tYes) (te := teL X.K B Γ S ds j g) (vs := [j]) (σ := σ) (D := D) (Qd := fun H => Q (.ref D) H) (fun i H => i ≤ vs.length ∧ ∃ H0, At X.K B H0 Γ ((D, .lst ((List.range i).map g)) :: S) σ H ∧ Ex H1 H0) ⟨Nat.zero_le _, H1, at1.own hD ⟨[], upd_same, .nil⟩, Ex.refl _⟩ (fun i H _ pv => ?_) (fun i y H hi pv => ?_) fun H pv => ?_
    · obtain ⟨_, G, at2, e2⟩ := pv
      exact ex_l at2.e2 (ex_l e2 hq)
    · obtain ⟨_, G, at2, e2⟩ := pv
      have hlt : i < vs.length := (List.getElem?_eq_some_iff.mp hi).1
      obtain ⟨d, h1, h2⟩ := dps_getV ha hi
      refine ⟨wipe_set1, ?_⟩
      refine ⟨i, D, _, d, h1, G, (at2.wipe [j]).set j (s := .dat d) ⟨_, rfl, dp_ex e2 _ _ h2⟩, fun v H2 H'' at3 e3 hv => ?_⟩
      obtain ⟨_, acc, h1, h2⟩ := at3.sto.at_ D _ List.mem_cons_self
      refine ⟨acc, h1, ?_, hlt, H2, ?_, e2.trans e3⟩
      · rw [dps_len h2, List.length_map, List.length_range]; exact Evl.sz_lt (by omega)
      · have a4 := at2.frame at3 e3
        have a5 := a4.write (n := 0) (ow := .lst ((List.range i).map g ++ [g i])) (o := .lst (acc ++ [v])) rfl ⟨_, upd_same, dps_app h2 (.cons hv.toDp .nil)⟩
        rw [List.range_succ, List.map_append]
        exact a5
    · obtain ⟨_, G, at2, e2⟩ := pv
      obtain ⟨G', e3, at3, hd⟩ := at2.freeze (n := 0) rfl hB
      rw [hln] at hd
      exact k _ G' H at3 ((e1.trans e2).trans e3) ⟨_, rfl, hd⟩
theorem gd_lcL (g : Nat → PyData) (hc : X.calm = true) (hN : X.N.Nodup) (ho : GD X B Γ S o (.list ds)) (hl : ds.length ≤ 100000) (ok : BlkOk X.N X.env.scope scope [(x, j)])
    (htg : ∀ (s : Shared) (H : Hp) (C : Addr) (cl : List (Str × Addr)) (fp : List Addr), PG (X.blk s H scope (compEnvC scope cl C X.env) fp) (.Name x px) (gName j))
    (hel : ∀ (i : Nat) (D : Addr) (acc : List PyData) (d : PyData), ds[i]? = some d → ∀ (s : Shared) (H : Hp) (C : Addr) (cl : List (Str × Addr)) (fp : List Addr), GD (X.blk s H scope (compEnvC scope cl C X.env) fp) B ((wipeG Γ [j]).set j (.dat d)) ((D, .lst acc) :: S) elt (g i))
    (hfs : ∀ y, foldedSetIterable o X.env y = pure y := by intro _; rfl) : GD X B Γ S (.ListComp elt [⟨.Name x px, o, [], 0⟩] scope lp) (.list ((List.range ds.length).map g)) :=
  (pe_lc (own := [(x, j)]) hc hN (pi_list ho) ok htg (fun _ _ _ _ _ => pts_nil) (te := teL X.K B Γ S ds j g) (fun s H C cl fp => ⟨fun pins s' σ H' Q Iv ⟨i, D, acc, d, h1, z⟩ => (hel i D acc d h1 s H C cl fp).run pins s' σ H' Q Iv z⟩) hfs).imp fun σ H Q h => lcL_go g hl h
/-- y = [elt for x in a list that is data] -/
theorem gs_setLcL {spos py : Pos} {y : Str} (i : Nat) (g : Nat → PyData) (hy : X.N[i]? = some y) (hyl : X.env.scope.names.lookup y = some .local) (hsw : swapsWith (.ListComp elt [⟨.Name x px, o, [], 0⟩] scope lp) (some (.Name y py)) spos.line X.env = pure true) (hc : X.calm = true) (hN : X.N.Nodup) (ho : GD X B Γ S o (.list ds)) (hl : ds.length ≤ 100000) (ok : BlkOk X.N X.env.scope scope [(x, j)])
    (htg : ∀ (s : Shared) (H : Hp) (C : Addr) (cl : List (Str × Addr)) (fp : List Addr), PG (X.blk s H scope (compEnvC scope cl C X.env) fp) (.Name x px) (gName j))
    (hel : ∀ (i : Nat) (D : Addr) (acc : List PyData) (d : PyData), ds[i]? = some d → ∀ (s : Shared) (H : Hp) (C : Addr) (cl : List (Str × Addr)) (fp : List Addr), GD (X.blk s H scope (compEnvC scope cl C X.env) fp) B ((wipeG Γ [j]).set j (.dat d)) ((D, .lst acc) :: S) elt (g i))
    (q : P.N (Γ.set i (.dat (.list ((List.range ds.length).map g)))) S)
    (hfs : ∀ y, foldedSetIterable o X.env y = pure y := by intro _; rfl) : GS X B Γ S (.Assign [.Name y py] (.ListComp elt [⟨.Name x px, o, [], 0⟩] scope lp) spos) P :=
  (ps_setLc (own := [(x, j)]) hc hN hy hyl hsw (pi_list ho) ok htg (fun _ _ _ _ _ => pts_nil) (te := teL X.K B Γ S ds j g) (fun s H C cl fp => ⟨fun pins s' σ H' Q Iv ⟨i, D, acc, d, h1, z⟩ => (hel i D acc d h1 s H C cl fp).run pins s' σ H' Q Iv z⟩) hfs).imp fun D σ H ⟨H0, at0, z⟩ => lcL_go g hl ⟨H0, at0, fun v H0' H' at1 e1 hv => z.nx _ _ H0' _ H' q (at1.set i hv)⟩
/-- o[i] of a tuple that is no data -/
theorem gr_ixT {i : Nat} (ho : GR X B Γ S o (.ref p)) (hi : GD X B Γ S b (.int (i : Int))) (hn : S[n]? = some (p, .ho (.tup ws))) (q : ws[i]? = some v) (hs : PlainIx b := by exact fun _ _ => rfl) : GR X B Γ S (.Subscript o b pos) v := (pe_ix ix_seq ho hi hs).imp fun σ H Q ⟨H0, at0, k⟩ => ⟨H0, at0, fun z H1 H' at1 e1 hv => ⟨H1, at1, fun w H2 H'' at2 e2 hw => by
  have hv : (some (some z) : Option (Option V)) = some (some (.ref p)) := hv
  cases hv
  have hw := hw.toDp
  cases hw
  obtain ⟨_, h1⟩ := at2.sto.at_ p _ (List.mem_of_getElem? hn)
  exact .inr (.inl ⟨p, ws, _, v, rfl, rfl, .inl (.inl h1), atI_V q, k _ H2 H'' at2 (e1.trans e2) rfl⟩)⟩⟩
/-- len of it -/
theorem gd_lenT {nm : Str} (hg : Gl X nm) (hm : X.mg nm = none) (hv : bootBuiltins nm = some (.builtin "len")) (ho : GR X B Γ S o (.ref p)) (hn : S[n]? = some (p, .ho (.tup ws))) (hnn : nm ≠ "__name__" := by decide) (hdb : (nm == ("__debug__" : Str)) = false := by decide)
    (he : starEach [o] X.env = (false, eval o X.env) :: starEach [] X.env := by rfl) (hpl : (backTo pos (starEach [] X.env)).any (·.1) = false := by rfl) : GD X B Γ S (.Call (.Name nm p2) [o] [] pos) (.int (ws.length : Int)) :=
  (pe_callB call_len hg hm hv (pa_cons ho pa_nil he) hnn hdb he hpl).imp fun σ H Q ⟨H0, at0, k⟩ => ⟨H0, at0, fun v H1 H' at1 e1 hv => by
    have hv : (some (some v) : Option (Option V)) = some (some (.ref p)) := hv
    cases hv
    obtain ⟨_, h1⟩ := at1.sto.at_ p _ (List.mem_of_getElem? hn)
    exact ⟨.ref p, ws.length, rfl, .inr ⟨ws, .inl (.inl h1), rfl⟩, k _ H1 H' at1 e1 ⟨_, rfl, .int _⟩⟩⟩
/-- isinstance of it -/
theorem gd_isT {nm : String} (hg : Gl X f) (hm : X.mg f = none) (hv : bootBuiltins f = some (.builtin "isinstance")) (hT : PE X (.Name T p2) (tC (.ty nm))) (ha : GR X B Γ S a (.ref p)) (hnn : S[n]? = some (p, .ho (.tup ws))) (hk : kitB "tuple" nm = some k)
    (hn : f ≠ "__name__" := by decide) (hdb : (f == ("__debug__" : Str)) = false := by decide)
    (he : starEach [a, .Name T p2] X.env = (false, eval a X.env) :: starEach [.Name T p2] X.env := by rfl) (he2 : starEach [.Name T p2] X.env = (false, eval (.Name T p2) X.env) :: starEach [] X.env := by rfl) (hpl : (backTo pos (starEach [.Name T p2] X.env)).any (·.1) = false := by rfl) : GD X B Γ S (.Call (.Name f px) [a, .Name T p2] [] pos) (.bool k) :=
  (pe_callB call_isi hg hm hv (pa_cons ha (pa_cons hT pa_nil he2) he) hn hdb he hpl).imp fun σ H Q ⟨H0, at0, q⟩ => ⟨H0, at0, fun v H1 H' at1 e1 hv => by
    have hv : (some (some v) : Option (Option V)) = some (some (.ref p)) := hv
    cases hv
    obtain ⟨_, h1⟩ := at1.sto.at_ p _ (List.mem_of_getElem? hnn)
    exact ⟨.ref p, .ty nm, .type "tuple", .type nm, k, rfl, .ty nm, .base (.tup h1), kit_ty hk, q _ H1 H' at1 e1 ⟨_, rfl, .bl _⟩⟩⟩
end
section
variable {X : Cx} {B : Bs} {Γ : Gam} {S : Sto} {es : List Expr} {pos pos' lpos : Pos} {P : Po} {x : Str}
/-- x = [e, ..], the elements data or not -/
theorem gs_setLsS {i : Nat} (hN : X.N.Nodup) (hi : X.N[i]? = some x) (hx : Loc X.env.scope x) (h : GEA X B Γ S es (fun as S' => as.length ≤ 100000 ∧ ∀ p, B.H p = none → P.N (Γ.set i (.raw (.ref p))) ((p, .ls as) :: S')))
    (hs : swapsWith (.List es lpos) (some (.Name x pos')) pos.line X.env = pure false := by rfl) (hf : X.fn x = true ∨ X.env.scope.names.lookup x = some .local := by first | exact .inl rfl | exact .inr rfl | assumption) : GS X B Γ S (.Assign [.Name x pos'] (.List es lpos) pos) P :=
  gs_setE hN hi hx (ge_mono (ge_lsS (ex := P.ex) (Pa := fun as S' => ∀ p, B.H p = none → P.N (Γ.set i (.raw (.ref p))) ((p, .ls as) :: S')) h) (fun r S' ⟨p, as, S1, hp, hN, hr, hS⟩ => by subst hr hS; exact hN p hp) fun _ _ h => h) hs hf
end
section
variable {X : Cx} {B : Bs} {Γ : Gam} {S : Sto} {a b c e it : Expr} {es : List Expr} {d : PyData} {ds : List PyData} {pos pos2 pos3 : Pos} {P : Po} {n : Int} {x : Str} {p : Pos} {j : Nat} {body : List Stmt}
/-- for x in range(n), n perhaps below nought -/
theorem gs_forRn (hp : PassesOwn (model X.prog X.w) X.A X.env X.xe) (hc : X.calm = true) (hg : Gl X "range") (hm : X.mg "range" = none) (he : GD X B Γ S e (.int n)) (hn : -2 ^ 62 ≤ n ∧ n < 2 ^ 62) (hN : X.N.Nodup) (hj : X.N[j]? = some x) (hx : Loc X.env.scope x) (I : Nat → Gam → Sto → Prop) (h0 : I 0 Γ S)
    (hb : ∀ (i : Nat) Γ' S' G, (i : Int) < n → I i Γ' S' → GSs X (B.at G) (Γ'.set j (.dat (.int (i : Int)))) S' body (P.turn I i)) (hd : ∀ Γ' S', I n.toNat Γ' S' → P.N Γ' S')
    (hs : starEach [e] X.env = [(false, eval e X.env)] := by rfl) (hf : X.fn x = true ∨ X.env.scope.names.lookup x = some .local := by first | exact .inl rfl | exact .inr rfl | assumption) : GS X B Γ S (.For (.Name x p) (.Call (.Name "range" pos2) [e] [] pos3) body [] pos) P := by
  have hbody : PSs X body (fun D σ H => ∃ (i : Nat) (Γ' : Gam) (S' : Sto) (G : Hp), (i : Int) < n ∧ I i Γ' S' ∧ rs X.K (B.at G) (Γ'.set j (.dat (.int (i : Int)))) S' (P.turn I i) D σ H) := ⟨fun pins s σ H D Iv ⟨i, Γ', S', G, h1, h2, z⟩ => (hb i Γ' S' G h1 h2).run pins s σ H D Iv z⟩
  refine (ps_for hp hc (pi_range1 hg hm (pa_cons he pa_nil (by rw [hs]; rfl)) hs) (pg_name (i := j) hN hj hx hf) hbody).imp fun D σ H ⟨H0, at0, z⟩ => ⟨H0, at0, fun v H1 H' at1 e1 hv => ?_⟩
  have hv := hv.toDp
  cases hv
  refine ⟨n, rfl, hn.1, hn.2, for_range (lo := 0) (n := n.toNat) (g := gName j) (tb := fun D σ H => ∃ (i : Nat) (Γ' : Gam) (S' : Sto) (G : Hp), (i : Int) < n ∧ I i Γ' S' ∧ rs X.K (B.at G) (Γ'.set j (.dat (.int (i : Int)))) S' (P.turn I i) D σ H) (D := D) (fun i σ H => ∃ Γ' S' H0, I i Γ' S' ∧ At X.K B H0 Γ' S' σ H) ⟨Γ, S, H1, h0, at1⟩ (fun i σ H hi pv => ?_) fun σ H pv => ?_⟩
  · obtain ⟨Γ', S', G, hI, at2⟩ := pv
    have e0 : (0 : Int) + (i : Int) = (i : Int) := Int.zero_add _
    show ∃ (i' : Nat) (Γ' : Gam) (S' : Sto) (G : Hp), (i' : Int) < n ∧ I i' Γ' S' ∧ rs X.K (B.at G) (Γ'.set j (.dat (.int (i' : Int)))) S' (P.turn I i') _ (σ.set j (some (.int ((0 : Int) + (i : Int))))) H
    rw [e0]
    exact ⟨i, Γ', S', G, by omega, hI, G, at2.rebase.set j ⟨_, rfl, .int _⟩, turn_endz at2.fra z _ fun Γ1 S1 H2 σ2 H3 q a _ => ⟨Γ1, S1, H2, q, a⟩⟩
  · obtain ⟨Γ', S', G, hI, at2⟩ := pv
    exact z.nx Γ' S' G σ H (hd Γ' S' hI) at2
end
/-! ### a call that might raise, and doesn't -/
section
variable {X : Cx} {B : Bs} {Γ : Gam} {S1 F : Sto} {e : Expr} {es : List Expr} {pos : Pos} {lv : Nat} {x : Str} {p : Pos} {as : List Sl} {f : Addr} {fd : FuncData} {ps : List Str} {R : Rq} {PR : Sl → Sto → Prop} {PX : Value → Sto → Prop} {ex : Value → Gam → Sto → Prop}
theorem passF {P : Program} {w : World} {σ : St} : PassesAt (L2N.CX P w) X σ (fun _ _ _ => False) := by
  intro pins H s e s' _ h
  obtain ⟨_, _, _, _, _, h⟩ := h
  exact h.2.2.2.2.2.2.2.elim
theorem ge_callF (Gf : FnOk X.prog X.w X.K X.mg X.base (L2N.CX X.prog X.w) lv f fd ps (SpM X.K R)) (hr : Room lv X.A) (hg : Gl X x) (hm : X.mg x = some (.ref f)) (hk : PySem.W.keepIn X.K (.ref f) = true) (hb : Binds X.K fd ps [])
    (ha : GAS X B Γ (S1 ++ F) (e :: es) as) (hR : R as S1 PR PX) (hX : ∀ cls S', PX cls S' → False) (hdb : (x == ("__debug__" : Str)) = false := by decide) (he : starEach (e :: es) X.env = (false, eval e X.env) :: starEach es X.env := by rfl) (hpl : (backTo pos (starEach es X.env)).any (·.1) = false := by rfl) :
    GE X B Γ (S1 ++ F) (.Call (.Name x p) (e :: es) [] pos) (PostR PR F) ex := (pe_callS (E := fun _ _ _ _ => False) Gf hr hg hm hk hb (fun _ => passF) ha hdb he hpl).imp fun σ H Q ⟨H0, at0, k, kx⟩ => ⟨H0, at0, fun us H2 H'' at2 e2 hus =>
  spm_of at2 hR hus (fun r S1' v H0' H' p a2 e3 hv => k r _ v H0' H' ⟨S1', p, rfl⟩ a2 (e2.trans e3) hv) fun cls S1' H0' H' p a2 e3 => hX cls S1' p⟩
end
section
variable {X : Cx} {B : Bs} {Γ : Gam} {S : Sto} {a b c e it : Expr} {es : List Expr} {d : PyData} {ds : List PyData} {pos pos2 pos3 : Pos} {P : Po} {n : Int} {x : Str} {p : Pos} {j : Nat} {body : List Stmt}
/-- for x in a tuple that is data -/
theorem gs_forT (hp : PassesOwn (model X.prog X.w) X.A X.env X.xe) (hc : X.calm = true) (he : GD X B Γ S it (.tuple ds)) (hN : X.N.Nodup) (hj : X.N[j]? = some x) (hx : Loc X.env.scope x) (I : Nat → Gam → Sto → Prop) (h0 : I 0 Γ S)
    (hb : ∀ (i : Nat) d Γ' S' G, ds[i]? = some d → I i Γ' S' → GSs X (B.at G) (Γ'.set j (.dat d)) S' body (P.turn I i)) (hd : ∀ Γ' S', I ds.length Γ' S' → P.N Γ' S')
    (hs : ∀ y, foldedSetIterable it X.env y = pure y := by intro _; rfl) (hf : X.fn x = true ∨ X.env.scope.names.lookup x = some .local := by first | exact .inl rfl | exact .inr rfl | assumption) : GS X B Γ S (.For (.Name x p) it body [] pos) P := by
  have hbody : PSs X body (fun D σ H => ∃ (i : Nat) (d : PyData) (Γ' : Gam) (S' : Sto) (G : Hp), ds[i]? = some d ∧ I i Γ' S' ∧ rs X.K (B.at G) (Γ'.set j (.dat d)) S' (P.turn I i) D σ H) := ⟨fun pins s σ H D Iv ⟨i, d, Γ', S', G, h1, h2, z⟩ => (hb i d Γ' S' G h1 h2).run pins s σ H D Iv z⟩
  refine (ps_for hp hc (pi_tup he) (pg_name (i := j) hN hj hx hf) hbody hs).imp fun D σ H ⟨H0, at0, z⟩ => ⟨H0, at0, fun v H1 H' at1 e1 hv => ?_⟩
  have hv := hv.toDp
  cases hv with
  | @tup a xs _ hl ha =>
    refine ⟨a, rfl, ⟨xs, ex_t at1.e2 hl⟩, for_tup (K := X.K) (a := a) (xs := xs) (g := gName j) (tb := fun D σ H => ∃ (i : Nat) (d : PyData) (Γ' : Gam) (S' : Sto) (G : Hp), ds[i]? = some d ∧ I i Γ' S' ∧ rs X.K (B.at G) (Γ'.set j (.dat d)) S' (P.turn I i) D σ H) (D := D) (fun i σ H => ∃ Γ' S' H0, I i Γ' S' ∧ At X.K B H0 Γ' S' σ H ∧ Ex H1 H0) ⟨Γ, S, H1, h0, at1, Ex.refl _⟩ (fun i σ H _ pv => ?_) (fun i y σ H hi pv => ?_) fun σ H pv => ?_⟩
    · obtain ⟨Γ', S', G, hI, at2, e2⟩ := pv
      exact ex_t at2.e2 (ex_t e2 hl)
    · obtain ⟨Γ', S', G, hI, at2, e2⟩ := pv
      obtain ⟨d, h1, h2⟩ := dps_getV ha hi
      exact ⟨i, d, Γ', S', G, h1, hI, G, at2.rebase.set j ⟨_, rfl, dp_ex e2 _ _ h2⟩, turn_endz at2.fra z _ fun Γ1 S1 H2 σ2 H3 q a e3 => ⟨Γ1, S1, H2, q, a, e2.trans e3⟩⟩
    · obtain ⟨Γ', S', G, hI, at2, e2⟩ := pv
      rw [dps_len ha] at hI
      exact z.nx Γ' S' G σ H (hd Γ' S' hI) at2
end
section
variable {X : Cx} {B : Bs} {Γ : Gam} {S : Sto} {a e : Expr} {pos : Pos} {Pe : Sl → Sto → Prop} {Pt : Bool → Sto → Prop} {ex : Value → Gam → Sto → Prop}
/-- a test that is an expression with effects -/
theorem gte_val (h : GE X B Γ S e Pe ex) (hd : ∀ r S', Pe r S' → ∃ k, r = .dat (.bool k) ∧ Pt k S') (he : ∀ whole, isTrue e X.env whole = (do let v ← whole; standAt e.pos; holding [v] (truthy v)) := by intro _; rfl) : GTE X B Γ S e Pt ex :=
  (pt_val h he).imp fun σ H Q ⟨H0, at0, q, qx⟩ => ⟨H0, at0, fun r S' v H0' H' hp at1 e1 hv => by
    obtain ⟨k, hr, hP⟩ := hd r S' hp
    subst hr
    have hv := hv.toDp
    cases hv
    exact ⟨k, rfl, q k S' H0' H' hP at1 e1⟩, qx⟩
theorem gte_not (h : GTE X B Γ S a (fun k S' => Pt (!k) S') ex) : GTE X B Γ S (.UnaryOp .Not a pos) Pt ex := (pt_not h).imp fun σ H Q ⟨H0, at0, q, qx⟩ => ⟨H0, at0, fun b S' H0' H' hp at1 e1 => q (!b) S' H0' H' hp at1 e1, qx⟩
end
/-! ### a tuple frozen; a list taken many times; not in -/
theorem At.freezeTup {K : PySem.W.Frag} {B : Bs} {H0 H : Hp} {Γ : Gam} {S : Sto} {σ : St} {n : Nat} {p : Addr} {vs : List V} {ds : List PyData} (a : At K B H0 Γ S σ H) (hn : S[n]? = some (p, .ho (.tup vs))) (hk : B.H p = none) (hd : DpAll K H0 vs ds) : ∃ H0', Ex H0 H0' ∧ At K B H0' Γ (S.eraseIdx n) σ H ∧ Dp K H0' (.ref p) (.tuple ds) := by
  have hm : (p, OV.ho (.tup vs)) ∈ S := List.mem_of_getElem? hn
  obtain ⟨h0, h1⟩ := a.sto.at_ p _ hm
  have h1 : H p = some (.tup vs) := h1
  have e0 : Ex H0 (upd H0 p (.tup vs)) := Ex.new h0
  refine ⟨upd H0 p (.tup vs), e0, ⟨⟨a.fra.e0.trans e0, a.fra.e1, fun b o e => ?_, fun b e1 e2 => ?_, a.fra.th⟩, a.env.ext e0, ⟨fun q ow hq => ?_, ?_⟩, fun q hq => ?_⟩, .tup (.inl (.inl upd_same)) (dps_ex e0 _ _ hd)⟩
  · by_cases z : b = p
    · subst z; rw [upd_same] at e; cases e; exact h1
    · rw [upd_ne z] at e; exact a.fra.e2 b o e
  · have : b ≠ p := fun z => e2 (by rw [z]; exact hk)
    rw [upd_ne this]; exact a.fra.fr b e1 e2
  · obtain ⟨m, hm'⟩ := List.getElem?_of_mem hq
    obtain ⟨m', hne, hm''⟩ : ∃ m', m' ≠ n ∧ S[m']? = some (q, ow) := by
      rw [List.getElem?_eraseIdx] at hm'
      split at hm'
      · exact ⟨m, by omega, hm'⟩
      · exact ⟨m + 1, by omega, hm'⟩
    obtain ⟨k0, k1⟩ := a.sto.at_ q ow (List.mem_of_getElem? hm'')
    have : q ≠ p := nd_at a.sto.nd hn hm'' hne
    exact ⟨by rw [upd_ne this]; exact k0, OvOk.ext e0 (fun o' e => e) k1⟩
  · have sub : (keys (S.eraseIdx n)).Sublist (keys S) := (List.eraseIdx_sublist S n).map _
    exact a.sto.nd.sublist sub
  · have sub : (keys (S.eraseIdx n)).Sublist (keys S) := (List.eraseIdx_sublist S n).map _
    exact a.wr q (sub.subset hq)
section
variable {X : Cx} {B : Bs} {Γ : Gam} {S : Sto} {a b e : Expr} {d : PyData} {ds es : List PyData} {pos : Pos} {k : Int} {ex : Value → Gam → Sto → Prop} {Pe : Sl → Sto → Prop}
/-- a new tuple of two new lists, handed on as data -/
theorem ge_frz2 (h : GE X B Γ S e (fun r S' => ∃ (t p q : Addr) (xs ys : List PyData), B.H t = none ∧ B.H p = none ∧ B.H q = none ∧ r = .raw (.ref t) ∧ S' = (t, .ho (.tup [.ref p, .ref q])) :: (q, .lst ys) :: (p, .lst xs) :: S ∧ Pe (.dat (.tuple [.list xs, .list ys])) S) ex) : GE X B Γ S e Pe ex :=
  h.imp fun σ H Q ⟨H0, at0, k, kx⟩ => ⟨H0, at0, fun r S' v H1 H' ⟨t, p, q, xs, ys, ht, hp, hq, hr, hS, hP⟩ at1 e1 hv => by
    subst hr hS
    have hv : (some (some v) : Option (Option V)) = some (some (.ref t)) := hv
    cases hv
    obtain ⟨H2, e2, at2, d2⟩ := at1.freeze (n := 2) rfl hp
    obtain ⟨H3, e3, at3, d3⟩ := at2.freeze (n := 1) rfl hq
    obtain ⟨H4, e4, at4, d4⟩ := at3.freezeTup (n := 0) rfl ht (.cons (dp_ex e3 _ _ d2) (.cons d3 .nil))
    exact k _ S _ H4 H' hP at4 (((e1.trans e2).trans e3).trans e4) ⟨_, rfl, d4⟩, kx⟩
theorem gd_notInD (hu : X.A.units + 65 < cLine) (hm : behindInMarks .NotIn b = false) (ha : GD X B Γ S a d) (hb : GD X B Γ S b (.list ds)) (h1 : SeqAt.shaped d = true) (h2 : SeqAt.shaped (.list ds) = true) : GD X B Γ S (.Compare a [.NotIn] [b] pos) (.bool (!ds.any fun z => PyData.eqv z d)) :=
  gd_cmp (op_notInD hu) (fun H0 H v w e hv hw Q k => ⟨d, ds, dp_ex e _ _ hv, dp_ex e _ _ hw, h1, h2, k _ H0 H (Ext.refl e) (.bl _)⟩) hm ha hb
theorem gt_notInD (hu : X.A.units + 65 < cLine) (hm : behindInMarks .NotIn b = false) (ha : GD X B Γ S a d) (hb : GD X B Γ S b (.list ds)) (h1 : SeqAt.shaped d = true) (h2 : SeqAt.shaped (.list ds) = true) : GT X B Γ S (.Compare a [.NotIn] [b] pos) (!ds.any fun z => PyData.eqv z d) :=
  gt_cmp (op_notInD hu) (fun H0 H v w e hv hw Q k => ⟨d, ds, dp_ex e _ _ hv, dp_ex e _ _ hw, h1, h2, k _ H0 H (Ext.refl e) (.bl _)⟩) hm ha hb
def repD (ds : List PyData) (k : Int) : List PyData := (List.replicate k.toNat ds).flatten
theorem dps_rep {K : PySem.W.Frag} {H : Hp} {vs : List V} (h : DpAll K H vs ds) : ∀ n : Nat, DpAll K H (List.replicate n vs).flatten (List.replicate n ds).flatten
  | 0 => .nil
  | n + 1 => by
    rw [List.replicate_succ, List.replicate_succ, List.flatten_cons, List.flatten_cons]
    exact dps_app h (dps_rep h n)
/-- a new list, so many times -/
theorem gd_rep (ha : GF X B Γ S a ds) (hb : ∀ S', GD X B Γ S' b (.int k)) (hk : -(2 ^ 62) ≤ k ∧ k < 2 ^ 62) (hl : ds.length * k.toNat ≤ 100000) : GD X B Γ S (.BinOp a .Mult b pos) (.list (repD ds k)) := by
  have hb' : PE X b (fun σ H Q => ∃ r S', (∃ p, B.H p = none ∧ r = Sl.raw (.ref p) ∧ S' = (p, OV.lst ds) :: S) ∧ rd X.K B Γ S' (.dat (.int k)) σ H Q) := ⟨fun pins s σ H Q I ⟨r, S', _, z⟩ => (hb S').run pins s σ H Q I z⟩
  refine (pe_op op_rep (ha (fun _ _ _ => False)) hb').imp fun σ H Q ⟨H0, at0, q⟩ => ⟨H0, at0, fun r S' v H1 H' hp at1 e1 hv => ⟨r, S', hp, H1, at1, fun w H2 H'' at2 e2 hw => ?_⟩, fun _ _ _ _ z => z.elim⟩
  obtain ⟨p, hpB, hr, hS⟩ := hp
  subst hr hS
  have hv : (some (some v) : Option (Option V)) = some (some (.ref p)) := hv
  cases hv
  have hw := hw.toDp
  cases hw
  obtain ⟨_, vs, h1, h2⟩ := at2.sto.at_ p _ List.mem_cons_self
  refine ⟨p, k, vs, rfl, rfl, h1, by omega, by omega, by rw [dps_len h2]; exact Evl.sz_of hl, fun l hl' => ?_⟩
  have at3 : At X.K B H2 Γ S σ H'' := at2.within (Within.skip .refl)
  exact q _ _ _ (at3.ext (Ext.new at3.e2 hl')) ((e1.trans e2).trans (Ex.new (free0 at3.e2 hl'))) ⟨_, rfl, .lst (.inl (.inl upd_same)) (dps_ex (Ex.new (free0 at3.e2 hl')) _ _ (dps_rep h2 _))⟩
end
section
variable {X : Cx} {B : Bs} {Γ : Gam} {S F : Sto} {e : Expr} {ex : Value → Gam → Sto → Prop} {Pe : Sl → Sto → Prop}
/-- what an expression made is new -/
theorem ge_new (hk : ∀ q ∈ B.ks, q ∈ keys F) (h : GE X B Γ S e Pe ex) : GE X B Γ S e (fun r S' => Pe r S' ∧ ∀ S1, S' = S1 ++ F → ∀ e ∈ S1, B.H e.1 = none) ex := h.imp fun σ H Q ⟨H0, at0, k, kx⟩ => ⟨H0, at0, fun r S' v H1 H' hp at1 e1 hv => k r S' v H1 H' ⟨hp, fun S1 hS e he => by
  subst hS
  have nd := at1.sto.nd
  rw [show keys (S1 ++ F) = keys S1 ++ keys F from List.map_append] at nd
  rcases at1.wr e.1 (by rw [show keys (S1 ++ F) = keys S1 ++ keys F from List.map_append]; exact List.mem_append_left _ (List.mem_map.mpr ⟨e, he, rfl⟩)) with h | h
  · exact absurd rfl ((List.nodup_append.mp nd).2.2 e.1 (List.mem_map.mpr ⟨e, he, rfl⟩) e.1 (hk _ h))
  · exact h⟩ at1 e1 hv, kx⟩
end
/-! ### a comprehension with a test, over a list that is data -/
section
variable {X : Cx} {B : Bs} {Γ : Gam} {S : Sto} {o elt tst : Expr} {ds : List PyData} {x : Str} {px lp : Pos} {j : Nat} {scope : Scope} {P : Po}
def tfL (K : PySem.W.Frag) (B : Bs) (Γ : Gam) (S : Sto) (ds : List PyData) (j : Nat) (kp : Nat → Bool) : TT := fun σ H Q => ∃ (i : Nat) (D : Addr) (acc : List PyData) (d : PyData), ds[i]? = some d ∧ rt K B ((wipeG Γ [j]).set j (.dat d)) ((D, .lst acc) :: S) (kp i) σ H Q
def fltD (n : Nat) (kp : Nat → Bool) (g : Nat → PyData) : List PyData := ((List.range n).filter kp).map g
theorem fltD_yes {n : Nat} {kp : Nat → Bool} {g : Nat → PyData} (h : kp n = true) : fltD (n + 1) kp g = fltD n kp g ++ [g n] := by
  unfold fltD
  rw [List.range_succ, List.filter_append, List.map_append, List.filter_cons, if_pos h]; rfl
theorem fltD_no {n : Nat} {kp : Nat → Bool} {g : Nat → PyData} (h : kp n = false) : fltD (n + 1) kp g = fltD n kp g := by
  unfold fltD
  rw [List.range_succ, List.filter_append, List.map_append, List.filter_cons, if_neg (by rw [h]; decide)]
  exact List.append_nil _
theorem fltD_len (n : Nat) (kp : Nat → Bool) (g : Nat → PyData) : (fltD n kp g).length ≤ n := by
  unfold fltD
  rw [List.length_map]
  exact Nat.le_trans (List.length_filter_le _ _) (by rw [List.length_range]; exact Nat.le_refl _)
theorem lcF_go (kp : Nat → Bool) (g : Nat → PyData) (hl : ds.length ≤ 100000) {σ : St} {H : Hp} {Q : VK} (h : rd X.K B Γ S (.dat (.list (fltD ds.length kp g))) σ H Q) : tLc (iList X.K (rd X.K B Γ S (.dat (.list ds)))) (gName j) (tfL X.K B Γ S ds j kp) (teL X.K B Γ S ds j g) [j] σ H Q := by
  obtain ⟨H0, at0, k⟩ := h
  refine ⟨H0, at0, fun v H1 H' at1 e1 hv => ?_⟩
  have hv := hv.toDp
  cases hv with
  | @lst q vs _ hq ha =>
    have hln := dps_len ha
    refine ⟨q, rfl, ⟨vs, ex_l at1.e2 hq⟩, fun D hD => ?_⟩
    have hB : B.H D = none := none_B at1.fra hD
    refine L2.lc_list (K := X.K) (a := q) (xs := vs) (g := gName j) (tt := tfL X.K B Γ S ds j kp) (te := teL X.K B Γ S ds j g) (vs := [j]) (σ := σ) (D := D) (Qd := fun H => Q (.ref D) H) (fun i H => i ≤ vs.length ∧ ∃ H0, At X.K B H0 Γ ((D, .lst (fltD i kp g)) :: S) σ H ∧ Ex H1 H0) ⟨Nat.zero_le _, H1, at1.own hD ⟨[], upd_same, .nil⟩, Ex.refl _⟩ (fun i H _ pv => ?_) (fun i y H hi pv => ?_) fun H pv => ?_
    · obtain ⟨_, G, at2, e2⟩ := pv
      exact ex_l at2.e2 (ex_l e2 hq)
    · obtain ⟨_, G, at2, e2⟩ := pv
      have hlt : i < vs.length := (List.getElem?_eq_some_iff.mp hi).1
      obtain ⟨d, h1, h2⟩ := dps_getV ha hi
      refine ⟨wipe_set1, ?_⟩
      refine ⟨i, D, _, d, h1, G, (at2.wipe [j]).set j (s := .dat d) ⟨_, rfl, dp_ex e2 _ _ h2⟩, fun H2 H'' at3 e3 => ?_⟩
      cases hk : kp i with
      | false =>
        rw [if_neg Bool.false_ne_true]
        refine ⟨hlt, H2, ?_, e2.trans e3⟩
        rw [fltD_no hk]
        exact at2.frame at3 e3
      | true =>
        rw [if_pos rfl]
        refine ⟨i, D, _, d, h1, H2, at3, fun v H3 H''' at4 e4 hv => ?_⟩
        obtain ⟨_, acc, h5, h6⟩ := at4.sto.at_ D _ List.mem_cons_self
        have hfl := fltD_len i kp g
        refine ⟨acc, h5, ?_, hlt, H3, ?_, (e2.trans e3).trans e4⟩
        · rw [dps_len h6]; exact Evl.sz_lt (by omega)
        · have a4 := at2.frame at4 (e3.trans e4)
          have a5 := a4.write (n := 0) (ow := .lst (fltD i kp g ++ [g i])) (o := .lst (acc ++ [v])) rfl ⟨_, upd_same, dps_app h6 (.cons hv.toDp .nil)⟩
          rw [fltD_yes hk]
          exact a5
    · obtain ⟨_, G, at2, e2⟩ := pv
      obtain ⟨G', e3, at3, hd⟩ := at2.freeze (n := 0) rfl hB
      rw [hln] at hd
      exact k _ G' H at3 ((e1.trans e2).trans e3) ⟨_, rfl, hd⟩
/-- y = [elt for x in a list that is data if test] -/
theorem gs_setLcF {spos py : Pos} {y : Str} (i : Nat) (kp : Nat → Bool) (g : Nat → PyData) (hy : X.N[i]? = some y) (hyl : X.env.scope.names.lookup y = some .local) (hsw : swapsWith (.ListComp elt [⟨.Name x px, o, [tst], 0⟩] scope lp) (some (.Name y py)) spos.line X.env = pure true) (hc : X.calm = true) (hN : X.N.Nodup) (ho : GD X B Γ S o (.list ds)) (hl : ds.length ≤ 100000) (ok : BlkOk X.N X.env.scope scope [(x, j)])
    (htg : ∀ (s : Shared) (H : Hp) (C : Addr) (cl : List (Str × Addr)) (fp : List Addr), PG (X.blk s H scope (compEnvC scope cl C X.env) fp) (.Name x px) (gName j))
    (hts : ∀ (i : Nat) (D : Addr) (acc : List PyData) (d : PyData), ds[i]? = some d → ∀ (s : Shared) (H : Hp) (C : Addr) (cl : List (Str × Addr)) (fp : List Addr), GT (X.blk s H scope (compEnvC scope cl C X.env) fp) B ((wipeG Γ [j]).set j (.dat d)) ((D, .lst acc) :: S) tst (kp i))
    (hel : ∀ (i : Nat) (D : Addr) (acc : List PyData) (d : PyData), ds[i]? = some d → ∀ (s : Shared) (H : Hp) (C : Addr) (cl : List (Str × Addr)) (fp : List Addr), GD (X.blk s H scope (compEnvC scope cl C X.env) fp) B ((wipeG Γ [j]).set j (.dat d)) ((D, .lst acc) :: S) elt (g i))
    (q : P.N (Γ.set i (.dat (.list (fltD ds.length kp g)))) S)
    (hfs : ∀ y, foldedSetIterable o X.env y = pure y := by intro _; rfl) : GS X B Γ S (.Assign [.Name y py] (.ListComp elt [⟨.Name x px, o, [tst], 0⟩] scope lp) spos) P :=
  (ps_setLc (own := [(x, j)]) hc hN hy hyl hsw (pi_list ho) ok htg (fun s H C cl fp => pts_one (t := tfL X.K B Γ S ds j kp) ⟨fun pins s' σ H' Q Iv ⟨i, D, acc, d, h1, z⟩ => (hts i D acc d h1 s H C cl fp).run pins s' σ H' Q Iv z⟩) (te := teL X.K B Γ S ds j g) (fun s H C cl fp => ⟨fun pins s' σ H' Q Iv ⟨i, D, acc, d, h1, z⟩ => (hel i D acc d h1 s H C cl fp).run pins s' σ H' Q Iv z⟩) hfs).imp fun D σ H ⟨H0, at0, z⟩ => lcF_go kp g hl ⟨H0, at0, fun v H0' H' at1 e1 hv => z.nx _ _ H0' _ H' q (at1.set i hv)⟩
end
end G

set_option Elab.async false
set_option linter.all false
set_option maxRecDepth 100000
set_option maxHeartbeats 4000000
/-! quiet expressions (every object stays), and all(), any() of a generator expression over a list whose element is quiet -/
namespace GQ
open PySem PySem.Spec PyProof.Rows L2 G
/-! ### what stays -/
def Up (Φ : Heap → Prop) : Prop := ∀ g h : Heap, (∀ b o, g.get? b = some o → h.get? b = some o) → Φ g → Φ h
theorem kp_id (s : Shared) : Keeps s s := ⟨s.heap, s.toks, by cases s; rfl, fun _ _ e => e⟩
theorem kp_tok (s : Shared) (t : Nat) : Keeps s { s with toks := t } := ⟨s.heap, t, rfl, fun _ _ e => e⟩
theorem kp_tr {a b c : Shared} (x : Keeps a b) (y : Keeps b c) : Keeps a c := by
  obtain ⟨h1, t1, rfl, k1⟩ := x
  obtain ⟨h2, t2, rfl, k2⟩ := y
  exact ⟨h2, t2, rfl, fun d o e => k2 d o (k1 d o e)⟩
theorem kp_heap {a b : Shared} (x : Keeps a b) : ∀ d o, a.heap.get? d = some o → b.heap.get? d = some o := by
  obtain ⟨h1, t1, rfl, k1⟩ := x
  exact k1
theorem Up.kp {Φ : Heap → Prop} (u : Up Φ) {s s' : Shared} (k : Keeps s s') (h : Φ s.heap) : Φ s'.heap := u _ _ (kp_heap k) h
/-- a tuple of the values xs at a -/
def TupH (h : Heap) (a : Addr) (xs : List V) : Prop := xs.length ≤ sizeLine ∧ ∃ its : List Value, Vals xs its ∧ IsTup h a its.toArray
theorem tupH_up {a : Addr} {xs : List V} : Up fun h => TupH h a xs := fun g h k ⟨z, its, r, p⟩ => ⟨z, its, r, p.keeps k⟩
/-- the module's facts at what holds Φ -/
structure QC (K : PySem.W.Frag) (mg : Str → Option Value) (base : Heap) (env : Env) (Φ : Heap → Prop) : Prop where
  up : Up Φ
  kind : env.scope.kind = .function
  glob : env.globals = mainGlobals
  mod : Mod K mg base
  bs : ∀ h, Φ h → ∀ b o, base.get? b = some o → h.get? b = some o
section
variable {P : Program} {w : World} {A : Around} {Φ : Heap → Prop} {env : Env} {a b e : Expr} {pos : Pos} {x y z : V} {k k1 k2 : Bool} {n : Str}
/-- e is x, wherever Φ holds of the heap, and nothing is changed -/
def QV (P : Program) (w : World) (A : Around) (Φ : Heap → Prop) (env : Env) (e : Expr) (x : V) : Prop :=
  ∀ (E : Value → Shared → Prop) (s : Shared), Φ s.heap → wpAny (model P w) A (eval e env) (fun u s' => RelV x u ∧ Keeps s s') E s
def QT (P : Program) (w : World) (A : Around) (Φ : Heap → Prop) (env : Env) (e : Expr) (k : Bool) : Prop :=
  ∀ (E : Value → Shared → Prop) (s : Shared), Φ s.heap → wpAny (model P w) A (isTrue e env (eval e env)) (fun c s' => c = k ∧ Keeps s s') E s
def QW (P : Program) (w : World) (A : Around) (Φ : Heap → Prop) (env : Env) (e : Expr) (k : Bool) : Prop :=
  ∀ (whole : Sem Value) (E : Value → Shared → Prop) (s : Shared), Φ s.heap → wpAny (model P w) A (isTrue e env whole) (fun c s' => c = k ∧ Keeps s s') E s
/-- an operation of two values -/
def OpQ (P : Program) (w : World) (A : Around) (Φ : Heap → Prop) (f : Value → Value → Sem Value) (x y z : V) : Prop :=
  ∀ (E : Value → Shared → Prop) (v u : Value) (s : Shared), Φ s.heap → RelV x v → RelV y u → wpAny (model P w) A (f v u) (fun c s' => RelV z c ∧ Keeps s s') E s
theorem q_two (up : Up Φ) (ha : QV P w A Φ env a x) (hb : QV P w A Φ env b y) {E : Value → Shared → Prop} {s : Shared} (h : Φ s.heap) {f : Value → Value → Sem Value} {Q : Value → Shared → Prop}
    (hf : ∀ v u s', RelV x v → RelV y u → Keeps s s' → Φ s'.heap → wpAny (model P w) A (f v u) Q E s') :
    wpAny (model P w) A (eval a env) (fun v s1 => wpAny (model P w) A (eval b env) (fun u s2 => wpAny (model P w) A (f v u) Q E s2) E s1) E s :=
  thn (ha E s h) fun v s1 ⟨r1, k1⟩ => thn (hb E s1 (up.kp k1 h)) fun u s2 ⟨r2, k2⟩ => hf v u s2 r1 r2 (kp_tr k1 k2) (up.kp (kp_tr k1 k2) h)
/-! ### names, constants -/
theorem qv_loc {p : Pos} (C : env.scope.kind = .function) (hl : env.kindOf n = some .local) (hv : ∀ h, Φ h → ∃ m u, h.Ns env.locals m ∧ m n = some u ∧ RelV x u) (hd : (n == ("__debug__" : Str)) = false := by decide) : QV P w A Φ env (.Name n p) x := by
  intro E s h
  obtain ⟨m, u, hn, hm, r⟩ := hv _ h
  exact wpAny_Name (wpAny_loadName_local C hl hn hm ⟨r, kp_id s⟩) hd
theorem qv_free {p : Pos} {c : Addr} (C : env.scope.kind = .function) (hl : env.kindOf n = some .free) (hc : env.cells.lookup n = some c) (hv : ∀ h, Φ h → ∃ u, h.IsCell c (some u) ∧ RelV x u) (hd : (n == ("__debug__" : Str)) = false := by decide)
    (hcd : (n == ("__classdict__" : Str)) = false := by decide) : QV P w A Φ env (.Name n p) x := by
  intro E s h
  obtain ⟨u, hi, r⟩ := hv _ h
  exact wpAny_Name (wpAny_loadName_free C hl hc hi ⟨r, kp_id s⟩ hcd) hd
theorem q_glob {K : PySem.W.Frag} {mg : Str → Option Value} {base : Heap} {p : Pos} {u : Value} {Q : Value → Shared → Prop} {E : Value → Shared → Prop} {s : Shared} (C : QC K mg base env Φ) (hg : env.kindOf n = some .globalImplicit) (hm : mg n = some u) (h : Φ s.heap) (q : Q u s)
    (hd : (n == ("__debug__" : Str)) = false := by decide) : wpAny (model P w) A (eval (.Name n p) env) Q E s :=
  Calls.Name_function_global C.kind hg (Calls.loadGlobal_global (by rw [C.glob]; exact C.mod.glob.keeps (C.bs _ h)) hm q) hd
theorem qv_glob {K : PySem.W.Frag} {mg : Str → Option Value} {base : Heap} {p : Pos} {u : Value} (C : QC K mg base env Φ) (hg : env.kindOf n = some .globalImplicit) (hm : mg n = some u) (r : RelV x u)
    (hd : (n == ("__debug__" : Str)) = false := by decide) : QV P w A Φ env (.Name n p) x := fun E s h => q_glob C hg hm h ⟨r, kp_id s⟩ hd
theorem qv_int {i : Int} {j : Nat} {p : Pos} : QV P w A Φ env (.Constant (.int i) j p) (.int i) := fun E s h => wpAny_Constant_int ⟨⟨_, rfl⟩, kp_tok _ _⟩
theorem qv_str {i : Str} {j : Nat} {p : Pos} : QV P w A Φ env (.Constant (.str i) j p) (.str i) := fun E s h => Calls.Constant_str ⟨⟨_, rfl⟩, kp_tok _ _⟩
theorem qv_bl {i : Bool} {j : Nat} {p : Pos} : QV P w A Φ env (.Constant (.bool i) j p) (.bl i) := fun E s h => Constant_bool ⟨rfl, kp_id _⟩
/-! ### subscripts of tuples, operators -/
theorem qv_ix {t : Addr} {xs : List V} {i : Int} (up : Up Φ) (ho : QV P w A Φ env a (.ref t)) (hi : QV P w A Φ env b (.int i)) (ht : ∀ h, Φ h → TupH h t xs) (q : atI xs i = some z) (hs : PlainIx b := by exact fun _ _ => rfl) : QV P w A Φ env (.Subscript a b pos) z := by
  intro E s h
  refine Subscript_ (q_two up ho hi h fun v u s' rv ru k h' => ?_)
  cases rv
  obtain ⟨tk, rfl⟩ := ru
  obtain ⟨hz, its, r, pl⟩ := ht _ h'
  obtain ⟨j, h1, h2, h3, h4, h5⟩ := atI_get q
  obtain ⟨u, eu, ru⟩ := r.get h2
  have hl := r.length
  have hn := line63
  exact subscriptTail_builtinR (x := u) pl.typeIs slot_tuple_getitem.lookup
    (getItem_tuple (j := j) (Q := fun c s'' => c = u ∧ (RelV z c ∧ Keeps s s'')) pl (by omega) (by omega) (by rw [List.size_toArray, ← hl]; exact h1) (by simpa using eu) ⟨rfl, ru, k⟩) (hs _ _)
theorem oq_in {t : Addr} {xs : List V} (fx : flatV x = true) (fs : xs.all flatV = true) (ht : ∀ h, Φ h → TupH h t xs) : OpQ P w A Φ (compareOp .In) x (.ref t) (.bl (inV x xs)) := by
  intro E v u s h rv ru
  cases ru
  obtain ⟨hz, its, r, pl⟩ := ht _ h
  refine SeqAt.in_tupleAt (eqU x) pl (fun y hy => mem_eqAt rv fx r fs y (by simpa using hy)) ⟨?_, kp_id s⟩
  rw [show its.toArray.any (eqU x) = its.any (eqU x) by simp, any_eqU r fs]
  rfl
theorem oq_eqI {i j : Int} : OpQ P w A Φ (compareOp .Eq) (.int i) (.int j) (.bl (i == j)) := by
  intro E v u s h rv ru
  obtain ⟨t, rfl⟩ := rv
  obtain ⟨t', rfl⟩ := ru
  exact PyProof.Rows.eq_int ⟨rfl, kp_id s⟩
theorem oq_neS {i j : Str} : OpQ P w A Φ (compareOp .NotEq) (.str i) (.str j) (.bl (i != j)) := by
  intro E v u s h rv ru
  obtain ⟨t, rfl⟩ := rv
  obtain ⟨t', rfl⟩ := ru
  exact PyProof.Rows.ne_str ⟨rfl, kp_id s⟩
theorem qv_cmp {op : CmpOp} (up : Up Φ) (ho : OpQ P w A Φ (compareOp op) x y z) (ha : QV P w A Φ env a x) (hb : QV P w A Φ env b y) (hm : behindInMarks op b = false) : QV P w A Φ env (.Compare a [op] [b] pos) z := fun E s h =>
  wpAny_Compare1 (q_two up ha hb h fun v u s' rv ru kk h' => thn (ho E v u s' h' rv ru) fun c s'' ⟨rc, k2⟩ => ⟨rc, kp_tr kk k2⟩) hm
theorem qt_cmp {op : CmpOp} (up : Up Φ) (ho : OpQ P w A Φ (compareOp op) x y (.bl k)) (ha : QV P w A Φ env a x) (hb : QV P w A Φ env b y) (hm : behindInMarks op b = false) : QT P w A Φ env (.Compare a [op] [b] pos) k := fun E s h => by
  refine wpAny_isTrue_Compare1 (thn (ha E s h) fun v s1 ⟨r1, q1⟩ => thn (hb E s1 (up.kp q1 h)) fun u s2 ⟨r2, q2⟩ => thn (ho E v u s2 (up.kp (kp_tr q1 q2) h) r1 r2) fun c s3 ⟨r3, q3⟩ => ?_) hm
  cases r3
  exact wpAny_truthy_bool ⟨rfl, kp_tr (kp_tr q1 q2) q3⟩
/-! ### and -/
theorem qv_one {op : BoolOp} (h : QV P w A Φ env a x) : QV P w A Φ env (.BoolOp op [a] pos) x := fun E s q => BoolOp_one (h E s q)
theorem qv_and {rest : List Expr} (up : Up Φ) (ha : QV P w A Φ env a (.bl k1)) (hb : k1 = true → QV P w A Φ env (.BoolOp .And (b :: rest) pos) (.bl k2)) : QV P w A Φ env (.BoolOp .And (a :: b :: rest) pos) (.bl (k1 && k2)) := fun E s h => by
  refine BoolOp_and (thn (ha E s h) fun v s1 ⟨r1, q1⟩ => ?_)
  cases r1
  refine wpAny_truthy_bool ?_
  cases k1 with
  | false => exact ⟨rfl, q1⟩
  | true => exact thn (hb rfl E s1 (up.kp q1 h)) fun c s2 ⟨r2, q2⟩ => ⟨r2, kp_tr q1 q2⟩
theorem qw_and1 (ha : QT P w A Φ env a k) : QW P w A Φ env (.BoolOp .And [a] pos) k := fun wh E s h => by
  refine isTrue_and (thn (ha E s h) fun c s1 ⟨r1, q1⟩ => ?_)
  subst r1
  cases c with
  | true => exact isTrue_and_nil ⟨rfl, q1⟩
  | false => exact ⟨rfl, q1⟩
theorem qw_and {rest : List Expr} (up : Up Φ) (ha : QT P w A Φ env a k1) (hb : k1 = true → QW P w A Φ env (.BoolOp .And (b :: rest) pos) k2) : QW P w A Φ env (.BoolOp .And (a :: b :: rest) pos) (k1 && k2) := fun wh E s h => by
  refine isTrue_and (thn (ha E s h) fun c s1 ⟨r1, q1⟩ => ?_)
  subst r1
  cases c with
  | true => exact thn (hb rfl wh E s1 (up.kp q1 h)) fun d s2 ⟨r2, q2⟩ => ⟨r2, kp_tr q1 q2⟩
  | false => exact ⟨rfl, q1⟩
theorem qt_of (h : QW P w A Φ env a k) : QT P w A Φ env a k := h _
/-! ### statements -/
def FlowQ : Option V → Flow → Prop
  | none, f => f = .next
  | some x, f => ∃ u, f = .ret u ∧ RelV x u
def QS (P : Program) (w : World) (A : Around) (Φ : Heap → Prop) (env : Env) (st : Stmt) (o : Option V) : Prop :=
  ∀ (E : Value → Shared → Prop) (s : Shared), Φ s.heap → wpAny (model P w) A (exec st env) (fun f s' => FlowQ o f ∧ Keeps s s') E s
def QSs (P : Program) (w : World) (A : Around) (Φ : Heap → Prop) (env : Env) (sts : List Stmt) (o : Option V) : Prop :=
  ∀ (E : Value → Shared → Prop) (s : Shared), Φ s.heap → wpAny (model P w) A (execs sts env) (fun f s' => FlowQ o f ∧ Keeps s s') E s
variable {st : Stmt} {rest : List Stmt} {o : Option V}
theorem qss_nil : QSs P w A Φ env [] none := fun E s h => wpAny_execs_nil ⟨rfl, kp_id s⟩
theorem qss_go (up : Up Φ) (h1 : QS P w A Φ env st none) (h2 : QSs P w A Φ env rest o) : QSs P w A Φ env (st :: rest) o := fun E s h => by
  refine wpAny_execs_cons (thn (h1 E s h) fun f s1 ⟨r1, q1⟩ => ?_)
  cases r1
  exact thn (h2 E s1 (up.kp q1 h)) fun g s2 ⟨r2, q2⟩ => ⟨r2, kp_tr q1 q2⟩
theorem qss_end (h1 : QS P w A Φ env st (some x)) : QSs P w A Φ env (st :: rest) (some x) := fun E s h => by
  refine wpAny_execs_cons (thn (h1 E s h) fun f s1 ⟨⟨u, e, r⟩, q1⟩ => ?_)
  subst e
  exact ⟨⟨u, rfl, r⟩, q1⟩
theorem qs_ret (he : QV P w A Φ env e x) : QS P w A Φ env (.Return (some e) pos) (some x) := fun E s h => wpAny_Return_some (thn (he E s h) fun u s1 ⟨r, q⟩ => ⟨⟨u, rfl, r⟩, q⟩)
theorem qs_if {t u : List Stmt} (up : Up Φ) (hc : QT P w A Φ env e k) (h1 : k = true → QSs P w A Φ env t o) (h2 : k = false → QSs P w A Φ env u o) : QS P w A Φ env (.If e t u pos) o := fun E s h => by
  refine wpAny_If (thn (hc E s h) fun c s1 ⟨r1, q1⟩ => ?_)
  subst r1
  cases c with
  | true => exact thn (h1 rfl E s1 (up.kp q1 h)) fun g s2 ⟨r2, q2⟩ => ⟨r2, kp_tr q1 q2⟩
  | false => exact thn (h2 rfl E s1 (up.kp q1 h)) fun g s2 ⟨r2, q2⟩ => ⟨r2, kp_tr q1 q2⟩
/-- an if that returns, or goes on -/
theorem qss_if {t : List Stmt} (up : Up Φ) (hc : QT P w A Φ env e k) (h1 : k = true → QSs P w A Φ env t (some x)) (h2 : k = false → QSs P w A Φ env rest (some x)) : QSs P w A Φ env (.If e t [] pos :: rest) (some x) := by
  cases k with
  | true => exact qss_end (qs_if up hc h1 fun z => nomatch z)
  | false => exact qss_go up (qs_if up hc (fun z => nomatch z) fun _ => qss_nil) (h2 rfl)
/-! ### a def of the text, called -/
/-- the call of the def at f with the values vs gives x and changes nothing -/
def FnQ (P : Program) (w : World) (A : Around) (f : Addr) (vs : List V) (x : V) (s : Shared) : Prop :=
  ∀ us, Vals vs us → codeAny (model P w) A (.call (.ref f) ⟨us, []⟩) (fun r s' => ∃ u, r = .ok (.ret u) ∧ RelV x u ∧ Keeps s s') s
theorem fnq_of {K : PySem.W.Frag} {mg : Str → Option Value} {base : Heap} {nm qual : Str} {d : Stmt} {f : Addr} {fd : FuncData} {N ps : List Str} {vs : List V} {s : Shared} (M : Mod K mg base) (F : Fun K nm qual d f fd) (S : FnScope N ps (defScope d)) (bd : Binds K fd ps [])
    (hroom : A.depth < recursionLimit) (hb : ∀ b o, base.get? b = some o → s.heap.get? b = some o) (hl : vs.length = ps.length) (hloc : ∀ n ∈ ps, (defScope d).names.lookup n = some .local)
    (body : ∀ (env : Env) (Ψ : Heap → Prop), QC K mg base env Ψ → env.scope = defScope d → (∀ h, Ψ h → ∀ b o, s.heap.get? b = some o → h.get? b = some o) → (∀ (i : Nat) (n : Str) (v : V), ps[i]? = some n → vs[i]? = some v → ∀ h, Ψ h → ∃ m u, h.Ns env.locals m ∧ m n = some u ∧ RelV v u) → QSs P w (A.deeper env) Ψ env (defBody d) (some x)) : FnQ P w A f vs x s := by
  intro us r
  obtain ⟨oc, od, kV, doc, pm, an, cdv, ct, osl, rfl, lk, hcd⟩ := F.ex
  have KX : K.In s.heap := M.kin.keeps hb
  have lim : s.heap.NoLimit := M.nolimit.keeps hb
  have hu : us.length = ps.length := by rw [← r.length, hl]
  have ndP : ps.Nodup := by rw [← S.pre]; exact S.nd.sublist (List.take_sublist _ _)
  have bb := bd s us KX (by rw [List.append_nil]; exact hu)
  rw [List.append_nil] at bb
  refine codeAny_call_function hroom (KX _ _ lk) rfl S.co S.gen rfl (PySem.W.codeRec_of KX hcd) (bb _ _ _ _ ?_)
  refine wpAny_newFunctionEnv_cells S.kind (fun y hy => .inl (hloc y.1 (List.of_mem_zip hy).1)) fun env he s1 c => ?_
  subst he
  obtain ⟨h1, tk, rfl, hk⟩ := c.done
  refine ⟨lim.keeps hk, codeAny_func ?_⟩
  refine thn (body _ (fun h => (∀ b o, s.heap.get? b = some o → h.get? b = some o) ∧ h.Ns s.heap.objs.size (bindL (envOfC qual (defScope d) s.heap.objs.size f cdv).kindOf (ps.zip us) fun _ => none)) ?_ rfl (fun h q => q.1) ?_ _ _ ⟨hk, c.toInCall.ns⟩) fun fl s' q => ?_
  · exact ⟨fun g h kk q => ⟨fun b o e => kk b o (q.1 b o e), q.2.keeps kk⟩, S.kind, rfl, M, fun h q b o e => q.1 b o (hb b o e)⟩
  · intro i n v hi hv h q
    obtain ⟨u, eu, ru⟩ := r.get hv
    exact ⟨_, u, q.2, bindL_get ndP hi eu (hloc n (List.mem_of_getElem? hi)), ru⟩
  · obtain ⟨⟨u, e, ru⟩, kk⟩ := q
    subst e
    exact ⟨u, rfl, ru, kp_tr ⟨h1, tk, rfl, hk⟩ kk⟩
/-- the arguments -/
def QA (P : Program) (w : World) (A : Around) (Φ : Heap → Prop) (env : Env) (es : List Expr) (vs : List V) : Prop :=
  ∀ (p : Pos) (E : Value → Shared → Prop) (s : Shared), Φ s.heap → wpAny (model P w) A (spliced (backTo p (starEach es env))) (fun us s' => Vals vs us ∧ Keeps s s') E s
theorem qa_nil : QA P w A Φ env [] [] := fun p E s h => Calls.spliced_nil ⟨.nil, kp_id s⟩
theorem qa_cons {es : List Expr} {vs : List V} (up : Up Φ) (he : QV P w A Φ env e x) (ht : QA P w A Φ env es vs) (hs : starEach (e :: es) env = (false, eval e env) :: starEach es env := by rfl) : QA P w A Φ env (e :: es) (x :: vs) := by
  intro p E s h
  rw [hs]
  show wpAny _ _ (spliced ((false, eval e env) :: backTo p (starEach es env))) _ _ s
  exact Calls.spliced_cons (thn (he E s h) fun u s1 ⟨r1, q1⟩ => thn (ht p E s1 (up.kp q1 h)) fun us s2 ⟨r2, q2⟩ => ⟨.cons r1 r2, kp_tr q1 q2⟩)
theorem qv_call {K : PySem.W.Frag} {mg : Str → Option Value} {base : Heap} {es : List Expr} {vs : List V} {f : Addr} {p : Pos} (C : QC K mg base env Φ) (hg : env.kindOf n = some .globalImplicit) (hm : mg n = some (.ref f)) (hk : PySem.W.keepIn K (.ref f) = true) (ha : QA P w A Φ env (e :: es) vs)
    (fn : ∀ s, Φ s.heap → FnQ P w A f vs x s) (hdb : (n == ("__debug__" : Str)) = false := by decide) (he : starEach (e :: es) env = (false, eval e env) :: starEach es env := by rfl) (hpl : (backTo pos (starEach es env)).any (·.1) = false := by rfl) :
    QV P w A Φ env (.Call (.Name n p) (e :: es) [] pos) x := by
  intro E s h
  refine wpAny_Call_Name_kw (q_glob C hg hm h ?_ hdb)
  refine PySem.W.callWith_K (h₀ := base) C.mod.kin hk (thn (ha pos E s h) fun us s1 ⟨r, q⟩ => ⟨C.mod.kin.keeps (C.bs _ (C.up.kp q h)), ?_⟩) he hpl
  refine wpAny_call (codeAny_mono (fn s1 (C.up.kp q h) us r) fun r' s2 hr => ?_)
  obtain ⟨u, rfl, ru, k2⟩ := hr
  exact ⟨ru, kp_tr q k2⟩
end
/-! ### a generator expression over a list -/
/-- the code object of the generator expression: new, or found in the table at T -/
theorem code_go {M : Model} {A : Around} {E : Value → Shared → Prop} {env : Env} {c T : Addr} {ps : Array Value} {gp : Pos} {qn : Str} {sc : Scope} {s : Shared} (hc : env.code = .ref c) (cd : PySem.W.CodeHd s.heap c T)
    (hT : s.heap.get? T = some { cls := .none, data := .fields ps }) (tr : TriplesOk ps.toList) :
    wpAny M A (genexprCode env gp qn sc) (fun _ s3 => ∃ g tk more, s3 = { s with heap := g, toks := tk } ∧ Heap.ExtBut T s.heap g ∧ s.heap.objs.size ≤ g.objs.size ∧ g.get? T = some { cls := .none, data := .fields (ps ++ more) } ∧ TriplesOk (ps ++ more).toList) E s := by
  cases hf : codeAmong gp ps.toList with
  | some cv => exact wpAny_genexprCode_hit hc (cd.code hT tr) hf ⟨s.heap, s.toks, #[], by cases s; rfl, Heap.ExtBut.refl _ _, Nat.le_refl _, by rw [Array.append_empty]; exact hT, by rw [Array.append_empty]; exact tr⟩
  | none =>
    refine wpAny_genexprCodeX hc (cd.code hT tr) (cd.tab hT) hf fun c' g tk hx hge hlt hco _ htab _ => ?_
    obtain ⟨_, _, _, _, _, _, _, _, _, _, _, _, _, _, _, _, _, _, _, htr, _⟩ := hco
    exact ⟨g, tk, _, rfl, hx, Nat.le_trans hge (Nat.le_of_lt hlt), htab.2, htr⟩
/-- the element is the test pb of the item's place, and changes nothing -/
structure EltQ (X : Cx) (sc : Scope) (n : Str) (elt : Expr) (T : Addr) (s1 : Shared) (xs : List V) (pb : Nat → Bool) : Prop where
  run : ∀ (cenv : Env) (A' : Around) (E' : Value → Shared → Prop) (i : Nat) (x : V) (u : Value) (s2 : Shared) (m2 : Str → Option Value), cenv.scope = sc → cenv.globals = X.env.globals → cenv.cells = cloFrom X.env.cells sc.names [] → A'.depth ≤ X.A.depth + 1 →
    xs[i]? = some x → RelV x u → s2.heap.Ns cenv.locals m2 → m2 n = some u → (∀ b o, b ≠ T → s1.heap.get? b = some o → s2.heap.get? b = some o) → wpAny (model X.prog X.w) A' (eval elt cenv) (fun y s3 => y = .bool (pb i) ∧ Keeps s2 s3) E' s2
section
variable {X : Cx} {pins : List (Addr × Obj)} {σ : L2.St} {H : Hp} {s : Shared}
/-- the generator g over k items, ready to be walked; H1: what was held ahead of it -/
def ReadyL (X : Cx) (pins : List (Addr × Obj)) (σ : L2.St) (H1 : Hp) (T : Addr) (k : Nat) (pb : Nat → Bool) (g : Addr) (s5 : Shared) : Prop :=
  ∃ (fp wr : List Addr) (G : Array GenState → Array GenState → Prop) (F : Nat → Value → Prop) (St : Nat → Shared → Prop), WalksS X.prog X.w X.A.in1 g fp wr G k F St ∧ St 0 s5 ∧ TruthOf X.prog X.w X.A.in1 F pb ∧
    ∀ s', Moved wr G s5 s' → ∃ H2, GxR.Tabbed T H1 H2 ∧ Inv X pins σ H2 s'
theorem gen_list {c T : Addr} {elt iter : Expr} {n : Str} {px gp : Pos} {sc : Scope} {pb : Nat → Bool} {te : TE} {k : Nat} {Q' : Value → Shared → Prop} {R : List V → Hp → Prop}
    (room : Room k X.A) (tb : GxR.TabB X.base X.mg c T) (code : X.env.code = .ref c) (S : GxR.GenS X.env sc n) (it : PE X iter te) (fold : ∀ v, genFold iter X.env v = pure v) (I : Inv X pins σ H s)
    (go : te σ H fun v H1 => ∃ q xs, v = .ref q ∧ SqL X.K H1 q xs ∧ GxR.TabG H1 T ∧ R xs H1) (el : ∀ xs H1 s1, Inv X pins σ H1 s1 → R xs H1 → EltQ X sc n elt T s1 xs pb)
    (fin : ∀ xs H1 g s5, R xs H1 → ReadyL X pins σ H1 T xs.length pb g s5 → Q' (.ref g) s5) :
    wpAny (model X.prog X.w) X.A (eval (.GeneratorExp elt [⟨.Name n px, iter, [], 0⟩] sc gp) X.env) Q' X.xe s := by
  refine wpAny_GeneratorExp_walksQD room.hd S.co (closure_ok S.free) S.cell S.dot S.loc S.kind room.depth ?_ fold
  refine thn (it.run pins s σ H _ I go) fun xv s1 ⟨v, H1, I1, r1, q1⟩ => ?_
  obtain ⟨q, xs, rfl, hq, ⟨ps, hT, tr⟩, hR⟩ := q1
  cases r1
  have EL := el xs H1 s1 I1 hR
  obtain ⟨its, rv, pl, hz⟩ := I1.list hq
  have hIL := pl.isList
  have hlen := rv.length
  have hqlt : q < s1.heap.objs.size := pl.lt
  have hTs : s1.heap.get? T = some { cls := .none, data := .fields ps } := I1.hok T _ hT
  have hTlt : T < s1.heap.objs.size := Heap.lt_size hTs
  have hqT : q ≠ T := fun z => by
    obtain ⟨o, e, _, _, d⟩ := hIL
    rw [z, hTs] at e
    cases e
    cases d
  refine wpAny_pyIter_list hIL ⟨I1.nolimit.push _, ?_⟩
  generalize hob : ({ cls := .type "list_iterator", data := .fields #[.ref q, .int 0 0] } : Obj) = ob
  have hit : (s1.heap.push ob).IsListIter s1.heap.objs.size q 0 := by
    subst hob
    exact ⟨_, Heap.get?_push_size _ rfl, rfl, rfl⟩
  have old : ∀ b o, s1.heap.get? b = some o → (s1.heap.push ob).get? b = some o := fun b o e => Heap.get?_push_of_some _ e
  refine thn (code_go (s := { s1 with heap := s1.heap.push ob }) code (tb.code.keeps fun b u e => old b u (I1.bk b u e)) (old _ _ hTs) tr) fun cv s3 ⟨g, tk, more, e3, hx, hsz, hT3, tr3⟩ => ?_
  subst e3
  have sz : (s1.heap.push ob).objs.size = s1.heap.objs.size + 1 := Heap.size_push ..
  have hsz : s1.heap.objs.size + 1 ≤ g.objs.size := by rw [← sz]; exact hsz
  have keep : ∀ b o, b ≠ T → s1.heap.get? b = some o → g.get? b = some o := fun b o hb e => hx b o hb (old b o e)
  have hcl : cStatics < s1.heap.objs.size := let ⟨_, hns, _⟩ := I1.nolimit; hns.lt
  have hcT : cStatics ≠ T := fun z => by
    obtain ⟨_, ⟨o', es, ep, ho, hd, _⟩, _⟩ := I1.nolimit
    rw [z, hTs] at ho
    cases ho
    cases hd
  obtain ⟨bm, bo, b1, b2, b3, b4, b5, b6, b7, b8⟩ := tb.bm
  refine wpAny_builtinsFor (m := X.mg) (by rw [I1.ok.glob]; exact ((I1.mod.glob.keeps I1.bk).push ob).extBut hx tb.gP) b1 b2 (keep _ _ b4 (I1.bk _ _ b5)) b6 b7 b8 ?_
  have hIL3 : g.IsList q its.toArray := by
    obtain ⟨o, e, r⟩ := hIL
    exact ⟨o, keep _ _ hqT e, r⟩
  have hit3 : g.IsListIter s1.heap.objs.size q 0 := hit.at fun u e => hx _ u (Nat.ne_of_gt hTlt) e
  have hval : ∀ (i : Nat) (u : Value), its.toArray[i]? = some u → ∃ x, xs[i]? = some x ∧ RelV x u := fun i u hu => by
    have hu2 : its[i]? = some u := by simpa using hu
    have hi := (List.getElem?_eq_some_iff.mp hu2).1
    obtain ⟨x, hxx⟩ : ∃ x, xs[i]? = some x := ⟨xs[i]'(by omega), List.getElem?_eq_getElem _⟩
    obtain ⟨u', e, r⟩ := rv.get hxx
    rw [hu2] at e
    cases e
    exact ⟨x, hxx, r⟩
  refine ⟨s1.heap.objs.size, [s1.heap.objs.size, q], [s1.heap.objs.size], its.toArray.size, fun i u => its.toArray[i]? = some u, fun i h => h.IsListIter s1.heap.objs.size q i ∧ h.IsList q its.toArray, fun _ => true, fun i y => y = .bool (pb i),
    rfl, fun A' hA => Walks.list hA _ _ (Nat.ne_of_lt hqlt) _, ⟨hit3, hIL3⟩, fun b hb => ?_, (I1.nolimit.push ob).extBut hx hcT, fun z => ?_, fun href hh => ?_, fun a h5 t5 gs hgb hag hsz5 hk5 W5 hat => ?_⟩
  · show b < g.objs.size
    simp only [List.mem_cons, List.not_mem_nil, or_false] at hb
    rcases hb with z | z
    · rw [z]; exact hsz
    · rw [z]; exact Nat.lt_trans hqlt hsz
  · simp only [List.mem_cons, List.not_mem_nil, or_false] at z
    rw [z] at hcl
    exact Nat.lt_irrefl _ hcl
  · refine ⟨fun A' E' i v s2 m2 hA _ _ hP hn hm hk => ?_, fun A' E' i v s2 m2 hA hD _ hP _ hn hm hk => ?_⟩
    · simp only [List.forIn_nil]
      exact wpAny_pure ⟨rfl, kp_id _⟩
    · obtain ⟨x, hxx, r⟩ := hval i v hP
      refine EL.run _ A' E' i x v s2 m2 rfl rfl rfl hD hxx r hn hm fun b o hb e => ?_
      have hb2 := Heap.lt_size e
      refine hk b (List.mem_range.mpr (Nat.lt_trans hb2 hsz)) (fun z => ?_) o (hh b o (keep b o hb e))
      simp only [List.mem_cons, List.not_mem_nil, or_false] at z
      rw [z] at hb2
      exact Nat.lt_irrefl _ hb2
  · simp only [GxR.passing_true, List.length_range] at W5
    have e5 : its.toArray.size = xs.length := by rw [List.size_toArray, hlen]
    rw [e5] at W5 hat
    refine fin xs H1 a _ hR ⟨_, _, _, _, _, W5.in4_1, hat, fun j y sj Qj Ej hy hQ => ?_, fun s' hm => ?_⟩
    · obtain ⟨i, hij, e⟩ := hy
      obtain ⟨hj, ej⟩ := List.getElem?_eq_some_iff.mp hij
      rw [List.getElem_range] at ej
      subst ej
      subst e
      exact wpAny_truthy_bool hQ
    · have stay : ∀ b u, s1.heap.get? b = some u → b ∉ g.objs.size :: [s1.heap.objs.size] := fun b u e hb => by
        have hl := Heap.lt_size e
        simp only [List.mem_cons, List.not_mem_nil, or_false] at hb
        rcases hb with z | z
        · have z' : b = g.objs.size := z
          rw [z'] at hl
          exact absurd (Nat.lt_trans hl hsz) (Nat.lt_irrefl _)
        · rw [z] at hl
          exact Nat.lt_irrefl _ hl
      have J := GxR.inv_tab (more := more) (h' := s'.heap) (g' := s'.gens) (d' := s'.drawn) (t' := s'.toks) I1 hT (fun b u hb e => hm.heap b u (stay b u e) (hk5 b u (keep b u hb e))) (hm.heap T _ (stay T _ hTs) (hk5 T _ hT3)) (AllBare.movedS (I1.bare.push hgb) hm)
      rw [GxR.sh_eta s1 s' hm.os] at J
      exact ⟨_, ⟨⟨_, upd_same, tr3⟩, fun b hb => upd_ne hb⟩, J⟩
end
section
variable {X : Cx} {B : Bs} {Γ : Gam} {S : Sto} {ds : List PyData} {pos : Pos}
/-- the slot at j holds the data list ds, or a list of one's own of them -/
theorem list_at {H0 H : Hp} {σ : L2.St} {j : Nat} {r : Sl} (at0 : At X.K B H0 Γ S σ H) (hj : Γ[j]? = some r) (hr : LSl S r ds) : ∃ q xs, σ[j]? = some (some (.ref q)) ∧ SqL X.K H q xs ∧ DpAll X.K H0 xs ds := by
  have z := at0.env.at_ j _ hj
  rcases hr with rfl | ⟨p, rfl, hp⟩
  · obtain ⟨v, h1, h2⟩ := z
    cases h2 with
    | @lst a xs _ hs ha => exact ⟨a, xs, h1, Evl.ex_l at0.e2 hs, ha⟩
  · obtain ⟨vs, h1, h2⟩ := (at0.sto.at_ p _ hp).2
    exact ⟨p, vs, z, .inl (.inl h1), h2⟩
theorem at_tab {H0 H H2 : Hp} {σ : L2.St} {t : Nat} {T : Addr} {ps : Array Value} (at0 : At X.K B H0 Γ S σ H) (ht : S[t]? = some (T, .ho (.tbl ps))) (h : GxR.Tabbed T H H2) : ∃ ps', TriplesOk ps'.toList ∧ At X.K B H0 Γ (S.set t (T, .ho (.tbl ps'))) σ H2 := by
  obtain ⟨⟨ps', h1, h2⟩, h3⟩ := h
  have e : H2 = upd H T (.tbl ps') := by
    funext b
    by_cases hb : b = T
    · rw [hb, upd_same, h1]
    · rw [upd_ne hb, h3 b hb]
  rw [e]
  exact ⟨ps', h2, at0.write ht upd_same⟩
def EltP (X : Cx) (B : Bs) (Γ : Gam) (S : Sto) (sc : Scope) (n : Str) (elt : Expr) (T : Addr) (ds : List PyData) (pb : Nat → Bool) : Prop :=
  ∀ (pins : List (Addr × Obj)) (σ : L2.St) (H H0 : Hp) (s : Shared) (xs : List V), Inv X pins σ H s → At X.K B H0 Γ S σ H → DpAll X.K H0 xs ds → EltQ X sc n elt T s xs pb
abbrev TabPost (S : Sto) (t : Nat) (T : Addr) (d : PyData) : Sl → Sto → Prop := fun r S' => r = .dat d ∧ ∃ ps', TriplesOk ps'.toList ∧ S' = S.set t (T, .ho (.tbl ps'))
theorem ge_all {c T : Addr} {elt iter : Expr} {n : Str} {px gp p : Pos} {sc : Scope} {pb : Nat → Bool} {k j t : Nat} {r : Sl} {ps : Array Value} {ex : Value → Gam → Sto → Prop} (room : Room k X.A) (hg : Gl X "all") (hm : X.mg "all" = none) (hv : bootBuiltins "all" = some (.builtin "all"))
    (tb : GxR.TabB X.base X.mg c T) (code : X.env.code = .ref c) (G : GxR.GenS X.env sc n) (it : PE X iter (tVar j)) (hj : Γ[j]? = some r) (hr : LSl S r ds) (ht : S[t]? = some (T, .ho (.tbl ps))) (tr : TriplesOk ps.toList) (el : EltP X B Γ S sc n elt T ds pb) (fold : ∀ v, genFold iter X.env v = pure v)
    (he : starEach [.GeneratorExp elt [⟨.Name n px, iter, [], 0⟩] sc gp] X.env = (false, eval (.GeneratorExp elt [⟨.Name n px, iter, [], 0⟩] sc gp) X.env) :: starEach [] X.env := by rfl) :
    GE X B Γ S (.Call (.Name "all" p) [.GeneratorExp elt [⟨.Name n px, iter, [], 0⟩] sc gp] [] pos) (TabPost S t T (.bool ((List.range ds.length).all pb))) ex := by
  refine ⟨fun pins s σ H Q I ⟨H0, at0, kk, _⟩ => ?_⟩
  obtain ⟨q, xs, hσ, hs, hd⟩ := list_at at0 hj hr
  have hT : H T = some (.tbl ps) := (at0.sto.at_ T _ (List.mem_of_getElem? ht)).2
  refine wpAny_Call_Name_kw (ld_blt I hg hm hv ?_)
  refine PyProof.Rows.callWith_builtin1 ?_ he (by rfl)
  rw [he]
  show wpAny _ _ (spliced ((false, eval (.GeneratorExp elt [⟨.Name n px, iter, [], 0⟩] sc gp) X.env) :: backTo pos (starEach [] X.env))) _ _ s
  refine Calls.spliced_cons (gen_list (pb := pb) (R := fun ys H1 => ys = xs ∧ H1 = H) room tb code G it fold I ⟨_, hσ, q, xs, rfl, hs, ⟨ps, hT, tr⟩, rfl, rfl⟩ (fun ys H1 s1 I1 ⟨e1, e2⟩ => ?_) fun ys H1 g s5 ⟨e1, e2⟩ rdy => ?_)
  · subst e1 e2
    exact el pins σ _ H0 s1 _ I1 at0 hd
  · subst e1 e2
    obtain ⟨fp, wr, G, F, St, W, hst, htr, hI⟩ := rdy
    refine Calls.spliced_nil (call_all_walkS (W.self 0 _ _ _ hst ⟨g, fp, wr, G, _, F, St, _, rfl, W, hst, htr, fun s' hmv => ?_⟩))
    obtain ⟨H2, hTb, J⟩ := hI s' hmv
    obtain ⟨ps', tr', at2⟩ := at_tab at0 ht hTb
    rw [dps_len hd]
    exact ⟨.bl _, H2, J, rfl, kk _ _ _ H0 H2 ⟨rfl, ps', tr', rfl⟩ at2 (Evl.Ex.refl _) ⟨_, rfl, .bl _⟩⟩
theorem ge_any {c T : Addr} {elt iter : Expr} {n : Str} {px gp p : Pos} {sc : Scope} {pb : Nat → Bool} {k j t : Nat} {r : Sl} {ps : Array Value} {ex : Value → Gam → Sto → Prop} (room : Room k X.A) (hg : Gl X "any") (hm : X.mg "any" = none) (hv : bootBuiltins "any" = some (.builtin "any"))
    (tb : GxR.TabB X.base X.mg c T) (code : X.env.code = .ref c) (G : GxR.GenS X.env sc n) (it : PE X iter (tVar j)) (hj : Γ[j]? = some r) (hr : LSl S r ds) (ht : S[t]? = some (T, .ho (.tbl ps))) (tr : TriplesOk ps.toList) (el : EltP X B Γ S sc n elt T ds pb) (fold : ∀ v, genFold iter X.env v = pure v)
    (he : starEach [.GeneratorExp elt [⟨.Name n px, iter, [], 0⟩] sc gp] X.env = (false, eval (.GeneratorExp elt [⟨.Name n px, iter, [], 0⟩] sc gp) X.env) :: starEach [] X.env := by rfl) :
    GE X B Γ S (.Call (.Name "any" p) [.GeneratorExp elt [⟨.Name n px, iter, [], 0⟩] sc gp] [] pos) (TabPost S t T (.bool ((List.range ds.length).any pb))) ex := by
  refine ⟨fun pins s σ H Q I ⟨H0, at0, kk, _⟩ => ?_⟩
  obtain ⟨q, xs, hσ, hs, hd⟩ := list_at at0 hj hr
  have hT : H T = some (.tbl ps) := (at0.sto.at_ T _ (List.mem_of_getElem? ht)).2
  refine wpAny_Call_Name_kw (ld_blt I hg hm hv ?_)
  refine PyProof.Rows.callWith_builtin1 ?_ he (by rfl)
  rw [he]
  show wpAny _ _ (spliced ((false, eval (.GeneratorExp elt [⟨.Name n px, iter, [], 0⟩] sc gp) X.env) :: backTo pos (starEach [] X.env))) _ _ s
  refine Calls.spliced_cons (gen_list (pb := pb) (R := fun ys H1 => ys = xs ∧ H1 = H) room tb code G it fold I ⟨_, hσ, q, xs, rfl, hs, ⟨ps, hT, tr⟩, rfl, rfl⟩ (fun ys H1 s1 I1 ⟨e1, e2⟩ => ?_) fun ys H1 g s5 ⟨e1, e2⟩ rdy => ?_)
  · subst e1 e2
    exact el pins σ _ H0 s1 _ I1 at0 hd
  · subst e1 e2
    obtain ⟨fp, wr, G, F, St, W, hst, htr, hI⟩ := rdy
    refine Calls.spliced_nil (call_any_walkS (W.self 0 _ _ _ hst ⟨g, fp, wr, G, _, F, St, _, rfl, W, hst, htr, fun s' hmv => ?_⟩))
    obtain ⟨H2, hTb, J⟩ := hI s' hmv
    obtain ⟨ps', tr', at2⟩ := at_tab at0 ht hTb
    rw [dps_len hd]
    exact ⟨.bl _, H2, J, rfl, kk _ _ _ H0 H2 ⟨rfl, ps', tr', rfl⟩ at2 (Evl.Ex.refl _) ⟨_, rfl, .bl _⟩⟩
end
section
variable {P : Program} {w : World} {K : PySem.W.Frag} {mg : Str → Option Value} {base : Heap}
/-- a def whose code object is known, nothing raised -/
theorem mut_def0T {x qual : Str} {d : Stmt} {f c : Addr} {fd : FuncData} {N ps : List Str} {n : Nat} {R : Rq} (F : Fun K x qual d f fd) (hc : fd.code = .ref c) (Sc : FnScope N ps (defScope d)) (hlen : ∀ as S PR PX, R as S PR PX → as.length = ps.length)
    (hbody : ∀ (A : Around) (out : List Env) (s : Shared) (H : Hp) (E : XK) (B : Bs) (as : List Sl) (S : Sto) (PR : Sl → Sto → Prop) (PX : Value → Sto → Prop), Room n (A.deeper (envOfC qual (defScope d) s.heap.objs.size f (.ref c))) → R as S PR PX →
      GSs (cxOf CX0 P w K mg base N qual (defScope d) f (.ref c) A out s H E).nox B (gamS N.length as) S (defBody d) { N := fun _ S' => PR (.dat .none) S', R := PR }) : FnOk P w K mg base CX0 (n + 1) f fd ps (SpM K R) := by
  obtain ⟨oc, od, kV, doc, pm, an, cdv, ct, osl, rfl, lk, hcd⟩ := F.ex
  cases (show cdv = .ref c from hc)
  refine fn_of lk hcd Sc (fun vs H Q E h => ?_) (fun A out s H vs Q E hr h => ?_)
  · obtain ⟨H0, as, S, PR, PX, _, hR, hv, _⟩ := h
    rw [Paired.length hv]
    exact hlen as S PR PX hR
  · obtain ⟨H0, as, S, PR, PX, e, hR, hv, hS, k, kx⟩ := h
    have hle : ps.length ≤ N.length := by have := congrArg List.length Sc.pre; rw [List.length_take] at this; omega
    have body := hbody A out s H E ⟨H0, H, keys S, fun _ _ _ _ => False⟩ as S PR PX hr hR
    refine ⟨_, PSs.nox body, H0, ⟨Fra.refl e, env_startS hv (by rw [hlen as S PR PX hR]; exact hle), hS, fun p z => .inl z⟩, ?_⟩
    exact ⟨fun Γ S' H0' σ H' hd at1 => k _ S' .non H0' H' hd at1.fra at1.sto at1.wr ⟨_, rfl, .non⟩, fun r Γ S' v H0' σ H' hr at1 hv => k r S' v H0' H' hr at1.fra at1.sto at1.wr hv, fun _ _ _ _ _ h _ => h.elim, fun _ _ _ _ _ h _ => h.elim, fun _ _ _ _ _ _ h _ => h.elim⟩
end
theorem p0At {X : Cx} {σ : L2.St} {E : XK} : PassesAt CX0 X σ E := fun _ _ _ _ _ _ c => c.elim
/-- a tuple of data, its parts with effects -/
theorem ge_tupE {X : Cx} {B : Bs} {Γ : Gam} {S : Sto} {es : List Expr} {x1 : Nat} {pos : Pos} {Pa : List PyData → Sto → Prop} {ex : Value → Gam → Sto → Prop} (h : GEA X B Γ S es (fun as S' => ∃ ds, as = ds.map Sl.dat ∧ ds.length ≤ 100000 ∧ Pa ds S')) :
    GE X B Γ S (.Tuple es x1 pos) (fun r S' => ∃ ds, r = .dat (.tuple ds) ∧ Pa ds S') ex := (pe_tup h).imp fun σ H Q ⟨H0, at0, k, _⟩ => ⟨H0, at0, fun as S' vs H1 H' ⟨ds, e, hl, hp⟩ at1 e1 hvs => by
  subst e
  have hd : ∀ {vs : List V} {ds : List PyData}, ArgsOk X.K H1 vs (ds.map Sl.dat) → DpAll X.K H1 vs ds := by
    intro vs ds
    induction ds generalizing vs with
    | nil => intro h; cases h; exact .nil
    | cons d ds ih => intro h; cases h with | cons a b => exact .cons a.toDp (ih b)
  have hv := hd hvs
  have hlen := dps_len hv
  refine ⟨by rw [hlen]; exact Nat.le_trans hl (by decide), fun p hp0 => ?_⟩
  exact k _ S' _ _ _ ⟨ds, rfl, hp⟩ (at1.ext (Ext.new at1.e2 hp0)) (e1.trans (Evl.Ex.new (free0 at1.e2 hp0))) ⟨_, rfl, .tup (.inl (.inl upd_same)) (dps_ex (Evl.Ex.new (free0 at1.e2 hp0)) _ _ hv)⟩⟩
/-! ### the end of a law whose program has tables of code objects -/
abbrev TabF (q : Program) (mg : Str → Option Value) (h : Heap) : Prop := ∀ e ∈ recsOf q, ∃ a o fd c T, mg e.name = some (.ref a) ∧ h.get? a = some o ∧ o.data = .func fd ∧ fd.code = .ref c ∧ h.IsCode c T #[] ∧ h.TableAt c T #[]
theorem walk_tabs {l : PySem.W.OpenLaw} {n k : Nat} {q : Program} {loose : List Str} {XP : (Str → Option Value) → Heap → Prop} {YP : World → Heap → Prop} {d : DefRec} {K : Params → PySem.W.Frag} {CX : World → CXT} {x : Str}
    (hn : l.most = some n) (hn2 : n ≤ sizeLine) (hdf : d.params.defaults = []) (room : Room k callerA) (hY : ∀ (w : World) (h : Heap), YP w h → (K w.params).In h)
    (F : ∀ (w : World) (mg : Str → Option Value) (fa : Addr) (h : Heap), (K w.params).In h → h.Ns mainGlobals mg → mg d.name = some (.ref fa) → TabF q mg h → LamX.LawAtS l w (K w.params) (CX w) k n x mg fa h)
    (hX : ∀ (w : World) (H : Hp) (s : Shared) (e : Value) (s' : Shared), CX w [] H s (fun _ _ _ => False) e s' → False) : PySem.W.WalkO q loose XP YP l.row.toRowW d [] (fun f vs => PySem.call f vs) := by
  refine Att.attach_callB hn hdf fun w s0 s1 mg mb fa o pm cd doc a vs ns G Y ho hd hcd hmg hobj hints hlen hbits hg => ?_
  obtain ⟨fd, cs, sp, hT, nT, C, hb, hsp, hF⟩ := F w mg fa _ (hY w _ Y) G.T.g hmg G.T.tab
  exact LamX.law_callTs (hY w _ Y) G.T.g G.T.b G.T.builtins G.T.nolimit hg hT nT C G.T.bmain hobj hints (Nat.le_trans hlen hn2) room hF hb (fun H hH hS => hsp H a ns hlen hbits hH hS) fun H e s' => hX w H s1 e s'
theorem tab_of {q : Program} {K : PySem.W.Frag} {h : Heap} {mg : Str → Option Value} (KX : K.In h) (TF : TabF q mg h) {nm : Str} {f c T : Addr} {oc e : Value} {od dd : Option Addr} {fd : FuncData} {osl sl : Array (Option Value)} {vs : Array Value} (hin : ((recsOf q).any fun e => e.name == nm) = true)
    (hm : mg nm = some (.ref f)) (lf : K.lookup f = some ⟨oc, od, .func fd, osl⟩) (hc : fd.code = .ref c) (lc : K.lookup c = some ⟨e, dd, .fields vs, sl⟩) (hT : vs[11]? = some (.ref T)) : h.get? T = some { cls := .none, data := .fields #[] } ∧ PySem.W.CodeHd h c T := by
  obtain ⟨r, hr, e1⟩ := List.any_eq_true.mp hin
  obtain ⟨a, o, fd', c', T', h1, h2, h3, h4, h5, h6⟩ := TF r hr
  rw [beq_iff_eq.mp e1, hm] at h1
  cases h1
  rw [KX _ _ lf] at h2
  cases h2
  cases h3
  rw [hc] at h4
  cases h4
  obtain ⟨⟨o', vs', g1, g2, g3, g4⟩, g5⟩ := _root_.id h6
  rw [KX _ _ lc] at g1
  cases g1
  cases g3
  rw [hT] at g4
  cases g4
  exact ⟨g5, PySem.W.CodeHd.of h5 h6⟩
/-- the law's promise, with the table at T owned -/
theorem lawM_sp {K : PySem.W.Frag} {R : Rq} {H : Hp} {a T : Addr} {ns : List Int} {E : XK} {PX : Value → Sto → Prop} (hR : R [.dat (.list (ns.map PyData.int))] [(T, .ho (.tbl #[]))] (fun r _ => r = .dat (.bool true)) PX) (hX : ∀ c S, ¬ PX c S) (hT : H T = some (.tbl #[])) (hS : SqL K H a (ns.map V.int)) :
    SpM K R [.ref a] H (fun v _ => v = .bl true) E := by
  have e : Evl.Ex (fun b => if b = T then none else H b) H := fun b o q => by
    have q : (if b = T then none else H b) = some o := q
    by_cases hb : b = T
    · rw [if_pos hb] at q; cases q
    · rw [if_neg hb] at q; exact q
  refine ⟨fun b => if b = T then none else H b, _, _, _, _, e, hR, .cons ⟨_, rfl, .lst ?_ (dps_ints ns)⟩ .nil, ⟨fun p ov hp => ?_, by simp [keys]⟩, fun r S' v H0' H' hp _ _ _ hv => ?_, fun c S' H0' H' hp => absurd hp (hX c S')⟩
  · rcases hS with (hS | ⟨o, hS⟩) | hS
    · have hne : a ≠ T := fun z => by rw [z, hT] at hS; cases hS
      exact .inl (.inl (by show (if a = T then none else H a) = _; rw [if_neg hne]; exact hS))
    · have hne : a ≠ T := fun z => by rw [z, hT] at hS; cases hS
      exact .inl (.inr ⟨o, by show (if a = T then none else H a) = _; rw [if_neg hne]; exact hS⟩)
    · exact .inr hS
  · simp only [List.mem_cons, Prod.mk.injEq, List.not_mem_nil, or_false] at hp
    obtain ⟨rfl, rfl⟩ := hp
    exact ⟨if_pos rfl, hT⟩
  · subst hp
    have hv := hv.toDp
    cases hv
    rfl
end GQ

set_option Elab.async false
set_option linter.all false
set_option maxRecDepth 100000
set_option maxHeartbeats 4000000
namespace GQ
open PySem PySem.Spec PyProof.Rows L2 G
/-! ### list.count, list.index of flat data -/
section
variable {X : Cx}
def rCntF (K : PySem.W.Frag) : V → List V → Hp → VK → Prop := fun x xs H Q => ∃ (a : Addr) (ys : List V) (y : V), x = .ref a ∧ xs = [y] ∧ SqL K H a ys ∧ flatV y = true ∧ ys.all flatV = true ∧ Q (.int (ys.countP (fun z => eqV z y) : Nat)) H
theorem countU {x : V} : ∀ {xs : List V} {us : List Value}, Vals xs us → xs.all flatV = true → us.countP (eqU x) = xs.countP fun z => eqV z x
  | _, _, .nil, _ => rfl
  | z :: xs, u :: us, .cons r t, f => by
    rw [List.all_cons, Bool.and_eq_true] at f
    rw [List.countP_cons, List.countP_cons, countU t f.2, eqU_of r f.1]
theorem mt_cntF : MtR X "list.count" (rCntF X.K) := by
  intro pins s σ H x xs v us Q I rx rxs h
  obtain ⟨a, ys, y, rfl, rfl, hs, fy, fs, q⟩ := h
  cases rx
  obtain ⟨u, rfl, ru⟩ := rxs.one
  obtain ⟨its, rv, ⟨ob, n, ho, hc, hdn, hd⟩, hlen⟩ := I.list hs
  obtain ⟨cls, dd, data, sl⟩ := ob
  cases (show cls = _ from hc)
  cases (show data = _ from hd)
  refine call_meets PySem.F.slot_list_count ⟨_, ho, rfl⟩ PySem.F.entry_list_count (PySem.F.args_list_count_2 _ _) (SeqAt.list_countAt a its.toArray n dd sl u (eqU y)) ⟨ho, fun z hz => mem_eqAt ru fy rv fs z (by simpa using hz), ?_⟩
  refine ⟨.int (ys.countP (fun z => eqV z y) : Nat), H, I.tok _, ⟨s.toks, ?_⟩, q⟩
  rw [show its.toArray.toList = its from rfl, countU rv fs]
end
section
variable {X : Cx} {B : Bs} {Γ : Gam} {S : Sto} {o e it : Expr} {d : PyData} {ds : List PyData} {pos apos px p2 tpos : Pos} {P : Po} {j k kk : Nat} {x y : Str} {body : List Stmt}
def cntD (d : PyData) (ds : List PyData) : Nat := ds.countP fun z => PyData.eqv z d
theorem cnt_of {K : PySem.W.Frag} {H : Hp} {w : V} (hw : Dp K H w d) (g : flatD d = true) : ∀ {vs : List V} {ds : List PyData}, DpAll K H vs ds → ds.all flatD = true → vs.all flatV = true ∧ vs.countP (fun z => eqV z w) = cntD d ds
  | _, _, .nil, _ => ⟨rfl, rfl⟩
  | _, _, .cons h t, f => by
    rw [List.all_cons, Bool.and_eq_true] at f
    obtain ⟨i1, i2⟩ := cnt_of hw g t f.2
    refine ⟨by rw [List.all_cons, flat_of h f.1, i1]; rfl, ?_⟩
    unfold cntD at i2 ⊢
    rw [List.countP_cons, List.countP_cons, i2, eqV_of h hw f.1 g]
theorem gl_meth {name : Str} {id : String} {r : V → List V → Hp → VK → Prop} {d' : PyData} (slot : Slot "list" name id) (hty : typeOf (.builtin id) = pure (.type "method_descriptor")) (hm : MtR X id r) (ho : GLs X B Γ S o ds) (he : GD X B Γ S e d)
    (hr : ∀ H0 H a xs v (Q : VK), Evl.Ex H0 H → SqL X.K H a xs → DpAll X.K H0 xs ds → Dp X.K H0 v d → (∀ z, Dp X.K H0 z d' → Q z H) → r (.ref a) [v] H Q)
    (hbase : attributeBase o name X.env (eval o X.env) = eval o X.env := by rfl)
    (hfew : ((backTo pos (starEach [e] X.env)).all (fun x => !x.1) && (backToKw pos (keywordEach [] X.env)).all (fun x => x.1.isSome) && decide ([e].length + ([] : List Keyword).length + (if ([] : List Keyword).isEmpty then 0 else 1) < 30)) = true := by rfl)
    (hline : (apos.endLine == pos.line) = true := by rfl) (hs : starEach [e] X.env = (false, eval e X.env) :: starEach [] X.env := by rfl) (hpl : (backTo pos (starEach [] X.env)).any (·.1) = false := by rfl) : GD X B Γ S (.Call (.Attribute o name apos) [e] [] pos) d' := by
  cases ho with
  | dat h =>
    refine (pe_bm PySem.F.plainAttrs_list slot hty hm h (pa_cons he pa_nil hs) hbase hfew hline hs hpl).imp fun σ H Q ⟨H0, at0, kk⟩ => ⟨H0, at0, fun v H1 H' at1 e1 hv => ?_⟩
    have hv := hv.toDp
    cases hv with
    | @lst a xs _ hl ha =>
      exact ⟨.inl ⟨rfl, _, Evl.ex_l at1.e2 hl⟩, H1, at1, fun y H2 H'' at2 e2 hy => hr H2 H'' a xs y _ at2.e2 (Evl.ex_l at2.e2 (Evl.ex_l e2 hl)) (dps_ex e2 _ _ ha) hy.toDp fun z hz => kk z H2 H'' at2 (e1.trans e2) ⟨_, rfl, hz⟩⟩
  | own p n h hn =>
    refine (pe_bm PySem.F.plainAttrs_list slot hty hm h (pa_cons he pa_nil hs) hbase hfew hline hs hpl).imp fun σ H Q ⟨H0, at0, kk⟩ => ⟨H0, at0, fun v H1 H' at1 e1 hv => ?_⟩
    cases (show (some (some v) : Option (Option V)) = some (some (.ref p)) from hv)
    obtain ⟨_, vs, h1, _⟩ := at1.sto.at_ p _ (List.mem_of_getElem? hn)
    refine ⟨.inl ⟨rfl, _, .inl (.inl h1)⟩, H1, at1, fun y H2 H'' at2 e2 hy => ?_⟩
    obtain ⟨_, vs2, h3, h4⟩ := at2.sto.at_ p _ (List.mem_of_getElem? hn)
    exact hr H2 H'' p vs2 y _ at2.e2 (.inl (.inl h3)) h4 hy.toDp fun z hz => kk z H2 H'' at2 (e1.trans e2) ⟨_, rfl, hz⟩
theorem gl_cnt (ho : GLs X B Γ S o ds) (he : GD X B Γ S e d) (fd : flatD d = true) (fs : ds.all flatD = true)
    (hbase : attributeBase o "count" X.env (eval o X.env) = eval o X.env := by rfl)
    (hfew : ((backTo pos (starEach [e] X.env)).all (fun x => !x.1) && (backToKw pos (keywordEach [] X.env)).all (fun x => x.1.isSome) && decide ([e].length + ([] : List Keyword).length + (if ([] : List Keyword).isEmpty then 0 else 1) < 30)) = true := by rfl)
    (hline : (apos.endLine == pos.line) = true := by rfl) (hs : starEach [e] X.env = (false, eval e X.env) :: starEach [] X.env := by rfl) (hpl : (backTo pos (starEach [] X.env)).any (·.1) = false := by rfl) : GD X B Γ S (.Call (.Attribute o "count" apos) [e] [] pos) (.int (cntD d ds : Nat)) :=
  gl_meth PySem.F.slot_list_count PySem.F.type_list_count mt_cntF ho he (fun H0 H a xs v Q ex hl ha hv kk => by
    obtain ⟨c1, c2⟩ := cnt_of hv fd ha fs
    exact ⟨a, xs, v, rfl, rfl, hl, flat_of hv fd, c1, kk _ (by rw [c2]; exact .int _)⟩) hbase hfew hline hs hpl
theorem gl_idx {i : Nat} {z : PyData} (ho : GLs X B Γ S o ds) (he : GD X B Γ S e d) (fd : flatD d = true) (fs : ds.all flatD = true) (hz : ds[i]? = some z) (hi : PyData.eqv z d = true) (hno : ∀ (m : Nat) z', m < i → ds[m]? = some z' → PyData.eqv z' d = false)
    (hbase : attributeBase o "index" X.env (eval o X.env) = eval o X.env := by rfl)
    (hfew : ((backTo pos (starEach [e] X.env)).all (fun x => !x.1) && (backToKw pos (keywordEach [] X.env)).all (fun x => x.1.isSome) && decide ([e].length + ([] : List Keyword).length + (if ([] : List Keyword).isEmpty then 0 else 1) < 30)) = true := by rfl)
    (hline : (apos.endLine == pos.line) = true := by rfl) (hs : starEach [e] X.env = (false, eval e X.env) :: starEach [] X.env := by rfl) (hpl : (backTo pos (starEach [] X.env)).any (·.1) = false := by rfl) : GD X B Γ S (.Call (.Attribute o "index" apos) [e] [] pos) (.int (i : Nat)) :=
  gl_meth PySem.F.slot_list_index PySem.F.type_list_index mt_index ho he (fun H0 H a xs v Q ex hl ha hv kk => by
    have all : ∀ d' ∈ ds, flatD d' = true := List.all_eq_true.mp fs
    obtain ⟨u, h1, h2⟩ := dps_get ha hz
    refine ⟨a, xs, v, i, u, rfl, rfl, hl, flat_of hv fd, (cnt_of hv fd ha fs).1, h1, by rw [eqV_of h2 hv (all z (List.mem_of_getElem? hz)) fd]; exact hi, fun m z' hm hz' => ?_, kk _ (.int _)⟩
    obtain ⟨d', h3, h4⟩ := dps_getV ha hz'
    rw [eqV_of h4 hv (all d' (List.mem_of_getElem? h3)) fd]
    exact hno m d' hm h3) hbase hfew hline hs hpl
/-! ### for x, y in a list of pairs -/
theorem gs_forP (hp : PassesOwn (model X.prog X.w) X.A X.env X.xe) (hc : X.calm = true) (he : GD X B Γ S it (.list ds)) (pr : ∀ d ∈ ds, ∃ d1 d2, d = .tuple [d1, d2]) (hN : X.N.Nodup) (hj : X.N[j]? = some x) (hx : Loc X.env.scope x) (hk : X.N[k]? = some y) (hy : Loc X.env.scope y) (I : Nat → Gam → Sto → Prop) (h0 : I 0 Γ S)
    (hb : ∀ (i : Nat) d1 d2 Γ' S' G, ds[i]? = some (.tuple [d1, d2]) → I i Γ' S' → GSs X (B.at G) ((Γ'.set j (.dat d1)).set k (.dat d2)) S' body (P.turn I i)) (hd : ∀ Γ' S', I ds.length Γ' S' → P.N Γ' S')
    (hs : ∀ y, foldedSetIterable it X.env y = pure y := by intro _; rfl) (hl2 : (assignEach [.Name x px, .Name y p2] X.env).length = 2 := by rfl) (hst : (assignEach [.Name x px, .Name y p2] X.env).findIdx? (·.1) = none := by rfl)
    (ha1 : (assignEach [.Name x px, .Name y p2] X.env).map (·.2) = assign (.Name x px) X.env :: (assignEach [.Name y p2] X.env).map (·.2) := by rfl) (ha2 : (assignEach [.Name y p2] X.env).map (·.2) = assign (.Name y p2) X.env :: (assignEach [] X.env).map (·.2) := by rfl)
    (hf : X.fn x = true ∨ X.env.scope.names.lookup x = some .local := by first | exact .inl rfl | exact .inr rfl | assumption) (hf2 : X.fn y = true ∨ X.env.scope.names.lookup y = some .local := by first | exact .inl rfl | exact .inr rfl | assumption) :
    GS X B Γ S (.For (.Tuple [.Name x px, .Name y p2] kk tpos) it body [] pos) P := by
  have hbody : PSs X body (fun D σ H => ∃ (i : Nat) (d1 d2 : PyData) (Γ' : Gam) (S' : Sto) (G : Hp), ds[i]? = some (.tuple [d1, d2]) ∧ I i Γ' S' ∧ rs X.K (B.at G) ((Γ'.set j (.dat d1)).set k (.dat d2)) S' (P.turn I i) D σ H) := ⟨fun pins s σ H D Iv ⟨i, d1, d2, Γ', S', G, h1, h2, z⟩ => (hb i d1 d2 Γ' S' G h1 h2).run pins s σ H D Iv z⟩
  refine (ps_for hp hc (pi_list he) (pg_tup hc (pgs_cons (pg_name (i := j) hN hj hx hf) (pgs_cons (pg_name (i := k) hN hk hy hf2) pgs_nil ha2) ha1) hl2 hst) hbody hs).imp fun D σ H ⟨H0, at0, z⟩ => ⟨H0, at0, fun v H1 H' at1 e1 hv => ?_⟩
  have hv := hv.toDp
  cases hv with
  | @lst a xs _ hl ha =>
    refine ⟨a, rfl, ⟨xs, Evl.ex_l at1.e2 hl⟩, for_list (K := X.K) (a := a) (xs := xs) (g := gTup X.K 2 (gCons (gName j) (gCons (gName k) gNil))) (tb := fun D σ H => ∃ (i : Nat) (d1 d2 : PyData) (Γ' : Gam) (S' : Sto) (G : Hp), ds[i]? = some (.tuple [d1, d2]) ∧ I i Γ' S' ∧ rs X.K (B.at G) ((Γ'.set j (.dat d1)).set k (.dat d2)) S' (P.turn I i) D σ H) (D := D) (fun i σ H => ∃ Γ' S' H0, I i Γ' S' ∧ At X.K B H0 Γ' S' σ H ∧ Evl.Ex H1 H0) ⟨Γ, S, H1, h0, at1, Evl.Ex.refl _⟩ (fun i σ H _ pv => ?_) (fun i y σ H hi pv => ?_) fun σ H pv => ?_⟩
    · obtain ⟨Γ', S', G, hI, at2, e2⟩ := pv
      exact Evl.ex_l at2.e2 (Evl.ex_l e2 hl)
    · obtain ⟨Γ', S', G, hI, at2, e2⟩ := pv
      obtain ⟨d, h1, h2⟩ := dps_getV ha hi
      obtain ⟨d1, d2, rfl⟩ := pr d (List.mem_of_getElem? h1)
      have h2 := dp_ex e2 _ _ h2
      cases h2 with
      | @tup t ws _ ht hw =>
        cases hw with
        | @cons v1 _ _ _ w1 hw =>
          cases hw with
          | @cons v2 _ _ _ w2 hw =>
            cases hw
            exact ⟨t, _, rfl, Evl.ex_t at2.e2 ht, rfl, v1, _, rfl, v2, _, rfl, rfl, i, d1, d2, Γ', S', G, h1, hI, G, (at2.rebase.set j (s := .dat d1) ⟨_, rfl, w1⟩).set k (s := .dat d2) ⟨_, rfl, w2⟩, turn_endz at2.fra z _ fun Γ1 S1 H2 σ2 H3 q a e3 => ⟨Γ1, S1, H2, q, a, e2.trans e3⟩⟩
    · obtain ⟨Γ', S', G, hI, at2, e2⟩ := pv
      rw [dps_len ha] at hI
      exact z.nx Γ' S' G σ H (hd Γ' S' hI) at2
end
/-! ### the element, from the state at the generator's making -/
section
variable {X : Cx} {B : Bs} {Γ : Gam} {S : Sto} {pins : List (Addr × Obj)} {σ : L2.St} {H H0 : Hp} {s : Shared} {T : Addr} {ps : Array Value}
/-- what the element's expressions may lean on -/
def EltΦ (s : Shared) (T : Addr) (cenv : Env) (m2 : Str → Option Value) : Heap → Prop := fun h => (∀ b o, b ≠ T → s.heap.get? b = some o → h.get? b = some o) ∧ h.Ns cenv.locals m2
theorem elt_qc {cenv : Env} {m2 : Str → Option Value} (I : Inv X pins σ H s) (hT : H T = some (.tbl ps)) (hk : cenv.scope.kind = .function) (hg : cenv.globals = X.env.globals) : QC X.K X.mg X.base cenv (EltΦ s T cenv m2) :=
  ⟨fun g h kk q => ⟨fun b o hb e => kk b o (q.1 b o hb e), q.2.keeps kk⟩, hk, by rw [hg]; exact I.ok.glob, I.ok.mod, fun h q b o e => q.1 b o (fun z => by
    have := (I.bs b o e).2
    rw [z, hT] at this
    cases this) (I.bk b o e)⟩
theorem elt_tup {cenv : Env} {m2 : Str → Option Value} {a : Addr} {xs : List V} (I : Inv X pins σ H s) (hT : H T = some (.tbl ps)) (h : SqT X.K H a xs) : ∀ g, EltΦ s T cenv m2 g → TupH g a xs := fun g q => by
  obtain ⟨its, r, ⟨o, e, c, n, d⟩, z⟩ := I.tuple h
  refine ⟨z, its, r, o, q.1 a o (fun w => ?_) e, c, n, d⟩
  have hTs : s.heap.get? T = some { cls := .none, data := .fields ps } := I.hok T _ hT
  rw [w, hTs] at e
  cases e
  cases c
theorem elt_cell {cenv : Env} {m2 : Str → Option Value} {sc : Scope} {k : Nat} {y : Str} {v : V} (I : Inv X pins σ H s) (hT : H T = some (.tbl ps)) (free : ∀ y ∈ sc.names, y.2 = .free → ∃ c, X.env.cells.lookup y.1 = some c) (hc : cenv.cells = cloFrom X.env.cells sc.names []) (hy : (y, NameKind.free) ∈ sc.names)
    (hN : X.N[k]? = some y) (hσ : σ[k]? = some (some v)) (hv : X.env.kindOf y = some .cell) : ∃ c, cenv.cells.lookup y = some c ∧ ∀ g, EltΦ s T cenv m2 g → ∃ u, g.IsCell c (some u) ∧ RelV v u := by
  obtain ⟨m, _, hl⟩ := I.loc
  obtain ⟨u, r, l⟩ := hl k y v hN hσ (.inr (.inl hv))
  rcases l with ⟨h1, _⟩ | ⟨_, c, h1, h2⟩
  · rw [hv] at h1; cases h1
  · refine ⟨c, by rw [hc]; exact NdefX.clo_has free hy h1, fun g q => ⟨u, ?_, r⟩⟩
    obtain ⟨o, e, d⟩ := h2
    refine ⟨o, q.1 c o (fun z => ?_) e, d⟩
    have := I.freeC y c h1
    rw [z, hT] at this
    cases this
end
/-- a tuple of the written part -/
theorem tupK {K : PySem.W.Frag} {h : Heap} {a : Addr} {xs : List V} (KX : K.In h) (q : SqT K (fun _ => none) a xs) : TupH h a xs := by
  rcases q with (q | ⟨o, q⟩) | ⟨o, its, n, h1, h2, h3, h4, h5⟩
  · cases q
  · cases q
  · refine ⟨?_, its.toList, h5, o, KX a o h1, h2, n, by simpa using h3⟩
    have := h5.length
    simp only [Array.length_toList] at this
    omega
theorem QC.tup {K : PySem.W.Frag} {mg : Str → Option Value} {base : Heap} {env : Env} {Φ : Heap → Prop} (C : QC K mg base env Φ) {a : Addr} {xs : List V} (q : SqT K (fun _ => none) a xs) : ∀ h, Φ h → TupH h a xs := fun h hp => tupK (C.mod.kin.keeps (C.bs h hp)) q
theorem strs_of {K : PySem.W.Frag} {H : Hp} : ∀ {ws : List Str} {vs : List V}, DpAll K H vs (ws.map PyData.str) → vs = ws.map V.str
  | [], _, h => by cases h; rfl
  | w :: ws, _, h => by
    cases h with
    | cons a b => cases a; rw [strs_of b]; rfl
/-- a constant tuple of texts -/
theorem wordsK {K : PySem.W.Frag} {v : V} {ws : List Str} (h : Dp K (fun _ => none) v (.tuple (ws.map PyData.str))) : ∃ a, v = .ref a ∧ SqT K (fun _ => none) a (ws.map V.str) := by
  cases h with
  | @tup a xs _ hs ha =>
    rw [strs_of ha] at hs
    exact ⟨a, rfl, hs⟩
/-- the generator expression's scope, checked -/
def genSB (sc osc : Scope) (n : Str) : Bool :=
  decide (sc.kind = .function) && (!sc.isCoroutine && (decide (sc.names.lookup (".0" : Str) = some .local) && (decide (sc.names.lookup n = some .local) && sc.names.all fun y => !decide (y.2 = .cell) && (!decide (y.2 = .free) || decide (osc.names.lookup y.1 = some .cell)))))
theorem genS_by {env : Env} {sc osc : Scope} {n : Str} (h : genSB sc osc n = true) (hc : ∀ y, osc.names.lookup y = some .cell → ∃ c, env.cells.lookup y = some c) : GxR.GenS env sc n := by
  unfold genSB at h
  simp only [Bool.and_eq_true, Bool.or_eq_true, Bool.not_eq_true', decide_eq_true_eq, decide_eq_false_iff_not, List.all_eq_true] at h
  obtain ⟨h1, h2, h3, h4, h5⟩ := h
  exact ⟨h1, h2, fun y hy => (h5 y hy).1, h3, h4, fun y hy e => (h5 y hy).2.elim (fun z => absurd e z) (hc y.1)⟩
/-- x is True, x is False -/
theorem gd_isB {X : Cx} {B : Bs} {Γ : Gam} {S : Sto} {a b : Expr} {pos : Pos} {k1 k2 : Bool} (hm : behindInMarks .Is b = false) (ha : GD X B Γ S a (.bool k1)) (hb : GD X B Γ S b (.bool k2)) : GD X B Γ S (.Compare a [.Is] [b] pos) (.bool (decide (k1 = k2))) :=
  gd_cmp op_isBl (fun H0 H v w e hv hw Q kk => by
    cases hv
    cases hw
    exact ⟨_, _, rfl, rfl, kk _ H0 H (Ext.refl e) (.bl _)⟩) hm ha hb
/-! ### more: not in a list, a comprehension with a test as a value, not and == with effects -/
section
variable {X : Cx} {B : Bs} {Γ : Gam} {S : Sto} {a b e o elt tst : Expr} {d : PyData} {ds : List PyData} {pos px lp : Pos} {scope : Scope} {x : Str} {j : Nat} {ex : Value → Gam → Sto → Prop} {Pe : Sl → Sto → Prop}
theorem od_notInL {K : PySem.W.Frag} (g : flatD d = true) (f : ds.all flatD = true) : OpD K (rIn K true) d (.list ds) (.bool (!inD d ds)) := fun H0 H v w e hv hw Q kk => by
  cases hw with
  | lst hs ha =>
    obtain ⟨i1, i2⟩ := inV_of hv g ha f
    refine ⟨_, _, rfl, .inl (Evl.ex_l e hs), flat_of hv g, i1, kk _ H0 H (Ext.refl e) ?_⟩
    show Dp K H0 (.bl (!inV v _)) _
    rw [i2]
    exact .bl _
theorem gt_notInL (hm : behindInMarks .NotIn b = false) (ha : GD X B Γ S a d) (hb : GD X B Γ S b (.list ds)) (g : flatD d = true) (f : ds.all flatD = true) : GT X B Γ S (.Compare a [.NotIn] [b] pos) (!inD d ds) := gt_cmp op_notIn_seq (od_notInL g f) hm ha hb
theorem gd_lcF (kp : Nat → Bool) (g : Nat → PyData) (hc : X.calm = true) (hN : X.N.Nodup) (ho : GD X B Γ S o (.list ds)) (hl : ds.length ≤ 100000) (ok : BlkOk X.N X.env.scope scope [(x, j)])
    (htg : ∀ (s : Shared) (H : Hp) (C : Addr) (cl : List (Str × Addr)) (fp : List Addr), PG (X.blk s H scope (compEnvC scope cl C X.env) fp) (.Name x px) (gName j))
    (hts : ∀ (i : Nat) (D : Addr) (acc : List PyData) (d : PyData), ds[i]? = some d → ∀ (s : Shared) (H : Hp) (C : Addr) (cl : List (Str × Addr)) (fp : List Addr), GT (X.blk s H scope (compEnvC scope cl C X.env) fp) B ((wipeG Γ [j]).set j (.dat d)) ((D, .lst acc) :: S) tst (kp i))
    (hel : ∀ (i : Nat) (D : Addr) (acc : List PyData) (d : PyData), ds[i]? = some d → ∀ (s : Shared) (H : Hp) (C : Addr) (cl : List (Str × Addr)) (fp : List Addr), GD (X.blk s H scope (compEnvC scope cl C X.env) fp) B ((wipeG Γ [j]).set j (.dat d)) ((D, .lst acc) :: S) elt (g i))
    (hfs : ∀ y, foldedSetIterable o X.env y = pure y := by intro _; rfl) : GD X B Γ S (.ListComp elt [⟨.Name x px, o, [tst], 0⟩] scope lp) (.list (fltD ds.length kp g)) :=
  (pe_lc (own := [(x, j)]) hc hN (pi_list ho) ok htg (fun s H C cl fp => pts_one (t := tfL X.K B Γ S ds j kp) ⟨fun pins s' σ H' Q Iv ⟨i, D, acc, d, h1, z⟩ => (hts i D acc d h1 s H C cl fp).run pins s' σ H' Q Iv z⟩) (te := teL X.K B Γ S ds j g) (fun s H C cl fp => ⟨fun pins s' σ H' Q Iv ⟨i, D, acc, d, h1, z⟩ => (hel i D acc d h1 s H C cl fp).run pins s' σ H' Q Iv z⟩) hfs).imp fun σ H Q h => lcF_go kp g hl h
/-- not e, e with effects -/
theorem ge_not {Pk : Bool → Sto → Prop} (h : GE X B Γ S e (fun r S' => ∃ k, r = .dat (.bool k) ∧ Pk k S') ex) : GE X B Γ S (.UnaryOp .Not e pos) (fun r S' => ∃ k, r = .dat (.bool (!k)) ∧ Pk k S') ex := (pe_not h).imp fun σ H Q ⟨H0, at0, kk, kx⟩ => ⟨H0, at0, fun r S' v H1 H' ⟨k, hr, hp⟩ at1 e1 hv => by
  subst hr
  have hv := hv.toDp
  cases hv
  exact ⟨k, rfl, kk _ S' _ H1 H' ⟨k, rfl, hp⟩ at1 e1 ⟨_, rfl, .bl _⟩⟩, kx⟩
/-- e == f, e with effects -/
theorem ge_eqE {Pd : PyData → Sto → Prop} (hu : X.A.units + 64 < cLine) (ha : GE X B Γ S a (fun r S' => ∃ d1, r = .dat d1 ∧ SeqAt.shaped d1 = true ∧ Pd d1 S') ex) (hb : ∀ S', GD X B Γ S' b d) (hd : SeqAt.shaped d = true) :
    GE X B Γ S (.Compare a [.Eq] [b] pos) (fun r S' => ∃ d1, r = .dat (.bool (PyData.eqv d1 d)) ∧ Pd d1 S') ex := by
  have hb' : PE X b (fun σ H Q => ∃ S', rd X.K B Γ S' (.dat d) σ H Q) := ⟨fun pins s σ H Q I ⟨S', z⟩ => (hb S').run pins s σ H Q I z⟩
  refine (pe_cmpR (op_eqD hu) ha hb' (nomark _)).imp fun σ H Q ⟨H0, at0, kk, kx⟩ => ⟨H0, at0, fun r S' v H1 H' ⟨d1, hr, s1, hp⟩ at1 e1 hv => ⟨S', H1, at1, fun w H2 H'' at2 e2 hw => ?_⟩, kx⟩
  subst hr
  exact ⟨d1, d, dp_ex (e2.trans at2.e2) _ _ hv.toDp, dp_ex at2.e2 _ _ hw.toDp, s1, hd, kk _ S' _ H2 H'' ⟨d1, rfl, hp⟩ at2 (e1.trans e2) ⟨_, rfl, .bl _⟩⟩
end
end GQ

set_option Elab.async false
set_option linter.all false
set_option maxRecDepth 100000
set_option maxHeartbeats 4000000
namespace My
open PySem PySem.Spec PyProof.Rows L2 G

def top (i : Nat) : Stmt := PySem.Challenge.pw_guardrows_k10_rows_under_guard.main.body.getD i (.Pass ⟨0, 0, 0, 0⟩)
abbrev s_guarded : Stmt := top 3
abbrev s_under_guard : Stmt := top 4
abbrev s_l_cell_at : Stmt := top 6
abbrev s_l_number_by : Stmt := top 7
abbrev s_l_step_by : Stmt := top 8
abbrev s_l_row_by : Stmt := top 9
abbrev s_l_guarded : Stmt := top 10
abbrev s_l_alike : Stmt := top 11
abbrev s_law : Stmt := top 12
structure Txt (K : PySem.W.Frag) (mg : Str → Option Value) where
  f_guarded : Addr
  d_guarded : FuncData
  F_guarded : Fun K "guarded" "guarded" s_guarded f_guarded d_guarded
  m_guarded : mg "guarded" = some (.ref f_guarded)
  b_guarded : Binds K d_guarded ["row"] []
  f_under_guard : Addr
  d_under_guard : FuncData
  F_under_guard : Fun K "under_guard" "under_guard" s_under_guard f_under_guard d_under_guard
  m_under_guard : mg "under_guard" = some (.ref f_under_guard)
  b_under_guard : Binds K d_under_guard ["row"] []
  f_l_cell_at : Addr
  d_l_cell_at : FuncData
  F_l_cell_at : Fun K "_law_cell_at" "_law_cell_at" s_l_cell_at f_l_cell_at d_l_cell_at
  m_l_cell_at : mg "_law_cell_at" = some (.ref f_l_cell_at)
  b_l_cell_at : Binds K d_l_cell_at ["_law_script", "_law_k"] []
  f_l_number_by : Addr
  d_l_number_by : FuncData
  F_l_number_by : Fun K "_law_number_by" "_law_number_by" s_l_number_by f_l_number_by d_l_number_by
  m_l_number_by : mg "_law_number_by" = some (.ref f_l_number_by)
  b_l_number_by : Binds K d_l_number_by ["_law_cell"] []
  f_l_step_by : Addr
  d_l_step_by : FuncData
  F_l_step_by : Fun K "_law_step_by" "_law_step_by" s_l_step_by f_l_step_by d_l_step_by
  m_l_step_by : mg "_law_step_by" = some (.ref f_l_step_by)
  b_l_step_by : Binds K d_l_step_by ["_law_cell", "_law_free"] []
  f_l_row_by : Addr
  d_l_row_by : FuncData
  F_l_row_by : Fun K "_law_row_by" "_law_row_by" s_l_row_by f_l_row_by d_l_row_by
  m_l_row_by : mg "_law_row_by" = some (.ref f_l_row_by)
  b_l_row_by : Binds K d_l_row_by ["_law_script", "_law_kind"] []
  f_l_guarded : Addr
  d_l_guarded : FuncData
  F_l_guarded : Fun K "_law_guarded" "_law_guarded" s_l_guarded f_l_guarded d_l_guarded
  m_l_guarded : mg "_law_guarded" = some (.ref f_l_guarded)
  b_l_guarded : Binds K d_l_guarded ["_law_row"] []
  f_l_alike : Addr
  d_l_alike : FuncData
  F_l_alike : Fun K "_law_alike" "_law_alike" s_l_alike f_l_alike d_l_alike
  m_l_alike : mg "_law_alike" = some (.ref f_l_alike)
  b_l_alike : Binds K d_l_alike ["_law_found", "_law_due"] []
  f_law : Addr
  d_law : FuncData
  F_law : Fun K "law" "law" s_law f_law d_law
  m_law : mg "law" = some (.ref f_law)
  b_law : Binds K d_law ["_law_script"] []
  a_BOX_WORDS : Addr
  m_BOX_WORDS : mg "BOX_WORDS" = some (.ref a_BOX_WORDS)
  c_BOX_WORDS : ∀ H0, Dp K H0 (.ref a_BOX_WORDS) (.tuple [(.str "load"), (.str "plus"), (.str "store")])
  r_BOX_WORDS : RelV (.ref a_BOX_WORDS) (.ref a_BOX_WORDS)
  a_GUARD_WORDS : Addr
  m_GUARD_WORDS : mg "GUARD_WORDS" = some (.ref a_GUARD_WORDS)
  c_GUARD_WORDS : ∀ H0, Dp K H0 (.ref a_GUARD_WORDS) (.tuple [(.str "take"), (.str "free")])
  r_GUARD_WORDS : RelV (.ref a_GUARD_WORDS) (.ref a_GUARD_WORDS)
  z_len : mg "len" = none
  z_isinstance : mg "isinstance" = none
  z_int : mg "int" = none
  z_bool : mg "bool" = none
  z_list : mg "list" = none
  z_tuple : mg "tuple" = none
  z_range : mg "range" = none
  z_any : mg "any" = none
  z_min : mg "min" = none
  z_max : mg "max" = none
  c_guarded : Addr
  P_guarded : Addr
  t_guarded : d_guarded.code = .ref c_guarded

def cell (ns : List Int) (k : Int) : Int := ns.getD k.toNat 0
theorem cell_at {ns : List Int} {k : Int} (h0 : 0 ≤ k) (h : decide (k < (ns.map PyData.int).length) = true) : atI (ns.map PyData.int) k = some (.int (cell ns k)) := by
  have h := of_decide_eq_true h
  rw [List.length_map] at h
  obtain ⟨j, rfl⟩ : ∃ j : Nat, k = (j : Int) := ⟨k.toNat, by omega⟩
  have hj : j < ns.length := by omega
  exact atI_nat (xs := ns.map PyData.int) (j := j) (v := .int (cell ns j)) (by
    unfold cell
    rw [List.getElem?_map, Int.toNat_natCast, List.getD_eq_getElem?_getD, List.getElem?_eq_getElem hj]; rfl)
theorem cell_no {ns : List Int} {k : Int} (h0 : 0 ≤ k) (h : decide (k < (ns.map PyData.int).length) = false) : cell ns k = 0 := by
  have h := of_decide_eq_false h
  rw [List.length_map] at h
  unfold cell
  rw [List.getD_eq_getElem?_getD, List.getElem?_eq_none_iff.mpr (by omega)]; rfl
def R_l_cell_at (ds : List PyData) (d : PyData) : Prop := ∃ (ns : List Int) (k : Int), ds = [.list (ns.map .int), .int k] ∧ 0 ≤ k ∧ d = .int (cell ns k)
/-- a number of which a product by a number of 200 bits is no matter -/
def Small (c : Int) : Prop := c.natAbs.log2 ≤ 1048590
def AllSmall (ns : List Int) : Prop := ∀ z ∈ ns, z.natAbs.log2 ≤ 1048576
theorem log2_le {a b : Nat} (h : a ≤ b) : a.log2 ≤ b.log2 := by
  by_cases ha : a = 0
  · subst ha; rw [show Nat.log2 0 = 0 from rfl]; exact Nat.zero_le _
  · exact (Nat.le_log2 (by omega)).mpr (Nat.le_trans (Nat.log2_self_le ha) h)
theorem bits_log {z : Int} (h : Builtin.Int.intBits z ≤ 1048576) : z.natAbs.log2 ≤ 1048576 := by
  unfold Builtin.Int.intBits at h
  split at h
  · rename_i e
    have e := eq_of_beq e
    subst e
    decide
  · omega
theorem cell_log {ns : List Int} (h : AllSmall ns) (k : Int) : (cell ns k).natAbs.log2 ≤ 1048576 := by
  unfold cell
  rw [List.getD_eq_getElem?_getD]
  cases e : ns[k.toNat]? with
  | none => exact Nat.zero_le _
  | some z => exact h z (List.mem_of_getElem? e)
theorem cell_small {ns : List Int} (h : AllSmall ns) (k : Int) : Small (cell ns k) := Nat.le_trans (cell_log h k) (by decide)
theorem log2_lt {a k : Nat} (h0 : 0 < k) (h : a < 2 ^ k) : a.log2 < k := by
  by_cases ha : a = 0
  · subst ha; exact h0
  · exact (Nat.log2_lt ha).mpr h
theorem mul_ok {i j : Int} (h : i.natAbs.log2 ≤ 1048590) (h2 : j.natAbs.log2 ≤ 1048590) : IntMulOk i j := by
  have b : ∀ x : Int, Builtin.Int.intBits x ≤ x.natAbs.log2 + 1 := fun x => by
    unfold Builtin.Int.intBits
    split <;> omega
  have h1 := b i
  have h2 := b j
  have e : bitsLine = 134217728 := by decide
  unfold IntMulOk
  intro z
  rw [Bool.and_eq_true] at z
  have z2 := z.2
  unfold Builtin.Int.intTooBig at z2
  have z3 := of_decide_eq_true z2
  rw [e] at z3
  omega
theorem small_of {i : Int} {k : Nat} (h0 : 0 < k) (hk : k ≤ 1048590) (h : i.natAbs < 2 ^ k) : i.natAbs.log2 ≤ 1048590 := by
  have := log2_lt h0 h
  omega
def P59 : Int := 100000000000000000000000000000000000000000000000000000000007
def P60 : Int := 1000000000000000000000000000000000000000000000000000000000000
def num (c : Int) : Int := if c % 3 = 1 then c * P59 % P60 * (1 - 2 * (c / 3 % 2)) else c / 3 % 41 - 20
def R_l_number_by (ds : List PyData) (d : PyData) : Prop := ∃ (c : Int), ds = [.int c] ∧ Small c ∧ d = .int (num c)


/-- the steps -/
inductive Stp where
  | load (b : Int) | plus (b : Int) | store (b : Int) | add (n : Int) | twice | take | free
  deriving DecidableEq
inductive Kd where
  | load | plus | store | add | twice | take | free
  deriving DecidableEq
def Kd.word : Kd → Str
  | .load => "load"
  | .plus => "plus"
  | .store => "store"
  | .add => "add"
  | .twice => "twice"
  | .take => "take"
  | .free => "free"
def Kd.isBox : Kd → Bool
  | .load => true
  | .plus => true
  | .store => true
  | _ => false
def Kd.isGuard : Kd → Bool
  | .take => true
  | .free => true
  | _ => false
theorem kd_box (k : Kd) : inD (.str k.word) [.str "load", .str "plus", .str "store"] = k.isBox := by cases k <;> decide +kernel
theorem kd_guard (k : Kd) : inD (.str k.word) [.str "take", .str "free"] = k.isGuard := by cases k <;> decide +kernel
theorem kd_bare (k : Kd) : inD (.str k.word) [.str "twice", .str "take", .str "free"] = decide (k = .twice ∨ k = .take ∨ k = .free) := by cases k <;> decide +kernel
theorem kd_eq (k l : Kd) : PyData.eqv (.str k.word) (.str l.word) = decide (k = l) := by cases k <;> cases l <;> decide +kernel
theorem kd_shaped (k : Kd) : SeqAt.shaped (.str k.word) = true := by cases k <;> exact shaped_str (by decide +kernel)
def Stp.kd : Stp → Kd
  | .load _ => .load
  | .plus _ => .plus
  | .store _ => .store
  | .add _ => .add
  | .twice => .twice
  | .take => .take
  | .free => .free
def Stp.args : Stp → List PyData
  | .load b => [.int b]
  | .plus b => [.int b]
  | .store b => [.int b]
  | .add n => [.int n]
  | _ => []
def Stp.toD (s : Stp) : PyData := .tuple (.str s.kd.word :: s.args)
/-- the box, the number (nought where there is none) -/
def Stp.b : Stp → Int
  | .load b => b
  | .plus b => b
  | .store b => b
  | .add n => n
  | _ => 0
theorem ixk {s : Stp} (h : s.kd.isBox = true) : atI (.str s.kd.word :: s.args) 1 = some (.int s.b) := by
  cases s <;> first | rfl | exact absurd h Bool.false_ne_true
theorem ixb {s : Stp} (h : inD (.str s.kd.word) [.str "load", .str "plus", .str "store"] = true) : atI (.str s.kd.word :: s.args) 1 = some (.int s.b) := ixk (by rw [← kd_box]; exact h)
theorem kd_store (k : Kd) : PyData.eqv (.str k.word) (.str "store") = decide (k = .store) := by cases k <;> decide +kernel
def apart (s t : Stp) : Bool :=
  if (s.kd.isGuard && t.kd.isGuard) = true then false
  else if (s.kd.isBox && (t.kd.isBox && decide (s.b = t.b))) = true then !decide (s.kd = .store) && !decide (t.kd = .store)
  else true
theorem apart_comm (s t : Stp) : apart s t = apart t s := by
  have e1 : (t.kd.isGuard && s.kd.isGuard) = (s.kd.isGuard && t.kd.isGuard) := Bool.and_comm _ _
  have e2 : (t.kd.isBox && (s.kd.isBox && decide (t.b = s.b))) = (s.kd.isBox && (t.kd.isBox && decide (s.b = t.b))) := by
    rw [show decide (t.b = s.b) = decide (s.b = t.b) from decide_eq_decide.mpr eq_comm]
    cases s.kd.isBox <;> cases t.kd.isBox <;> rfl
  unfold apart
  rw [e1, e2, Bool.and_comm (!decide (t.kd = .store))]
theorem seven (c : Int) : c % 7 = 0 ∨ c % 7 = 1 ∨ c % 7 = 2 ∨ c % 7 = 3 ∨ c % 7 = 4 ∨ c % 7 = 5 ∨ c % 7 = 6 := by omega
def pick (c b n : Int) : Stp := if c % 7 = 0 then .load b else if c % 7 = 1 then .plus b else if c % 7 = 2 then .store b else if c % 7 = 3 then .add n else if c % 7 = 4 then .twice else if c % 7 = 5 then .take else .free

def rowD (r : List Stp) : PyData := .list (r.map Stp.toD)
abbrev same (S : Sto) (d : PyData) : Sl → Sto → Prop := fun r S' => r = .dat d ∧ S' = S
abbrev noX : Value → Sto → Prop := fun _ _ => False

/-! ### steps as values; quiet calls -/
def Stp.argV : Stp → List V
  | .load b => [.int b]
  | .plus b => [.int b]
  | .store b => [.int b]
  | .add n => [.int n]
  | _ => []
def Stp.toV (s : Stp) : List V := .str s.kd.word :: s.argV
theorem dp_stp {K : PySem.W.Frag} {H : Hp} {v : V} {s : Stp} (h : Dp K H v s.toD) : ∃ a, v = .ref a ∧ SqT K H a s.toV := by
  unfold Stp.toD at h
  cases h with
  | @tup a xs _ hs ha =>
    refine ⟨a, rfl, ?_⟩
    cases ha with
    | cons h1 h2 =>
      cases h1
      unfold Stp.toV
      cases s <;> first
        | (cases h2 with | cons h3 h4 => cases h3; cases h4; exact hs)
        | (cases h2; exact hs)
theorem tv0 (s : Stp) : atI s.toV 0 = some (.str s.kd.word) := atI_nat (j := 0) rfl
theorem tv1 {s : Stp} (h : s.kd.isBox = true) : atI s.toV 1 = some (.int s.b) := by
  cases s <;> first | exact atI_nat (j := 1) rfl | exact absurd h Bool.false_ne_true
theorem inV_guard (k : Kd) : inV (.str k.word) [.str "take", .str "free"] = k.isGuard := by cases k <;> decide +kernel
theorem inV_box (k : Kd) : inV (.str k.word) [.str "load", .str "plus", .str "store"] = k.isBox := by cases k <;> decide +kernel
theorem neW_store (k : Kd) : (k.word != "store") = !decide (k = .store) := by cases k <;> decide +kernel


section
variable {K : PySem.W.Frag} {mg : Str → Option Value}
open GQ
theorem guardK (T : Txt K mg) : SqT K (fun _ => none) T.a_GUARD_WORDS [.str "take", .str "free"] := by
  obtain ⟨a, e, h⟩ := wordsK (ws := ["take", "free"]) (T.c_GUARD_WORDS (fun _ => none))
  cases e
  exact h
theorem boxK (T : Txt K mg) : SqT K (fun _ => none) T.a_BOX_WORDS [.str "load", .str "plus", .str "store"] := by
  obtain ⟨a, e, h⟩ := wordsK (ws := ["load", "plus", "store"]) (T.c_BOX_WORDS (fun _ => none))
  cases e
  exact h
end


/-! ### which rows are guarded -/
def hasK (k : Kd) (ks : List Kd) : Bool := ks.any fun x => decide (x = k)
def cntK (k : Kd) (ks : List Kd) : Nat := ks.countP fun x => decide (x = k)
def fidx (k : Kd) : List Kd → Nat
  | [] => 0
  | x :: r => if x = k then 0 else fidx k r + 1
def grdK (ks : List Kd) : Bool :=
  if (!hasK .take ks && !hasK .free ks) = true then !ks.any Kd.isBox
  else if (!decide (cntK .take ks = 1) || !decide (cntK .free ks = 1)) = true then false
  else if fidx .free ks < fidx .take ks then false
  else !(ks.take (fidx .take ks) ++ ks.drop (fidx .free ks)).any Kd.isBox
/-- the law's way: a stage, whether a box was touched elsewhere -/
def lgK : Nat → Bool → List Kd → Bool
  | st, to, [] => !to && !decide (st = 1)
  | st, to, k :: r => if k = .take then (if st = 0 then lgK 1 to r else false) else if k = .free then (if st = 1 then lgK 2 to r else false) else lgK st (to || (k.isBox && !decide (st = 1))) r
theorem fidx_at {k : Kd} : ∀ {ks : List Kd}, hasK k ks = true → ks[fidx k ks]? = some k
  | [], h => nomatch h
  | x :: r, h => by
    unfold fidx
    by_cases hx : x = k
    · rw [if_pos hx, hx]; rfl
    · rw [if_neg hx]
      unfold hasK at h
      rw [List.any_cons, decide_eq_false hx, Bool.false_or] at h
      exact fidx_at h
theorem fidx_no {k z : Kd} : ∀ {ks : List Kd} {m : Nat}, m < fidx k ks → ks[m]? = some z → z ≠ k
  | [], m, h, _ => by unfold fidx at h; omega
  | x :: r, m, h, hz => by
    by_cases hx : x = k
    · rw [fidx, if_pos hx] at h; omega
    · rw [fidx, if_neg hx] at h
      match m, h, hz with
      | 0, _, hz => cases hz; exact hx
      | m + 1, h, hz => exact fidx_no (ks := r) (m := m) (Nat.lt_of_succ_lt_succ h) hz
def plainK (a : List Kd) : Prop := ∀ k ∈ a, k.isGuard = false
theorem plain_no {a : List Kd} (h : plainK a) {k : Kd} (hk : k.isGuard = true) : hasK k a = false ∧ cntK k a = 0 := by
  have q : ∀ x ∈ a, decide (x = k) = false := fun x hx => decide_eq_false fun e => by have := h x hx; rw [e, hk] at this; cases this
  refine ⟨List.any_eq_false.mpr fun x hx => by rw [q x hx]; decide, List.countP_eq_zero.mpr fun x hx => by rw [q x hx]; decide⟩
theorem fidx_app {k : Kd} : ∀ {a : List Kd} (b : List Kd), hasK k a = false → fidx k (a ++ b) = a.length + fidx k b
  | [], b, _ => by rw [List.nil_append, List.length_nil, Nat.zero_add]
  | x :: r, b, h => by
    unfold hasK at h
    rw [List.any_cons, Bool.or_eq_false_iff] at h
    have hx : x ≠ k := of_decide_eq_false h.1
    rw [List.cons_append, fidx, if_neg hx, fidx_app b h.2, List.length_cons]
    omega
theorem split_k : ∀ ks : List Kd, plainK ks ∨ ∃ a g b, ks = a ++ g :: b ∧ plainK a ∧ (g = .take ∨ g = .free)
  | [] => .inl fun _ h => nomatch h
  | x :: r => by
    by_cases hx : x.isGuard = true
    · refine .inr ⟨[], x, r, rfl, (fun _ h => nomatch h), ?_⟩
      cases x <;> first | exact .inl rfl | exact .inr rfl | exact absurd hx Bool.false_ne_true
    · have hx : x.isGuard = false := by simpa using hx
      rcases split_k r with h | ⟨a, g, b, rfl, ha, hg⟩
      · exact .inl fun k hk => (List.mem_cons.mp hk).elim (fun e => by rw [e]; exact hx) (h k)
      · exact .inr ⟨x :: a, g, b, rfl, fun k hk => (List.mem_cons.mp hk).elim (fun e => by rw [e]; exact hx) (ha k), hg⟩
theorem lg_plain {st : Nat} : ∀ {a : List Kd} {to : Bool} (b : List Kd), plainK a → lgK st to (a ++ b) = lgK st (to || (!decide (st = 1) && a.any Kd.isBox)) b
  | [], to, b, _ => by rw [List.nil_append, List.any_nil, Bool.and_false, Bool.or_false]
  | x :: r, to, b, h => by
    have hx := h x List.mem_cons_self
    have n1 : x ≠ .take := fun e => by rw [e] at hx; cases hx
    have n2 : x ≠ .free := fun e => by rw [e] at hx; cases hx
    rw [List.cons_append, lgK, if_neg n1, if_neg n2, lg_plain b fun k hk => h k (List.mem_cons_of_mem _ hk), List.any_cons]
    congr 1
    cases to <;> cases decide (st = 1) <;> cases x.isBox <;> simp
theorem lg_two {to : Bool} {b : List Kd} (h : ¬ plainK b) : lgK 2 to b = false := by
  rcases split_k b with q | ⟨a, g, c, rfl, ha, hg⟩
  · exact absurd q h
  · rw [lg_plain _ ha]
    rcases hg with rfl | rfl <;> rfl
theorem lg_two_plain {to : Bool} {b : List Kd} (h : plainK b) : lgK 2 to b = !(to || b.any Kd.isBox) := by
  have := lg_plain (st := 2) (to := to) [] h
  rw [List.append_nil] at this
  rw [this]
  show (!(to || (!decide (2 = 1) && b.any Kd.isBox)) && true) = _
  rw [Bool.and_true]; rfl
theorem not_plain_cnt {b : List Kd} (h : ¬ plainK b) : 1 ≤ cntK .take b ∨ 1 ≤ cntK .free b := by
  rcases split_k b with q | ⟨a, g, c, rfl, ha, hg⟩
  · exact absurd q h
  · unfold cntK
    rcases hg with rfl | rfl
    · left; rw [List.countP_append, List.countP_cons]; simp; omega
    · right; rw [List.countP_append, List.countP_cons]; simp; omega
theorem cnt_app (k : Kd) (a b : List Kd) : cntK k (a ++ b) = cntK k a + cntK k b := List.countP_append
theorem cnt_cons (k x : Kd) (b : List Kd) : cntK k (x :: b) = cntK k b + if x = k then 1 else 0 := by
  unfold cntK
  rw [List.countP_cons]
  by_cases h : x = k <;> simp [h]
theorem has_app (k : Kd) (a b : List Kd) : hasK k (a ++ b) = (hasK k a || hasK k b) := List.any_append
theorem has_cons (k x : Kd) (b : List Kd) : hasK k (x :: b) = (decide (x = k) || hasK k b) := List.any_cons
theorem grd_bad {ks : List Kd} (h : cntK .take ks ≠ 1 ∨ cntK .free ks ≠ 1) (h2 : hasK .take ks = true ∨ hasK .free ks = true) : grdK ks = false := by
  unfold grdK
  rw [if_neg (by rcases h2 with z | z <;> rw [z] <;> simp), if_pos (by rcases h with z | z <;> rw [decide_eq_false z] <;> simp)]
theorem grd_eq (ks : List Kd) : grdK ks = lgK 0 false ks := by
  rcases split_k ks with h | ⟨a, g, b, rfl, ha, hg⟩
  · have h1 := plain_no h (k := .take) rfl
    have h2 := plain_no h (k := .free) rfl
    have := lg_plain (st := 0) (to := false) [] h
    rw [List.append_nil] at this
    rw [this]
    unfold grdK
    rw [if_pos (by rw [h1.1, h2.1]; rfl)]
    show _ = (!(false || (!decide (0 = 1) && ks.any Kd.isBox)) && true)
    rw [Bool.and_true]; rfl
  · have a1 := plain_no ha (k := .take) rfl
    have a2 := plain_no ha (k := .free) rfl
    rw [lg_plain _ ha]
    rcases hg with rfl | rfl
    rotate_left 1
    · -- a free first
      have ht : hasK .free (a ++ .free :: b) = true := by rw [has_app, has_cons]; simp
      show _ = false
      by_cases hc : cntK .take (a ++ .free :: b) ≠ 1 ∨ cntK .free (a ++ .free :: b) ≠ 1
      · exact grd_bad hc (.inr ht)
      · unfold grdK
        rw [if_neg (by rw [ht]; simp)]
        split
        · rfl
        rw [if_pos]
        rw [fidx_app _ a2.1, fidx_app _ a1.1]
        show a.length + 0 < a.length + (fidx .take b + 1)
        omega
    · have ht : hasK .take (a ++ .take :: b) = true := by rw [has_app, has_cons]; simp
      show _ = lgK 1 _ b
      rcases split_k b with hb | ⟨c, g, d, rfl, hc, hg⟩
      · have b2 := plain_no hb (k := .free) rfl
        have := lg_plain (st := 1) (to := false || (!decide (0 = 1) && a.any Kd.isBox)) [] hb
        rw [List.append_nil] at this
        rw [this, grd_bad (.inr (by rw [cnt_app, cnt_cons, a2.2, b2.2]; decide)) (.inl ht)]
        simp [lgK]
      · rw [lg_plain _ hc]
        have c1 := plain_no hc (k := .take) rfl
        have c2 := plain_no hc (k := .free) rfl
        rcases hg with rfl | rfl
        · show _ = false
          refine grd_bad (.inl ?_) (.inl ht)
          rw [cnt_app, cnt_cons, cnt_app, cnt_cons]
          simp
          omega
        · show _ = lgK 2 _ d
          have n1 : cntK .take (a ++ .take :: (c ++ .free :: d)) = 1 + cntK .take d := by
            rw [cnt_app, cnt_cons, cnt_app, cnt_cons, a1.2, c1.2]; simp; omega
          have n2 : cntK .free (a ++ .take :: (c ++ .free :: d)) = 1 + cntK .free d := by
            rw [cnt_app, cnt_cons, cnt_app, cnt_cons, a2.2, c2.2]; simp; omega
          by_cases hd : plainK d
          · have d1 := plain_no hd (k := .take) rfl
            have d2 := plain_no hd (k := .free) rfl
            have f1 : fidx .take (a ++ .take :: (c ++ .free :: d)) = a.length := by rw [fidx_app _ a1.1, fidx, if_pos rfl]; rfl
            have f2 : fidx .free (a ++ .take :: (c ++ .free :: d)) = a.length + 1 + c.length := by
              rw [fidx_app _ a2.1, fidx, if_neg (by decide), fidx_app _ c2.1, fidx, if_pos rfl]
              omega
            unfold grdK
            rw [if_neg (by rw [ht]; simp), if_neg (by rw [n1, n2, d1.2, d2.2]; decide), if_neg (by rw [f1, f2]; omega), f1, f2, lg_two_plain hd]
            have e1 : (a ++ .take :: (c ++ .free :: d)).take a.length = a := by simp
            have e2 : (a ++ .take :: (c ++ .free :: d)).drop (a.length + 1 + c.length) = .free :: d := by
              rw [show a ++ Kd.take :: (c ++ .free :: d) = (a ++ .take :: c) ++ .free :: d by simp]
              rw [List.drop_append_of_le_length (by simp; omega)]
              rw [List.drop_of_length_le (by simp; omega), List.nil_append]
            rw [e1, e2, List.any_append, List.any_cons]
            simp
            rfl
          · rw [lg_two hd]
            refine grd_bad ?_ (.inl ht)
            rcases not_plain_cnt hd with z | z
            · left; rw [n1]; omega
            · right; rw [n2]; omega


/-! ### the words of a row -/
def wD (k : Kd) : PyData := .str k.word
theorem wD_flat (ks : List Kd) : (ks.map wD).all flatD = true := by
  rw [List.all_eq_true]
  intro d hd
  obtain ⟨k, _, rfl⟩ := List.mem_map.mp hd
  rfl
theorem inD_kd (k : Kd) (ks : List Kd) : inD (.str k.word) (ks.map wD) = hasK k ks := by
  unfold inD hasK
  rw [List.any_map]
  refine congrArg (List.any ks) (funext fun x => ?_)
  exact kd_eq x k
theorem cntD_kd (k : Kd) (ks : List Kd) : GQ.cntD (.str k.word) (ks.map wD) = cntK k ks := by
  unfold GQ.cntD cntK
  rw [List.countP_map]
  refine congrFun (congrArg _ (funext fun x => ?_)) _
  exact kd_eq x k
theorem any_kd (ks : List Kd) : ((List.range ks.length).any fun i => (ks.getD i .twice).isBox) = ks.any Kd.isBox := by
  rw [Bool.eq_iff_iff, List.any_eq_true, List.any_eq_true]
  constructor
  · rintro ⟨i, hi, h⟩
    have hi := List.mem_range.mp hi
    rw [List.getD_eq_getElem?_getD, List.getElem?_eq_getElem hi] at h
    exact ⟨_, List.getElem_mem hi, h⟩
  · rintro ⟨k, hk, h⟩
    obtain ⟨i, hi, rfl⟩ := List.getElem_of_mem hk
    refine ⟨i, List.mem_range.mpr hi, ?_⟩
    rw [List.getD_eq_getElem?_getD, List.getElem?_eq_getElem hi]
    exact h
theorem words_map (row : List Stp) : ((List.range (row.map Stp.toD).length).map fun i => PyData.str (row.getD i .twice).kd.word) = (row.map Stp.kd).map wD := by
  refine List.ext_getElem? fun i => ?_
  rw [List.length_map, List.getElem?_map, List.getElem?_map, List.getElem?_map]
  by_cases hi : i < row.length
  · rw [List.getElem?_range hi, List.getElem?_eq_getElem hi]
    show some (PyData.str (row.getD i .twice).kd.word) = some (.str _)
    rw [List.getD_eq_getElem?_getD, List.getElem?_eq_getElem hi]; rfl
  · rw [List.getElem?_eq_none_iff.mpr (by rw [List.length_range]; omega), List.getElem?_eq_none_iff.mpr (by omega)]; rfl
theorem row_at (row : List Stp) {i : Nat} {d : PyData} (h : (row.map Stp.toD)[i]? = some d) : d = (row.getD i .twice).toD := by
  rw [List.getElem?_map] at h
  cases q : row[i]? with
  | none => rw [q] at h; cases h
  | some s => rw [q] at h; cases h; rw [List.getD_eq_getElem?_getD, q]; rfl
/-- the slices of a list -/
def cutL {α : Type} (xs : List α) (lo hi : Option Int) : List α := (xs.drop (HT.sIx xs.length 0 lo)).take (HT.sIx xs.length xs.length hi - HT.sIx xs.length 0 lo)
theorem cutL_map {α : Type} (f : α → PyData) (xs : List α) (lo hi : Option Int) : G.cutD (xs.map f) lo hi = (cutL xs lo hi).map f := by
  unfold G.cutD cutL
  rw [List.length_map, List.map_take, List.map_drop]
theorem cutL_lo {α : Type} {xs : List α} {i : Nat} (h : i ≤ xs.length) : cutL xs none (some (i : Int)) = xs.take i := by
  have e1 : HT.sIx xs.length 0 none = 0 := rfl
  have e2 : HT.sIx xs.length xs.length (some (i : Int)) = i := by
    unfold HT.sIx
    simp only
    rw [if_neg (by omega), Int.toNat_natCast]
    omega
  unfold cutL
  rw [e1, e2]; rfl
theorem cutL_hi {α : Type} {xs : List α} {i : Nat} (h : i ≤ xs.length) : cutL xs (some (i : Int)) none = xs.drop i := by
  have e1 : HT.sIx xs.length xs.length none = xs.length := rfl
  have e2 : HT.sIx xs.length 0 (some (i : Int)) = i := by
    unfold HT.sIx
    simp only
    rw [if_neg (by omega), Int.toNat_natCast]
    omega
  unfold cutL
  rw [e1, e2, List.take_of_length_le (by rw [List.length_drop]; exact Nat.le_refl _)]
theorem cutL_len {α : Type} (xs : List α) (lo hi : Option Int) : (cutL xs lo hi).length ≤ xs.length := by
  unfold cutL
  rw [List.length_take, List.length_drop]
  omega
theorem fidx_lt {k : Kd} {ks : List Kd} (h : hasK k ks = true) : fidx k ks < ks.length := (List.getElem?_eq_some_iff.mp (fidx_at h)).1
theorem cnt_has {k : Kd} {ks : List Kd} (h : cntK k ks = 1) : hasK k ks = true := by
  cases q : hasK k ks with
  | true => rfl
  | false =>
    have : cntK k ks = 0 := by
      unfold cntK
      rw [List.countP_eq_zero]
      intro x hx
      have := List.any_eq_false.mp q x hx
      simpa using this
    omega

theorem kd_refl (k : Kd) : PyData.eqv (.str k.word) (.str k.word) = true := by rw [kd_eq]; exact decide_eq_true rfl
theorem idx_no {k : Kd} {ks : List Kd} {m : Nat} {z : PyData} (hm : m < fidx k ks) (hz : (ks.map wD)[m]? = some z) : PyData.eqv z (.str k.word) = false := by
  rw [List.getElem?_map] at hz
  cases q : ks[m]? with
  | none => rw [q] at hz; cases hz
  | some x =>
    rw [q] at hz
    cases hz
    show PyData.eqv (.str x.word) (.str k.word) = false
    rw [kd_eq]
    exact decide_eq_false (fidx_no hm q)

theorem elt_word {X : Cx} (T : Txt X.K X.mg) {B : Bs} {Γ : Gam} {S : Sto} {sc : Scope} {p1 p2 p3 : Pos} {ks : List Kd} {Tb : Addr} {t : Nat} {ps : Array Value} (hk : sc.kind = .function) (h1 : sc.names.lookup ("word" : Str) = some .local) (h3 : sc.names.lookup ("BOX_WORDS" : Str) = some .globalImplicit)
    (ht : S[t]? = some (Tb, .ho (.tbl ps))) : GQ.EltP X B Γ S sc "word" (.Compare (.Name "word" p1) [.In] [.Name "BOX_WORDS" p2] p3) Tb (ks.map wD) (fun i => (ks.getD i .twice).isBox) := by
  intro pins σ H H0 s xs I at0 hd
  have hT : H Tb = some (.tbl ps) := (at0.sto.at_ Tb _ (List.mem_of_getElem? ht)).2
  refine ⟨fun cenv A' E' i x u s2 m2 hsc hg hcl hdep hi r hn hm kp => ?_⟩
  have C := GQ.elt_qc (m2 := m2) I hT (by rw [hsc]; exact hk) hg
  have kd : ∀ n, cenv.kindOf n = sc.names.lookup n := fun n => by show cenv.scope.names.lookup n = _; rw [hsc]
  obtain ⟨d, hd1, hd2⟩ := dps_getV hd hi
  rw [List.getElem?_map] at hd1
  cases hbi : ks[i]? with
  | none => rw [hbi] at hd1; cases hd1
  | some k =>
    rw [hbi] at hd1
    cases hd1
    cases hd2
    have go : GQ.QV X.prog X.w A' (GQ.EltΦ s Tb cenv m2) cenv (.Compare (.Name "word" p1) [.In] [.Name "BOX_WORDS" p2] p3) (.bl (inV (.str k.word) [.str "load", .str "plus", .str "store"])) :=
      GQ.qv_cmp C.up (GQ.oq_in rfl rfl (C.tup (boxK T))) (GQ.qv_loc C.kind ((kd _).trans h1) fun h q => ⟨m2, u, q.2, hm, r⟩) (GQ.qv_glob C ((kd _).trans h3) T.m_BOX_WORDS T.r_BOX_WORDS) rfl
    refine thn (go E' s2 ⟨kp, hn⟩) fun y s3 ⟨ry, kk⟩ => ⟨?_, kk⟩
    show y = .bool ((ks.getD i .twice).isBox)
    rw [List.getD_eq_getElem?_getD, hbi, ← show inV (.str k.word) [.str "load", .str "plus", .str "store"] = (some k |>.getD Kd.twice).isBox from inV_box k]
    exact ry
section
variable {K : PySem.W.Frag} {mg : Str → Option Value}
def R_guarded (T : Txt K mg) : Rq := fun as S PR PX => ∃ (row : List Stp) (ps : Array Value), as = [.dat (rowD row)] ∧ row.length ≤ 1000 ∧ TriplesOk ps.toList ∧ S = [(T.P_guarded, .ho (.tbl ps))] ∧
  PR = (fun r S' => r = .dat (.bool (grdK (row.map Stp.kd))) ∧ ∃ ps', TriplesOk ps'.toList ∧ S' = [(T.P_guarded, .ho (.tbl ps'))]) ∧ PX = noX
end
def plainR (row : List Stp) : List Stp := row.filter fun s => !s.kd.isGuard
def putR (row : List Stp) : List Stp := .take :: (plainR row ++ [.free])
def R_under_guard (ds : List PyData) (d : PyData) : Prop := ∃ row : List Stp, ds = [rowD row] ∧ row.length ≤ 1000 ∧ d = rowD (putR row)
theorem flt_plain (row : List Stp) : ∀ n, n ≤ row.length → fltD n (fun i => !(row.getD i .twice).kd.isGuard) (fun i => (row.getD i .twice).toD) = (plainR (row.take n)).map Stp.toD
  | 0, _ => by rw [List.take_zero]; rfl
  | n + 1, h => by
    have hn : n < row.length := h
    have ih := flt_plain row n (by omega)
    have e : row.take (n + 1) = row.take n ++ [row.getD n .twice] := by
      rw [List.take_succ, List.getElem?_eq_getElem hn, List.getD_eq_getElem?_getD, List.getElem?_eq_getElem hn]; rfl
    rw [e]
    unfold plainR at ih ⊢
    rw [List.filter_append, List.map_append, ← ih]
    cases hk : (row.getD n .twice).kd.isGuard with
    | true =>
      rw [fltD_no (by show (!(row.getD n .twice).kd.isGuard) = false; rw [hk]; rfl), List.filter_cons_of_neg (by rw [hk]; decide)]
      exact (List.append_nil _).symm
    | false =>
      rw [fltD_yes (by show (!(row.getD n .twice).kd.isGuard) = true; rw [hk]; rfl), List.filter_cons_of_pos (by rw [hk]; decide)]
      rfl
theorem plainR_len (row : List Stp) : (plainR row).length ≤ row.length := List.length_filter_le _ _

section
variable {P : Program} {w : World} {K : PySem.W.Frag} {mg : Str → Option Value} {base : Heap}
theorem sc_guarded : FnScope ["row", "words", "taken", "freed", "unguarded", "step", "word"] ["row"] (defScope s_guarded) := ⟨rfl, rfl, rfl, by decide +kernel, rfl, by decide +kernel, by decide +kernel⟩
theorem ok_guarded (T : Txt K mg) (TB : GxR.TabB base mg T.c_guarded T.P_guarded) : FnOk P w K mg base CX0 5 T.f_guarded T.d_guarded ["row"] (SpM K (R_guarded T)) := by
  refine GQ.mut_def0T T.F_guarded T.t_guarded sc_guarded (fun as S PR PX h => ?_) (fun A out s H E B as S PR PX hr h => ?_)
  · obtain ⟨row, ps, rfl, hl, tr, rfl, rfl, rfl⟩ := h; rfl
  · obtain ⟨row, ps, rfl, hl, tr, rfl, rfl, rfl⟩ := h
    refine gss_then ?_
    refine gs_setLcL (j := 5) 1 (fun i : Nat => PyData.str (row.getD i .twice).kd.word) rfl rfl (sw_true rfl rfl rfl (by decide +kernel)) rfl sc_guarded.nd (gd_var (pv 0) rfl) (by rw [List.length_map]; omega) (blkOk_by (own := [("step", 5)]) (N := ["row", "words", "taken", "freed", "unguarded", "step", "word"]) (sc := defScope s_guarded) (by decide +kernel)) (fun _ _ _ _ _ => pg_name (i := 5) sc_guarded.nd rfl (Or.inl rfl)) (fun i D acc d hd _ _ _ _ _ => by
      have e := row_at row hd
      subst e
      exact gd_ixT (gd_var (pv 5) rfl) gd_int ixh) (q := ?_)
    rw [words_map]
    refine gss_at (Γ2 := [.dat (rowD row), .dat (.list ((row.map Stp.kd).map wD)), .un, .un, .un, .un, .un]) (S2 := [(T.P_guarded, .ho (.tbl ps))]) rfl rfl ?_
    refine gss_if (gt_of (gw_and (gt_cast (GQ.gt_notInL rfl gd_str (gd_var (pv 1) rfl) rfl (wD_flat _)) (congrArg (! ·) (inD_kd .take (row.map Stp.kd)))) fun _ => gw_and1 (gt_cast (GQ.gt_notInL rfl gd_str (gd_var (pv 1) rfl) rfl (wD_flat _)) (congrArg (! ·) (inD_kd .free (row.map Stp.kd)))))) (fun h1 => ?_) (fun h1 => gss_nil ?_)
    · refine gss_one (gs_retE (ge_mono (GQ.ge_not (Pk := fun k S' => k = (row.map Stp.kd).any Kd.isBox ∧ ∃ ps', TriplesOk ps'.toList ∧ S' = [(T.P_guarded, .ho (.tbl ps'))]) (ge_mono (GQ.ge_any (t := 0) (hr.mono (Nat.le_refl _)) rfl T.z_any (by decide +kernel) TB rfl (GQ.genS_by (osc := defScope s_guarded) (by decide +kernel) fun y hy => cell_has hy) (pv 1) rfl (.inl rfl) rfl tr (elt_word (X := (cxOf CX0 P w K mg base _ _ _ _ _ A out s H E).nox) T (t := 0) (ks := row.map Stp.kd) rfl rfl rfl rfl) (fun _ => rfl)) (fun r S' h => ?_) fun _ _ h => h)) (fun r S' h => ?_) fun _ _ h => h))
      · obtain ⟨rfl, ps', tr', rfl⟩ := h
        exact ⟨_, by rw [List.length_map, any_kd], rfl, ps', tr', rfl⟩
      · obtain ⟨k, rfl, rfl, ps', tr', rfl⟩ := h
        exact ⟨by unfold grdK; rw [if_pos h1], ps', tr', rfl⟩
    refine gss_if (gt_of (gw_or (gt_ne hr.units (gd_cast (GQ.gl_cnt (.dat (gd_var (pv 1) rfl)) gd_str rfl (wD_flat _)) (congrArg (fun n : Nat => PyData.int n) (cntD_kd .take (row.map Stp.kd)))) gd_int (shaped_int _) (shaped_int _)) fun _ => gw_or1 (gt_ne hr.units (gd_cast (GQ.gl_cnt (.dat (gd_var (pv 1) rfl)) gd_str rfl (wD_flat _)) (congrArg (fun n : Nat => PyData.int n) (cntD_kd .free (row.map Stp.kd)))) gd_int (shaped_int _) (shaped_int _)))) (fun h2 => ?_) (fun h2 => gss_nil ?_)
    · refine gss_ret (r := .dat _) gd_bl ⟨?_, ps, tr, rfl⟩
      rw [eqv_int, eqv_int, Bool.or_eq_true] at h2
      rw [show grdK (row.map Stp.kd) = false from by unfold grdK; rw [if_neg (by rw [h1]; decide), if_pos (by rw [Bool.or_eq_true]; refine h2.imp (fun z => ?_) (fun z => ?_) <;> (simp at z ⊢; omega))]]
    rw [eqv_int, eqv_int, Bool.or_eq_false_iff] at h2
    have n1 : cntK .take (row.map Stp.kd) = 1 := by have := h2.1; simp at this; omega
    have n2 : cntK .free (row.map Stp.kd) = 1 := by have := h2.2; simp at this; omega
    have ht := cnt_has n1
    have hf := cnt_has n2
    have l1 := fidx_lt ht
    have l2 := fidx_lt hf
    refine gss_set (i := 2) sc_guarded.nd rfl (by first | exact .inl rfl | exact .inr rfl) (r := .dat _) (GQ.gl_idx (i := fidx .take (row.map Stp.kd)) (.dat (gd_var (pv 1) rfl)) gd_str rfl (wD_flat _) (by rw [List.getElem?_map, fidx_at ht]; rfl) (kd_refl _) (fun m z' hm hz' => idx_no hm hz')) ?_
    refine gss_set (i := 3) sc_guarded.nd rfl (by first | exact .inl rfl | exact .inr rfl) (r := .dat _) (GQ.gl_idx (i := fidx .free (row.map Stp.kd)) (.dat (gd_var (pv 1) rfl)) gd_str rfl (wD_flat _) (by rw [List.getElem?_map, fidx_at hf]; rfl) (kd_refl _) (fun m z' hm hz' => idx_no hm hz')) ?_
    refine gss_if (gt_lt (gd_var (pv 3) rfl) (gd_var (pv 2) rfl)) (fun h3 => ?_) (fun h3 => gss_nil ?_)
    · refine gss_ret (r := .dat _) gd_bl ⟨?_, ps, tr, rfl⟩
      have h3 := of_decide_eq_true h3
      rw [show grdK (row.map Stp.kd) = false from by unfold grdK; rw [if_neg (by rw [h1]; decide), if_neg (by rw [n1, n2]; decide), if_pos (by omega)]]
    have h3 := of_decide_eq_false h3
    refine gss_set (i := 4) sc_guarded.nd rfl (by first | exact .inl rfl | exact .inr rfl) (r := .dat _) (gd_cat (gd_slice (gd_var (pv 1) rfl) go_none (go_some (gd_var (pv 2) rfl))) (gd_slice (gd_var (pv 1) rfl) (go_some (gd_var (pv 3) rfl)) go_none) ?_) ?_
    · rw [cutL_map, cutL_map, List.length_map, List.length_map]
      have q1 := cutL_len (row.map Stp.kd) none (some ((fidx .take (row.map Stp.kd) : Nat) : Int))
      have q2 := cutL_len (row.map Stp.kd) (some ((fidx .free (row.map Stp.kd) : Nat) : Int)) none
      rw [List.length_map] at q1 q2
      omega
    rw [cutL_map, cutL_map, ← List.map_append]
    refine gss_one (gs_retE (ge_mono (GQ.ge_not (Pk := fun k S' => k = (cutL (row.map Stp.kd) none (some ((fidx .take (row.map Stp.kd) : Nat) : Int)) ++ cutL (row.map Stp.kd) (some ((fidx .free (row.map Stp.kd) : Nat) : Int)) none).any Kd.isBox ∧ ∃ ps', TriplesOk ps'.toList ∧ S' = [(T.P_guarded, .ho (.tbl ps'))]) (ge_mono (GQ.ge_any (t := 0) (hr.mono (Nat.le_refl _)) rfl T.z_any (by decide +kernel) TB rfl (GQ.genS_by (osc := defScope s_guarded) (by decide +kernel) fun y hy => cell_has hy) (pv 4) rfl (.inl rfl) rfl tr (elt_word (X := (cxOf CX0 P w K mg base _ _ _ _ _ A out s H E).nox) T (t := 0) (ks := cutL (row.map Stp.kd) none (some ((fidx .take (row.map Stp.kd) : Nat) : Int)) ++ cutL (row.map Stp.kd) (some ((fidx .free (row.map Stp.kd) : Nat) : Int)) none) rfl rfl rfl rfl) (fun _ => rfl)) (fun r S' h => ?_) fun _ _ h => h)) (fun r S' h => ?_) fun _ _ h => h))
    · obtain ⟨rfl, ps', tr', rfl⟩ := h
      exact ⟨_, by rw [List.length_map, any_kd], rfl, ps', tr', rfl⟩
    · obtain ⟨k, rfl, rfl, ps', tr', rfl⟩ := h
      exact ⟨by unfold grdK; rw [if_neg (by rw [h1]; decide), if_neg (by rw [n1, n2]; decide), if_neg (by omega), cutL_lo (by omega), cutL_hi (by omega)], ps', tr', rfl⟩
theorem sc_under_guard : FnScope ["row", "kept", "step"] ["row"] (defScope s_under_guard) := ⟨rfl, rfl, rfl, by decide +kernel, rfl, by decide +kernel, by decide +kernel⟩
theorem ok_under_guard (T : Txt K mg) : FnOk P w K mg base CX0 2 T.f_under_guard T.d_under_guard ["row"] (SpD K R_under_guard) := by
  refine pure_def T.F_under_guard sc_under_guard (fun ds d h => ?_) (fun cdv A outer s H E B ds d hr h => ?_)
  · obtain ⟨row, rfl, hl, rfl⟩ := h; rfl
  · obtain ⟨row, rfl, hl, rfl⟩ := h
    refine gss_then ?_
    refine gs_setLcF (j := 2) 1 (fun i => !(row.getD i .twice).kd.isGuard) (fun i => (row.getD i .twice).toD) rfl rfl (sw_true rfl rfl rfl (by decide +kernel)) rfl sc_under_guard.nd (gd_var (pv 0) rfl) (by rw [List.length_map]; omega) (blkOk_by (own := [("step", 2)]) (N := ["row", "kept", "step"]) (sc := defScope s_under_guard) (by decide +kernel)) (fun _ _ _ _ _ => pg_name (i := 2) sc_under_guard.nd rfl (Or.inl rfl)) (fun i D acc d hd _ _ _ _ _ => by
      have e := row_at row hd
      subst e
      exact gt_cast (gt_notIn rfl (gd_ixT (gd_var (pv 2) rfl) gd_int ixh) (gd_con (pe_glob rfl T.m_GUARD_WORDS T.r_GUARD_WORDS) T.c_GUARD_WORDS) rfl rfl) (congrArg (! ·) (kd_guard _))) (fun i D acc d hd _ _ _ _ _ => by
      have e := row_at row hd
      subst e
      exact gd_var (pv 2) rfl) (q := ?_)
    have hp := plainR_len row
    rw [List.length_map, flt_plain row _ (Nat.le_refl _), List.take_length]
    refine gss_ret (r := .dat _) (gd_cat (gd_cat (gd_lst (ga_cons (gd_tup (ga_cons gd_str ga_nil) (by show 1 ≤ 100000; decide)) ga_nil) (by show 1 ≤ 100000; decide)) (gd_var (pv 1) rfl) ?_) (gd_lst (ga_cons (gd_tup (ga_cons gd_str ga_nil) (by show 1 ≤ 100000; decide)) ga_nil) (by show 1 ≤ 100000; decide)) ?_) ?_
    · rw [List.length_map]; show 1 + _ ≤ 100000; omega
    · rw [List.length_append, List.length_map]; show 1 + _ + 1 ≤ 100000; omega
    · show Sl.dat _ = Sl.dat _
      unfold rowD putR
      rw [List.map_cons, List.map_append]
      rfl
end
theorem canLay_all : ∀ {ds : List PyData}, (∀ d ∈ ds, d.canLay0 = true) → PyData.canLayAll0 ds = true
  | [], _ => by simp [PyData.canLayAll0]
  | d :: ds, h => by simp [PyData.canLayAll0, h d List.mem_cons_self, canLay_all (ds := ds) fun e he => h e (List.mem_cons_of_mem _ he)]
theorem depth_all {n : Nat} : ∀ {ds : List PyData}, (∀ d ∈ ds, d.depth ≤ n) → PyData.depthAll ds ≤ n
  | [], _ => by simp [PyData.depthAll]
  | d :: ds, h => by
    have h1 := h d List.mem_cons_self
    have h2 := depth_all (ds := ds) fun e he => h e (List.mem_cons_of_mem _ he)
    simp [PyData.depthAll]; omega
theorem kd_canLay (k : Kd) : (PyData.str k.word).canLay0 = true := by cases k <;> decide +kernel
theorem stp_canLay (s : Stp) : s.toD.canLay0 = true := by
  have h := kd_canLay s.kd
  simp only [PyData.canLay0] at h
  cases s <;> simp [Stp.toD, Stp.args, PyData.canLay0, PyData.canLayAll0, h]
theorem stp_depth (s : Stp) : s.toD.depth ≤ 1 := by
  cases s <;> simp [Stp.toD, Stp.args, PyData.depth, PyData.depthAll]
theorem rowD_canLay (r : List Stp) : (rowD r).canLay0 = true := by
  unfold rowD
  simp only [PyData.canLay0]
  exact canLay_all fun d hd => by obtain ⟨s, _, rfl⟩ := List.mem_map.mp hd; exact stp_canLay s
theorem rowD_depth (r : List Stp) : (rowD r).depth ≤ 2 := by
  unfold rowD
  have := depth_all (n := 1) (ds := r.map Stp.toD) fun d hd => by obtain ⟨s, _, rfl⟩ := List.mem_map.mp hd; exact stp_depth s
  simp only [PyData.depth]; omega
theorem shaped_refl {d : PyData} (h : SeqAt.shaped d = true) : PyData.eqv d d = true := by
  unfold SeqAt.shaped at h
  rw [Bool.and_eq_true] at h
  exact SeqAt.eqv_refl d h.1
theorem cut_int {ns : List Int} {l u : Option Int} {i : Nat} {d : PyData} (h : (G.cutD (ns.map PyData.int) l u)[i]? = some d) : ∃ z, d = .int z := by
  have hm := List.mem_of_getElem? h
  have hm := List.mem_of_mem_drop (List.mem_of_mem_take hm)
  obtain ⟨z, _, rfl⟩ := List.mem_map.mp hm
  exact ⟨z, rfl⟩
theorem cut_len {ns : List Int} {l u : Option Int} : (G.cutD (ns.map PyData.int) l u).length ≤ ns.length := by
  unfold G.cutD
  rw [List.length_take, List.length_drop, List.length_map]; omega
theorem row_shaped (r : List Stp) : SeqAt.shaped (.list (r.map Stp.toD)) = true := by
  unfold SeqAt.shaped
  rw [Bool.and_eq_true]
  have h1 := rowD_canLay r
  have h2 := rowD_depth r
  exact ⟨h1, decide_eq_true (Nat.le_trans h2 (by decide))⟩

theorem eight (c : Int) : c % 8 = 0 ∨ c % 8 = 1 ∨ c % 8 = 2 ∨ c % 8 = 3 ∨ c % 8 = 4 ∨ c % 8 = 5 ∨ c % 8 = 6 ∨ c % 8 = 7 := by omega
def step10 (c : Int) (fr : Bool) : Stp := if c % 8 = 0 then .load (num (c / 8)) else if c % 8 = 1 then .plus (num (c / 8)) else if c % 8 = 2 then .store (num (c / 8)) else if c % 8 = 3 then .add (num (c / 8)) else if c % 8 = 4 then .twice
  else if c % 8 = 5 then (if fr then .take else .twice) else if c % 8 = 6 then (if fr then .free else .twice) else .add (num (c / 8))
def R_l_step_by (ds : List PyData) (d : PyData) : Prop := ∃ (c : Int) (fr : Bool), ds = [.int c, .bool fr] ∧ Small c ∧ d = (step10 c fr).toD
theorem small8 {c : Int} (h : Small c) : Small (c / 8) := by
  unfold Small at h ⊢
  exact Nat.le_trans (log2_le (show (c / 8).natAbs ≤ c.natAbs by omega)) h
def R_l_row_by (as : List Sl) (S : Sto) (PR : Sl → Sto → Prop) (PX : Value → Sto → Prop) : Prop := ∃ (ns : List Int) (kd : Int), as = [.dat (.list (ns.map .int)), .dat (.int kd)] ∧ AllSmall ns ∧ ns.length ≤ 63 ∧ PR = (fun r S' => ∃ row : List Stp, r = .dat (rowD row) ∧ row.length ≤ 300 ∧ S' = S) ∧ PX = noX
def R_l_guarded (ds : List PyData) (d : PyData) : Prop := ∃ row : List Stp, ds = [rowD row] ∧ row.length ≤ 1000 ∧ d = .bool (lgK 0 false (row.map Stp.kd))
def R_l_alike (ds : List PyData) (d : PyData) : Prop := ∃ row : List Stp, ds = [rowD row, rowD row] ∧ row.length ≤ 1000 ∧ d = .bool true
section
variable {K : PySem.W.Frag} {mg : Str → Option Value}
def R_law (T : Txt K mg) : Rq := fun as S PR PX => ∃ ns : List Int, as = [.dat (.list (ns.map .int))] ∧ AllSmall ns ∧ ns.length ≤ 63 ∧ S = [(T.P_guarded, .ho (.tbl #[]))] ∧ PR = (fun r _ => r = .dat (.bool true)) ∧ PX = noX
end
theorem cell_smallD {ns : List Int} (hs : AllSmall ns) {lo hi : Option Int} {i : Nat} {d : PyData} (h : (G.cutD (ns.map PyData.int) lo hi)[i]? = some d) : ∃ z, d = .int z ∧ Small z := by
  have h := List.mem_of_getElem? h
  unfold G.cutD at h
  have h := List.mem_of_mem_drop (List.mem_of_mem_take h)
  obtain ⟨z, hz, rfl⟩ := List.mem_map.mp h
  exact ⟨z, rfl, Nat.le_trans (hs z hz) (by decide)⟩
theorem stp_shaped (s : Stp) : SeqAt.shaped s.toD = true := by
  have h1 := stp_canLay s
  have h2 := stp_depth s
  unfold SeqAt.shaped
  rw [Bool.and_eq_true]
  exact ⟨h1, decide_eq_true (Nat.le_trans h2 (by decide))⟩
theorem cat_row (a b : List Stp) : (a.map Stp.toD) ++ (b.map Stp.toD) = (a ++ b).map Stp.toD := List.map_append.symm

section
variable {P : Program} {w : World} {K : PySem.W.Frag} {mg : Str → Option Value} {base : Heap}
theorem sc_l_cell_at : FnScope ["_law_script", "_law_k"] ["_law_script", "_law_k"] (defScope s_l_cell_at) := ⟨rfl, rfl, rfl, by decide +kernel, rfl, by decide +kernel, by decide +kernel⟩
theorem ok_l_cell_at (T : Txt K mg) : FnOk P w K mg base CX0 1 T.f_l_cell_at T.d_l_cell_at ["_law_script", "_law_k"] (SpD K R_l_cell_at) := by
  refine pure_def T.F_l_cell_at sc_l_cell_at (fun ds d h => ?_) (fun cdv A outer s H E B ds d hr h => ?_)
  · obtain ⟨ns, k, rfl, hk, rfl⟩ := h; rfl
  · obtain ⟨ns, k, rfl, hk, rfl⟩ := h
    refine gss_if (gt_lt (gd_var (pv 1) rfl) (gd_callB call_len (ca_len (by first | exact .inl rfl | exact .inr rfl)) rfl T.z_len (by decide +kernel) (ga_cons (gd_var (pv 0) rfl) ga_nil))) (fun h1 => ?_) (fun h1 => ?_)
    · (try (exact absurd h1 (by (first | decide +kernel | (simp only [List.length_cons, List.length_nil, eqv_int]; decide) | (simp only [List.length_cons, List.length_nil, eqv_int, decide_eq_true_eq, decide_eq_false_iff_not]; omega)))))
      all_goals (
        have q := cell_at hk h1
        refine gss_ret (r := .dat _) (gd_ixL (gd_var (pv 0) rfl) (gd_var (pv 1) rfl) (by (first | assumption | exact ixh | exact ixb (by assumption) | exact rfl | (simp only [*]; exact rfl)))) ?_
        (first | exact rfl | (simp only [*]; done) | (simp only [*]; exact rfl))
      )
    · (try (exact absurd h1 (by (first | decide +kernel | (simp only [List.length_cons, List.length_nil, eqv_int]; decide) | (simp only [List.length_cons, List.length_nil, eqv_int, decide_eq_true_eq, decide_eq_false_iff_not]; omega)))))
      all_goals (
        refine gss_nil ?_
        refine gss_ret (r := .dat _) gd_int ?_
        rw [cell_no hk h1]
      )
theorem sc_l_number_by : FnScope ["_law_cell"] ["_law_cell"] (defScope s_l_number_by) := ⟨rfl, rfl, rfl, by decide +kernel, rfl, by decide +kernel, by decide +kernel⟩
theorem ok_l_number_by (T : Txt K mg) : FnOk P w K mg base CX0 1 T.f_l_number_by T.d_l_number_by ["_law_cell"] (SpD K R_l_number_by) := by
  refine pure_def T.F_l_number_by sc_l_number_by (fun ds d h => ?_) (fun cdv A outer s H E B ds d hr h => ?_)
  · obtain ⟨c, rfl, hc, rfl⟩ := h; rfl
  · obtain ⟨c, rfl, hc, rfl⟩ := h
    have e59 : ((10 : Int) ^ (59 : Int).toNat + 7) = P59 := by decide
    have e60 : ((10 : Int) ^ (60 : Int).toNat) = P60 := by decide
    have q1 : IntMulOk c ((10 : Int) ^ (59 : Int).toNat + 7) := mul_ok hc (small_of (k := 250) (by decide) (by decide) (by rw [e59]; decide))
    have r1 : (c * P59 % P60).natAbs.log2 ≤ 1048590 := small_of (k := 250) (by decide) (by decide) (by
      have h1 := Int.emod_nonneg (c * P59) (show P60 ≠ 0 by decide)
      have h2 := Int.emod_lt_of_pos (c * P59) (show 0 < P60 by decide)
      have h3 : (c * P59 % P60).natAbs < P60.natAbs := by omega
      exact Nat.lt_trans h3 (by decide))
    have r2 : (1 - 2 * (c / 3 % 2)).natAbs.log2 ≤ 1048590 := small_of (k := 250) (by decide) (by decide) (Nat.lt_of_le_of_lt (show (1 - 2 * (c / 3 % 2)).natAbs ≤ 3 by omega) (by decide))
    have q2 : IntMulOk 2 (c / 3 % 2) := mul_ok (by decide) (small_of (k := 250) (by decide) (by decide) (Nat.lt_of_le_of_lt (show (c / 3 % 2).natAbs ≤ 3 by omega) (by decide)))
    have q3 : IntMulOk (c * ((10 : Int) ^ (59 : Int).toNat + 7) % (10 : Int) ^ (60 : Int).toNat) (1 - 2 * (c / 3 % 2)) := by rw [e59, e60]; exact mul_ok r1 r2
    refine gss_if (gt_eq hr.units (gd_mod (by (first | decide | omega)) (gd_var (pv 0) rfl) gd_int) gd_int (by (first | exact shaped_int _ | exact shaped_bool _ | exact shaped_none | assumption | exact shaped_ints _ | exact shaped_str (by decide +kernel) | exact rfl | decide +kernel)) (by (first | exact shaped_int _ | exact shaped_bool _ | exact shaped_none | assumption | exact shaped_ints _ | exact shaped_str (by decide +kernel) | exact rfl | decide +kernel))) (fun h1 => ?_) (fun h1 => ?_)
    · (try (exact absurd h1 (by (first | decide +kernel | (simp only [List.length_cons, List.length_nil, eqv_int]; decide) | (simp only [List.length_cons, List.length_nil, eqv_int, decide_eq_true_eq, decide_eq_false_iff_not]; omega)))))
      all_goals (
        have hm : c % 3 = 1 := by simpa [PyData.eqv] using h1
        refine gss_ret (r := .dat _) (gd_mul (by (assumption)) (gd_mod (by (first | decide | omega)) (gd_mul (by (assumption)) (gd_var (pv 0) rfl) (gd_add (gd_pow (by (exact ⟨by decide, by decide, by decide⟩)) gd_int gd_int) gd_int)) (gd_pow (by (exact ⟨by decide, by decide, by decide⟩)) gd_int gd_int)) (gd_sub gd_int (gd_mul (by (assumption)) gd_int (gd_mod (by (first | decide | omega)) (gd_fdiv (by (exact ⟨by decide, by decide⟩)) (gd_var (pv 0) rfl) gd_int) gd_int)))) ?_
        rw [e59, e60]; unfold num; rw [if_pos hm]
      )
    · (try (exact absurd h1 (by (first | decide +kernel | (simp only [List.length_cons, List.length_nil, eqv_int]; decide) | (simp only [List.length_cons, List.length_nil, eqv_int, decide_eq_true_eq, decide_eq_false_iff_not]; omega)))))
      all_goals (
        refine gss_nil ?_
        have hm : ¬ c % 3 = 1 := by simpa [PyData.eqv] using h1
        refine gss_ret (r := .dat _) (gd_sub (gd_mod (by (first | decide | omega)) (gd_fdiv (by (exact ⟨by decide, by decide⟩)) (gd_var (pv 0) rfl) gd_int) gd_int) gd_int) ?_
        unfold num; rw [if_neg hm]
      )
theorem sc_l_step_by : FnScope ["_law_cell", "_law_free", "_law_word"] ["_law_cell", "_law_free"] (defScope s_l_step_by) := ⟨rfl, rfl, rfl, by decide +kernel, rfl, by decide +kernel, by decide +kernel⟩
theorem ok_l_step_by (T : Txt K mg) : FnOk P w K mg base CX0 2 T.f_l_step_by T.d_l_step_by ["_law_cell", "_law_free"] (SpD K R_l_step_by) := by
  refine pure_def T.F_l_step_by sc_l_step_by (fun ds d h => ?_) (fun cdv A outer s H E B ds d hr h => ?_)
  · obtain ⟨c, fr, rfl, hc, rfl⟩ := h; rfl
  · obtain ⟨c, fr, rfl, hc, rfl⟩ := h
    rcases eight c with q | q | q | q | q | q | q | q <;> cases fr
    all_goals (
      refine gss_set (i := 2) sc_l_step_by.nd rfl (by first | exact .inl rfl | exact .inr rfl) (r := .dat _) (gd_ixL (gd_lst (ga_cons gd_str (ga_cons gd_str (ga_cons gd_str (ga_cons gd_str (ga_cons gd_str (ga_cons gd_str (ga_cons gd_str (ga_cons gd_str ga_nil)))))))) (by (first | decide | (simp only [List.length_append, List.length_cons, List.length_nil, List.length_map, List.length_set, List.length_take, List.length_drop]; omega)))) (gd_mod (by (first | decide | omega)) (gd_var (pv 0) rfl) gd_int) (by (first | assumption | exact ixh | exact ixb (by assumption) | exact rfl | (simp only [*]; exact rfl)))) ?_
      refine gss_if (gt_of (gw_and (gt_in rfl (gd_var (pv 2) rfl) (gd_tup (ga_cons gd_str (ga_cons gd_str ga_nil)) (by (first | decide | (simp only [List.length_append, List.length_cons, List.length_nil, List.length_map, List.length_set, List.length_take, List.length_drop]; omega)))) (by (first | exact rfl | decide)) (by (first | exact rfl | decide))) (fun hh => by first | exact gw_dead (absurd hh (by (first | decide +kernel | (simp only [List.length_cons, List.length_nil, eqv_int]; decide) | (simp only [List.length_cons, List.length_nil, eqv_int, decide_eq_true_eq, decide_eq_false_iff_not]; omega)))) | exact (gw_and1 (gt_not (gt_val (gd_var (pv 1) rfl))))))) (fun h1 => ?_) (fun h1 => ?_)
      · (try (exact absurd h1 (by (first | decide +kernel | (simp only [List.length_cons, List.length_nil, eqv_int]; decide) | (simp only [List.length_cons, List.length_nil, eqv_int, decide_eq_true_eq, decide_eq_false_iff_not]; omega)))))
        all_goals (
          refine gss_set (i := 2) sc_l_step_by.nd rfl (by first | exact .inl rfl | exact .inr rfl) (r := .dat _) gd_str ?_
          refine gss_nil ?_
          refine gss_if (gt_in rfl (gd_var (pv 2) rfl) (gd_tup (ga_cons gd_str (ga_cons gd_str (ga_cons gd_str ga_nil))) (by (first | decide | (simp only [List.length_append, List.length_cons, List.length_nil, List.length_map, List.length_set, List.length_take, List.length_drop]; omega)))) (by (first | exact rfl | decide)) (by (first | exact rfl | decide))) (fun h2 => ?_) (fun h2 => ?_)
          · (try (exact absurd h2 (by (first | decide +kernel | (simp only [List.length_cons, List.length_nil, eqv_int]; decide) | (simp only [List.length_cons, List.length_nil, eqv_int, decide_eq_true_eq, decide_eq_false_iff_not]; omega)))))
            all_goals (
              refine gss_ret (r := .dat _) (gd_tup (ga_cons (gd_var (pv 2) rfl) (ga_cons (gd_call (ok_l_number_by T) (hr.mono (by decide)) rfl T.m_l_number_by T.F_l_number_by.kp T.b_l_number_by pass0 (ga_cons (gd_fdiv (by (exact ⟨by decide, by decide⟩)) (gd_var (pv 0) rfl) gd_int) ga_nil) (by (exact ⟨_, rfl, small8 (by assumption), rfl⟩))) ga_nil)) (by (first | decide | (simp only [List.length_append, List.length_cons, List.length_nil, List.length_map, List.length_set, List.length_take, List.length_drop]; omega)))) ?_
              simp [step10, q, Stp.toD, Stp.kd, Kd.word, Stp.args]
            )
          · (try (exact absurd h2 (by (first | decide +kernel | (simp only [List.length_cons, List.length_nil, eqv_int]; decide) | (simp only [List.length_cons, List.length_nil, eqv_int, decide_eq_true_eq, decide_eq_false_iff_not]; omega)))))
            all_goals (
              refine gss_nil ?_
              refine gss_if (gt_eq hr.units (gd_var (pv 2) rfl) gd_str (by (first | exact shaped_int _ | exact shaped_bool _ | exact shaped_none | assumption | exact shaped_ints _ | exact shaped_str (by decide +kernel) | exact rfl | decide +kernel)) (by (first | exact shaped_int _ | exact shaped_bool _ | exact shaped_none | assumption | exact shaped_ints _ | exact shaped_str (by decide +kernel) | exact rfl | decide +kernel))) (fun h3 => ?_) (fun h3 => ?_)
              · (try (exact absurd h3 (by (first | decide +kernel | (simp only [List.length_cons, List.length_nil, eqv_int]; decide) | (simp only [List.length_cons, List.length_nil, eqv_int, decide_eq_true_eq, decide_eq_false_iff_not]; omega)))))
                all_goals (
                  refine gss_ret (r := .dat _) (gd_tup (ga_cons (gd_var (pv 2) rfl) (ga_cons (gd_call (ok_l_number_by T) (hr.mono (by decide)) rfl T.m_l_number_by T.F_l_number_by.kp T.b_l_number_by pass0 (ga_cons (gd_fdiv (by (exact ⟨by decide, by decide⟩)) (gd_var (pv 0) rfl) gd_int) ga_nil) (by (exact ⟨_, rfl, small8 (by assumption), rfl⟩))) ga_nil)) (by (first | decide | (simp only [List.length_append, List.length_cons, List.length_nil, List.length_map, List.length_set, List.length_take, List.length_drop]; omega)))) ?_
                  simp [step10, q, Stp.toD, Stp.kd, Kd.word, Stp.args]
                )
              · (try (exact absurd h3 (by (first | decide +kernel | (simp only [List.length_cons, List.length_nil, eqv_int]; decide) | (simp only [List.length_cons, List.length_nil, eqv_int, decide_eq_true_eq, decide_eq_false_iff_not]; omega)))))
                all_goals (
                  refine gss_nil ?_
                  refine gss_ret (r := .dat _) (gd_tup (ga_cons (gd_var (pv 2) rfl) ga_nil) (by (first | decide | (simp only [List.length_append, List.length_cons, List.length_nil, List.length_map, List.length_set, List.length_take, List.length_drop]; omega)))) ?_
                  simp [step10, q, Stp.toD, Stp.kd, Kd.word, Stp.args]
                )
            )
        )
      · (try (exact absurd h1 (by (first | decide +kernel | (simp only [List.length_cons, List.length_nil, eqv_int]; decide) | (simp only [List.length_cons, List.length_nil, eqv_int, decide_eq_true_eq, decide_eq_false_iff_not]; omega)))))
        all_goals (
          refine gss_nil ?_
          refine gss_if (gt_in rfl (gd_var (pv 2) rfl) (gd_tup (ga_cons gd_str (ga_cons gd_str (ga_cons gd_str ga_nil))) (by (first | decide | (simp only [List.length_append, List.length_cons, List.length_nil, List.length_map, List.length_set, List.length_take, List.length_drop]; omega)))) (by (first | exact rfl | decide)) (by (first | exact rfl | decide))) (fun h2 => ?_) (fun h2 => ?_)
          · (try (exact absurd h2 (by (first | decide +kernel | (simp only [List.length_cons, List.length_nil, eqv_int]; decide) | (simp only [List.length_cons, List.length_nil, eqv_int, decide_eq_true_eq, decide_eq_false_iff_not]; omega)))))
            all_goals (
              refine gss_ret (r := .dat _) (gd_tup (ga_cons (gd_var (pv 2) rfl) (ga_cons (gd_call (ok_l_number_by T) (hr.mono (by decide)) rfl T.m_l_number_by T.F_l_number_by.kp T.b_l_number_by pass0 (ga_cons (gd_fdiv (by (exact ⟨by decide, by decide⟩)) (gd_var (pv 0) rfl) gd_int) ga_nil) (by (exact ⟨_, rfl, small8 (by assumption), rfl⟩))) ga_nil)) (by (first | decide | (simp only [List.length_append, List.length_cons, List.length_nil, List.length_map, List.length_set, List.length_take, List.length_drop]; omega)))) ?_
              simp [step10, q, Stp.toD, Stp.kd, Kd.word, Stp.args]
            )
          · (try (exact absurd h2 (by (first | decide +kernel | (simp only [List.length_cons, List.length_nil, eqv_int]; decide) | (simp only [List.length_cons, List.length_nil, eqv_int, decide_eq_true_eq, decide_eq_false_iff_not]; omega)))))
            all_goals (
              refine gss_nil ?_
              refine gss_if (gt_eq hr.units (gd_var (pv 2) rfl) gd_str (by (first | exact shaped_int _ | exact shaped_bool _ | exact shaped_none | assumption | exact shaped_ints _ | exact shaped_str (by decide +kernel) | exact rfl | decide +kernel)) (by (first | exact shaped_int _ | exact shaped_bool _ | exact shaped_none | assumption | exact shaped_ints _ | exact shaped_str (by decide +kernel) | exact rfl | decide +kernel))) (fun h3 => ?_) (fun h3 => ?_)
              · (try (exact absurd h3 (by (first | decide +kernel | (simp only [List.length_cons, List.length_nil, eqv_int]; decide) | (simp only [List.length_cons, List.length_nil, eqv_int, decide_eq_true_eq, decide_eq_false_iff_not]; omega)))))
                all_goals (
                  refine gss_ret (r := .dat _) (gd_tup (ga_cons (gd_var (pv 2) rfl) (ga_cons (gd_call (ok_l_number_by T) (hr.mono (by decide)) rfl T.m_l_number_by T.F_l_number_by.kp T.b_l_number_by pass0 (ga_cons (gd_fdiv (by (exact ⟨by decide, by decide⟩)) (gd_var (pv 0) rfl) gd_int) ga_nil) (by (exact ⟨_, rfl, small8 (by assumption), rfl⟩))) ga_nil)) (by (first | decide | (simp only [List.length_append, List.length_cons, List.length_nil, List.length_map, List.length_set, List.length_take, List.length_drop]; omega)))) ?_
                  simp [step10, q, Stp.toD, Stp.kd, Kd.word, Stp.args]
                )
              · (try (exact absurd h3 (by (first | decide +kernel | (simp only [List.length_cons, List.length_nil, eqv_int]; decide) | (simp only [List.length_cons, List.length_nil, eqv_int, decide_eq_true_eq, decide_eq_false_iff_not]; omega)))))
                all_goals (
                  refine gss_nil ?_
                  refine gss_ret (r := .dat _) (gd_tup (ga_cons (gd_var (pv 2) rfl) ga_nil) (by (first | decide | (simp only [List.length_append, List.length_cons, List.length_nil, List.length_map, List.length_set, List.length_take, List.length_drop]; omega)))) ?_
                  simp [step10, q, Stp.toD, Stp.kd, Kd.word, Stp.args]
                )
            )
        )
      )
theorem sc_l_row_by : FnScope ["_law_script", "_law_kind", "_law_seed", "_law_ends", "_law_row", "_law_size", "_law_cell", "_law_step", "_law_at"] ["_law_script", "_law_kind"] (defScope s_l_row_by) := ⟨rfl, rfl, rfl, by decide +kernel, rfl, by decide +kernel, by decide +kernel⟩
theorem ok_l_row_by (T : Txt K mg) : FnOk P w K mg base CX0 3 T.f_l_row_by T.d_l_row_by ["_law_script", "_law_kind"] (SpM K R_l_row_by) := by
  refine mut_def0 T.F_l_row_by sc_l_row_by (fun as S PR PX h => ?_) (fun cdv A outer s H E B as S PR PX hr h => ?_)
  · obtain ⟨ns, kd, rfl, hs, hl, rfl, rfl⟩ := h; rfl
  · obtain ⟨ns, kd, rfl, hs, hl, rfl, rfl⟩ := h
    refine gss_set (i := 2) sc_l_row_by.nd rfl (by first | exact .inl rfl | exact .inr rfl) (r := .dat _) (gd_call (ok_l_cell_at T) (hr.mono (by decide)) rfl T.m_l_cell_at T.F_l_cell_at.kp T.b_l_cell_at pass0 (ga_cons (gd_var (pv 0) rfl) (ga_cons gd_int ga_nil)) (by (exact ⟨_, _, rfl, by first | decide | omega, rfl⟩))) ?_
    refine gss_set (i := 3) sc_l_row_by.nd rfl (by first | exact .inl rfl | exact .inr rfl) (r := .dat _) (gd_lst (ga_cons (gd_call (ok_l_cell_at T) (hr.mono (by decide)) rfl T.m_l_cell_at T.F_l_cell_at.kp T.b_l_cell_at pass0 (ga_cons (gd_var (pv 0) rfl) (ga_cons gd_int ga_nil)) (by (exact ⟨_, _, rfl, by first | decide | omega, rfl⟩))) (ga_cons (gd_call (ok_l_cell_at T) (hr.mono (by decide)) rfl T.m_l_cell_at T.F_l_cell_at.kp T.b_l_cell_at pass0 (ga_cons (gd_var (pv 0) rfl) (ga_cons gd_int ga_nil)) (by (exact ⟨_, _, rfl, by first | decide | omega, rfl⟩))) ga_nil)) (by (first | decide | (simp only [List.length_append, List.length_cons, List.length_nil, List.length_map, List.length_set, List.length_take, List.length_drop]; omega)))) ?_
    refine gss_then ?_
    refine gs_setF (i := 4) (gf_lst ga_nil (by show 0 ≤ 100000; decide)) sc_l_row_by.nd rfl (by first | exact .inl rfl | exact .inr rfl) fun p hp => ?_
    refine gss_set (i := 5) sc_l_row_by.nd rfl (by first | exact .inl rfl | exact .inr rfl) (r := .dat _) gd_int ?_
    have c0 : atI [PyData.int (cell ns 2), .int (cell ns 3)] 0 = some (.int (cell ns 2)) := atI_nat (j := 0) rfl
    have c1 : atI [PyData.int (cell ns 2), .int (cell ns 3)] 1 = some (.int (cell ns 3)) := atI_nat (j := 1) rfl
    refine gss_cons (M := fun Γ' S' => ∃ z : Int, 0 ≤ z ∧ z ≤ 58 ∧ Γ' = [.dat (.list (ns.map .int)), .dat (.int kd), .dat (.int (cell ns 1)), .dat (.list [.int (cell ns 2), .int (cell ns 3)]), .raw (.ref p), .dat (.int z), .un, .un, .un] ∧ S' = (p, .lst (([] : List Stp).map Stp.toD)) :: S) (gs_if (gt_of (gw_and (gt_eq hr.units (gd_var (pv 1) rfl) gd_int (by (first | exact shaped_int _ | exact shaped_bool _ | exact shaped_none | assumption | exact shaped_ints _ | exact shaped_str (by decide +kernel) | exact rfl | decide +kernel)) (by (first | exact shaped_int _ | exact shaped_bool _ | exact shaped_none | assumption | exact shaped_ints _ | exact shaped_str (by decide +kernel) | exact rfl | decide +kernel))) (fun hh => by first | exact gw_dead (absurd hh (by (first | decide +kernel | (simp only [List.length_cons, List.length_nil, eqv_int]; decide) | (simp only [List.length_cons, List.length_nil, eqv_int, decide_eq_true_eq, decide_eq_false_iff_not]; omega)))) | exact (gw_and1 (gt_gt (gd_mod (by (first | decide | omega)) (gd_var (pv 2) rfl) gd_int) gd_int))))) (fun _ => ?_) (fun _ => gss_nil ⟨_, by omega, by omega, rfl, rfl⟩)) ?_
    · refine gss_set (i := 5) sc_l_row_by.nd rfl (by first | exact .inl rfl | exact .inr rfl) (r := .dat _) (gd_add gd_int (gd_mod (by (first | decide | omega)) (gd_fdiv (by (exact ⟨by decide, by decide⟩)) (gd_var (pv 2) rfl) gd_int) gd_int)) ?_
      exact gss_nil ⟨_, by omega, by omega, rfl, rfl⟩
    rintro Γ' S' ⟨z, hz0, hz1, rfl, rfl⟩
    refine gss_cons (M := fun Γ' S' => ∃ (row : List Stp) (x1 x2 : Sl), row.length ≤ 63 ∧ Γ' = [.dat (.list (ns.map .int)), .dat (.int kd), .dat (.int (cell ns 1)), .dat (.list [.int (cell ns 2), .int (cell ns 3)]), .raw (.ref p), .dat (.int z), x1, x2, .un] ∧ S' = (p, .lst (row.map Stp.toD)) :: S) (gs_forL .never rfl (gd_slice (gd_var (pv 0) rfl) (go_some gd_int) (go_some (gd_add gd_int (gd_var (pv 5) rfl)))) sc_l_row_by.nd (j := 6) rfl (by first | exact .inl rfl | exact .inr rfl) (fun i Γ' S' => ∃ (row : List Stp) (x1 x2 : Sl), row.length ≤ i ∧ Γ' = [.dat (.list (ns.map .int)), .dat (.int kd), .dat (.int (cell ns 1)), .dat (.list [.int (cell ns 2), .int (cell ns 3)]), .raw (.ref p), .dat (.int z), x1, x2, .un] ∧ S' = (p, .lst (row.map Stp.toD)) :: S) ⟨[], .un, .un, Nat.zero_le _, rfl, rfl⟩ ?_ ?_) ?_
    · rintro i d Γ' S' G0 hd ⟨row, x1, x2, hrl, rfl, rfl⟩
      have hi : i < 63 := by
        have h1 := (List.getElem?_eq_some_iff.mp hd).1
        have h2 := @cut_len ns (some 4) (some (4 + z))
        omega
      obtain ⟨zc, rfl, hzs⟩ := cell_smallD hs hd
      refine gss_set (i := 7) sc_l_row_by.nd rfl (by first | exact .inl rfl | exact .inr rfl) (r := .dat _) (gd_call (ok_l_step_by T) (hr.mono (by decide)) rfl T.m_l_step_by T.F_l_step_by.kp T.b_l_step_by pass0 (ga_cons (gd_var (pv 6) rfl) (ga_cons (gd_eq hr.units (gd_var (pv 1) rfl) gd_int (by (first | exact shaped_int _ | exact shaped_bool _ | exact shaped_none | assumption | exact shaped_ints _ | exact shaped_str (by decide +kernel) | exact rfl | decide +kernel)) (by (first | exact shaped_int _ | exact shaped_bool _ | exact shaped_none | assumption | exact shaped_ints _ | exact shaped_str (by decide +kernel) | exact rfl | decide +kernel))) ga_nil)) (by (exact ⟨_, _, rfl, hzs, rfl⟩))) ?_
      refine gss_one (gs_if (gt_of (gw_or (gt_notIn rfl (gd_ixT (gd_var (pv 7) rfl) gd_int (by (first | assumption | exact ixh | exact ixb (by assumption) | exact rfl | (simp only [*]; exact rfl)))) (gd_tup (ga_cons gd_str (ga_cons gd_str (ga_cons gd_str ga_nil))) (by (first | decide | (simp only [List.length_append, List.length_cons, List.length_nil, List.length_map, List.length_set, List.length_take, List.length_drop]; omega)))) (by (first | exact rfl | decide)) (by (first | exact rfl | decide))) (fun hh => by first | exact gw_dead (absurd hh (by (first | decide +kernel | (simp only [List.length_cons, List.length_nil, eqv_int]; decide) | (simp only [List.length_cons, List.length_nil, eqv_int, decide_eq_true_eq, decide_eq_false_iff_not]; omega)))) | exact (gw_or1 (gt_gt (gd_mod (by (first | decide | omega)) (gd_ixL (gd_var (pv 3) rfl) gd_int (by (first | assumption | exact ixh | exact ixb (by assumption) | exact rfl | (simp only [*]; exact rfl)))) gd_int) gd_int))))) (fun _ => ?_) (fun _ => gss_nil ⟨row, _, _, Nat.le_succ_of_le hrl, rfl, rfl⟩))
      refine gss_one (gs_appO (n := 0) (gr_var (pv 4) rfl) (gd_var (pv 7) rfl) rfl (by rw [List.length_map]; omega) ⟨row ++ [step10 zc (PyData.eqv (.int kd) (.int 0))], _, _, by rw [List.length_append]; show _ + 1 ≤ i + 1; omega, rfl, ?_⟩)
      rw [List.map_append]; rfl
    · rintro Γ' S' ⟨row, x1, x2, hrl, rfl, rfl⟩
      have h2 := @cut_len ns (some 4) (some (4 + z))
      exact ⟨row, x1, x2, by omega, rfl, rfl⟩
    rintro Γ' S' ⟨row, x1, x2, hrl, rfl, rfl⟩
    refine gss_freeze 4 0 rfl rfl hp ?_
    refine gss_at (Γ2 := [.dat (.list (ns.map .int)), .dat (.int kd), .dat (.int (cell ns 1)), .dat (.list [.int (cell ns 2), .int (cell ns 3)]), .dat (rowD row), .dat (.int z), x1, x2, .un]) (S2 := S) rfl rfl ?_
    refine gss_cons (M := fun Γ' S' => ∃ (row : List Stp) (x3 : Sl), row.length ≤ 300 ∧ Γ' = [.dat (.list (ns.map .int)), .dat (.int kd), .dat (.int (cell ns 1)), .dat (.list [.int (cell ns 2), .int (cell ns 3)]), .dat (rowD row), .dat (.int z), x1, x2, x3] ∧ S' = S) (gs_if (gt_eq hr.units (gd_var (pv 1) rfl) gd_int (by (first | exact shaped_int _ | exact shaped_bool _ | exact shaped_none | assumption | exact shaped_ints _ | exact shaped_str (by decide +kernel) | exact rfl | decide +kernel)) (by (first | exact shaped_int _ | exact shaped_bool _ | exact shaped_none | assumption | exact shaped_ints _ | exact shaped_str (by decide +kernel) | exact rfl | decide +kernel))) (fun _ => ?_) (fun _ => gss_nil ⟨row, _, by omega, rfl, rfl⟩)) ?_
    · refine gss_set (i := 8) sc_l_row_by.nd rfl (by first | exact .inl rfl | exact .inr rfl) (r := .dat _) (gd_mod (by (first | decide | omega)) (gd_ixL (gd_var (pv 3) rfl) gd_int (by (first | assumption | exact ixh | exact ixb (by assumption) | exact rfl | (simp only [*]; exact rfl)))) (gd_add (gd_callB call_len (ca_len (by first | exact .inl rfl | exact .inr rfl)) rfl T.z_len (by decide +kernel) (ga_cons (gd_var (pv 4) rfl) ga_nil)) gd_int)) ?_
      refine gss_cons (M := fun Γ' S' => ∃ a : Int, Γ' = [.dat (.list (ns.map .int)), .dat (.int kd), .dat (.int (cell ns 1)), .dat (.list [.int (cell ns 2), .int (cell ns 3)]), .dat (rowD row), .dat (.int z), x1, x2, .dat (.int a)] ∧ S' = S) (gs_if (gt_gt (gd_var (pv 5) rfl) gd_int) (fun _ => ?_) (fun _ => gss_nil ⟨_, rfl, rfl⟩)) ?_
      · refine gss_set (i := 8) sc_l_row_by.nd rfl (by first | exact .inl rfl | exact .inr rfl) (r := .dat _) (gd_callB (call_min2 rfl) ca_min2 rfl T.z_min (by decide +kernel) (ga_cons (gd_callB call_len (ca_len (by first | exact .inl rfl | exact .inr rfl)) rfl T.z_len (by decide +kernel) (ga_cons (gd_var (pv 4) rfl) ga_nil)) (ga_cons (gd_mod (by (first | decide | omega)) (gd_ixL (gd_var (pv 3) rfl) gd_int (by (first | assumption | exact ixh | exact ixb (by assumption) | exact rfl | (simp only [*]; exact rfl)))) gd_int) ga_nil))) ?_
        exact gss_nil ⟨_, rfl, rfl⟩
      rintro Γ' S' ⟨ar2, rfl, e9⟩
      rw [e9]
      clear e9
      have q1 := cutL_len row none (some ar2)
      have q2 := cutL_len row (some ar2) none
      refine gss_set (i := 4) sc_l_row_by.nd rfl (by first | exact .inl rfl | exact .inr rfl) (r := .dat (rowD (cutL row none (some ar2) ++ [.take] ++ cutL row (some ar2) none))) (gd_cast (gd_cat (gd_cat (gd_slice (gd_var (pv 4) rfl) go_none (go_some (gd_var (pv 8) rfl))) (gd_lst (ga_cons (gd_tup (ga_cons gd_str ga_nil) (by show 1 ≤ 100000; decide)) ga_nil) (by show 1 ≤ 100000; decide)) ?_) (gd_slice (gd_var (pv 4) rfl) (go_some (gd_var (pv 8) rfl)) go_none) ?_) ?_) ?_
      · rw [cutL_map, List.length_map]; show _ + 1 ≤ 100000; omega
      · rw [cutL_map, cutL_map, List.length_append, List.length_map, List.length_map]; show _ + 1 + _ ≤ 100000; omega
      · rw [cutL_map, cutL_map]; unfold rowD; rw [List.map_append, List.map_append]; rfl
      obtain ⟨r2, er2⟩ : ∃ r, r = cutL row none (some ar2) ++ [.take] ++ cutL row (some ar2) none := ⟨_, rfl⟩
      have lr2 : r2.length ≤ 2 * row.length + 1 := by rw [er2, List.length_append, List.length_append]; show _ + 1 + _ ≤ _; omega
      rw [← er2]
      refine gss_set (i := 8) sc_l_row_by.nd rfl (by first | exact .inl rfl | exact .inr rfl) (r := .dat _) (gd_mod (by (first | decide | omega)) (gd_ixL (gd_var (pv 3) rfl) gd_int (by (first | assumption | exact ixh | exact ixb (by assumption) | exact rfl | (simp only [*]; exact rfl)))) (gd_add (gd_callB call_len (ca_len (by first | exact .inl rfl | exact .inr rfl)) rfl T.z_len (by decide +kernel) (ga_cons (gd_var (pv 4) rfl) ga_nil)) gd_int)) ?_
      refine gss_cons (M := fun Γ' S' => ∃ a : Int, Γ' = [.dat (.list (ns.map .int)), .dat (.int kd), .dat (.int (cell ns 1)), .dat (.list [.int (cell ns 2), .int (cell ns 3)]), .dat (rowD r2), .dat (.int z), x1, x2, .dat (.int a)] ∧ S' = S) (gs_if (gt_gt (gd_var (pv 5) rfl) gd_int) (fun _ => ?_) (fun _ => gss_nil ⟨_, rfl, rfl⟩)) ?_
      · refine gss_set (i := 8) sc_l_row_by.nd rfl (by first | exact .inl rfl | exact .inr rfl) (r := .dat _) (gd_callB (call_max2 rfl) ca_max2 rfl T.z_max (by decide +kernel) (ga_cons gd_int (ga_cons (gd_sub (gd_callB call_len (ca_len (by first | exact .inl rfl | exact .inr rfl)) rfl T.z_len (by decide +kernel) (ga_cons (gd_var (pv 4) rfl) ga_nil)) (gd_mod (by (first | decide | omega)) (gd_ixL (gd_var (pv 3) rfl) gd_int (by (first | assumption | exact ixh | exact ixb (by assumption) | exact rfl | (simp only [*]; exact rfl)))) gd_int)) ga_nil))) ?_
        exact gss_nil ⟨_, rfl, rfl⟩
      rintro Γ' S' ⟨ar3, rfl, e9⟩
      rw [e9]
      clear e9
      have q1 := cutL_len r2 none (some ar3)
      have q2 := cutL_len r2 (some ar3) none
      refine gss_set (i := 4) sc_l_row_by.nd rfl (by first | exact .inl rfl | exact .inr rfl) (r := .dat (rowD (cutL r2 none (some ar3) ++ [.free] ++ cutL r2 (some ar3) none))) (gd_cast (gd_cat (gd_cat (gd_slice (gd_var (pv 4) rfl) go_none (go_some (gd_var (pv 8) rfl))) (gd_lst (ga_cons (gd_tup (ga_cons gd_str ga_nil) (by show 1 ≤ 100000; decide)) ga_nil) (by show 1 ≤ 100000; decide)) ?_) (gd_slice (gd_var (pv 4) rfl) (go_some (gd_var (pv 8) rfl)) go_none) ?_) ?_) ?_
      · rw [cutL_map, List.length_map]; show _ + 1 ≤ 100000; omega
      · rw [cutL_map, cutL_map, List.length_append, List.length_map, List.length_map]; show _ + 1 + _ ≤ 100000; omega
      · rw [cutL_map, cutL_map]; unfold rowD; rw [List.map_append, List.map_append]; rfl
      obtain ⟨r3, er3⟩ : ∃ r, r = cutL r2 none (some ar3) ++ [.free] ++ cutL r2 (some ar3) none := ⟨_, rfl⟩
      have lr3 : r3.length ≤ 2 * r2.length + 1 := by rw [er3, List.length_append, List.length_append]; show _ + 1 + _ ≤ _; omega
      rw [← er3]
      exact gss_nil ⟨_, _, by omega, rfl, rfl⟩
    rintro Γ' S' ⟨row, x3, hrl, rfl, rfl⟩
    exact gss_ret (r := .dat _) (gd_var (pv 4) rfl) ⟨row, rfl, hrl, rfl⟩
theorem drop_kd {row : List Stp} {i : Nat} {d : PyData} (h : (row.map Stp.toD)[i]? = some d) : ∃ s : Stp, d = s.toD ∧ (row.map Stp.kd).drop i = s.kd :: (row.map Stp.kd).drop (i + 1) := by
  rw [List.getElem?_map] at h
  cases q : row[i]? with
  | none => rw [q] at h; cases h
  | some s =>
    rw [q] at h
    cases h
    obtain ⟨hi, e⟩ := List.getElem?_eq_some_iff.mp q
    refine ⟨s, rfl, ?_⟩
    rw [List.drop_eq_getElem_cons (by rw [List.length_map]; exact hi), List.getElem_map, e]
theorem sc_l_guarded : FnScope ["_law_row", "_law_stage", "_law_touched", "_law_step"] ["_law_row"] (defScope s_l_guarded) := ⟨rfl, rfl, rfl, by decide +kernel, rfl, by decide +kernel, by decide +kernel⟩
theorem ok_l_guarded (T : Txt K mg) : FnOk P w K mg base CX0 1 T.f_l_guarded T.d_l_guarded ["_law_row"] (SpD K R_l_guarded) := by
  refine pure_def T.F_l_guarded sc_l_guarded (fun ds d h => ?_) (fun cdv A outer s H E B ds d hr h => ?_)
  · obtain ⟨row, rfl, hl, rfl⟩ := h; rfl
  · obtain ⟨row, rfl, hl, rfl⟩ := h
    refine gss_set (i := 1) sc_l_guarded.nd rfl (by first | exact .inl rfl | exact .inr rfl) (r := .dat _) gd_int ?_
    refine gss_set (i := 2) sc_l_guarded.nd rfl (by first | exact .inl rfl | exact .inr rfl) (r := .dat _) gd_bl ?_
    refine gss_cons (M := fun Γ' S' => ∃ (st : Nat) (to : Bool) (x3 : Sl), lgK 0 false (row.map Stp.kd) = lgK st to [] ∧ Γ' = [.dat (rowD row), .dat (.int (st : Nat)), .dat (.bool to), x3] ∧ S' = []) (gs_forL (ds := row.map Stp.toD) .never rfl (gd_var (pv 0) rfl) sc_l_guarded.nd (j := 3) rfl (by first | exact .inl rfl | exact .inr rfl) (fun i Γ' S' => ∃ (st : Nat) (to : Bool) (x3 : Sl), lgK 0 false (row.map Stp.kd) = lgK st to ((row.map Stp.kd).drop i) ∧ Γ' = [.dat (rowD row), .dat (.int (st : Nat)), .dat (.bool to), x3] ∧ S' = []) ⟨0, false, .un, rfl, rfl, rfl⟩ ?_ ?_) ?_
    · rintro i d Γ' S' G0 hd ⟨st, to, x3, he, rfl, rfl⟩
      obtain ⟨s, rfl, hdr⟩ := drop_kd hd
      rw [hdr] at he
      have ws := kd_shaped s.kd
      refine gss_one (gs_if (gt_eq hr.units (gd_ixT (gd_var (pv 3) rfl) gd_int (by (first | assumption | exact ixh | exact ixb (by assumption) | exact rfl | (simp only [*]; exact rfl)))) gd_str (by (first | exact shaped_int _ | exact shaped_bool _ | exact shaped_none | assumption | exact shaped_ints _ | exact shaped_str (by decide +kernel) | exact rfl | decide +kernel)) (by (first | exact shaped_int _ | exact shaped_bool _ | exact shaped_none | assumption | exact shaped_ints _ | exact shaped_str (by decide +kernel) | exact rfl | decide +kernel))) (fun h1 => ?_) (fun h1 => ?_))
      · have h1 : s.kd = .take := of_decide_eq_true ((kd_eq s.kd .take).symm.trans h1)
        rw [lgK, if_pos h1] at he
        refine gss_if (gt_ne hr.units (gd_var (pv 1) rfl) gd_int (by (first | exact shaped_int _ | exact shaped_bool _ | exact shaped_none | assumption | exact shaped_ints _ | exact shaped_str (by decide +kernel) | exact rfl | decide +kernel)) (by (first | exact shaped_int _ | exact shaped_bool _ | exact shaped_none | assumption | exact shaped_ints _ | exact shaped_str (by decide +kernel) | exact rfl | decide +kernel))) (fun h2 => ?_) (fun h2 => gss_nil ?_)
        · have h2 : st ≠ 0 := by rw [eqv_int] at h2; simp at h2; omega
          rw [if_neg h2] at he
          exact gss_ret (r := .dat _) gd_bl (by rw [he])
        · have h2 : st = 0 := by rw [eqv_int] at h2; simp at h2; omega
          rw [if_pos h2] at he
          refine gss_set (i := 1) sc_l_guarded.nd rfl (by first | exact .inl rfl | exact .inr rfl) (r := .dat _) gd_int (gss_nil ⟨1, to, _, he, rfl, rfl⟩)
      · have h1 : s.kd ≠ .take := of_decide_eq_false ((kd_eq s.kd .take).symm.trans h1)
        rw [lgK, if_neg h1] at he
        refine gss_one (gs_if (gt_eq hr.units (gd_ixT (gd_var (pv 3) rfl) gd_int (by (first | assumption | exact ixh | exact ixb (by assumption) | exact rfl | (simp only [*]; exact rfl)))) gd_str (by (first | exact shaped_int _ | exact shaped_bool _ | exact shaped_none | assumption | exact shaped_ints _ | exact shaped_str (by decide +kernel) | exact rfl | decide +kernel)) (by (first | exact shaped_int _ | exact shaped_bool _ | exact shaped_none | assumption | exact shaped_ints _ | exact shaped_str (by decide +kernel) | exact rfl | decide +kernel))) (fun h3 => ?_) (fun h3 => ?_))
        · have h3 : s.kd = .free := of_decide_eq_true ((kd_eq s.kd .free).symm.trans h3)
          rw [if_pos h3] at he
          refine gss_if (gt_ne hr.units (gd_var (pv 1) rfl) gd_int (by (first | exact shaped_int _ | exact shaped_bool _ | exact shaped_none | assumption | exact shaped_ints _ | exact shaped_str (by decide +kernel) | exact rfl | decide +kernel)) (by (first | exact shaped_int _ | exact shaped_bool _ | exact shaped_none | assumption | exact shaped_ints _ | exact shaped_str (by decide +kernel) | exact rfl | decide +kernel))) (fun h2 => ?_) (fun h2 => gss_nil ?_)
          · have h2 : st ≠ 1 := by rw [eqv_int] at h2; simp at h2; omega
            rw [if_neg h2] at he
            exact gss_ret (r := .dat _) gd_bl (by rw [he])
          · have h2 : st = 1 := by rw [eqv_int] at h2; simp at h2; omega
            rw [if_pos h2] at he
            refine gss_set (i := 1) sc_l_guarded.nd rfl (by first | exact .inl rfl | exact .inr rfl) (r := .dat _) gd_int (gss_nil ⟨2, to, _, he, rfl, rfl⟩)
        · have h3 : s.kd ≠ .free := of_decide_eq_false ((kd_eq s.kd .free).symm.trans h3)
          rw [if_neg h3] at he
          have e1 : (!PyData.eqv (.int (st : Nat)) (.int 1)) = !decide (st = 1) := by rw [eqv_int]; congr 1; exact decide_eq_decide.mpr (by omega)
          refine gss_one (gs_if (gt_of (gw_and (gt_in rfl (gd_ixT (gd_var (pv 3) rfl) gd_int (by (first | assumption | exact ixh | exact ixb (by assumption) | exact rfl | (simp only [*]; exact rfl)))) (gd_tup (ga_cons gd_str (ga_cons gd_str (ga_cons gd_str ga_nil))) (by (first | decide | (simp only [List.length_append, List.length_cons, List.length_nil, List.length_map, List.length_set, List.length_take, List.length_drop]; omega)))) (by (first | exact rfl | decide)) (by (first | exact rfl | decide))) (fun hh => by first | exact gw_dead (absurd hh (by (first | decide +kernel | (simp only [List.length_cons, List.length_nil, eqv_int]; decide) | (simp only [List.length_cons, List.length_nil, eqv_int, decide_eq_true_eq, decide_eq_false_iff_not]; omega)))) | exact (gw_and1 (gt_ne hr.units (gd_var (pv 1) rfl) gd_int (by (first | exact shaped_int _ | exact shaped_bool _ | exact shaped_none | assumption | exact shaped_ints _ | exact shaped_str (by decide +kernel) | exact rfl | decide +kernel)) (by (first | exact shaped_int _ | exact shaped_bool _ | exact shaped_none | assumption | exact shaped_ints _ | exact shaped_str (by decide +kernel) | exact rfl | decide +kernel))))))) (fun h2 => ?_) (fun h2 => ?_))
          · rw [kd_box, e1] at h2
            rw [h2, Bool.or_true] at he
            refine gss_set (i := 2) sc_l_guarded.nd rfl (by first | exact .inl rfl | exact .inr rfl) (r := .dat _) gd_bl (gss_nil ⟨st, true, _, he, rfl, rfl⟩)
          · rw [kd_box, e1] at h2
            rw [h2, Bool.or_false] at he
            exact gss_nil ⟨st, to, _, he, rfl, rfl⟩
    · rintro Γ' S' ⟨st, to, x3, he, rfl, rfl⟩
      rw [List.length_map, List.drop_of_length_le (by rw [List.length_map]; exact Nat.le_refl _)] at he
      exact ⟨st, to, x3, he, rfl, rfl⟩
    · rintro Γ' S' ⟨st, to, x3, he, rfl, rfl⟩
      refine gss_ret (r := .dat _) (gd_and (gd_not (gd_var (pv 2) rfl)) (fun hh => by first | exact gd_dead (absurd hh (by (first | decide +kernel | (simp only [List.length_cons, List.length_nil, eqv_int]; decide) | (simp only [List.length_cons, List.length_nil, eqv_int, decide_eq_true_eq, decide_eq_false_iff_not]; omega)))) | exact (gd_one (gd_ne hr.units (gd_var (pv 1) rfl) gd_int (by (first | exact shaped_int _ | exact shaped_bool _ | exact shaped_none | assumption | exact shaped_ints _ | exact shaped_str (by decide +kernel) | exact rfl | decide +kernel)) (by (first | exact shaped_int _ | exact shaped_bool _ | exact shaped_none | assumption | exact shaped_ints _ | exact shaped_str (by decide +kernel) | exact rfl | decide +kernel)))))) ?_
      rw [he, lgK, eqv_int]
      exact congrArg (fun z => Sl.dat (.bool (!to && !z))) (decide_eq_decide.mpr (by omega))
theorem sc_l_alike : FnScope ["_law_found", "_law_due", "_law_k"] ["_law_found", "_law_due"] (defScope s_l_alike) := ⟨rfl, rfl, rfl, by decide +kernel, rfl, by decide +kernel, by decide +kernel⟩
theorem ok_l_alike (T : Txt K mg) : FnOk P w K mg base CX0 1 T.f_l_alike T.d_l_alike ["_law_found", "_law_due"] (SpD K R_l_alike) := by
  refine pure_def T.F_l_alike sc_l_alike (fun ds d h => ?_) (fun cdv A outer s H E B ds d hr h => ?_)
  · obtain ⟨row, rfl, hl, rfl⟩ := h; rfl
  · obtain ⟨row, rfl, hl, rfl⟩ := h
    refine gss_if (gt_of (gw_or (gt_not (gt_val (gd_isi (n := "list") rfl T.z_isinstance (by decide +kernel) (pe_bltn rfl T.z_list (by decide +kernel) rfl) (gd_var (pv 0) rfl) (by first | exact kit_tuple_list | exact kit_list_list | exact kit_int_list | exact kit_bool_list | exact kit_str_list | exact kit_NoneType_list | exact kit_dict_list)))) (fun hh => by first | exact gw_dead (absurd hh (by (first | decide +kernel | (simp only [List.length_cons, List.length_nil, eqv_int]; decide) | (simp only [List.length_cons, List.length_nil, eqv_int, decide_eq_true_eq, decide_eq_false_iff_not]; omega)))) | exact (gw_or1 (gt_ne hr.units (gd_callB call_len (ca_len (by first | exact .inl rfl | exact .inr rfl)) rfl T.z_len (by decide +kernel) (ga_cons (gd_var (pv 0) rfl) ga_nil)) (gd_callB call_len (ca_len (by first | exact .inl rfl | exact .inr rfl)) rfl T.z_len (by decide +kernel) (ga_cons (gd_var (pv 1) rfl) ga_nil)) (by (first | exact shaped_int _ | exact shaped_bool _ | exact shaped_none | assumption | exact shaped_ints _ | exact shaped_str (by decide +kernel) | exact rfl | decide +kernel)) (by (first | exact shaped_int _ | exact shaped_bool _ | exact shaped_none | assumption | exact shaped_ints _ | exact shaped_str (by decide +kernel) | exact rfl | decide +kernel))))))) (fun h1 => absurd h1 (by simp [eqv_int])) (fun h1 => gss_nil ?_)
    refine gss_cons (M := fun Γ' S' => ∃ x2, Γ' = [.dat (rowD row), .dat (rowD row), x2] ∧ S' = []) (gs_forR .never rfl rfl T.z_range (gd_callB call_len (ca_len (by first | exact .inl rfl | exact .inr rfl)) rfl T.z_len (by decide +kernel) (ga_cons (gd_var (pv 1) rfl) ga_nil)) ⟨by omega, by rw [List.length_map]; omega⟩ sc_l_alike.nd (j := 2) rfl (by first | exact .inl rfl | exact .inr rfl) (fun _ Γ' S' => ∃ x2, Γ' = [.dat (rowD row), .dat (rowD row), x2] ∧ S' = []) ⟨_, rfl, rfl⟩ ?_ (fun _ _ h => h)) ?_
    · rintro i Γ' S' G0 hi ⟨x2, rfl, rfl⟩
      have hj : i < row.length := by rw [List.length_map] at hi; omega
      have q : atI (row.map Stp.toD) (i : Int) = some row[i].toD := atI_nat (by rw [List.getElem?_map, List.getElem?_eq_getElem hj]; rfl)
      have rq : PyData.eqv row[i].toD row[i].toD = true := shaped_refl (stp_shaped _)
      have sq := stp_shaped row[i]
      generalize row[i] = s at q rq sq
      refine gss_if (gt_of (gw_or (gt_not (gt_val (gd_isi (n := "tuple") rfl T.z_isinstance (by decide +kernel) (pe_bltn rfl T.z_tuple (by decide +kernel) rfl) (gd_ixL (gd_var (pv 0) rfl) (gd_var (pv 2) rfl) (by (first | assumption | exact ixh | exact ixb (by assumption) | exact rfl | (simp only [*]; exact rfl)))) (by first | exact kit_tuple_tuple | exact kit_list_tuple | exact kit_int_tuple | exact kit_bool_tuple | exact kit_str_tuple | exact kit_NoneType_tuple | exact kit_dict_tuple)))) (fun hh => by first | exact gw_dead (absurd hh (by (first | decide +kernel | (simp only [List.length_cons, List.length_nil, eqv_int]; decide) | (simp only [List.length_cons, List.length_nil, eqv_int, decide_eq_true_eq, decide_eq_false_iff_not]; omega)))) | exact (gw_or (gt_ne hr.units (gd_callB call_len (ca_len (.inr rfl)) rfl T.z_len (by decide +kernel) (ga_cons (gd_ixL (gd_var (pv 0) rfl) (gd_var (pv 2) rfl) (by (first | assumption | exact ixh | exact ixb (by assumption) | exact rfl | (simp only [*]; exact rfl)))) ga_nil)) (gd_callB call_len (ca_len (.inr rfl)) rfl T.z_len (by decide +kernel) (ga_cons (gd_ixL (gd_var (pv 1) rfl) (gd_var (pv 2) rfl) (by (first | assumption | exact ixh | exact ixb (by assumption) | exact rfl | (simp only [*]; exact rfl)))) ga_nil)) (by (first | exact shaped_int _ | exact shaped_bool _ | exact shaped_none | assumption | exact shaped_ints _ | exact shaped_str (by decide +kernel) | exact rfl | decide +kernel)) (by (first | exact shaped_int _ | exact shaped_bool _ | exact shaped_none | assumption | exact shaped_ints _ | exact shaped_str (by decide +kernel) | exact rfl | decide +kernel))) (fun hh => by first | exact gw_dead (absurd hh (by (first | decide +kernel | (simp only [List.length_cons, List.length_nil, eqv_int]; decide) | (simp only [List.length_cons, List.length_nil, eqv_int, decide_eq_true_eq, decide_eq_false_iff_not]; omega)))) | exact (gw_or1 (gt_ne hr.units (gd_ixL (gd_var (pv 0) rfl) (gd_var (pv 2) rfl) (by (first | assumption | exact ixh | exact ixb (by assumption) | exact rfl | (simp only [*]; exact rfl)))) (gd_ixL (gd_var (pv 1) rfl) (gd_var (pv 2) rfl) (by (first | assumption | exact ixh | exact ixb (by assumption) | exact rfl | (simp only [*]; exact rfl)))) (by (first | exact shaped_int _ | exact shaped_bool _ | exact shaped_none | assumption | exact shaped_ints _ | exact shaped_str (by decide +kernel) | exact rfl | decide +kernel)) (by (first | exact shaped_int _ | exact shaped_bool _ | exact shaped_none | assumption | exact shaped_ints _ | exact shaped_str (by decide +kernel) | exact rfl | decide +kernel))))))))) (fun h2 => absurd h2 (by rw [rq]; simp [eqv_int])) (fun h2 => gss_nil ?_)
      cases s with
      | load b => exact gss_one (gs_if (gt_of (gw_and (gt_eq hr.units (gd_callB call_len (ca_len (.inr rfl)) rfl T.z_len (by decide +kernel) (ga_cons (gd_ixL (gd_var (pv 1) rfl) (gd_var (pv 2) rfl) (by (first | assumption | exact ixh | exact ixb (by assumption) | exact rfl | (simp only [*]; exact rfl)))) ga_nil)) gd_int (by (first | exact shaped_int _ | exact shaped_bool _ | exact shaped_none | assumption | exact shaped_ints _ | exact shaped_str (by decide +kernel) | exact rfl | decide +kernel)) (by (first | exact shaped_int _ | exact shaped_bool _ | exact shaped_none | assumption | exact shaped_ints _ | exact shaped_str (by decide +kernel) | exact rfl | decide +kernel))) (fun hh => by first | exact gw_dead (absurd hh (by (first | decide +kernel | (simp only [List.length_cons, List.length_nil, eqv_int]; decide) | (simp only [List.length_cons, List.length_nil, eqv_int, decide_eq_true_eq, decide_eq_false_iff_not]; omega)))) | exact (gw_and1 (gt_of (gw_or (gt_not (gt_val (gd_isi (n := "int") rfl T.z_isinstance (by decide +kernel) (pe_bltn rfl T.z_int (by decide +kernel) rfl) (gd_ixT (gd_ixL (gd_var (pv 0) rfl) (gd_var (pv 2) rfl) (by (first | assumption | exact ixh | exact ixb (by assumption) | exact rfl | (simp only [*]; exact rfl)))) gd_int (by (first | assumption | exact ixh | exact ixb (by assumption) | exact rfl | (simp only [*]; exact rfl)))) (by first | exact kit_tuple_int | exact kit_list_int | exact kit_int_int | exact kit_bool_int | exact kit_str_int | exact kit_NoneType_int | exact kit_dict_int)))) (fun hh => by first | exact gw_dead (absurd hh (by (first | decide +kernel | (simp only [List.length_cons, List.length_nil, eqv_int]; decide) | (simp only [List.length_cons, List.length_nil, eqv_int, decide_eq_true_eq, decide_eq_false_iff_not]; omega)))) | exact (gw_or1 (gt_val (gd_isi (n := "bool") rfl T.z_isinstance (by decide +kernel) (pe_bltn rfl T.z_bool (by decide +kernel) rfl) (gd_ixT (gd_ixL (gd_var (pv 0) rfl) (gd_var (pv 2) rfl) (by (first | assumption | exact ixh | exact ixb (by assumption) | exact rfl | (simp only [*]; exact rfl)))) gd_int (by (first | assumption | exact ixh | exact ixb (by assumption) | exact rfl | (simp only [*]; exact rfl)))) (by first | exact kit_tuple_bool | exact kit_list_bool | exact kit_int_bool | exact kit_bool_bool | exact kit_str_bool | exact kit_NoneType_bool | exact kit_dict_bool))))))))))) (fun h2 => absurd h2 (by simp)) (fun h2 => gss_nil ⟨_, rfl, rfl⟩))
      | plus b => exact gss_one (gs_if (gt_of (gw_and (gt_eq hr.units (gd_callB call_len (ca_len (.inr rfl)) rfl T.z_len (by decide +kernel) (ga_cons (gd_ixL (gd_var (pv 1) rfl) (gd_var (pv 2) rfl) (by (first | assumption | exact ixh | exact ixb (by assumption) | exact rfl | (simp only [*]; exact rfl)))) ga_nil)) gd_int (by (first | exact shaped_int _ | exact shaped_bool _ | exact shaped_none | assumption | exact shaped_ints _ | exact shaped_str (by decide +kernel) | exact rfl | decide +kernel)) (by (first | exact shaped_int _ | exact shaped_bool _ | exact shaped_none | assumption | exact shaped_ints _ | exact shaped_str (by decide +kernel) | exact rfl | decide +kernel))) (fun hh => by first | exact gw_dead (absurd hh (by (first | decide +kernel | (simp only [List.length_cons, List.length_nil, eqv_int]; decide) | (simp only [List.length_cons, List.length_nil, eqv_int, decide_eq_true_eq, decide_eq_false_iff_not]; omega)))) | exact (gw_and1 (gt_of (gw_or (gt_not (gt_val (gd_isi (n := "int") rfl T.z_isinstance (by decide +kernel) (pe_bltn rfl T.z_int (by decide +kernel) rfl) (gd_ixT (gd_ixL (gd_var (pv 0) rfl) (gd_var (pv 2) rfl) (by (first | assumption | exact ixh | exact ixb (by assumption) | exact rfl | (simp only [*]; exact rfl)))) gd_int (by (first | assumption | exact ixh | exact ixb (by assumption) | exact rfl | (simp only [*]; exact rfl)))) (by first | exact kit_tuple_int | exact kit_list_int | exact kit_int_int | exact kit_bool_int | exact kit_str_int | exact kit_NoneType_int | exact kit_dict_int)))) (fun hh => by first | exact gw_dead (absurd hh (by (first | decide +kernel | (simp only [List.length_cons, List.length_nil, eqv_int]; decide) | (simp only [List.length_cons, List.length_nil, eqv_int, decide_eq_true_eq, decide_eq_false_iff_not]; omega)))) | exact (gw_or1 (gt_val (gd_isi (n := "bool") rfl T.z_isinstance (by decide +kernel) (pe_bltn rfl T.z_bool (by decide +kernel) rfl) (gd_ixT (gd_ixL (gd_var (pv 0) rfl) (gd_var (pv 2) rfl) (by (first | assumption | exact ixh | exact ixb (by assumption) | exact rfl | (simp only [*]; exact rfl)))) gd_int (by (first | assumption | exact ixh | exact ixb (by assumption) | exact rfl | (simp only [*]; exact rfl)))) (by first | exact kit_tuple_bool | exact kit_list_bool | exact kit_int_bool | exact kit_bool_bool | exact kit_str_bool | exact kit_NoneType_bool | exact kit_dict_bool))))))))))) (fun h2 => absurd h2 (by simp)) (fun h2 => gss_nil ⟨_, rfl, rfl⟩))
      | store b => exact gss_one (gs_if (gt_of (gw_and (gt_eq hr.units (gd_callB call_len (ca_len (.inr rfl)) rfl T.z_len (by decide +kernel) (ga_cons (gd_ixL (gd_var (pv 1) rfl) (gd_var (pv 2) rfl) (by (first | assumption | exact ixh | exact ixb (by assumption) | exact rfl | (simp only [*]; exact rfl)))) ga_nil)) gd_int (by (first | exact shaped_int _ | exact shaped_bool _ | exact shaped_none | assumption | exact shaped_ints _ | exact shaped_str (by decide +kernel) | exact rfl | decide +kernel)) (by (first | exact shaped_int _ | exact shaped_bool _ | exact shaped_none | assumption | exact shaped_ints _ | exact shaped_str (by decide +kernel) | exact rfl | decide +kernel))) (fun hh => by first | exact gw_dead (absurd hh (by (first | decide +kernel | (simp only [List.length_cons, List.length_nil, eqv_int]; decide) | (simp only [List.length_cons, List.length_nil, eqv_int, decide_eq_true_eq, decide_eq_false_iff_not]; omega)))) | exact (gw_and1 (gt_of (gw_or (gt_not (gt_val (gd_isi (n := "int") rfl T.z_isinstance (by decide +kernel) (pe_bltn rfl T.z_int (by decide +kernel) rfl) (gd_ixT (gd_ixL (gd_var (pv 0) rfl) (gd_var (pv 2) rfl) (by (first | assumption | exact ixh | exact ixb (by assumption) | exact rfl | (simp only [*]; exact rfl)))) gd_int (by (first | assumption | exact ixh | exact ixb (by assumption) | exact rfl | (simp only [*]; exact rfl)))) (by first | exact kit_tuple_int | exact kit_list_int | exact kit_int_int | exact kit_bool_int | exact kit_str_int | exact kit_NoneType_int | exact kit_dict_int)))) (fun hh => by first | exact gw_dead (absurd hh (by (first | decide +kernel | (simp only [List.length_cons, List.length_nil, eqv_int]; decide) | (simp only [List.length_cons, List.length_nil, eqv_int, decide_eq_true_eq, decide_eq_false_iff_not]; omega)))) | exact (gw_or1 (gt_val (gd_isi (n := "bool") rfl T.z_isinstance (by decide +kernel) (pe_bltn rfl T.z_bool (by decide +kernel) rfl) (gd_ixT (gd_ixL (gd_var (pv 0) rfl) (gd_var (pv 2) rfl) (by (first | assumption | exact ixh | exact ixb (by assumption) | exact rfl | (simp only [*]; exact rfl)))) gd_int (by (first | assumption | exact ixh | exact ixb (by assumption) | exact rfl | (simp only [*]; exact rfl)))) (by first | exact kit_tuple_bool | exact kit_list_bool | exact kit_int_bool | exact kit_bool_bool | exact kit_str_bool | exact kit_NoneType_bool | exact kit_dict_bool))))))))))) (fun h2 => absurd h2 (by simp)) (fun h2 => gss_nil ⟨_, rfl, rfl⟩))
      | add b => exact gss_one (gs_if (gt_of (gw_and (gt_eq hr.units (gd_callB call_len (ca_len (.inr rfl)) rfl T.z_len (by decide +kernel) (ga_cons (gd_ixL (gd_var (pv 1) rfl) (gd_var (pv 2) rfl) (by (first | assumption | exact ixh | exact ixb (by assumption) | exact rfl | (simp only [*]; exact rfl)))) ga_nil)) gd_int (by (first | exact shaped_int _ | exact shaped_bool _ | exact shaped_none | assumption | exact shaped_ints _ | exact shaped_str (by decide +kernel) | exact rfl | decide +kernel)) (by (first | exact shaped_int _ | exact shaped_bool _ | exact shaped_none | assumption | exact shaped_ints _ | exact shaped_str (by decide +kernel) | exact rfl | decide +kernel))) (fun hh => by first | exact gw_dead (absurd hh (by (first | decide +kernel | (simp only [List.length_cons, List.length_nil, eqv_int]; decide) | (simp only [List.length_cons, List.length_nil, eqv_int, decide_eq_true_eq, decide_eq_false_iff_not]; omega)))) | exact (gw_and1 (gt_of (gw_or (gt_not (gt_val (gd_isi (n := "int") rfl T.z_isinstance (by decide +kernel) (pe_bltn rfl T.z_int (by decide +kernel) rfl) (gd_ixT (gd_ixL (gd_var (pv 0) rfl) (gd_var (pv 2) rfl) (by (first | assumption | exact ixh | exact ixb (by assumption) | exact rfl | (simp only [*]; exact rfl)))) gd_int (by (first | assumption | exact ixh | exact ixb (by assumption) | exact rfl | (simp only [*]; exact rfl)))) (by first | exact kit_tuple_int | exact kit_list_int | exact kit_int_int | exact kit_bool_int | exact kit_str_int | exact kit_NoneType_int | exact kit_dict_int)))) (fun hh => by first | exact gw_dead (absurd hh (by (first | decide +kernel | (simp only [List.length_cons, List.length_nil, eqv_int]; decide) | (simp only [List.length_cons, List.length_nil, eqv_int, decide_eq_true_eq, decide_eq_false_iff_not]; omega)))) | exact (gw_or1 (gt_val (gd_isi (n := "bool") rfl T.z_isinstance (by decide +kernel) (pe_bltn rfl T.z_bool (by decide +kernel) rfl) (gd_ixT (gd_ixL (gd_var (pv 0) rfl) (gd_var (pv 2) rfl) (by (first | assumption | exact ixh | exact ixb (by assumption) | exact rfl | (simp only [*]; exact rfl)))) gd_int (by (first | assumption | exact ixh | exact ixb (by assumption) | exact rfl | (simp only [*]; exact rfl)))) (by first | exact kit_tuple_bool | exact kit_list_bool | exact kit_int_bool | exact kit_bool_bool | exact kit_str_bool | exact kit_NoneType_bool | exact kit_dict_bool))))))))))) (fun h2 => absurd h2 (by simp)) (fun h2 => gss_nil ⟨_, rfl, rfl⟩))
      | twice => exact gss_one (gs_if (gt_of (gw_and (k2 := false) (gt_eq hr.units (gd_callB call_len (ca_len (.inr rfl)) rfl T.z_len (by decide +kernel) (ga_cons (gd_ixL (gd_var (pv 1) rfl) (gd_var (pv 2) rfl) (by (first | assumption | exact ixh | exact ixb (by assumption) | exact rfl | (simp only [*]; exact rfl)))) ga_nil)) gd_int (by (first | exact shaped_int _ | exact shaped_bool _ | exact shaped_none | assumption | exact shaped_ints _ | exact shaped_str (by decide +kernel) | exact rfl | decide +kernel)) (by (first | exact shaped_int _ | exact shaped_bool _ | exact shaped_none | assumption | exact shaped_ints _ | exact shaped_str (by decide +kernel) | exact rfl | decide +kernel))) (fun h => absurd h (by rw [eqv_int]; decide)))) (fun h2 => absurd h2 (by simp)) (fun h2 => gss_nil ⟨_, rfl, rfl⟩))
      | take => exact gss_one (gs_if (gt_of (gw_and (k2 := false) (gt_eq hr.units (gd_callB call_len (ca_len (.inr rfl)) rfl T.z_len (by decide +kernel) (ga_cons (gd_ixL (gd_var (pv 1) rfl) (gd_var (pv 2) rfl) (by (first | assumption | exact ixh | exact ixb (by assumption) | exact rfl | (simp only [*]; exact rfl)))) ga_nil)) gd_int (by (first | exact shaped_int _ | exact shaped_bool _ | exact shaped_none | assumption | exact shaped_ints _ | exact shaped_str (by decide +kernel) | exact rfl | decide +kernel)) (by (first | exact shaped_int _ | exact shaped_bool _ | exact shaped_none | assumption | exact shaped_ints _ | exact shaped_str (by decide +kernel) | exact rfl | decide +kernel))) (fun h => absurd h (by rw [eqv_int]; decide)))) (fun h2 => absurd h2 (by simp)) (fun h2 => gss_nil ⟨_, rfl, rfl⟩))
      | free => exact gss_one (gs_if (gt_of (gw_and (k2 := false) (gt_eq hr.units (gd_callB call_len (ca_len (.inr rfl)) rfl T.z_len (by decide +kernel) (ga_cons (gd_ixL (gd_var (pv 1) rfl) (gd_var (pv 2) rfl) (by (first | assumption | exact ixh | exact ixb (by assumption) | exact rfl | (simp only [*]; exact rfl)))) ga_nil)) gd_int (by (first | exact shaped_int _ | exact shaped_bool _ | exact shaped_none | assumption | exact shaped_ints _ | exact shaped_str (by decide +kernel) | exact rfl | decide +kernel)) (by (first | exact shaped_int _ | exact shaped_bool _ | exact shaped_none | assumption | exact shaped_ints _ | exact shaped_str (by decide +kernel) | exact rfl | decide +kernel))) (fun h => absurd h (by rw [eqv_int]; decide)))) (fun h2 => absurd h2 (by simp)) (fun h2 => gss_nil ⟨_, rfl, rfl⟩))
    · rintro Γ' S' ⟨x2, rfl, rfl⟩
      exact gss_ret (r := .dat _) gd_bl rfl

theorem plain_kd (row : List Stp) : plainK ((plainR row).map Stp.kd) := fun k hk => by
  obtain ⟨s, hs, rfl⟩ := List.mem_map.mp hk
  have := (List.mem_filter.mp hs).2
  simpa using this
theorem grd_put (row : List Stp) : grdK ((putR row).map Stp.kd) = true := by
  have e : (putR row).map Stp.kd = .take :: ((plainR row).map Stp.kd ++ [.free]) := by
    unfold putR
    rw [List.map_cons, List.map_append]; rfl
  rw [grd_eq, e]
  show lgK 1 false _ = true
  rw [lg_plain _ (plain_kd row)]
  rfl
theorem putR_len (row : List Stp) : (putR row).length ≤ row.length + 2 := by
  have := plainR_len row
  unfold putR
  rw [List.length_cons, List.length_append]
  show _ + 1 + 1 ≤ _
  omega

theorem sc_law : FnScope ["_law_script", "_law_kind", "_law_row", "_law_handed", "_law_found", "_law_due", "_law_put", "_law_step"] ["_law_script"] (defScope s_law) := ⟨rfl, rfl, rfl, by decide +kernel, rfl, by decide +kernel, by decide +kernel⟩
theorem ok_law (T : Txt K mg) (TB : GxR.TabB base mg T.c_guarded T.P_guarded) : FnOk P w K mg base CX0 6 T.f_law T.d_law ["_law_script"] (SpM K (R_law T)) := by
  refine mut_def0 T.F_law sc_law (fun as S PR PX h => ?_) (fun cdv A outer s H E B as S PR PX hr h => ?_)
  · obtain ⟨ns, rfl, hs, hl, rfl, rfl, rfl⟩ := h; rfl
  · obtain ⟨ns, rfl, hs, hl, rfl, rfl, rfl⟩ := h
    refine gss_set (i := 1) sc_law.nd rfl (by first | exact .inl rfl | exact .inr rfl) (r := .dat _) (gd_mod (by (first | decide | omega)) (gd_call (ok_l_cell_at T) (hr.mono (by decide)) rfl T.m_l_cell_at T.F_l_cell_at.kp T.b_l_cell_at pass0 (ga_cons (gd_var (pv 0) rfl) (ga_cons gd_int ga_nil)) (by (exact ⟨_, _, rfl, by first | decide | omega, rfl⟩))) gd_int) ?_
    refine gss_then ?_
    refine gs_setE (i := 2) sc_law.nd rfl (by first | exact .inl rfl | exact .inr rfl) (ge_mono (ge_call (S1 := []) (F := [(T.P_guarded, .ho (.tbl #[]))]) (ok_l_row_by T) (hr.mono (by decide)) rfl T.m_l_row_by T.F_l_row_by.kp T.b_l_row_by (fun _ => GQ.p0At) (gas_cons (r := .dat _) (gd_var (pv 0) rfl) (gas_cons (r := .dat _) (gd_var (pv 1) rfl) gas_nil)) ⟨ns, _, rfl, hs, hl, rfl, rfl⟩) (fun r S' h => ?_) (fun cls S' h => ?_))
    rotate_left 1
    · obtain ⟨_, h, _⟩ := h
      exact h.elim
    obtain ⟨S1', ⟨row, rfl, hrl, rfl⟩, rfl⟩ := h
    refine gss_at (Γ2 := [.dat (.list (ns.map .int)), .dat (.int (cell ns 0 % 3)), .dat (rowD row), .un, .un, .un, .un, .un]) (S2 := [(T.P_guarded, .ho (.tbl #[]))]) rfl rfl ?_
    refine gss_set (i := 3) sc_law.nd rfl (by first | exact .inl rfl | exact .inr rfl) (r := .dat _) (gd_callTy call_list_of (ca_list (by first | exact .inl rfl | exact .inr rfl)) rfl T.z_list (by decide +kernel) (ga_cons (gd_var (pv 2) rfl) ga_nil)) ?_
    refine gss_at (Γ2 := [.dat (.list (ns.map .int)), .dat (.int (cell ns 0 % 3)), .dat (rowD row), .dat (rowD row), .un, .un, .un, .un]) (S2 := [(T.P_guarded, .ho (.tbl #[]))]) rfl rfl ?_
    refine gss_then ?_
    refine gs_setE (i := 4) sc_law.nd rfl (by first | exact .inl rfl | exact .inr rfl) (ge_mono (ge_call (S1 := [(T.P_guarded, .ho (.tbl #[]))]) (F := []) (ok_guarded T TB) (hr.mono (by decide)) rfl T.m_guarded T.F_guarded.kp T.b_guarded (fun _ => GQ.p0At) (gas_cons (r := .dat _) (gd_var (pv 3) rfl) gas_nil) ⟨row, #[], rfl, by omega, trivial, rfl, rfl, rfl⟩) (fun r S' h => ?_) (fun cls S' h => ?_))
    rotate_left 1
    · obtain ⟨_, h, _⟩ := h
      exact h.elim
    obtain ⟨S1', ⟨rfl, ps, tr, rfl⟩, rfl⟩ := h
    refine gss_at (Γ2 := [.dat (.list (ns.map .int)), .dat (.int (cell ns 0 % 3)), .dat (rowD row), .dat (rowD row), .dat (.bool (grdK (row.map Stp.kd))), .un, .un, .un]) (S2 := [(T.P_guarded, .ho (.tbl ps))]) rfl rfl ?_
    refine gss_if (gt_of (gw_or (gt_not (gt_val (gd_isi (n := "bool") rfl T.z_isinstance (by decide +kernel) (pe_bltn rfl T.z_bool (by decide +kernel) rfl) (gd_var (pv 4) rfl) (by first | exact kit_tuple_bool | exact kit_list_bool | exact kit_int_bool | exact kit_bool_bool | exact kit_str_bool | exact kit_NoneType_bool | exact kit_dict_bool)))) (fun hh => by first | exact gw_dead (absurd hh (by (first | decide +kernel | (simp only [List.length_cons, List.length_nil, eqv_int]; decide) | (simp only [List.length_cons, List.length_nil, eqv_int, decide_eq_true_eq, decide_eq_false_iff_not]; omega)))) | exact (gw_or (gt_ne hr.units (gd_var (pv 4) rfl) (gd_call (ok_l_guarded T) (hr.mono (by decide)) rfl T.m_l_guarded T.F_l_guarded.kp T.b_l_guarded pass0 (ga_cons (gd_var (pv 2) rfl) ga_nil) (by (exact ⟨row, rfl, by omega, rfl⟩))) (by (first | exact shaped_int _ | exact shaped_bool _ | exact shaped_none | assumption | exact shaped_ints _ | exact shaped_str (by decide +kernel) | exact rfl | decide +kernel)) (by (first | exact shaped_int _ | exact shaped_bool _ | exact shaped_none | assumption | exact shaped_ints _ | exact shaped_str (by decide +kernel) | exact rfl | decide +kernel))) (fun hh => by first | exact gw_dead (absurd hh (by (first | decide +kernel | (simp only [List.length_cons, List.length_nil, eqv_int]; decide) | (simp only [List.length_cons, List.length_nil, eqv_int, decide_eq_true_eq, decide_eq_false_iff_not]; omega)))) | exact (gw_or1 (gt_not (gt_val (gd_call (ok_l_alike T) (hr.mono (by decide)) rfl T.m_l_alike T.F_l_alike.kp T.b_l_alike pass0 (ga_cons (gd_var (pv 3) rfl) (ga_cons (gd_var (pv 2) rfl) ga_nil)) (by (first | exact ⟨row, rfl, by omega, rfl⟩ | exact ⟨putR row, rfl, by have := putR_len row; omega, rfl⟩))))))))))) (fun hh => absurd hh (by rw [eqv_bool, grd_eq]; simp)) (fun _ => gss_nil ?_)
    have hp := plainR_len row
    refine gss_set (i := 5) sc_law.nd rfl (by first | exact .inl rfl | exact .inr rfl) (r := .dat (rowD (putR row))) (gd_cast (gd_cat (gd_cat (gd_lst (ga_cons (gd_tup (ga_cons gd_str ga_nil) (by show 1 ≤ 100000; decide)) ga_nil) (by show 1 ≤ 100000; decide)) (GQ.gd_lcF (j := 7) (fun i => !(row.getD i .twice).kd.isGuard) (fun i => (row.getD i .twice).toD) rfl sc_law.nd (gd_var (pv 2) rfl) (by rw [List.length_map]; omega) (blkOk_by (own := [("_law_step", 7)]) (N := ["_law_script", "_law_kind", "_law_row", "_law_handed", "_law_found", "_law_due", "_law_put", "_law_step"]) (sc := defScope s_law) (by decide +kernel)) (fun _ _ _ _ _ => pg_name (i := 7) sc_law.nd rfl (Or.inl rfl)) (fun i D acc d hd _ _ _ _ _ => by
        have e := row_at row hd
        subst e
        exact gt_cast (gt_notIn rfl (gd_ixT (gd_var (pv 7) rfl) gd_int (by (first | assumption | exact ixh | exact ixb (by assumption) | exact rfl | (simp only [*]; exact rfl)))) (gd_tup (ga_cons gd_str (ga_cons gd_str ga_nil)) (by (first | decide | (simp only [List.length_append, List.length_cons, List.length_nil, List.length_map, List.length_set, List.length_take, List.length_drop]; omega)))) (by (first | exact rfl | decide)) (by (first | exact rfl | decide))) (congrArg (! ·) (kd_guard _))) (fun i D acc d hd _ _ _ _ _ => by
        have e := row_at row hd
        subst e
        exact gd_var (pv 7) rfl)) ?_) (gd_lst (ga_cons (gd_tup (ga_cons gd_str ga_nil) (by show 1 ≤ 100000; decide)) ga_nil) (by show 1 ≤ 100000; decide)) ?_) ?_) ?_
    · rw [List.length_map, flt_plain row _ (Nat.le_refl _), List.take_length, List.length_map]; show 1 + _ ≤ 100000; omega
    · rw [List.length_append, List.length_map, flt_plain row _ (Nat.le_refl _), List.take_length, List.length_map]; show 1 + _ + 1 ≤ 100000; omega
    · rw [List.length_map, flt_plain row _ (Nat.le_refl _), List.take_length]
      unfold rowD putR
      rw [List.map_cons, List.map_append]
      rfl
    refine gss_at (Γ2 := [.dat (.list (ns.map .int)), .dat (.int (cell ns 0 % 3)), .dat (rowD row), .dat (rowD row), .dat (.bool (grdK (row.map Stp.kd))), .dat (rowD (putR row)), .un, .un]) (S2 := [(T.P_guarded, .ho (.tbl ps))]) rfl rfl ?_
    refine gss_set (i := 6) sc_law.nd rfl (by first | exact .inl rfl | exact .inr rfl) (r := .dat _) (gd_call (ok_under_guard T) (hr.mono (by decide)) rfl T.m_under_guard T.F_under_guard.kp T.b_under_guard pass0 (ga_cons (gd_var (pv 3) rfl) ga_nil) (by (exact ⟨row, rfl, by omega, rfl⟩))) ?_
    refine gss_at (Γ2 := [.dat (.list (ns.map .int)), .dat (.int (cell ns 0 % 3)), .dat (rowD row), .dat (rowD row), .dat (.bool (grdK (row.map Stp.kd))), .dat (rowD (putR row)), .dat (rowD (putR row)), .un]) (S2 := [(T.P_guarded, .ho (.tbl ps))]) rfl rfl ?_
    refine gss_if (gt_of (gw_or (gt_not (gt_val (gd_call (ok_l_alike T) (hr.mono (by decide)) rfl T.m_l_alike T.F_l_alike.kp T.b_l_alike pass0 (ga_cons (gd_var (pv 6) rfl) (ga_cons (gd_var (pv 5) rfl) ga_nil)) (by (first | exact ⟨row, rfl, by omega, rfl⟩ | exact ⟨putR row, rfl, by have := putR_len row; omega, rfl⟩))))) (fun hh => by first | exact gw_dead (absurd hh (by (first | decide +kernel | (simp only [List.length_cons, List.length_nil, eqv_int]; decide) | (simp only [List.length_cons, List.length_nil, eqv_int, decide_eq_true_eq, decide_eq_false_iff_not]; omega)))) | exact (gw_or1 (gt_not (gt_val (gd_call (ok_l_alike T) (hr.mono (by decide)) rfl T.m_l_alike T.F_l_alike.kp T.b_l_alike pass0 (ga_cons (gd_var (pv 3) rfl) (ga_cons (gd_var (pv 2) rfl) ga_nil)) (by (first | exact ⟨row, rfl, by omega, rfl⟩ | exact ⟨putR row, rfl, by have := putR_len row; omega, rfl⟩))))))))) (fun hh => absurd hh (by decide)) (fun _ => gss_nil ?_)
    refine gss_one (gs_retE (ge_mono (GQ.ge_eqE (Pd := fun d _ => d = .bool true) hr.units (ge_mono (ge_call (S1 := [(T.P_guarded, .ho (.tbl ps))]) (F := []) (ok_guarded T TB) (hr.mono (by decide)) rfl T.m_guarded T.F_guarded.kp T.b_guarded (fun _ => GQ.p0At) (gas_cons (r := .dat _) (gd_callTy call_list_of (ca_list (by first | exact .inl rfl | exact .inr rfl)) rfl T.z_list (by decide +kernel) (ga_cons (gd_var (pv 5) rfl) ga_nil)) gas_nil) ⟨putR row, ps, rfl, by have := putR_len row; omega, tr, rfl, rfl, rfl⟩) (fun r S' h => ?_) (fun cls S' h => ?_)) (fun _ => gd_bl) (shaped_bool _)) (fun r S' h => ?_) fun _ _ h => h))
    · obtain ⟨S1', ⟨rfl, ps', tr', rfl⟩, rfl⟩ := h
      exact ⟨_, rfl, shaped_bool _, by rw [grd_put]⟩
    · obtain ⟨_, h, _⟩ := h
      exact h.elim
    · obtain ⟨d1, rfl, rfl⟩ := h
      rfl
end
theorem all_mk {l : PySem.W.OpenLaw} {w : World} {K : PySem.W.Frag} {h : Heap} {mg : Str → Option Value} {fa : Addr} (X : K.In h) (G : h.Ns mainGlobals mg) (hfa : mg "law" = some (.ref fa))
    {f_guarded : Addr} {od_guarded an_guarded : Option Addr} {sl_guarded : Array (Option Value)} {oc_guarded kV_guarded dc_guarded pm_guarded cd_guarded ct_guarded : Value}
    (a_guarded : PySem.W.nsIn K mainGlobals "guarded" = some (some (.ref f_guarded))) (l_guarded : K.lookup f_guarded = some ⟨oc_guarded, od_guarded, .func (PySem.W.fnOf "guarded" "guarded" (defArgs s_guarded) (defBody s_guarded) (defScope s_guarded) .none kV_guarded dc_guarded pm_guarded an_guarded cd_guarded ct_guarded), sl_guarded⟩) (c_guarded : PySem.W.codeIn K cd_guarded "guarded" = true) (k_guarded : PySem.W.keepIn K (.ref f_guarded) = true)
    {f_under_guard : Addr} {od_under_guard an_under_guard : Option Addr} {sl_under_guard : Array (Option Value)} {oc_under_guard kV_under_guard dc_under_guard pm_under_guard cd_under_guard ct_under_guard : Value}
    (a_under_guard : PySem.W.nsIn K mainGlobals "under_guard" = some (some (.ref f_under_guard))) (l_under_guard : K.lookup f_under_guard = some ⟨oc_under_guard, od_under_guard, .func (PySem.W.fnOf "under_guard" "under_guard" (defArgs s_under_guard) (defBody s_under_guard) (defScope s_under_guard) .none kV_under_guard dc_under_guard pm_under_guard an_under_guard cd_under_guard ct_under_guard), sl_under_guard⟩) (c_under_guard : PySem.W.codeIn K cd_under_guard "under_guard" = true) (k_under_guard : PySem.W.keepIn K (.ref f_under_guard) = true)
    {f_l_cell_at : Addr} {od_l_cell_at an_l_cell_at : Option Addr} {sl_l_cell_at : Array (Option Value)} {oc_l_cell_at kV_l_cell_at dc_l_cell_at pm_l_cell_at cd_l_cell_at ct_l_cell_at : Value}
    (a_l_cell_at : PySem.W.nsIn K mainGlobals "_law_cell_at" = some (some (.ref f_l_cell_at))) (l_l_cell_at : K.lookup f_l_cell_at = some ⟨oc_l_cell_at, od_l_cell_at, .func (PySem.W.fnOf "_law_cell_at" "_law_cell_at" (defArgs s_l_cell_at) (defBody s_l_cell_at) (defScope s_l_cell_at) .none kV_l_cell_at dc_l_cell_at pm_l_cell_at an_l_cell_at cd_l_cell_at ct_l_cell_at), sl_l_cell_at⟩) (c_l_cell_at : PySem.W.codeIn K cd_l_cell_at "_law_cell_at" = true) (k_l_cell_at : PySem.W.keepIn K (.ref f_l_cell_at) = true)
    {f_l_number_by : Addr} {od_l_number_by an_l_number_by : Option Addr} {sl_l_number_by : Array (Option Value)} {oc_l_number_by kV_l_number_by dc_l_number_by pm_l_number_by cd_l_number_by ct_l_number_by : Value}
    (a_l_number_by : PySem.W.nsIn K mainGlobals "_law_number_by" = some (some (.ref f_l_number_by))) (l_l_number_by : K.lookup f_l_number_by = some ⟨oc_l_number_by, od_l_number_by, .func (PySem.W.fnOf "_law_number_by" "_law_number_by" (defArgs s_l_number_by) (defBody s_l_number_by) (defScope s_l_number_by) .none kV_l_number_by dc_l_number_by pm_l_number_by an_l_number_by cd_l_number_by ct_l_number_by), sl_l_number_by⟩) (c_l_number_by : PySem.W.codeIn K cd_l_number_by "_law_number_by" = true) (k_l_number_by : PySem.W.keepIn K (.ref f_l_number_by) = true)
    {f_l_step_by : Addr} {od_l_step_by an_l_step_by : Option Addr} {sl_l_step_by : Array (Option Value)} {oc_l_step_by kV_l_step_by dc_l_step_by pm_l_step_by cd_l_step_by ct_l_step_by : Value}
    (a_l_step_by : PySem.W.nsIn K mainGlobals "_law_step_by" = some (some (.ref f_l_step_by))) (l_l_step_by : K.lookup f_l_step_by = some ⟨oc_l_step_by, od_l_step_by, .func (PySem.W.fnOf "_law_step_by" "_law_step_by" (defArgs s_l_step_by) (defBody s_l_step_by) (defScope s_l_step_by) .none kV_l_step_by dc_l_step_by pm_l_step_by an_l_step_by cd_l_step_by ct_l_step_by), sl_l_step_by⟩) (c_l_step_by : PySem.W.codeIn K cd_l_step_by "_law_step_by" = true) (k_l_step_by : PySem.W.keepIn K (.ref f_l_step_by) = true)
    {f_l_row_by : Addr} {od_l_row_by an_l_row_by : Option Addr} {sl_l_row_by : Array (Option Value)} {oc_l_row_by kV_l_row_by dc_l_row_by pm_l_row_by cd_l_row_by ct_l_row_by : Value}
    (a_l_row_by : PySem.W.nsIn K mainGlobals "_law_row_by" = some (some (.ref f_l_row_by))) (l_l_row_by : K.lookup f_l_row_by = some ⟨oc_l_row_by, od_l_row_by, .func (PySem.W.fnOf "_law_row_by" "_law_row_by" (defArgs s_l_row_by) (defBody s_l_row_by) (defScope s_l_row_by) .none kV_l_row_by dc_l_row_by pm_l_row_by an_l_row_by cd_l_row_by ct_l_row_by), sl_l_row_by⟩) (c_l_row_by : PySem.W.codeIn K cd_l_row_by "_law_row_by" = true) (k_l_row_by : PySem.W.keepIn K (.ref f_l_row_by) = true)
    {f_l_guarded : Addr} {od_l_guarded an_l_guarded : Option Addr} {sl_l_guarded : Array (Option Value)} {oc_l_guarded kV_l_guarded dc_l_guarded pm_l_guarded cd_l_guarded ct_l_guarded : Value}
    (a_l_guarded : PySem.W.nsIn K mainGlobals "_law_guarded" = some (some (.ref f_l_guarded))) (l_l_guarded : K.lookup f_l_guarded = some ⟨oc_l_guarded, od_l_guarded, .func (PySem.W.fnOf "_law_guarded" "_law_guarded" (defArgs s_l_guarded) (defBody s_l_guarded) (defScope s_l_guarded) .none kV_l_guarded dc_l_guarded pm_l_guarded an_l_guarded cd_l_guarded ct_l_guarded), sl_l_guarded⟩) (c_l_guarded : PySem.W.codeIn K cd_l_guarded "_law_guarded" = true) (k_l_guarded : PySem.W.keepIn K (.ref f_l_guarded) = true)
    {f_l_alike : Addr} {od_l_alike an_l_alike : Option Addr} {sl_l_alike : Array (Option Value)} {oc_l_alike kV_l_alike dc_l_alike pm_l_alike cd_l_alike ct_l_alike : Value}
    (a_l_alike : PySem.W.nsIn K mainGlobals "_law_alike" = some (some (.ref f_l_alike))) (l_l_alike : K.lookup f_l_alike = some ⟨oc_l_alike, od_l_alike, .func (PySem.W.fnOf "_law_alike" "_law_alike" (defArgs s_l_alike) (defBody s_l_alike) (defScope s_l_alike) .none kV_l_alike dc_l_alike pm_l_alike an_l_alike cd_l_alike ct_l_alike), sl_l_alike⟩) (c_l_alike : PySem.W.codeIn K cd_l_alike "_law_alike" = true) (k_l_alike : PySem.W.keepIn K (.ref f_l_alike) = true)
    {f_law : Addr} {od_law an_law : Option Addr} {sl_law : Array (Option Value)} {oc_law kV_law dc_law pm_law cd_law ct_law : Value}
    (a_law : PySem.W.nsIn K mainGlobals "law" = some (some (.ref f_law))) (l_law : K.lookup f_law = some ⟨oc_law, od_law, .func (PySem.W.fnOf "law" "law" (defArgs s_law) (defBody s_law) (defScope s_law) .none kV_law dc_law pm_law an_law cd_law ct_law), sl_law⟩) (c_law : PySem.W.codeIn K cd_law "law" = true) (k_law : PySem.W.keepIn K (.ref f_law) = true)
    {aa_BOX_WORDS : Addr} {dd_BOX_WORDS : Option Addr} {it_BOX_WORDS : Array Value} {n_BOX_WORDS : Nat} {sl_BOX_WORDS : Array (Option Value)} (a_BOX_WORDS : PySem.W.nsIn K mainGlobals "BOX_WORDS" = some (some (.ref aa_BOX_WORDS))) (l_BOX_WORDS : K.lookup aa_BOX_WORDS = some ⟨.type "tuple", dd_BOX_WORDS, .seq it_BOX_WORDS n_BOX_WORDS, sl_BOX_WORDS⟩) (v_BOX_WORDS : Vals [V.str "load", V.str "plus", V.str "store"] it_BOX_WORDS.toList)
    {aa_GUARD_WORDS : Addr} {dd_GUARD_WORDS : Option Addr} {it_GUARD_WORDS : Array Value} {n_GUARD_WORDS : Nat} {sl_GUARD_WORDS : Array (Option Value)} (a_GUARD_WORDS : PySem.W.nsIn K mainGlobals "GUARD_WORDS" = some (some (.ref aa_GUARD_WORDS))) (l_GUARD_WORDS : K.lookup aa_GUARD_WORDS = some ⟨.type "tuple", dd_GUARD_WORDS, .seq it_GUARD_WORDS n_GUARD_WORDS, sl_GUARD_WORDS⟩) (v_GUARD_WORDS : Vals [V.str "take", V.str "free"] it_GUARD_WORDS.toList)
    (z_len : PySem.W.nsIn K mainGlobals "len" = some none)
    (z_isinstance : PySem.W.nsIn K mainGlobals "isinstance" = some none)
    (z_int : PySem.W.nsIn K mainGlobals "int" = some none)
    (z_bool : PySem.W.nsIn K mainGlobals "bool" = some none)
    (z_list : PySem.W.nsIn K mainGlobals "list" = some none)
    (z_tuple : PySem.W.nsIn K mainGlobals "tuple" = some none)
    (z_range : PySem.W.nsIn K mainGlobals "range" = some none)
    (z_any : PySem.W.nsIn K mainGlobals "any" = some none)
    (z_min : PySem.W.nsIn K mainGlobals "min" = some none)
    (z_max : PySem.W.nsIn K mainGlobals "max" = some none)
    {q : Program} (TF : GQ.TabF q mg h) {cc_guarded PP_guarded : Addr} {ve_guarded : Value} {vd_guarded : Option Addr} {vv_guarded : Array Value} {vl_guarded : Array (Option Value)} (tc_guarded : cd_guarded = .ref cc_guarded) (tl_guarded : K.lookup cc_guarded = some ⟨ve_guarded, vd_guarded, .fields vv_guarded, vl_guarded⟩) (tp_guarded : vv_guarded[11]? = some (.ref PP_guarded)) (tn_guarded : K.lookup PP_guarded = none) (qr_guarded : ((recsOf q).any fun e => e.name == "guarded") = true)
    : LamX.LawAtS l w K CX0 6 63 "_law_script" mg fa h := by
  have e := hfa.symm.trans (PySem.W.mg_of X G a_law)
  cases e
  have TT := GQ.tab_of X TF qr_guarded (PySem.W.mg_of X G a_guarded) l_guarded tc_guarded tl_guarded tp_guarded
  let T : Txt K mg := { f_guarded := f_guarded, d_guarded := _, F_guarded := fun_mk (st := s_guarded) l_guarded c_guarded k_guarded, m_guarded := PySem.W.mg_of X G a_guarded, b_guarded := (fun_mk (st := s_guarded) l_guarded c_guarded k_guarded).binds (ps := ["row"]) (fun _ _ _ _ _ _ us hl => match us, hl with | [_], _ => rfl), f_under_guard := f_under_guard, d_under_guard := _, F_under_guard := fun_mk (st := s_under_guard) l_under_guard c_under_guard k_under_guard, m_under_guard := PySem.W.mg_of X G a_under_guard, b_under_guard := (fun_mk (st := s_under_guard) l_under_guard c_under_guard k_under_guard).binds (ps := ["row"]) (fun _ _ _ _ _ _ us hl => match us, hl with | [_], _ => rfl), f_l_cell_at := f_l_cell_at, d_l_cell_at := _, F_l_cell_at := fun_mk (st := s_l_cell_at) l_l_cell_at c_l_cell_at k_l_cell_at, m_l_cell_at := PySem.W.mg_of X G a_l_cell_at, b_l_cell_at := (fun_mk (st := s_l_cell_at) l_l_cell_at c_l_cell_at k_l_cell_at).binds (ps := ["_law_script", "_law_k"]) (fun _ _ _ _ _ _ us hl => match us, hl with | [_, _], _ => rfl), f_l_number_by := f_l_number_by, d_l_number_by := _, F_l_number_by := fun_mk (st := s_l_number_by) l_l_number_by c_l_number_by k_l_number_by, m_l_number_by := PySem.W.mg_of X G a_l_number_by, b_l_number_by := (fun_mk (st := s_l_number_by) l_l_number_by c_l_number_by k_l_number_by).binds (ps := ["_law_cell"]) (fun _ _ _ _ _ _ us hl => match us, hl with | [_], _ => rfl), f_l_step_by := f_l_step_by, d_l_step_by := _, F_l_step_by := fun_mk (st := s_l_step_by) l_l_step_by c_l_step_by k_l_step_by, m_l_step_by := PySem.W.mg_of X G a_l_step_by, b_l_step_by := (fun_mk (st := s_l_step_by) l_l_step_by c_l_step_by k_l_step_by).binds (ps := ["_law_cell", "_law_free"]) (fun _ _ _ _ _ _ us hl => match us, hl with | [_, _], _ => rfl), f_l_row_by := f_l_row_by, d_l_row_by := _, F_l_row_by := fun_mk (st := s_l_row_by) l_l_row_by c_l_row_by k_l_row_by, m_l_row_by := PySem.W.mg_of X G a_l_row_by, b_l_row_by := (fun_mk (st := s_l_row_by) l_l_row_by c_l_row_by k_l_row_by).binds (ps := ["_law_script", "_law_kind"]) (fun _ _ _ _ _ _ us hl => match us, hl with | [_, _], _ => rfl), f_l_guarded := f_l_guarded, d_l_guarded := _, F_l_guarded := fun_mk (st := s_l_guarded) l_l_guarded c_l_guarded k_l_guarded, m_l_guarded := PySem.W.mg_of X G a_l_guarded, b_l_guarded := (fun_mk (st := s_l_guarded) l_l_guarded c_l_guarded k_l_guarded).binds (ps := ["_law_row"]) (fun _ _ _ _ _ _ us hl => match us, hl with | [_], _ => rfl), f_l_alike := f_l_alike, d_l_alike := _, F_l_alike := fun_mk (st := s_l_alike) l_l_alike c_l_alike k_l_alike, m_l_alike := PySem.W.mg_of X G a_l_alike, b_l_alike := (fun_mk (st := s_l_alike) l_l_alike c_l_alike k_l_alike).binds (ps := ["_law_found", "_law_due"]) (fun _ _ _ _ _ _ us hl => match us, hl with | [_, _], _ => rfl), f_law := fa, d_law := _, F_law := fun_mk (st := s_law) l_law c_law k_law, m_law := PySem.W.mg_of X G a_law, b_law := (fun_mk (st := s_law) l_law c_law k_law).binds (ps := ["_law_script"]) (fun _ _ _ _ _ _ us hl => match us, hl with | [_], _ => rfl), a_BOX_WORDS := aa_BOX_WORDS, m_BOX_WORDS := PySem.W.mg_of X G a_BOX_WORDS, c_BOX_WORDS := fun H0 => .tup (.inr ⟨_, it_BOX_WORDS, n_BOX_WORDS, l_BOX_WORDS, rfl, rfl, (by have e := Vals.length v_BOX_WORDS; simp only [Array.length_toList] at e; rw [← e]; exact Evl.sz_of (by decide)), v_BOX_WORDS⟩) (.cons (.str _) (.cons (.str _) (.cons (.str _) .nil))), r_BOX_WORDS := rfl, a_GUARD_WORDS := aa_GUARD_WORDS, m_GUARD_WORDS := PySem.W.mg_of X G a_GUARD_WORDS, c_GUARD_WORDS := fun H0 => .tup (.inr ⟨_, it_GUARD_WORDS, n_GUARD_WORDS, l_GUARD_WORDS, rfl, rfl, (by have e := Vals.length v_GUARD_WORDS; simp only [Array.length_toList] at e; rw [← e]; exact Evl.sz_of (by decide)), v_GUARD_WORDS⟩) (.cons (.str _) (.cons (.str _) .nil)), r_GUARD_WORDS := rfl, z_len := PySem.W.mg_none_of X G z_len, z_isinstance := PySem.W.mg_none_of X G z_isinstance, z_int := PySem.W.mg_none_of X G z_int, z_bool := PySem.W.mg_none_of X G z_bool, z_list := PySem.W.mg_none_of X G z_list, z_tuple := PySem.W.mg_none_of X G z_tuple, z_range := PySem.W.mg_none_of X G z_range, z_any := PySem.W.mg_none_of X G z_any, z_min := PySem.W.mg_none_of X G z_min, z_max := PySem.W.mg_none_of X G z_max, c_guarded := cc_guarded, P_guarded := PP_guarded, t_guarded := tc_guarded }
  have one : ∀ p ∈ [(cc_guarded, PP_guarded)], p = (cc_guarded, PP_guarded) := fun p hp => List.mem_singleton.mp hp
  refine ⟨T.d_law, [(cc_guarded, PP_guarded)], SpM K (R_law T), fun p hp => by rw [one p hp]; exact TT.1, fun p hp => by rw [one p hp]; exact tn_guarded, fun p hp => by rw [one p hp]; exact TT.2, fun s v => .of_eq rfl, fun H a ns hl hb hT hS => ?_, fun base _ _ TB => ok_law T ⟨(TB _ List.mem_cons_self).code, (TB _ List.mem_cons_self).bm, (TB _ List.mem_cons_self).gP⟩⟩
  exact GQ.lawM_sp ⟨ns, rfl, fun z hz => bits_log (hb z hz), hl, rfl, rfl, rfl⟩ (fun _ _ h => h) (hT _ List.mem_cons_self) hS
end My
open PySem PySem.W PyProof.Rows
set_option maxRecDepth 100000 in
set_option maxHeartbeats 0 in
theorem PySem.Challenge.cw_guardrows_k10_rows_under_guard_holds : PySem.Challenge.rw_guardrows_k10_rows_under_guard.Holds := by
  w_on; o_law; k_head; (case hw => w_witness2)
  k_fill
  refine GQ.walk_tabs (l := PySem.Challenge.rw_guardrows_k10_rows_under_guard) (n := 63) (k := 6) (x := "_law_script") (CX := fun _ => L2.CX0) rfl (by decide) rfl ⟨rfl, by decide, by decide⟩ (fun w h Y => PySem.W.kIn_of Y) ?F (fun _ _ _ _ _ h => h)
  case F =>
    intro w mg fa h KX G hmg TF
    refine' My.all_mk KX G hmg ?a_guarded ?l_guarded ?c_guarded ?k_guarded ?a_under_guard ?l_under_guard ?c_under_guard ?k_under_guard ?a_l_cell_at ?l_l_cell_at ?c_l_cell_at ?k_l_cell_at ?a_l_number_by ?l_l_number_by ?c_l_number_by ?k_l_number_by ?a_l_step_by ?l_l_step_by ?c_l_step_by ?k_l_step_by ?a_l_row_by ?l_l_row_by ?c_l_row_by ?k_l_row_by ?a_l_guarded ?l_l_guarded ?c_l_guarded ?k_l_guarded ?a_l_alike ?l_l_alike ?c_l_alike ?k_l_alike ?a_law ?l_law ?c_law ?k_law ?a_BOX_WORDS ?l_BOX_WORDS ?v_BOX_WORDS ?a_GUARD_WORDS ?l_GUARD_WORDS ?v_GUARD_WORDS ?z_len ?z_isinstance ?z_int ?z_bool ?z_list ?z_tuple ?z_range ?z_any ?z_min ?z_max TF ?tc_guarded ?tl_guarded ?tp_guarded ?tn_guarded ?qr_guarded
    (case a_guarded => k_is)
    (case l_guarded => k_is)
    (case c_guarded => k_is)
    (case k_guarded => k_is)
    (case a_under_guard => k_is)
    (case l_under_guard => k_is)
    (case c_under_guard => k_is)
    (case k_under_guard => k_is)
    (case a_l_cell_at => k_is)
    (case l_l_cell_at => k_is)
    (case c_l_cell_at => k_is)
    (case k_l_cell_at => k_is)
    (case a_l_number_by => k_is)
    (case l_l_number_by => k_is)
    (case c_l_number_by => k_is)
    (case k_l_number_by => k_is)
    (case a_l_step_by => k_is)
    (case l_l_step_by => k_is)
    (case c_l_step_by => k_is)
    (case k_l_step_by => k_is)
    (case a_l_row_by => k_is)
    (case l_l_row_by => k_is)
    (case c_l_row_by => k_is)
    (case k_l_row_by => k_is)
    (case a_l_guarded => k_is)
    (case l_l_guarded => k_is)
    (case c_l_guarded => k_is)
    (case k_l_guarded => k_is)
    (case a_l_alike => k_is)
    (case l_l_alike => k_is)
    (case c_l_alike => k_is)
    (case k_l_alike => k_is)
    (case a_law => k_is)
    (case l_law => k_is)
    (case c_law => k_is)
    (case k_law => k_is)
    (case a_BOX_WORDS => k_is)
    (case l_BOX_WORDS => k_is)
    (case a_GUARD_WORDS => k_is)
    (case l_GUARD_WORDS => k_is)
    (case z_len => k_is)
    (case z_isinstance => k_is)
    (case z_int => k_is)
    (case z_bool => k_is)
    (case z_list => k_is)
    (case z_tuple => k_is)
    (case z_range => k_is)
    (case z_any => k_is)
    (case z_min => k_is)
    (case z_max => k_is)
    (case v_BOX_WORDS => exact (.cons ⟨_, rfl⟩ (.cons ⟨_, rfl⟩ (.cons ⟨_, rfl⟩ .nil))))
    (case v_GUARD_WORDS => exact (.cons ⟨_, rfl⟩ (.cons ⟨_, rfl⟩ .nil)))
    (case tc_guarded => exact rfl)
    (case tl_guarded => k_is)
    (case tp_guarded => exact rfl)
    (case tn_guarded => exact rfl)
    (case qr_guarded => decide +kernel)
