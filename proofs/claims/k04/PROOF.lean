import PyProof.Rows.All
import Wide.All
import OpenK.AllK
import Wide.FinOn
import HandS.ForMost
import HandS.IsInst
import HandS.Evl
import HandS.EndBits
import HandS.ExcOwn
import HandS.WordsExc
import HandS.TryMany
import HandS.TryOnly
import HandS.RaiseMore
import HandS.FStr
import HandS.HotCalls
import HandS.ExcIs
import HandS.Deep
import PySem.Challenge.RW_guardrows_k04_rows_refused
set_option Elab.async false
set_option linter.all false
set_option maxRecDepth 100000
namespace L2
open PySem PySem.Spec
theorem PE.imp {X : Cx} {e : Expr} {t u : TE} (h : PE X e t) (k : ∀ σ H Q, u σ H Q → t σ H Q) : PE X e u := ⟨fun pins s σ H Q I q => h.run pins s σ H Q I (k σ H Q q)⟩
theorem PT.imp {X : Cx} {e : Expr} {t u : TT} (h : PT X e t) (k : ∀ σ H Q, u σ H Q → t σ H Q) : PT X e u := ⟨fun pins s σ H Q I q => h.run pins s σ H Q I (k σ H Q q)⟩
theorem PA.imp {X : Cx} {e : List Expr} {t u : TA} (h : PA X e t) (k : ∀ σ H Q, u σ H Q → t σ H Q) : PA X e u := ⟨fun pos pins s σ H Q I q => h.run pos pins s σ H Q I (k σ H Q q)⟩
theorem PS.imp {X : Cx} {e : Stmt} {t u : TS} (h : PS X e t) (k : ∀ D σ H, u D σ H → t D σ H) : PS X e u := ⟨fun pins s σ H D I q => h.run pins s σ H D I (k D σ H q)⟩
theorem PSs.imp {X : Cx} {e : List Stmt} {t u : TS} (h : PSs X e t) (k : ∀ D σ H, u D σ H → t D σ H) : PSs X e u := ⟨fun pins s σ H D I q => h.run pins s σ H D I (k D σ H q)⟩
theorem PW.imp {X : Cx} {e : Expr} {t u : TT} (h : PW X e t) (k : ∀ σ H Q, u σ H Q → t σ H Q) : PW X e u := ⟨fun wh pins s σ H Q I q => h.run wh pins s σ H Q I (k σ H Q q)⟩
end L2
namespace G
open PySem PySem.Spec PyProof.Rows L2
open Evl (Ex ex_l ex_t)
abbrev St := L2.St

/-! ### data in the heap -/
mutual
theorem dp_ex {K : PySem.W.Frag} {H H' : Hp} (e : Ex H H') : ∀ (d : PyData) (v : V), Dp K H v d → Dp K H' v d
  | .none, _, h => by cases h; exact .non
  | .bool b, _, h => by cases h; exact .bl b
  | .int i, _, h => by cases h; exact .int i
  | .str x, _, h => by cases h; exact .str x
  | .list ds, _, h => by
    cases h with
    | lst hs ha => exact .lst (ex_l e hs) (dps_ex e ds _ ha)
  | .tuple ds, _, h => by
    cases h with
    | tup hs ha => exact .tup (ex_t e hs) (dps_ex e ds _ ha)
  | .dict _, _, h => by cases h
theorem dps_ex {K : PySem.W.Frag} {H H' : Hp} (e : Ex H H') : ∀ (ds : List PyData) (vs : List V), DpAll K H vs ds → DpAll K H' vs ds
  | [], _, h => by cases h; exact .nil
  | d :: ds, _, h => by
    cases h with
    | cons h1 h2 => exact .cons (dp_ex e d _ h1) (dps_ex e ds _ h2)
end
theorem dps_len {K : PySem.W.Frag} {H : Hp} : ∀ {vs : List V} {ds : List PyData}, DpAll K H vs ds → vs.length = ds.length
  | _, _, .nil => rfl
  | _, _, .cons _ t => congrArg (· + 1) (dps_len t)
theorem dps_get {K : PySem.W.Frag} {H : Hp} : ∀ {vs : List V} {ds : List PyData} {i : Nat} {d : PyData}, DpAll K H vs ds → ds[i]? = some d → ∃ v, vs[i]? = some v ∧ Dp K H v d
  | _, _, _, _, .nil, e => by simp at e
  | _, _, 0, _, .cons h _, e => by simp at e; subst e; exact ⟨_, rfl, h⟩
  | _, _, i + 1, d, .cons _ t, e => by
    obtain ⟨v, h1, h2⟩ := dps_get (i := i) (d := d) t (by simpa using e)
    exact ⟨v, by simpa using h1, h2⟩
theorem dps_getV {K : PySem.W.Frag} {H : Hp} {vs : List V} {ds : List PyData} {i : Nat} {v : V} (h : DpAll K H vs ds) (e : vs[i]? = some v) : ∃ d, ds[i]? = some d ∧ Dp K H v d := by
  obtain ⟨hi, _⟩ := List.getElem?_eq_some_iff.mp e
  have hi' : i < ds.length := by rw [← dps_len h]; exact hi
  obtain ⟨v', e', hd⟩ := dps_get h (List.getElem?_eq_getElem hi')
  rw [e] at e'
  cases e'
  exact ⟨_, List.getElem?_eq_getElem hi', hd⟩
theorem dps_app {K : PySem.W.Frag} {H : Hp} : ∀ {vs ws : List V} {ds es : List PyData}, DpAll K H vs ds → DpAll K H ws es → DpAll K H (vs ++ ws) (ds ++ es)
  | _, _, _, _, .nil, s => s
  | _, _, _, _, .cons h t, s => .cons h (dps_app t s)
theorem dps_set {K : PySem.W.Frag} {H : Hp} {v : V} {d : PyData} (h : Dp K H v d) : ∀ {vs : List V} {ds : List PyData} (i : Nat), DpAll K H vs ds → DpAll K H (vs.set i v) (ds.set i d)
  | _, _, _, .nil => .nil
  | _, _, 0, .cons _ t => .cons h t
  | _, _, i + 1, .cons g t => .cons g (dps_set h i t)
theorem dps_take {K : PySem.W.Frag} {H : Hp} : ∀ {vs : List V} {ds : List PyData} (n : Nat), DpAll K H vs ds → DpAll K H (vs.take n) (ds.take n)
  | _, _, 0, _ => .nil
  | _, _, _ + 1, .nil => .nil
  | _, _, n + 1, .cons r t => .cons r (dps_take n t)
theorem dps_drop {K : PySem.W.Frag} {H : Hp} : ∀ {vs : List V} {ds : List PyData} (n : Nat), DpAll K H vs ds → DpAll K H (vs.drop n) (ds.drop n)
  | _, _, 0, r => r
  | _, _, _ + 1, .nil => .nil
  | _, _, n + 1, .cons _ t => dps_drop n t
theorem dps_ints {K : PySem.W.Frag} {H : Hp} : ∀ ns : List Int, DpAll K H (ns.map V.int) (ns.map PyData.int)
  | [] => .nil
  | n :: ns => .cons (.int n) (dps_ints ns)
theorem ints_of {K : PySem.W.Frag} {H : Hp} : ∀ {ns : List Int} {vs : List V}, DpAll K H vs (ns.map PyData.int) → vs = ns.map V.int
  | [], _, .nil => rfl
  | n :: ns, _, .cons h t => by
    cases h
    rw [ints_of t]
    rfl
theorem bools_of {K : PySem.W.Frag} {H : Hp} : ∀ {ns : List Bool} {vs : List V}, DpAll K H vs (ns.map PyData.bool) → vs = ns.map V.bl
  | [], _, .nil => rfl
  | n :: ns, _, .cons h t => by
    cases h
    rw [bools_of t]
    rfl

theorem shaped_int (i : Int) : SeqAt.shaped (.int i) = true := by simp [SeqAt.shaped, PyData.canLay0, PyData.depth]
theorem shaped_bool (i : Bool) : SeqAt.shaped (.bool i) = true := by simp [SeqAt.shaped, PyData.canLay0, PyData.depth]
theorem shaped_none : SeqAt.shaped .none = true := by simp [SeqAt.shaped, PyData.canLay0, PyData.depth]
theorem canLay_ints : ∀ ns : List Int, PyData.canLayAll0 (ns.map PyData.int) = true
  | [] => by simp [PyData.canLayAll0]
  | n :: ns => by simp [PyData.canLayAll0, PyData.canLay0, canLay_ints ns]
theorem eqv_int (i j : Int) : PyData.eqv (.int i) (.int j) = decide (i = j) := by simp [PyData.eqv, Bool.beq_eq_decide_eq]
theorem eqv_bool (i j : Bool) : PyData.eqv (.bool i) (.bool j) = (i == j) := by simp [PyData.eqv]
theorem depth_ints : ∀ ns : List Int, PyData.depthAll (ns.map PyData.int) = 0
  | [] => by simp [PyData.depthAll]
  | n :: ns => by simp [PyData.depthAll, PyData.depth, depth_ints ns]
theorem shaped_ints (ns : List Int) : SeqAt.shaped (.list (ns.map PyData.int)) = true := by simp [SeqAt.shaped, PyData.canLay0, PyData.depth, canLay_ints, depth_ints]
theorem shaped_str {x : Str} (h : PyData.strOk x = true) : SeqAt.shaped (.str x) = true := by simp [SeqAt.shaped, PyData.canLay0, PyData.depth, h]
/-! ### the pair of heaps: H0 what is data, H all -/
structure Ext (H0 H H0' H' : Hp) : Prop where
  e0 : Ex H0 H0'
  e1 : Ex H H'
  e2 : Ex H0' H'
  fr : ∀ p, H0 p = none → H p ≠ none → H0' p = none
theorem Ext.refl {H0 H : Hp} (e : Ex H0 H) : Ext H0 H H0 H := ⟨Ex.refl _, Ex.refl _, e, fun _ h _ => h⟩
theorem ne_none {H H' : Hp} (e : Ex H H') {p : Addr} (h : H p ≠ none) : H' p ≠ none := by
  cases q : H p with
  | none => exact absurd q h
  | some o => rw [e p o q]; exact fun z => nomatch z
theorem Ext.trans {H0 H H1 H' H2 H'' : Hp} (a : Ext H0 H H1 H') (b : Ext H1 H' H2 H'') : Ext H0 H H2 H'' :=
  ⟨a.e0.trans b.e0, a.e1.trans b.e1, b.e2, fun p h1 h2 => b.fr p (a.fr p h1 h2) (ne_none a.e1 h2)⟩
theorem free0 {H0 H : Hp} (e : Ex H0 H) {p : Addr} (h : H p = none) : H0 p = none := Evl.fresh_back e h
theorem ex_upd {H0 H : Hp} {p : Addr} {o : HO} (e : Ex H0 H) (h : H p = none) : Ex (upd H0 p o) (upd H p o) := fun a u q => by
  by_cases ha : a = p
  · subst ha; rw [upd_same] at q ⊢; exact q
  · rw [upd_ne ha] at q ⊢; exact e a u q
/-- a new piece of data -/
theorem Ext.new {H0 H : Hp} {p : Addr} {o : HO} (e : Ex H0 H) (h : H p = none) : Ext H0 H (upd H0 p o) (upd H p o) :=
  ⟨Ex.new (free0 e h), Ex.new h, ex_upd e h, fun q h1 h2 => by
    have : q ≠ p := fun z => h2 (by rw [z]; exact h)
    rw [upd_ne this]; exact h1⟩
/-- a new object that is no data -/
theorem Ext.newH {H0 H : Hp} {p : Addr} {o : HO} (e : Ex H0 H) (h : H p = none) : Ext H0 H H0 (upd H p o) :=
  ⟨Ex.refl _, Ex.new h, e.trans (Ex.new h), fun q h1 _ => h1⟩

structure Bs where
  H0 : Hp
  H : Hp
  ks : List Addr
  E : WX := fun _ _ _ _ => False
structure Fra (B : Bs) (H0 H : Hp) : Prop where
  e0 : Ex B.H0 H0
  e1 : ∀ b o, B.H b = some o → b ∉ B.ks → H b = some o
  e2 : Ex H0 H
  fr : ∀ p, B.H0 p = none → B.H p ≠ none → H0 p = none
  th : ∀ p, B.H p ≠ none → H p ≠ none
theorem Fra.ext {B : Bs} {H0 H H0' H' : Hp} (f : Fra B H0 H) (x : Ext H0 H H0' H') : Fra B H0' H' :=
  ⟨f.e0.trans x.e0, fun b o h n => x.e1 b o (f.e1 b o h n), x.e2, fun p h1 h2 => x.fr p (f.fr p h1 h2) (f.th p h2), fun p h => ne_none x.e1 (f.th p h)⟩
theorem Fra.refl {H0 H : Hp} {ks : List Addr} {E : WX} (e : Ex H0 H) : Fra ⟨H0, H, ks, E⟩ H0 H := ⟨Ex.refl _, fun _ _ h _ => h, e, fun _ h _ => h, fun _ h => h⟩
theorem Fra.toExt {H0 H H0' H' : Hp} {E : WX} (f : Fra ⟨H0, H, [], E⟩ H0' H') : Ext H0 H H0' H' := ⟨f.e0, fun b o h => f.e1 b o h (fun z => nomatch z), f.e2, f.fr⟩
theorem Fra.ofExt {H0 H H0' H' : Hp} {ks : List Addr} {E : WX} (x : Ext H0 H H0' H') : Fra ⟨H0, H, ks, E⟩ H0' H' := ⟨x.e0, fun b o h _ => x.e1 b o h, x.e2, x.fr, fun _ h => ne_none x.e1 h⟩
theorem Fra.trans {B : Bs} {H0 H H0' H' : Hp} {ks : List Addr} {E : WX} (f : Fra B H0 H) (g : Fra ⟨H0, H, ks, E⟩ H0' H') (hk : ∀ p ∈ ks, p ∈ B.ks ∨ B.H p = none) : Fra B H0' H' :=
  ⟨f.e0.trans g.e0, fun b o h n => g.e1 b o (f.e1 b o h n) (fun z => (hk b z).elim n fun q => nomatch (q.symm.trans h)), g.e2, fun p h1 h2 => g.fr p (f.fr p h1 h2) (f.th p h2), fun p h => g.th p (f.th p h)⟩

/-- a slot: not known, data, a value as it is -/
inductive Sl where
  | un
  | dat (d : PyData)
  | raw (v : V)
/-- what stands at an address that is owned -/
inductive OV where
  | lst (ds : List PyData)
  | ho (o : HO)
  | obj (C : Addr) (fs : List (Str × Sl))
  | ls (xs : List Sl)
abbrev Gam := List Sl
abbrev Sto := List (Addr × OV)
abbrev keys (S : Sto) : List Addr := S.map (·.1)
def SlOk (K : PySem.W.Frag) (H0 : Hp) (o : Option (Option V)) : Sl → Prop
  | .un => True
  | .dat d => ∃ v, o = some (some v) ∧ Dp K H0 v d
  | .raw v => o = some (some v)
theorem SlOk.ext {K : PySem.W.Frag} {H0 H0' : Hp} {o : Option (Option V)} (e : Ex H0 H0') : ∀ {s : Sl}, SlOk K H0 o s → SlOk K H0' o s
  | .un, _ => trivial
  | .dat d, ⟨v, h1, h2⟩ => ⟨v, h1, dp_ex e d v h2⟩
  | .raw _, h => h
theorem SlOk.dat {K : PySem.W.Frag} {H0 : Hp} {v : V} {d : PyData} (h : Dp K H0 v d) : SlOk K H0 (some (some v)) (.dat d) := ⟨v, rfl, h⟩
theorem SlOk.toDp {K : PySem.W.Frag} {H0 : Hp} {v : V} {d : PyData} (h : SlOk K H0 (some (some v)) (.dat d)) : Dp K H0 v d := by
  obtain ⟨v', e1, hv⟩ := h
  cases e1
  exact hv
/-- the attributes -/
inductive FsOk (K : PySem.W.Frag) (H0 : Hp) : List (Str × V) → List (Str × Sl) → Prop
  | nil : FsOk K H0 [] []
  | cons {x : Str} {v : V} {s : Sl} {vs : List (Str × V)} {fs : List (Str × Sl)} (h : SlOk K H0 (some (some v)) s) (t : FsOk K H0 vs fs) : FsOk K H0 ((x, v) :: vs) ((x, s) :: fs)
theorem FsOk.ext {K : PySem.W.Frag} {H0 H0' : Hp} (e : Ex H0 H0') : ∀ {vs : List (Str × V)} {fs : List (Str × Sl)}, FsOk K H0 vs fs → FsOk K H0' vs fs
  | _, _, .nil => .nil
  | _, _, .cons h t => .cons (h.ext e) (t.ext e)
theorem FsOk.len {K : PySem.W.Frag} {H0 : Hp} : ∀ {vs : List (Str × V)} {fs : List (Str × Sl)}, FsOk K H0 vs fs → vs.length = fs.length
  | _, _, .nil => rfl
  | _, _, .cons _ t => congrArg (· + 1) t.len
theorem FsOk.get {K : PySem.W.Frag} {H0 : Hp} {f : Str} : ∀ {vs : List (Str × V)} {fs : List (Str × Sl)} {s : Sl}, FsOk K H0 vs fs → fs.lookup f = some s → ∃ v, vs.lookup f = some v ∧ SlOk K H0 (some (some v)) s
  | _, _, s, .nil, e => by cases e
  | _, _, s, .cons (x := x) (v := v) h t, e => by
    rw [List.lookup_cons] at e ⊢
    cases hb : f == x with
    | true => rw [hb] at e; cases e; exact ⟨v, rfl, h⟩
    | false => rw [hb] at e; exact t.get e
theorem FsOk.no {K : PySem.W.Frag} {H0 : Hp} {f : Str} : ∀ {vs : List (Str × V)} {fs : List (Str × Sl)}, FsOk K H0 vs fs → fs.lookup f = none → vs.lookup f = none
  | _, _, .nil, _ => rfl
  | _, _, .cons (x := x) h t, e => by
    rw [List.lookup_cons] at e ⊢
    cases hb : f == x with
    | true => rw [hb] at e; cases e
    | false => rw [hb] at e; exact t.no e
def putS (f : Str) (s : Sl) : List (Str × Sl) → List (Str × Sl)
  | [] => [(f, s)]
  | (g, x) :: r => if g = f then (g, s) :: r else (g, x) :: putS f s r
theorem FsOk.put {K : PySem.W.Frag} {H0 : Hp} {f : Str} {v : V} {s : Sl} (h : SlOk K H0 (some (some v)) s) : ∀ {vs : List (Str × V)} {fs : List (Str × Sl)}, FsOk K H0 vs fs → FsOk K H0 (putF f v vs) (putS f s fs)
  | _, _, .nil => .cons h .nil
  | _, _, .cons (x := x) h' t => by
    unfold putF putS
    by_cases e : x = f
    · rw [if_pos e, if_pos e]; exact .cons h t
    · rw [if_neg e, if_neg e]; exact .cons h' (t.put h)
def OvOk (K : PySem.W.Frag) (H0 H : Hp) (p : Addr) : OV → Prop
  | .lst ds => ∃ vs, H p = some (.lst vs) ∧ DpAll K H0 vs ds
  | .ho o => H p = some o
  | .obj C fs => ∃ dx vs, H p = some (.ins C dx vs) ∧ FsOk K H0 vs fs
  | .ls xs => ∃ vs, H p = some (.lst vs) ∧ Paired (fun v s => SlOk K H0 (some (some v)) s) vs xs
theorem paired_imp {α β : Type} {R Q : α → β → Prop} (k : ∀ a b, R a b → Q a b) : ∀ {xs : List α} {ys : List β}, Paired R xs ys → Paired Q xs ys
  | _, _, .nil => .nil
  | _, _, .cons h t => .cons (k _ _ h) (paired_imp k t)
theorem OvOk.ne {K : PySem.W.Frag} {H0 H : Hp} {p : Addr} : ∀ {ov : OV}, OvOk K H0 H p ov → H p ≠ none
  | .lst _, ⟨_, h, _⟩ => by rw [h]; exact fun z => nomatch z
  | .ho _, h => by rw [show H p = _ from h]; exact fun z => nomatch z
  | .obj _ _, ⟨_, _, h, _⟩ => by rw [h]; exact fun z => nomatch z
  | .ls _, ⟨_, h, _⟩ => by rw [h]; exact fun z => nomatch z
theorem OvOk.ext {K : PySem.W.Frag} {H0 H H0' H' : Hp} {p : Addr} (e0 : Ex H0 H0') (e1 : ∀ o, H p = some o → H' p = some o) : ∀ {ov : OV}, OvOk K H0 H p ov → OvOk K H0' H' p ov
  | .lst ds, ⟨vs, h, k⟩ => ⟨vs, e1 _ h, dps_ex e0 ds vs k⟩
  | .ho _, h => e1 _ h
  | .obj _ _, ⟨dx, vs, h, k⟩ => ⟨dx, vs, e1 _ h, k.ext e0⟩
  | .ls _, ⟨vs, h, k⟩ => ⟨vs, e1 _ h, paired_imp (fun _ _ q => q.ext e0) k⟩
structure EnvOk (K : PySem.W.Frag) (H0 : Hp) (σ : St) (Γ : Gam) : Prop where
  len : σ.length = Γ.length
  at_ : ∀ (i : Nat) (s : Sl), Γ[i]? = some s → SlOk K H0 (σ[i]?) s
theorem EnvOk.ext {K : PySem.W.Frag} {H0 H0' : Hp} {σ : St} {Γ : Gam} (e : Ex H0 H0') (h : EnvOk K H0 σ Γ) : EnvOk K H0' σ Γ := ⟨h.len, fun i s q => (h.at_ i s q).ext e⟩
theorem EnvOk.set {K : PySem.W.Frag} {H0 : Hp} {σ : St} {Γ : Gam} (h : EnvOk K H0 σ Γ) (i : Nat) {v : V} {s : Sl} (q : SlOk K H0 (some (some v)) s) : EnvOk K H0 (σ.set i (some v)) (Γ.set i s) := by
  refine ⟨by rw [List.length_set, List.length_set]; exact h.len, fun j t e => ?_⟩
  by_cases hj : i = j
  · subst hj
    have hi : i < Γ.length := by
      by_cases hi : i < Γ.length
      · exact hi
      · rw [List.getElem?_eq_none_iff.mpr (by rw [List.length_set]; omega)] at e; cases e
    rw [List.getElem?_set_self hi] at e
    cases e
    rw [List.getElem?_set_self (by rw [h.len]; exact hi)]
    exact q
  · rw [List.getElem?_set_ne hj] at e ⊢
    exact h.at_ j t e
structure StoOk (K : PySem.W.Frag) (H0 H : Hp) (S : Sto) : Prop where
  at_ : ∀ p ov, (p, ov) ∈ S → H0 p = none ∧ OvOk K H0 H p ov
  nd : (keys S).Nodup
theorem StoOk.ext {K : PySem.W.Frag} {H0 H H0' H' : Hp} {S : Sto} (h : StoOk K H0 H S) (x : Ext H0 H H0' H') : StoOk K H0' H' S := by
  refine ⟨fun p ov m => ?_, h.nd⟩
  obtain ⟨h1, h2⟩ := h.at_ p ov m
  exact ⟨x.fr p h1 (OvOk.ne h2), OvOk.ext x.e0 (fun o => x.e1 p o) h2⟩
theorem StoOk.nil {K : PySem.W.Frag} {H0 H : Hp} : StoOk K H0 H [] := ⟨fun _ _ h => (nomatch h), List.Pairwise.nil⟩
theorem mem_keys {S : Sto} {p : Addr} {ov : OV} (h : (p, ov) ∈ S) : p ∈ keys S := List.mem_map.mpr ⟨_, h, rfl⟩
theorem of_keys {S : Sto} {p : Addr} (h : p ∈ keys S) : ∃ ov, (p, ov) ∈ S := by
  obtain ⟨⟨q, ov⟩, h1, h2⟩ := List.mem_map.mp h
  cases h2
  exact ⟨ov, h1⟩

/-- the state at a point of a body -/
structure At (K : PySem.W.Frag) (B : Bs) (H0 : Hp) (Γ : Gam) (S : Sto) (σ : St) (H : Hp) : Prop where
  fra : Fra B H0 H
  env : EnvOk K H0 σ Γ
  sto : StoOk K H0 H S
  wr : ∀ p ∈ keys S, p ∈ B.ks ∨ B.H p = none
theorem At.ext {K : PySem.W.Frag} {B : Bs} {H0 H H0' H' : Hp} {Γ : Gam} {S : Sto} {σ : St} (a : At K B H0 Γ S σ H) (x : Ext H0 H H0' H') : At K B H0' Γ S σ H' := ⟨a.fra.ext x, a.env.ext x.e0, a.sto.ext x, a.wr⟩
theorem At.set {K : PySem.W.Frag} {B : Bs} {H0 H : Hp} {Γ : Gam} {S : Sto} {σ : St} (a : At K B H0 Γ S σ H) (i : Nat) {v : V} {s : Sl} (q : SlOk K H0 (some (some v)) s) : At K B H0 (Γ.set i s) S (σ.set i (some v)) H := ⟨a.fra, a.env.set i q, a.sto, a.wr⟩
theorem At.e2 {K : PySem.W.Frag} {B : Bs} {H0 H : Hp} {Γ : Gam} {S : Sto} {σ : St} (a : At K B H0 Γ S σ H) : Ex H0 H := a.fra.e2

/-! ### judgements -/
def rd (K : PySem.W.Frag) (B : Bs) (Γ : Gam) (S : Sto) (r : Sl) : TE := fun σ H Q => ∃ H0, At K B H0 Γ S σ H ∧ ∀ v H0' H', At K B H0' Γ S σ H' → Ex H0 H0' → SlOk K H0' (some (some v)) r → Q v H'
def ra (K : PySem.W.Frag) (B : Bs) (Γ : Gam) (S : Sto) (ds : List PyData) : TA := fun σ H Q => ∃ H0, At K B H0 Γ S σ H ∧ ∀ vs H0' H', At K B H0' Γ S σ H' → Ex H0 H0' → DpAll K H0' vs ds → Q vs H'
def rt (K : PySem.W.Frag) (B : Bs) (Γ : Gam) (S : Sto) (b : Bool) : TT := fun σ H Q => ∃ H0, At K B H0 Γ S σ H ∧ ∀ H0' H', At K B H0' Γ S σ H' → Ex H0 H0' → Q b H'
/-- e is the data d; e is the value v; the arguments; the test -/
abbrev GD (X : Cx) (B : Bs) (Γ : Gam) (S : Sto) (e : Expr) (d : PyData) : Prop := PE X e (rd X.K B Γ S (.dat d))
abbrev GR (X : Cx) (B : Bs) (Γ : Gam) (S : Sto) (e : Expr) (v : V) : Prop := PE X e (rd X.K B Γ S (.raw v))
abbrev GA (X : Cx) (B : Bs) (Γ : Gam) (S : Sto) (es : List Expr) (ds : List PyData) : Prop := PA X es (ra X.K B Γ S ds)
abbrev GT (X : Cx) (B : Bs) (Γ : Gam) (S : Sto) (e : Expr) (b : Bool) : Prop := PT X e (rt X.K B Γ S b)
section
variable {X : Cx} {B : Bs} {Γ : Gam} {S : Sto} {a b c e : Expr} {es : List Expr} {d d1 d2 d3 : PyData} {ds : List PyData} {pos : Pos} {i j : Int} {k k1 k2 : Bool} {x y : Str}
theorem gd_cast (h : GD X B Γ S e d) (q : d = d1) : GD X B Γ S e d1 := q ▸ h
theorem gt_cast {k' : Bool} (h : GT X B Γ S e k) (q : k = k') : GT X B Γ S e k' := q ▸ h
theorem ge_var {n : Nat} {r : Sl} (h : PE X e (tVar n)) (q : Γ[n]? = some r) (hu : r ≠ .un) : PE X e (rd X.K B Γ S r) := h.imp fun σ H Q ⟨H0, at0, k⟩ => by
  have z := at0.env.at_ n _ q
  cases r with
  | un => exact absurd rfl hu
  | dat d =>
    obtain ⟨v, h1, h2⟩ := z
    exact ⟨v, h1, k v H0 H at0 (Ex.refl _) ⟨v, rfl, h2⟩⟩
  | raw v => exact ⟨v, z, k v H0 H at0 (Ex.refl _) rfl⟩
theorem gd_var {n : Nat} (h : PE X e (tVar n)) (q : Γ[n]? = some (.dat d)) : GD X B Γ S e d := ge_var h q (fun z => nomatch z)
theorem gr_var {n : Nat} {v : V} (h : PE X e (tVar n)) (q : Γ[n]? = some (.raw v)) : GR X B Γ S e v := ge_var h q (fun z => nomatch z)
theorem gd_con {v : V} (h : PE X e (tC v)) (q : ∀ H0, Dp X.K H0 v d) : GD X B Γ S e d := h.imp fun σ H Q ⟨H0, at0, k⟩ => k v H0 H at0 (Ex.refl _) ⟨v, rfl, q H0⟩
theorem gr_con {v : V} (h : PE X e (tC v)) : GR X B Γ S e v := h.imp fun σ H Q ⟨H0, at0, k⟩ => k v H0 H at0 (Ex.refl _) rfl
theorem gd_int {j : Nat} : GD X B Γ S (.Constant (.int i) j pos) (.int i) := gd_con pe_int fun _ => .int i
theorem gd_str {j : Nat} : GD X B Γ S (.Constant (.str x) j pos) (.str x) := gd_con pe_str fun _ => .str x
theorem gd_bl {j : Nat} : GD X B Γ S (.Constant (.bool k) j pos) (.bool k) := gd_con pe_bl fun _ => .bl k
theorem gd_non {j : Nat} : GD X B Γ S (.Constant .none j pos) .none := gd_con pe_non fun _ => .non

/-! ### operators by values -/
def OpD (K : PySem.W.Frag) (r : R2) (d1 d2 d : PyData) : Prop := ∀ H0 H v w, Ex H0 H → Dp K H0 v d1 → Dp K H0 w d2 → ∀ Q : VK, (∀ z H0' H', Ext H0 H H0' H' → Dp K H0' z d → Q z H') → r v w H Q
theorem bin_go {r : R2} (o : OpD X.K r d1 d2 d) {σ : St} {H : Hp} {Q : VK} (h : rd X.K B Γ S (.dat d) σ H Q) : tOp r (rd X.K B Γ S (.dat d1)) (rd X.K B Γ S (.dat d2)) σ H Q := by
  obtain ⟨H0, at0, k⟩ := h
  refine ⟨H0, at0, fun v H1 H' at1 e1 hv => ⟨H1, at1, fun w H2 H'' at2 e2 hw => ?_⟩⟩
  exact o H2 H'' v w at2.e2 (dp_ex e2 _ _ hv.toDp) hw.toDp Q fun z H3 H3' x3 hz => k z H3 H3' (at2.ext x3) ((e1.trans e2).trans x3.e0) ⟨z, rfl, hz⟩
theorem gd_op {op : Operator} {r : R2} (ho : OpR X (binaryOp op) r) (o : OpD X.K r d1 d2 d) (ha : GD X B Γ S a d1) (hb : GD X B Γ S b d2) : GD X B Γ S (.BinOp a op b pos) d := (pe_op ho ha hb).imp fun _ _ _ h => bin_go o h
theorem gd_cmp {op : CmpOp} {r : R2} (ho : OpR X (compareOp op) r) (o : OpD X.K r d1 d2 d) (hm : behindInMarks op b = false) (ha : GD X B Γ S a d1) (hb : GD X B Γ S b d2) : GD X B Γ S (.Compare a [op] [b] pos) d := (pe_cmpR ho ha hb hm).imp fun _ _ _ h => bin_go o h
theorem test_go {t : TE} (h : ∀ σ H Q, rd X.K B Γ S (.dat (.bool k)) σ H Q → t σ H Q) : ∀ σ H (Q : Bool → Hp → Prop), rt X.K B Γ S k σ H Q → tTest t σ H Q := fun σ H Q ⟨H0, at0, q⟩ => h σ H _ ⟨H0, at0, fun v H0' H' at1 e1 hv => by
  have hv := hv.toDp
  cases hv
  exact ⟨k, rfl, q H0' H' at1 e1⟩⟩
theorem gt_cmp {op : CmpOp} {r : R2} (ho : OpR X (compareOp op) r) (o : OpD X.K r d1 d2 (.bool k)) (hm : behindInMarks op b = false) (ha : GD X B Γ S a d1) (hb : GD X B Γ S b d2) : GT X B Γ S (.Compare a [op] [b] pos) k :=
  (pt_cmpR ho ha hb hm).imp fun σ H Q h => test_go (fun _ _ _ h => bin_go o h) σ H Q h
theorem gt_val (h : GD X B Γ S e (.bool k)) (he : ∀ whole, isTrue e X.env whole = (do let v ← whole; standAt e.pos; holding [v] (truthy v)) := by intro _; rfl) : GT X B Γ S e k :=
  (pt_val h he).imp fun σ H Q ⟨H0, at0, q⟩ => ⟨H0, at0, fun v H0' H' at1 e1 hv => by
    have hv := hv.toDp
    cases hv
    exact ⟨k, rfl, q H0' H' at1 e1⟩⟩
theorem od_I0 {K : PySem.W.Frag} {g : Int → Int → V} {d : PyData} (hd : ∀ H0, Dp K H0 (g i j) d) : OpD K (rI0 g) (.int i) (.int j) d := fun H0 H v w e hv hw Q k => by
  cases hv
  cases hw
  exact ⟨i, j, rfl, rfl, k _ H0 H (Ext.refl e) (hd H0)⟩
theorem od_I {K : PySem.W.Frag} {C : Int → Int → Prop} {g : Int → Int → V} {d : PyData} (hc : C i j) (hd : ∀ H0, Dp K H0 (g i j) d) : OpD K (rI C g) (.int i) (.int j) d := fun H0 H v w e hv hw Q k => by
  cases hv
  cases hw
  exact ⟨i, j, rfl, rfl, hc, k _ H0 H (Ext.refl e) (hd H0)⟩
theorem gd_add (ha : GD X B Γ S a (.int i)) (hb : GD X B Γ S b (.int j)) : GD X B Γ S (.BinOp a .Add b pos) (.int (i + j)) := gd_op op_add (od_I0 fun _ => .int _) ha hb
theorem gd_sub (ha : GD X B Γ S a (.int i)) (hb : GD X B Γ S b (.int j)) : GD X B Γ S (.BinOp a .Sub b pos) (.int (i - j)) := gd_op op_sub (od_I0 fun _ => .int _) ha hb
theorem op_mulB : OpR X (binaryOp .Mult) (rI IntMulOk fun i j => .int (i * j)) := opI fun _ _ _ _ _ _ _ hc q => mul_int q hc
theorem gd_mul (hc : IntMulOk i j) (ha : GD X B Γ S a (.int i)) (hb : GD X B Γ S b (.int j)) : GD X B Γ S (.BinOp a .Mult b pos) (.int (i * j)) := gd_op op_mulB (od_I hc fun _ => .int _) ha hb
theorem gd_mod (hc : 0 < j) (ha : GD X B Γ S a (.int i)) (hb : GD X B Γ S b (.int j)) : GD X B Γ S (.BinOp a .Mod b pos) (.int (i % j)) := gd_op op_mod (od_I hc fun _ => .int _) ha hb
theorem gd_fdiv (hc : CDiv i j) (ha : GD X B Γ S a (.int i)) (hb : GD X B Γ S b (.int j)) : GD X B Γ S (.BinOp a .FloorDiv b pos) (.int (i / j)) := gd_op op_fdiv (od_I hc fun _ => .int _) ha hb
theorem gd_pow (hc : CPow i j) (ha : GD X B Γ S a (.int i)) (hb : GD X B Γ S b (.int j)) : GD X B Γ S (.BinOp a .Pow b pos) (.int (i ^ j.toNat)) := gd_op op_pow (od_I hc fun _ => .int _) ha hb
theorem gd_lt (ha : GD X B Γ S a (.int i)) (hb : GD X B Γ S b (.int j)) : GD X B Γ S (.Compare a [.Lt] [b] pos) (.bool (decide (i < j))) := gd_cmp op_lt (od_I0 fun _ => .bl _) (nomark _) ha hb
theorem gd_le (ha : GD X B Γ S a (.int i)) (hb : GD X B Γ S b (.int j)) : GD X B Γ S (.Compare a [.LtE] [b] pos) (.bool (decide (i ≤ j))) := gd_cmp op_le (od_I0 fun _ => .bl _) (nomark _) ha hb
theorem gd_gt (ha : GD X B Γ S a (.int i)) (hb : GD X B Γ S b (.int j)) : GD X B Γ S (.Compare a [.Gt] [b] pos) (.bool (decide (j < i))) := gd_cmp op_gt (od_I0 fun _ => .bl _) (nomark _) ha hb
theorem gd_ge (ha : GD X B Γ S a (.int i)) (hb : GD X B Γ S b (.int j)) : GD X B Γ S (.Compare a [.GtE] [b] pos) (.bool (decide (j ≤ i))) := gd_cmp op_ge (od_I0 fun _ => .bl _) (nomark _) ha hb
theorem gt_lt (ha : GD X B Γ S a (.int i)) (hb : GD X B Γ S b (.int j)) : GT X B Γ S (.Compare a [.Lt] [b] pos) (decide (i < j)) := gt_cmp op_lt (od_I0 fun _ => .bl _) (nomark _) ha hb
theorem gt_le (ha : GD X B Γ S a (.int i)) (hb : GD X B Γ S b (.int j)) : GT X B Γ S (.Compare a [.LtE] [b] pos) (decide (i ≤ j)) := gt_cmp op_le (od_I0 fun _ => .bl _) (nomark _) ha hb
theorem gt_gt (ha : GD X B Γ S a (.int i)) (hb : GD X B Γ S b (.int j)) : GT X B Γ S (.Compare a [.Gt] [b] pos) (decide (j < i)) := gt_cmp op_gt (od_I0 fun _ => .bl _) (nomark _) ha hb
theorem gt_ge (ha : GD X B Γ S a (.int i)) (hb : GD X B Γ S b (.int j)) : GT X B Γ S (.Compare a [.GtE] [b] pos) (decide (j ≤ i)) := gt_cmp op_ge (od_I0 fun _ => .bl _) (nomark _) ha hb
/-- == and != of data -/
theorem od_eq {K : PySem.W.Frag} (h1 : SeqAt.shaped d1 = true) (h2 : SeqAt.shaped d2 = true) : OpD K (rEqD K) d1 d2 (.bool (PyData.eqv d1 d2)) := fun H0 H v w e hv hw Q k => ⟨d1, d2, dp_ex e _ _ hv, dp_ex e _ _ hw, h1, h2, k _ H0 H (Ext.refl e) (.bl _)⟩
theorem od_ne {K : PySem.W.Frag} (h1 : SeqAt.shaped d1 = true) (h2 : SeqAt.shaped d2 = true) : OpD K (rNeD K) d1 d2 (.bool (!PyData.eqv d1 d2)) := fun H0 H v w e hv hw Q k => ⟨d1, d2, dp_ex e _ _ hv, dp_ex e _ _ hw, h1, h2, k _ H0 H (Ext.refl e) (.bl _)⟩
theorem gd_eq (hu : X.A.units + 64 < cLine) (ha : GD X B Γ S a d1) (hb : GD X B Γ S b d2) (h1 : SeqAt.shaped d1 = true) (h2 : SeqAt.shaped d2 = true) : GD X B Γ S (.Compare a [.Eq] [b] pos) (.bool (PyData.eqv d1 d2)) := gd_cmp (op_eqD hu) (od_eq h1 h2) (nomark _) ha hb
theorem gd_ne (hu : X.A.units + 64 < cLine) (ha : GD X B Γ S a d1) (hb : GD X B Γ S b d2) (h1 : SeqAt.shaped d1 = true) (h2 : SeqAt.shaped d2 = true) : GD X B Γ S (.Compare a [.NotEq] [b] pos) (.bool (!PyData.eqv d1 d2)) := gd_cmp (op_neD hu) (od_ne h1 h2) (nomark _) ha hb
theorem gt_eq (hu : X.A.units + 64 < cLine) (ha : GD X B Γ S a d1) (hb : GD X B Γ S b d2) (h1 : SeqAt.shaped d1 = true) (h2 : SeqAt.shaped d2 = true) : GT X B Γ S (.Compare a [.Eq] [b] pos) (PyData.eqv d1 d2) := gt_cmp (op_eqD hu) (od_eq h1 h2) (nomark _) ha hb
theorem gt_ne (hu : X.A.units + 64 < cLine) (ha : GD X B Γ S a d1) (hb : GD X B Γ S b d2) (h1 : SeqAt.shaped d1 = true) (h2 : SeqAt.shaped d2 = true) : GT X B Γ S (.Compare a [.NotEq] [b] pos) (!PyData.eqv d1 d2) := gt_cmp (op_neD hu) (od_ne h1 h2) (nomark _) ha hb
/-- is None -/
def isN : PyData → Bool
  | .none => true
  | _ => false
theorem isN_of {K : PySem.W.Frag} {H : Hp} {v : V} (h : Dp K H v d) : decide (v = .non) = isN d := by
  cases h <;> rfl
theorem gd_isN {n : Nat} {p2 : Pos} (ha : GD X B Γ S a d) : GD X B Γ S (.Compare a [.Is] [.Constant .none n p2] pos) (.bool (isN d)) := (pe_cmp (pc_isN ha) rfl).imp fun σ H Q ⟨H0, at0, k⟩ => ⟨H0, at0, fun v H0' H' at1 e1 hv => k _ H0' H' at1 e1 ⟨_, rfl, by rw [isN_of hv.toDp]; exact .bl _⟩⟩
theorem gd_notN {n : Nat} {p2 : Pos} (ha : GD X B Γ S a d) : GD X B Γ S (.Compare a [.IsNot] [.Constant .none n p2] pos) (.bool (!isN d)) := (pe_cmp (pc_notN ha) rfl).imp fun σ H Q ⟨H0, at0, k⟩ => ⟨H0, at0, fun v H0' H' at1 e1 hv => k _ H0' H' at1 e1 ⟨_, rfl, by rw [isN_of hv.toDp]; exact .bl _⟩⟩

/-! ### in, of flat data -/
def flatD : PyData → Bool
  | .none => true
  | .bool _ => true
  | .int _ => true
  | .str _ => true
  | _ => false
theorem flat_of {K : PySem.W.Frag} {H : Hp} {v : V} (h : Dp K H v d) (f : flatD d = true) : flatV v = true := by
  cases h <;> first | rfl | exact absurd f Bool.false_ne_true
theorem eqV_of {K : PySem.W.Frag} {H : Hp} {v w : V} (h : Dp K H v d1) (h2 : Dp K H w d2) (f : flatD d1 = true) (g : flatD d2 = true) : eqV v w = PyData.eqv d1 d2 := by
  cases h <;> first | exact absurd f Bool.false_ne_true | (cases h2 <;> first | exact absurd g Bool.false_ne_true | (simp [eqV, PyData.eqv]))
def inD (d : PyData) (ds : List PyData) : Bool := ds.any fun e => PyData.eqv e d
theorem inV_of {K : PySem.W.Frag} {H : Hp} {w : V} (h2 : Dp K H w d) (g : flatD d = true) : ∀ {vs : List V} {ds : List PyData}, DpAll K H vs ds → ds.all flatD = true → vs.all flatV = true ∧ inV w vs = inD d ds
  | _, _, .nil, _ => ⟨rfl, rfl⟩
  | _, _, .cons h t, f => by
    rw [List.all_cons, Bool.and_eq_true] at f
    obtain ⟨i1, i2⟩ := inV_of h2 g t f.2
    refine ⟨by rw [List.all_cons, flat_of h f.1, i1]; rfl, ?_⟩
    unfold inV inD at i2 ⊢
    rw [List.any_cons, List.any_cons, eqV_of h h2 f.1 g, i2]
theorem od_in {K : PySem.W.Frag} (g : flatD d = true) (f : ds.all flatD = true) : OpD K (rIn K false) d (.tuple ds) (.bool (inD d ds)) := fun H0 H v w e hv hw Q k => by
  cases hw with
  | tup hs ha =>
    obtain ⟨i1, i2⟩ := inV_of hv g ha f
    refine ⟨_, _, rfl, .inr (ex_t e hs), flat_of hv g, i1, k _ H0 H (Ext.refl e) ?_⟩
    show Dp K H0 (.bl (inV v _)) _
    rw [i2]
    exact .bl _
theorem od_inL {K : PySem.W.Frag} (g : flatD d = true) (f : ds.all flatD = true) : OpD K (rIn K false) d (.list ds) (.bool (inD d ds)) := fun H0 H v w e hv hw Q k => by
  cases hw with
  | lst hs ha =>
    obtain ⟨i1, i2⟩ := inV_of hv g ha f
    refine ⟨_, _, rfl, .inl (ex_l e hs), flat_of hv g, i1, k _ H0 H (Ext.refl e) ?_⟩
    show Dp K H0 (.bl (inV v _)) _
    rw [i2]
    exact .bl _
theorem gd_in (hm : behindInMarks .In b = false) (ha : GD X B Γ S a d) (hb : GD X B Γ S b (.tuple ds)) (g : flatD d = true) (f : ds.all flatD = true) : GD X B Γ S (.Compare a [.In] [b] pos) (.bool (inD d ds)) := gd_cmp op_in_seq (od_in g f) hm ha hb
theorem gt_in (hm : behindInMarks .In b = false) (ha : GD X B Γ S a d) (hb : GD X B Γ S b (.tuple ds)) (g : flatD d = true) (f : ds.all flatD = true) : GT X B Γ S (.Compare a [.In] [b] pos) (inD d ds) := gt_cmp op_in_seq (od_in g f) hm ha hb

/-! ### subscripts -/
theorem ixh {d : PyData} {l : List PyData} : atI (d :: l) 0 = some d := atI_nat (j := 0) rfl
theorem od_ixL {K : PySem.W.Frag} (q : atI ds i = some d) : OpD K (rIx K) (.list ds) (.int i) d := fun H0 H v w e hv hw Q k => by
  cases hw
  cases hv with
  | @lst p xs _ hs ha =>
    have hl := dps_len ha
    obtain ⟨n, e1, e2⟩ : ∃ n, ixN ds.length i = some n ∧ ds[n]? = some d := by
      unfold atI at q
      cases z : ixN ds.length i with
      | none => rw [z] at q; cases q
      | some n => rw [z] at q; exact ⟨n, rfl, q⟩
    obtain ⟨u, u1, u2⟩ := dps_get ha e2
    exact .inl ⟨p, xs, i, u, rfl, rfl, ex_l e hs, by unfold atI; rw [hl, e1]; exact u1, k u H0 H (Ext.refl e) u2⟩
theorem od_ixT {K : PySem.W.Frag} (q : atI ds i = some d) : OpD K (rIx K) (.tuple ds) (.int i) d := fun H0 H v w e hv hw Q k => by
  cases hw
  cases hv with
  | @tup p xs _ hs ha =>
    have hl := dps_len ha
    obtain ⟨n, e1, e2⟩ : ∃ n, ixN ds.length i = some n ∧ ds[n]? = some d := by
      unfold atI at q
      cases z : ixN ds.length i with
      | none => rw [z] at q; cases q
      | some n => rw [z] at q; exact ⟨n, rfl, q⟩
    obtain ⟨u, u1, u2⟩ := dps_get ha e2
    exact .inr (.inl ⟨p, xs, i, u, rfl, rfl, ex_t e hs, by unfold atI; rw [hl, e1]; exact u1, k u H0 H (Ext.refl e) u2⟩)
theorem gd_ix (o : OpD X.K (rIx X.K) d1 d2 d) (ha : GD X B Γ S a d1) (hb : GD X B Γ S b d2) (hs : PlainIx b := by exact fun _ _ => rfl) : GD X B Γ S (.Subscript a b pos) d := (pe_ix ix_seq ha hb hs).imp fun _ _ _ h => bin_go o h
theorem gd_ixL (ha : GD X B Γ S a (.list ds)) (hb : GD X B Γ S b (.int i)) (q : atI ds i = some d) (hs : PlainIx b := by exact fun _ _ => rfl) : GD X B Γ S (.Subscript a b pos) d := gd_ix (od_ixL q) ha hb hs
theorem gd_ixT (ha : GD X B Γ S a (.tuple ds)) (hb : GD X B Γ S b (.int i)) (q : atI ds i = some d) (hs : PlainIx b := by exact fun _ _ => rfl) : GD X B Γ S (.Subscript a b pos) d := gd_ix (od_ixT q) ha hb hs

/-! ### and, or, not, if -/
theorem gt_not (ha : GT X B Γ S a k) : GT X B Γ S (.UnaryOp .Not a pos) (!k) := (pt_not ha).imp fun σ H Q ⟨H0, at0, q⟩ => ⟨H0, at0, q⟩
theorem gd_not (ha : GD X B Γ S a (.bool k)) : GD X B Γ S (.UnaryOp .Not a pos) (.bool (!k)) := (pe_not ha).imp fun σ H Q ⟨H0, at0, q⟩ => ⟨H0, at0, fun v H0' H' at1 e1 hv => by
  have hv := hv.toDp
  cases hv
  exact ⟨k, rfl, q _ H0' H' at1 e1 ⟨_, rfl, .bl _⟩⟩⟩
abbrev GW (X : Cx) (B : Bs) (Γ : Gam) (S : Sto) (e : Expr) (b : Bool) : Prop := PW X e (rt X.K B Γ S b)
theorem gw_and1 (ha : GT X B Γ S a k) : GW X B Γ S (.BoolOp .And [a] pos) k := pw_and1 ha
theorem gw_or1 (ha : GT X B Γ S a k) : GW X B Γ S (.BoolOp .Or [a] pos) k := pw_or1 ha
variable {rest : List Expr}
theorem gw_and (ha : GT X B Γ S a k1) (hb : k1 = true → GW X B Γ S (.BoolOp .And (b :: rest) pos) k2) : GW X B Γ S (.BoolOp .And (a :: b :: rest) pos) (k1 && k2) := by
  refine ⟨fun wh pins s σ H Q I h => ?_⟩
  obtain ⟨H0, at0, q⟩ := h
  refine isTrue_and (thn (ha.run pins s σ H (fun c H' => c = k1 ∧ ∃ H0', At X.K B H0' Γ S σ H' ∧ Ex H0 H0') I ⟨H0, at0, fun H0' H' at1 e1 => ⟨rfl, H0', at1, e1⟩⟩) fun c s1 h1 => ?_)
  obtain ⟨H1, I1, rfl, H0', at1, x1⟩ := h1
  cases c with
  | true => exact (hb rfl).run wh pins s1 σ H1 Q I1 ⟨H0', at1, fun H2 H2' at2 e2 => q H2 H2' at2 (x1.trans e2)⟩
  | false => exact ⟨H1, I1, q H0' H1 at1 x1⟩
theorem gw_or (ha : GT X B Γ S a k1) (hb : k1 = false → GW X B Γ S (.BoolOp .Or (b :: rest) pos) k2) : GW X B Γ S (.BoolOp .Or (a :: b :: rest) pos) (k1 || k2) := by
  refine ⟨fun wh pins s σ H Q I h => ?_⟩
  obtain ⟨H0, at0, q⟩ := h
  refine isTrue_or (thn (ha.run pins s σ H (fun c H' => c = k1 ∧ ∃ H0', At X.K B H0' Γ S σ H' ∧ Ex H0 H0') I ⟨H0, at0, fun H0' H' at1 e1 => ⟨rfl, H0', at1, e1⟩⟩) fun c s1 h1 => ?_)
  obtain ⟨H1, I1, rfl, H0', at1, x1⟩ := h1
  cases c with
  | true => exact ⟨H1, I1, q H0' H1 at1 x1⟩
  | false => exact (hb rfl).run wh pins s1 σ H1 Q I1 ⟨H0', at1, fun H2 H2' at2 e2 => q H2 H2' at2 (x1.trans e2)⟩
theorem gw_dead (h : False) : GW X B Γ S e false := h.elim
theorem gd_dead (h : False) : GD X B Γ S e (.bool false) := h.elim
theorem gt_of (h : GW X B Γ S e k) : GT X B Γ S e k := h.pt
theorem gd_one {op : BoolOp} (h : GD X B Γ S a d) : GD X B Γ S (.BoolOp op [a] pos) d := pe_one h
theorem gd_and (ha : GD X B Γ S a (.bool k1)) (hb : k1 = true → GD X B Γ S (.BoolOp .And (b :: rest) pos) (.bool k2)) : GD X B Γ S (.BoolOp .And (a :: b :: rest) pos) (.bool (k1 && k2)) := by
  refine ⟨fun pins s σ H Q I h => ?_⟩
  obtain ⟨H0, at0, q⟩ := h
  refine BoolOp_and (thn (ha.run pins s σ H (fun c H' => c = .bl k1 ∧ ∃ H0', At X.K B H0' Γ S σ H' ∧ Ex H0 H0') I ⟨H0, at0, fun v H0' H' at1 e1 hv => ?_⟩) fun v s1 ⟨x, H1, I1, r1, q1⟩ => ?_)
  · have hv := hv.toDp
    cases hv
    exact ⟨rfl, H0', at1, e1⟩
  obtain ⟨rfl, H0', at1, x1⟩ := q1
  cases r1
  refine wpAny_truthy_bool ?_
  cases k1 with
  | true => exact (hb rfl).run pins s1 σ H1 Q I1 ⟨H0', at1, fun v H2 H2' at2 e2 hv => q v H2 H2' at2 (x1.trans e2) hv⟩
  | false => exact ⟨.bl false, H1, I1, rfl, q _ H0' H1 at1 x1 ⟨_, rfl, .bl _⟩⟩
theorem gd_or (ha : GD X B Γ S a (.bool k1)) (hb : k1 = false → GD X B Γ S (.BoolOp .Or (b :: rest) pos) (.bool k2)) : GD X B Γ S (.BoolOp .Or (a :: b :: rest) pos) (.bool (k1 || k2)) := by
  refine ⟨fun pins s σ H Q I h => ?_⟩
  obtain ⟨H0, at0, q⟩ := h
  refine BoolOp_or (thn (ha.run pins s σ H (fun c H' => c = .bl k1 ∧ ∃ H0', At X.K B H0' Γ S σ H' ∧ Ex H0 H0') I ⟨H0, at0, fun v H0' H' at1 e1 hv => ?_⟩) fun v s1 ⟨x, H1, I1, r1, q1⟩ => ?_)
  · have hv := hv.toDp
    cases hv
    exact ⟨rfl, H0', at1, e1⟩
  obtain ⟨rfl, H0', at1, x1⟩ := q1
  cases r1
  refine wpAny_truthy_bool ?_
  cases k1 with
  | true => exact ⟨.bl true, H1, I1, rfl, q _ H0' H1 at1 x1 ⟨_, rfl, .bl _⟩⟩
  | false => exact (hb rfl).run pins s1 σ H1 Q I1 ⟨H0', at1, fun v H2 H2' at2 e2 hv => q v H2 H2' at2 (x1.trans e2) hv⟩
theorem gd_ite (hc : GT X B Γ S c k) (ha : k = true → GD X B Γ S a d) (hb : k = false → GD X B Γ S b d) : GD X B Γ S (.IfExp c a b pos) d := by
  refine ⟨fun pins s σ H Q I h => ?_⟩
  obtain ⟨H0, at0, q⟩ := h
  refine wpAny_IfExp (thn (hc.run pins s σ H (fun c H' => c = k ∧ ∃ H0', At X.K B H0' Γ S σ H' ∧ Ex H0 H0') I ⟨H0, at0, fun H0' H' at1 e1 => ⟨rfl, H0', at1, e1⟩⟩) fun v s1 h1 => ?_)
  obtain ⟨H1, I1, rfl, H0', at1, x1⟩ := h1
  cases v with
  | true => exact (ha rfl).run pins s1 σ H1 Q I1 ⟨H0', at1, fun v H2 H2' at2 e2 hv => q v H2 H2' at2 (x1.trans e2) hv⟩
  | false => exact (hb rfl).run pins s1 σ H1 Q I1 ⟨H0', at1, fun v H2 H2' at2 e2 hv => q v H2 H2' at2 (x1.trans e2) hv⟩

/-! ### argument lists, displays, calls -/
theorem ga_nil : GA X B Γ S [] [] := pa_nil.imp fun σ H Q ⟨H0, at0, k⟩ => k [] H0 H at0 (Ex.refl _) .nil
theorem ga_cons (ha : GD X B Γ S e d) (hr : GA X B Γ S es ds) (hs : starEach (e :: es) X.env = (false, eval e X.env) :: starEach es X.env := by rfl) : GA X B Γ S (e :: es) (d :: ds) := (pa_cons ha hr hs).imp fun σ H Q ⟨H0, at0, k⟩ =>
  ⟨H0, at0, fun v H1 H' at1 e1 hv => ⟨H1, at1, fun vs H2 H'' at2 e2 hvs => k _ H2 H'' at2 (e1.trans e2) (.cons (dp_ex e2 _ _ hv.toDp) hvs)⟩⟩
theorem gd_tup {x1 : Nat} (h : GA X B Γ S es ds) (hl : ds.length ≤ 100000) : GD X B Γ S (.Tuple es x1 pos) (.tuple ds) := (pe_tup h).imp fun σ H Q ⟨H0, at0, k⟩ => ⟨H0, at0, fun vs H1 H' at1 e1 hvs =>
  ⟨by rw [dps_len hvs]; exact Evl.sz_of hl, fun p hp => k (.ref p) _ _ (at1.ext (Ext.new at1.e2 hp)) (e1.trans (Ex.new (free0 at1.e2 hp))) ⟨_, rfl, .tup (.inl (.inl upd_same)) (dps_ex (Ex.new (free0 at1.e2 hp)) _ _ hvs)⟩⟩⟩
theorem gd_lst (h : GA X B Γ S es ds) (hl : ds.length ≤ 100000) : GD X B Γ S (.List es pos) (.list ds) := (pe_lst h).imp fun σ H Q ⟨H0, at0, k⟩ => ⟨H0, at0, fun vs H1 H' at1 e1 hvs =>
  ⟨by rw [dps_len hvs]; exact Evl.sz_of hl, fun p hp => k (.ref p) _ _ (at1.ext (Ext.new at1.e2 hp)) (e1.trans (Ex.new (free0 at1.e2 hp))) ⟨_, rfl, .lst (.inl (.inl upd_same)) (dps_ex (Ex.new (free0 at1.e2 hp)) _ _ hvs)⟩⟩⟩
/-- a call by values -/
def CaD (K : PySem.W.Frag) (r : List V → Hp → VK → Prop) (ds : List PyData) (d : PyData) : Prop := ∀ H0 H vs, Ex H0 H → DpAll K H0 vs ds → ∀ Q : VK, (∀ z H0' H', Ext H0 H H0' H' → Dp K H0' z d → Q z H') → r vs H Q
theorem gd_callB {f : Str} {p : Pos} {id : String} {r : List V → Hp → VK → Prop} (hc : CallR X (.builtin id) r) (o : CaD X.K r ds d) (hg : Gl X f) (hm : X.mg f = none) (hv : bootBuiltins f = some (.builtin id)) (ha : GA X B Γ S (e :: es) ds) (hn : f ≠ "__name__" := by decide) (hdb : (f == ("__debug__" : Str)) = false := by decide)
    (he : starEach (e :: es) X.env = (false, eval e X.env) :: starEach es X.env := by rfl) (hpl : (backTo pos (starEach es X.env)).any (·.1) = false := by rfl) : GD X B Γ S (.Call (.Name f p) (e :: es) [] pos) d :=
  (pe_callB hc hg hm hv ha hn hdb he hpl).imp fun σ H Q ⟨H0, at0, k⟩ => ⟨H0, at0, fun vs H1 H' at1 e1 hvs => o H1 H' vs at1.e2 hvs Q fun z H2 H2' x2 hz => k z H2 H2' (at1.ext x2) (e1.trans x2.e0) ⟨z, rfl, hz⟩⟩
theorem gd_callTy {f : Str} {p : Pos} {T : String} {r : List V → Hp → VK → Prop} (hc : CallR X (.type T) r) (o : CaD X.K r ds d) (hg : Gl X f) (hm : X.mg f = none) (hv : bootBuiltins f = some (.type T)) (ha : GA X B Γ S (e :: es) ds) (hn : f ≠ "__name__" := by decide) (hdb : (f == ("__debug__" : Str)) = false := by decide)
    (he : starEach (e :: es) X.env = (false, eval e X.env) :: starEach es X.env := by rfl) (hpl : (backTo pos (starEach es X.env)).any (·.1) = false := by rfl) : GD X B Γ S (.Call (.Name f p) (e :: es) [] pos) d :=
  (pe_callTy hc hg hm hv ha hn hdb he hpl).imp fun σ H Q ⟨H0, at0, k⟩ => ⟨H0, at0, fun vs H1 H' at1 e1 hvs => o H1 H' vs at1.e2 hvs Q fun z H2 H2' x2 hz => k z H2 H2' (at1.ext x2) (e1.trans x2.e0) ⟨z, rfl, hz⟩⟩
theorem ca_len {K : PySem.W.Frag} {es : List PyData} (h : d = .list es ∨ d = .tuple es) : CaD K (fun xs H Q => ∃ x n, xs = [x] ∧ LenV K x H n ∧ Q (.int n) H) [d] (.int (es.length : Int)) := fun H0 H vs e hvs Q k => by
  cases hvs with
  | cons hv ht =>
    cases ht
    rcases h with rfl | rfl
    · cases hv with
      | lst hs ha => exact ⟨_, es.length, rfl, .inl ⟨_, ex_l e hs, (dps_len ha).symm⟩, k _ H0 H (Ext.refl e) (.int _)⟩
    · cases hv with
      | tup hs ha => exact ⟨_, es.length, rfl, .inr ⟨_, ex_t e hs, (dps_len ha).symm⟩, k _ H0 H (Ext.refl e) (.int _)⟩
theorem ca_list {K : PySem.W.Frag} {es : List PyData} (h : d = .list es ∨ d = .tuple es) : CaD K (fun xs H Q => ∃ p ys, xs = [.ref p] ∧ (SqL K H p ys ∨ SqT K H p ys) ∧ ∀ l, H l = none → Q (.ref l) (upd H l (.lst ys))) [d] (.list es) := fun H0 H vs e hvs Q k => by
  cases hvs with
  | cons hv ht =>
    cases ht
    rcases h with rfl | rfl
    · cases hv with
      | lst hs ha => exact ⟨_, _, rfl, .inl (ex_l e hs), fun l hl => k _ _ _ (Ext.new e hl) (.lst (.inl (.inl upd_same)) (dps_ex (Ex.new (free0 e hl)) _ _ ha))⟩
    · cases hv with
      | tup hs ha => exact ⟨_, _, rfl, .inr (ex_t e hs), fun l hl => k _ _ _ (Ext.new e hl) (.lst (.inl (.inl upd_same)) (dps_ex (Ex.new (free0 e hl)) _ _ ha))⟩
theorem ca_intB {K : PySem.W.Frag} : CaD K (fun xs H Q => (∃ i, xs = [.int i] ∧ Q (.int i) H) ∨ ∃ k, xs = [.bl k] ∧ Q (.int (if k then 1 else 0)) H) [.bool k] (.int (if k then 1 else 0)) := fun H0 H vs e hvs Q q => by
  cases hvs with
  | cons hv ht =>
    cases ht
    cases hv
    exact .inr ⟨k, rfl, q _ H0 H (Ext.refl e) (.int _)⟩
theorem ca_all {K : PySem.W.Frag} {bs : List Bool} : CaD K (rAll K) [.list (bs.map PyData.bool)] (.bool (bs.all id)) := fun H0 H vs e hvs Q k => by
  cases hvs with
  | cons hv ht =>
    cases ht
    cases hv with
    | lst hs ha => exact ⟨_, bs, rfl, by rw [← bools_of ha]; exact ex_l e hs, k _ H0 H (Ext.refl e) (.bl _)⟩
theorem ca_any {K : PySem.W.Frag} {bs : List Bool} : CaD K (rAny K) [.list (bs.map PyData.bool)] (.bool (bs.any id)) := fun H0 H vs e hvs Q k => by
  cases hvs with
  | cons hv ht =>
    cases ht
    cases hv with
    | lst hs ha => exact ⟨_, bs, rfl, by rw [← bools_of ha]; exact ex_l e hs, k _ H0 H (Ext.refl e) (.bl _)⟩
/-- the type's name -/
def tyN : PyData → String
  | .none => "NoneType"
  | .bool _ => "bool"
  | .int _ => "int"
  | .str _ => "str"
  | .list _ => "list"
  | .tuple _ => "tuple"
  | .dict _ => "dict"
theorem tyx_of {K : PySem.W.Frag} {H0 H : Hp} {v : V} (e : Ex H0 H) (h : Dp K H0 v d) : TyX K H v (.type (tyN d)) := by
  cases h with
  | non => exact .base .non
  | bl b => exact .base (.bl b)
  | int i => exact .base (.int i)
  | str x => exact .base (.str x)
  | lst hs ha =>
    rcases ex_l e hs with (h | ⟨o, h⟩) | ⟨o, its, n, h1, h2, _⟩
    · exact .base (.lst h)
    · exact .base (.frz h)
    · exact .kList h1 h2
  | tup hs ha =>
    rcases ex_t e hs with (h | ⟨o, h⟩) | ⟨o, its, n, h1, h2, _⟩
    · exact .base (.tup h)
    · exact .fTuple h
    · exact .kTuple h1 h2
theorem kit_NoneType_int : kitB "NoneType" "int" = some false := by decide +kernel
theorem kit_NoneType_bool : kitB "NoneType" "bool" = some false := by decide +kernel
theorem kit_NoneType_str : kitB "NoneType" "str" = some false := by decide +kernel
theorem kit_NoneType_list : kitB "NoneType" "list" = some false := by decide +kernel
theorem kit_NoneType_tuple : kitB "NoneType" "tuple" = some false := by decide +kernel
theorem kit_bool_int : kitB "bool" "int" = some true := by decide +kernel
theorem kit_bool_bool : kitB "bool" "bool" = some true := by decide +kernel
theorem kit_bool_str : kitB "bool" "str" = some false := by decide +kernel
theorem kit_bool_list : kitB "bool" "list" = some false := by decide +kernel
theorem kit_bool_tuple : kitB "bool" "tuple" = some false := by decide +kernel
theorem kit_int_int : kitB "int" "int" = some true := by decide +kernel
theorem kit_int_bool : kitB "int" "bool" = some false := by decide +kernel
theorem kit_int_str : kitB "int" "str" = some false := by decide +kernel
theorem kit_int_list : kitB "int" "list" = some false := by decide +kernel
theorem kit_int_tuple : kitB "int" "tuple" = some false := by decide +kernel
theorem kit_str_int : kitB "str" "int" = some false := by decide +kernel
theorem kit_str_bool : kitB "str" "bool" = some false := by decide +kernel
theorem kit_str_str : kitB "str" "str" = some true := by decide +kernel
theorem kit_str_list : kitB "str" "list" = some false := by decide +kernel
theorem kit_str_tuple : kitB "str" "tuple" = some false := by decide +kernel
theorem kit_list_int : kitB "list" "int" = some false := by decide +kernel
theorem kit_list_bool : kitB "list" "bool" = some false := by decide +kernel
theorem kit_list_str : kitB "list" "str" = some false := by decide +kernel
theorem kit_list_list : kitB "list" "list" = some true := by decide +kernel
theorem kit_list_tuple : kitB "list" "tuple" = some false := by decide +kernel
theorem kit_tuple_int : kitB "tuple" "int" = some false := by decide +kernel
theorem kit_tuple_bool : kitB "tuple" "bool" = some false := by decide +kernel
theorem kit_tuple_str : kitB "tuple" "str" = some false := by decide +kernel
theorem kit_tuple_list : kitB "tuple" "list" = some false := by decide +kernel
theorem kit_tuple_tuple : kitB "tuple" "tuple" = some true := by decide +kernel
theorem kit_dict_int : kitB "dict" "int" = some false := by decide +kernel
theorem kit_dict_bool : kitB "dict" "bool" = some false := by decide +kernel
theorem kit_dict_str : kitB "dict" "str" = some false := by decide +kernel
theorem kit_dict_list : kitB "dict" "list" = some false := by decide +kernel
theorem kit_dict_tuple : kitB "dict" "tuple" = some false := by decide +kernel
/-- isinstance(e, T), T a built-in type -/
theorem gd_isi {f T : Str} {n : String} {p p2 : Pos} (hg : Gl X f) (hm : X.mg f = none) (hv : bootBuiltins f = some (.builtin "isinstance")) (hT : PE X (.Name T p2) (tC (.ty n))) (ha : GD X B Γ S a d) (hk : kitB (tyN d) n = some k)
    (hn : f ≠ "__name__" := by decide) (hdb : (f == ("__debug__" : Str)) = false := by decide)
    (he : starEach [a, .Name T p2] X.env = (false, eval a X.env) :: starEach [.Name T p2] X.env := by rfl) (he2 : starEach [.Name T p2] X.env = (false, eval (.Name T p2) X.env) :: starEach [] X.env := by rfl) (hpl : (backTo pos (starEach [.Name T p2] X.env)).any (·.1) = false := by rfl) : GD X B Γ S (.Call (.Name f p) [a, .Name T p2] [] pos) (.bool k) :=
  (pe_callB call_isi hg hm hv (pa_cons ha (pa_cons hT pa_nil he2) he) hn hdb he hpl).imp fun σ H Q ⟨H0, at0, q⟩ => ⟨H0, at0, fun v H1 H' at1 e1 hv => ⟨v, .ty n, .type (tyN d), .type n, k, rfl, .ty n, tyx_of at1.e2 hv.toDp, kit_ty hk, q _ H1 H' at1 e1 ⟨_, rfl, .bl _⟩⟩⟩

/-! ### more operators -/
def rCatL (K : PySem.W.Frag) : R2 := fun x y H Q => ∃ l b xs zs, x = .ref l ∧ y = .ref b ∧ SqL K H l xs ∧ SqL K H b zs ∧ xs.length + zs.length ≤ sizeLine ∧ ∀ p, H p = none → Q (.ref p) (upd H p (.lst (xs ++ zs)))
theorem op_catL : OpR X (binaryOp .Add) (rCatL X.K) := fun pins s σ H x y v u Q inv rx ry ⟨l, b, xs, zs, ex, ey, hx, hy, room, q⟩ => by
  subst ex ey
  cases rx; cases ry
  obtain ⟨left, rl, pl, _⟩ := inv.list hx
  obtain ⟨right, rr, pr, _⟩ := inv.list hy
  have n1 := rl.length
  have n2 := rr.length
  rcases pl.isList with ⟨⟨_, d1, _, sl1⟩, o1, c1, m1, e1⟩
  rcases pr.isList with ⟨⟨_, d2, _, sl2⟩, o2, c2, m2, e2⟩
  dsimp only at c1 e1 c2 e2
  subst c1 e1 c2 e2
  have joined : left.toArray ++ right.toArray = (left ++ right).toArray := by simp
  refine concat_meets ⟨_, o1, rfl⟩ ⟨_, o2, rfl⟩ noFill_list_add seq_list_add PySem.F.slot_list_add PySem.F.entry_list_add (PySem.F.args_list_add_2 _ _) (list_addW l b left.toArray right.toArray m1 m2 d1 d2 sl1 sl2 (by simp only [List.size_toArray]; omega)) ⟨o1, o2, ?_⟩
  rw [joined]
  exact ⟨.ref _, _, inv.lnew (t' := s.toks) (rl.append rr) (by rw [List.length_append]; omega), rfl, q _ inv.fresh⟩
theorem od_cat {K : PySem.W.Frag} {xs ys : List PyData} (h : xs.length + ys.length ≤ 100000) : OpD K (rCatL K) (.list xs) (.list ys) (.list (xs ++ ys)) := fun H0 H v w e hv hw Q k => by
  cases hv with
  | lst hs ha =>
    cases hw with
    | lst hs' ha' =>
      exact ⟨_, _, _, _, rfl, rfl, ex_l e hs, ex_l e hs', by rw [dps_len ha, dps_len ha']; exact Evl.sz_of h, fun p hp => k _ _ _ (Ext.new e hp) (.lst (.inl (.inl upd_same)) (dps_ex (Ex.new (free0 e hp)) _ _ (dps_app ha ha')))⟩
theorem gd_cat {xs ys : List PyData} (ha : GD X B Γ S a (.list xs)) (hb : GD X B Γ S b (.list ys)) (h : xs.length + ys.length ≤ 100000) : GD X B Γ S (.BinOp a .Add b pos) (.list (xs ++ ys)) := gd_op op_catL (od_cat h) ha hb
theorem od_addS {K : PySem.W.Frag} {x y : Str} (h : x.length + y.length ≤ sizeLine) : OpD K (fun x y H Q => ∃ i j, x = .str i ∧ y = .str j ∧ i.length + j.length ≤ sizeLine ∧ Q (.str (i ++ j)) H) (.str x) (.str y) (.str (x ++ y)) := fun H0 H v w e hv hw Q k => by
  cases hv
  cases hw
  exact ⟨x, y, rfl, rfl, h, k _ H0 H (Ext.refl e) (.str _)⟩
theorem gd_addS (ha : GD X B Γ S a (.str x)) (hb : GD X B Γ S b (.str y)) (h : x.length + y.length ≤ sizeLine) : GD X B Γ S (.BinOp a .Add b pos) (.str (x ++ y)) := gd_op op_add_str (od_addS h) ha hb
theorem gd_neg (ha : GD X B Γ S a (.int i)) : GD X B Γ S (.UnaryOp .USub a pos) (.int (-i)) := (pe_un un_neg ha).imp fun σ H Q ⟨H0, at0, k⟩ => ⟨H0, at0, fun v H0' H' at1 e1 hv => by
  have hv := hv.toDp
  cases hv
  exact ⟨i, rfl, k _ H0' H' at1 e1 ⟨_, rfl, .int _⟩⟩⟩
theorem od_notIn {K : PySem.W.Frag} (g : flatD d = true) (f : ds.all flatD = true) : OpD K (rIn K true) d (.tuple ds) (.bool (!inD d ds)) := fun H0 H v w e hv hw Q k => by
  cases hw with
  | tup hs ha =>
    obtain ⟨i1, i2⟩ := inV_of hv g ha f
    refine ⟨_, _, rfl, .inr (ex_t e hs), flat_of hv g, i1, k _ H0 H (Ext.refl e) ?_⟩
    show Dp K H0 (.bl (!inV v _)) _
    rw [i2]
    exact .bl _
theorem gd_notIn (hm : behindInMarks .NotIn b = false) (ha : GD X B Γ S a d) (hb : GD X B Γ S b (.tuple ds)) (g : flatD d = true) (f : ds.all flatD = true) : GD X B Γ S (.Compare a [.NotIn] [b] pos) (.bool (!inD d ds)) := gd_cmp op_notIn_seq (od_notIn g f) hm ha hb
theorem gt_notIn (hm : behindInMarks .NotIn b = false) (ha : GD X B Γ S a d) (hb : GD X B Γ S b (.tuple ds)) (g : flatD d = true) (f : ds.all flatD = true) : GT X B Γ S (.Compare a [.NotIn] [b] pos) (!inD d ds) := gt_cmp op_notIn_seq (od_notIn g f) hm ha hb
theorem gd_inL (hm : behindInMarks .In b = false) (ha : GD X B Γ S a d) (hb : GD X B Γ S b (.list ds)) (g : flatD d = true) (f : ds.all flatD = true) : GD X B Γ S (.Compare a [.In] [b] pos) (.bool (inD d ds)) := gd_cmp op_in_seq (od_inL g f) hm ha hb
theorem gt_inL (hm : behindInMarks .In b = false) (ha : GD X B Γ S a d) (hb : GD X B Γ S b (.list ds)) (g : flatD d = true) (f : ds.all flatD = true) : GT X B Γ S (.Compare a [.In] [b] pos) (inD d ds) := gt_cmp op_in_seq (od_inL g f) hm ha hb
/-- a op b op' c of ints -/
theorem chain_goT {p p' : Int → Int → Bool} {l : Int} (hp : p i j = true) {σ : St} {H : Hp} {Q : VK} (h : rd X.K B Γ S (.dat (.bool (p i j && p' j l))) σ H Q) : tChain (rI0 fun i j => .bl (p i j)) (rI0 fun i j => .bl (p' i j)) (rd X.K B Γ S (.dat (.int i))) (rd X.K B Γ S (.dat (.int j))) (rd X.K B Γ S (.dat (.int l))) σ H Q := by
  obtain ⟨H0, at0, k⟩ := h
  refine ⟨H0, at0, fun v H1 H' at1 x1 hv => ⟨H1, at1, fun w H2 H'' at2 x2 hw => ?_⟩⟩
  have hv := hv.toDp
  cases hv
  have hw := hw.toDp
  cases hw
  refine ⟨i, j, rfl, rfl, p i j, rfl, ?_⟩
  rw [hp] at k ⊢
  exact iteT ⟨H2, at2, fun z H3 H3' at3 x3 hz => by
    have hz := hz.toDp
    cases hz
    exact ⟨j, l, rfl, rfl, k _ H3 H3' at3 ((x1.trans x2).trans x3) ⟨_, rfl, by rw [Bool.true_and]; exact .bl _⟩⟩⟩
theorem chain_goF {p p' : Int → Int → Bool} {l : Int} (hp : p i j = false) {σ : St} {H : Hp} {Q : VK} (h : rd X.K B Γ S (.dat (.bool (p i j && p' j l))) σ H Q) : tChain (rI0 fun i j => .bl (p i j)) (rI0 fun i j => .bl (p' i j)) (rd X.K B Γ S (.dat (.int i))) (rd X.K B Γ S (.dat (.int j))) (fun _ _ _ => False) σ H Q := by
  obtain ⟨H0, at0, k⟩ := h
  refine ⟨H0, at0, fun v H1 H' at1 x1 hv => ⟨H1, at1, fun w H2 H'' at2 x2 hw => ?_⟩⟩
  have hv := hv.toDp
  cases hv
  have hw := hw.toDp
  cases hw
  refine ⟨i, j, rfl, rfl, p i j, rfl, ?_⟩
  rw [hp] at k ⊢
  exact iteF (k _ H2 H'' at2 (x1.trans x2) ⟨_, rfl, by rw [Bool.false_and]; exact .bl _⟩)
theorem gd_chain {op op' : CmpOp} {p p' : Int → Int → Bool} {l : Int} (ho : OpR X (compareOp op) (rI0 fun i j => .bl (p i j))) (ho' : OpR X (compareOp op') (rI0 fun i j => .bl (p' i j))) (ha : GD X B Γ S a (.int i)) (hb : GD X B Γ S b (.int j)) (hc : p i j = true → GD X B Γ S c (.int l))
    (hm : lastMarks [op, op'] [b, c] = false := by with_unfolding_all rfl) : GD X B Γ S (.Compare a [op, op'] [b, c] pos) (.bool (p i j && p' j l)) := by
  cases hp : p i j with
  | true => exact (pe_chain ho ho' ha hb (hc hp) hm).imp fun σ H Q h => chain_goT hp (by rw [hp]; exact h)
  | false =>
    have hn : PE X c (fun _ _ _ => False) := ⟨fun _ _ _ _ _ _ h => h.elim⟩
    exact (pe_chain ho ho' ha hb hn hm).imp fun σ H Q h => chain_goF (p' := p') (l := l) hp (by rw [hp]; exact h)
theorem gt_chain {op op' : CmpOp} {p p' : Int → Int → Bool} {l : Int} (ho : OpR X (compareOp op) (rI0 fun i j => .bl (p i j))) (ho' : OpR X (compareOp op') (rI0 fun i j => .bl (p' i j))) (ha : GD X B Γ S a (.int i)) (hb : GD X B Γ S b (.int j)) (hc : p i j = true → GD X B Γ S c (.int l))
    (hm : lastMarks [op, op'] [b, c] = false := by with_unfolding_all rfl) : GT X B Γ S (.Compare a [op, op'] [b, c] pos) (p i j && p' j l) := by
  cases hp : p i j with
  | true => exact (pt_chain ho ho' ha hb (hc hp) hm).imp (test_go fun σ H Q h => chain_goT hp (by rw [hp]; exact h))
  | false =>
    have hn : PE X c (fun _ _ _ => False) := ⟨fun _ _ _ _ _ _ h => h.elim⟩
    exact (pt_chain ho ho' ha hb hn hm).imp (test_go fun σ H Q h => chain_goF (p' := p') (l := l) hp (by rw [hp]; exact h))
theorem gt_chain_le_lt {l : Int} (ha : GD X B Γ S a (.int i)) (hb : GD X B Γ S b (.int j)) (hc : decide (i ≤ j) = true → GD X B Γ S c (.int l)) (hm : lastMarks [.LtE, .Lt] [b, c] = false := by with_unfolding_all rfl) : GT X B Γ S (.Compare a [.LtE, .Lt] [b, c] pos) (decide (i ≤ j) && decide (j < l)) := gt_chain op_le op_lt ha hb hc hm
theorem gd_chain_le_lt {l : Int} (ha : GD X B Γ S a (.int i)) (hb : GD X B Γ S b (.int j)) (hc : decide (i ≤ j) = true → GD X B Γ S c (.int l)) (hm : lastMarks [.LtE, .Lt] [b, c] = false := by with_unfolding_all rfl) : GD X B Γ S (.Compare a [.LtE, .Lt] [b, c] pos) (.bool (decide (i ≤ j) && decide (j < l))) := gd_chain op_le op_lt ha hb hc hm
/-- slices of lists -/
abbrev GO (X : Cx) (B : Bs) (Γ : Gam) (S : Sto) (e : Option Expr) (o : Option Int) : Prop := PO X e (fun σ H Q => ∃ H0, At X.K B H0 Γ S σ H ∧ ∀ H0' H', At X.K B H0' Γ S σ H' → Ex H0 H0' → Q o H')
theorem go_none : GO X B Γ S none none := ⟨fun pins s σ H Q I ⟨H0, at0, k⟩ => (po_none (X := X)).run pins s σ H Q I (k H0 H at0 (Ex.refl _))⟩
theorem go_some (h : GD X B Γ S e (.int i)) : GO X B Γ S (some e) (some i) := ⟨fun pins s σ H Q I ⟨H0, at0, k⟩ => (po_some h).run pins s σ H Q I ⟨H0, at0, fun v H0' H' at1 e1 hv => by
  have hv := hv.toDp
  cases hv
  exact ⟨i, rfl, k H0' H' at1 e1⟩⟩⟩
def cutD (xs : List PyData) (lo hi : Option Int) : List PyData := (xs.drop (HT.sIx xs.length 0 lo)).take (HT.sIx xs.length xs.length hi - HT.sIx xs.length 0 lo)
theorem gd_slice {xs : List PyData} {lo hi : Option Expr} {l u : Option Int} {p2 : Pos} (ha : GD X B Γ S a (.list xs)) (hl : GO X B Γ S lo l) (hu : GO X B Γ S hi u) : GD X B Γ S (.Subscript a (.Slice lo hi none p2) pos) (.list (cutD xs l u)) :=
  (pe_slice sl_list ha hl hu).imp fun σ H Q ⟨H0, at0, k⟩ => ⟨H0, at0, fun v H1 H' at1 x1 hv => ⟨H1, at1, fun H2 H'' at2 x2 => ⟨H2, at2, fun H3 H3' at3 x3 => by
    have hv := dp_ex (x2.trans x3) _ _ hv.toDp
    cases hv with
    | @lst q vs _ hs ha =>
      refine ⟨q, vs, rfl, ex_l at3.e2 hs, fun p hp => k _ _ _ (at3.ext (Ext.new at3.e2 hp)) (((x1.trans x2).trans x3).trans (Ex.new (free0 at3.e2 hp))) ⟨_, rfl, .lst (.inl (.inl upd_same)) (dps_ex (Ex.new (free0 at3.e2 hp)) _ _ ?_)⟩⟩
      unfold cutV cutD
      rw [dps_len ha]
      exact dps_take _ (dps_drop _ ha)⟩⟩⟩
theorem ca_strI {K : PySem.W.Frag} (h : i.natAbs.log2 < 1920) : CaD K (fun xs H Q => ∃ i, xs = [.int i] ∧ i.natAbs.log2 < 1920 ∧ Q (.str (toString i)) H) [.int i] (.str (toString i)) := fun H0 H vs e hvs Q q => by
  cases hvs with
  | cons hv ht =>
    cases ht
    cases hv
    exact ⟨i, rfl, h, q _ H0 H (Ext.refl e) (.str _)⟩
/-! ### calls of defs -/
/-- a pure def: R tells what it gives -/
def SpD (K : PySem.W.Frag) (R : List PyData → PyData → Prop) : Sp := fun vs H Q _ => ∃ H0 ds d, Ex H0 H ∧ R ds d ∧ DpAll K H0 vs ds ∧ ∀ v H0' H', Ext H0 H H0' H' → Dp K H0' v d → Q v H'
theorem gd_call {CX : CXT} {n : Nat} {f : Addr} {fd : FuncData} {ps : List Str} {R : List PyData → PyData → Prop} {E : XK} {x : Str} {p : Pos} (F : FnOk X.prog X.w X.K X.mg X.base CX n f fd ps (SpD X.K R)) (hr : Room n X.A) (hg : Gl X x) (hm : X.mg x = some (.ref f)) (hk : PySem.W.keepIn X.K (.ref f) = true) (hb : Binds X.K fd ps []) (hx : Passes CX X E)
    (ha : GA X B Γ S (e :: es) ds) (q : R ds d) (hdb : (x == ("__debug__" : Str)) = false := by decide) (he : starEach (e :: es) X.env = (false, eval e X.env) :: starEach es X.env := by rfl) (hpl : (backTo pos (starEach es X.env)).any (·.1) = false := by rfl) :
    GD X B Γ S (.Call (.Name x p) (e :: es) [] pos) d := (pe_call F hr hg hm hk hb .nil hx ha hdb he hpl).imp fun σ H Q ⟨H0, at0, k⟩ => ⟨H0, at0, fun vs H1 H' at1 e1 hvs => by
  show SpD X.K R (vs ++ []) H' Q E
  rw [List.append_nil]
  exact ⟨H1, ds, d, at1.e2, q, hvs, fun v H2 H2' x2 hv => k v H2 H2' (at1.ext x2) (e1.trans x2.e0) ⟨v, rfl, hv⟩⟩⟩
end

/-! ### statements -/
structure Po where
  N : Gam → Sto → Prop
  R : Sl → Sto → Prop
  bk : Gam → Sto → Prop := fun _ _ => False
  ct : Gam → Sto → Prop := fun _ _ => False
  ex : Value → Gam → Sto → Prop := fun _ _ _ => False
structure Endz (K : PySem.W.Frag) (B : Bs) (P : Po) (D : Ends) : Prop where
  nx : ∀ Γ S H0 σ H, P.N Γ S → At K B H0 Γ S σ H → D.nx σ H
  rt : ∀ r Γ S v H0 σ H, P.R r S → At K B H0 Γ S σ H → SlOk K H0 (some (some v)) r → D.rt v H
  bk : ∀ Γ S H0 σ H, P.bk Γ S → At K B H0 Γ S σ H → D.bk σ H
  ct : ∀ Γ S H0 σ H, P.ct Γ S → At K B H0 Γ S σ H → D.ct σ H
  ex : ∀ cls Γ S H0 σ H, P.ex cls Γ S → At K B H0 Γ S σ H → B.E cls none σ H
def rs (K : PySem.W.Frag) (B : Bs) (Γ : Gam) (S : Sto) (P : Po) : TS := fun D σ H => ∃ H0, At K B H0 Γ S σ H ∧ Endz K B P D
abbrev GS (X : Cx) (B : Bs) (Γ : Gam) (S : Sto) (st : Stmt) (P : Po) : Prop := PS X st (rs X.K B Γ S P)
abbrev GSs (X : Cx) (B : Bs) (Γ : Gam) (S : Sto) (st : List Stmt) (P : Po) : Prop := PSs X st (rs X.K B Γ S P)
/-- an expression that may change what is owned, and may raise -/
def re (K : PySem.W.Frag) (B : Bs) (Γ : Gam) (S : Sto) (Pe : Sl → Sto → Prop) (ex : Value → Gam → Sto → Prop) : TE := fun σ H Q => ∃ H0, At K B H0 Γ S σ H ∧
  (∀ r S' v H0' H', Pe r S' → At K B H0' Γ S' σ H' → Ex H0 H0' → SlOk K H0' (some (some v)) r → Q v H') ∧ ∀ cls S' H0' H', ex cls Γ S' → At K B H0' Γ S' σ H' → B.E cls none σ H'
/-- a test of that kind -/
def rtE (K : PySem.W.Frag) (B : Bs) (Γ : Gam) (S : Sto) (Pt : Bool → Sto → Prop) (ex : Value → Gam → Sto → Prop) : TT := fun σ H Q => ∃ H0, At K B H0 Γ S σ H ∧
  (∀ b S' H0' H', Pt b S' → At K B H0' Γ S' σ H' → Ex H0 H0' → Q b H') ∧ ∀ cls S' H0' H', ex cls Γ S' → At K B H0' Γ S' σ H' → B.E cls none σ H'
abbrev GE (X : Cx) (B : Bs) (Γ : Gam) (S : Sto) (e : Expr) (Pe : Sl → Sto → Prop) (ex : Value → Gam → Sto → Prop) : Prop := PE X e (re X.K B Γ S Pe ex)
abbrev GTE (X : Cx) (B : Bs) (Γ : Gam) (S : Sto) (e : Expr) (Pt : Bool → Sto → Prop) (ex : Value → Gam → Sto → Prop) : Prop := PT X e (rtE X.K B Γ S Pt ex)
section
variable {X : Cx} {B : Bs} {Γ : Gam} {S : Sto} {st : Stmt} {rest : List Stmt} {a b c e : Expr} {d : PyData} {pos : Pos} {k : Bool} {P : Po}
theorem gss_nil (h : P.N Γ S) : GSs X B Γ S [] P := pss_nil.imp fun D σ H ⟨H0, at0, z⟩ => z.nx Γ S H0 σ H h at0
theorem gss_cons {M : Gam → Sto → Prop} (h1 : GS X B Γ S st { P with N := M }) (h2 : ∀ Γ' S', M Γ' S' → GSs X B Γ' S' rest P) : GSs X B Γ S (st :: rest) P := by
  have h2' : PSs X rest (fun D σ H => ∃ Γ' S', M Γ' S' ∧ rs X.K B Γ' S' P D σ H) := ⟨fun pins s σ H D I ⟨Γ', S', m, q⟩ => (h2 Γ' S' m).run pins s σ H D I q⟩
  exact (pss_cons h1 h2').imp fun D σ H ⟨H0, at0, z⟩ => ⟨H0, at0, fun Γ' S' H1 σ' H' m at1 => ⟨Γ', S', m, H1, at1, z⟩, z.rt, z.bk, z.ct, z.ex⟩
theorem gss_seq {Γ' : Gam} {S' : Sto} (h1 : GS X B Γ S st { P with N := fun Γ1 S1 => Γ1 = Γ' ∧ S1 = S' }) (h2 : GSs X B Γ' S' rest P) : GSs X B Γ S (st :: rest) P := gss_cons h1 fun _ _ ⟨e1, e2⟩ => by subst e1 e2; exact h2
theorem gss_one (h1 : GS X B Γ S st P) : GSs X B Γ S [st] P := pss_one h1
theorem gs_set {i : Nat} {x : Str} {pos' : Pos} {r : Sl} (hN : X.N.Nodup) (hi : X.N[i]? = some x) (hx : Loc X.env.scope x) (he : PE X e (rd X.K B Γ S r)) (q : P.N (Γ.set i r) S) (hs : swapsWith e (some (.Name x pos')) pos.line X.env = pure false := by rfl)
    (hf : X.fn x = true ∨ X.env.scope.names.lookup x = some .local := by first | exact .inl rfl | exact .inr rfl | assumption) : GS X B Γ S (.Assign [.Name x pos'] e pos) P :=
  (ps_set hN hi hx he hs hf).imp fun D σ H ⟨H0, at0, z⟩ => ⟨H0, at0, fun v H0' H' at1 e1 hv => z.nx _ _ H0' _ H' q (at1.set i hv)⟩
theorem gss_set {i : Nat} {x : Str} {pos' : Pos} {r : Sl} (hN : X.N.Nodup) (hi : X.N[i]? = some x) (hx : Loc X.env.scope x) (he : PE X e (rd X.K B Γ S r)) (h2 : GSs X B (Γ.set i r) S rest P) (hs : swapsWith e (some (.Name x pos')) pos.line X.env = pure false := by rfl)
    (hf : X.fn x = true ∨ X.env.scope.names.lookup x = some .local := by first | exact .inl rfl | exact .inr rfl | assumption) : GSs X B Γ S (.Assign [.Name x pos'] e pos :: rest) P := gss_seq (gs_set hN hi hx he ⟨rfl, rfl⟩ hs hf) h2
theorem gs_if {t u : List Stmt} (hc : GT X B Γ S c k) (h1 : k = true → GSs X B Γ S t P) (h2 : k = false → GSs X B Γ S u P) : GS X B Γ S (.If c t u pos) P := by
  cases k with
  | true => exact (ps_if hc (h1 rfl) pss_never).imp fun D σ H ⟨H0, at0, z⟩ => ⟨H0, at0, fun H0' H' at1 _ => iteT ⟨H0', at1, z⟩⟩
  | false => exact (ps_if hc pss_never (h2 rfl)).imp fun D σ H ⟨H0, at0, z⟩ => ⟨H0, at0, fun H0' H' at1 _ => iteF ⟨H0', at1, z⟩⟩
theorem gss_if {t u : List Stmt} (hc : GT X B Γ S c k) (h1 : k = true → GSs X B Γ S t { P with N := fun Γ' S' => GSs X B Γ' S' rest P }) (h2 : k = false → GSs X B Γ S u { P with N := fun Γ' S' => GSs X B Γ' S' rest P }) : GSs X B Γ S (.If c t u pos :: rest) P :=
  gss_cons (gs_if hc h1 h2) fun _ _ h => h
/-- an if behind which the slots are F of some x with Pr x -/
theorem gss_join {α : Type} (F : Gam → α → Gam) (Pr : α → Prop) {t u : List Stmt} (hc : GT X B Γ S c k) (h1 : k = true → GSs X B Γ S t { P with N := fun Γ' S' => ∃ x, Pr x ∧ Γ' = F Γ x ∧ S' = S })
    (h2 : k = false → GSs X B Γ S u { P with N := fun Γ' S' => ∃ x, Pr x ∧ Γ' = F Γ x ∧ S' = S }) (h3 : ∀ x, Pr x → GSs X B (F Γ x) S rest P) : GSs X B Γ S (.If c t u pos :: rest) P :=
  gss_cons (gs_if hc h1 h2) fun Γ' S' h => by obtain ⟨x, p, rfl, rfl⟩ := h; exact h3 x p
theorem gs_ret {r : Sl} (he : PE X e (rd X.K B Γ S r)) (q : P.R r S) : GS X B Γ S (.Return (some e) pos) P := (ps_ret he).imp fun D σ H ⟨H0, at0, z⟩ => ⟨H0, at0, fun v H0' H' at1 _ hv => z.rt r Γ S v H0' σ H' q at1 hv⟩
theorem ret_all {t : Stmt} (h : GS X B Γ S t { P with N := fun _ _ => False }) : GSs X B Γ S (t :: rest) P := by
  have h2 : PSs X rest tNever := pss_never
  exact (pss_cons h h2).imp fun D σ H ⟨H0, at0, z⟩ => ⟨H0, at0, fun _ _ _ _ _ m _ => m.elim, z.rt, z.bk, z.ct, z.ex⟩
theorem gss_ret {r : Sl} (he : PE X e (rd X.K B Γ S r)) (q : P.R r S) : GSs X B Γ S (.Return (some e) pos :: rest) P := ret_all (gs_ret he q)
theorem gs_doc {x : Str} {j : Nat} {pos' : Pos} (q : P.N Γ S) : GS X B Γ S (.Expr (.Constant (.str x) j pos) pos') P := ps_doc.imp fun D σ H ⟨H0, at0, z⟩ => z.nx Γ S H0 σ H q at0
theorem gss_mono {Q : Po} (h : GSs X B Γ S rest P) (n : ∀ Γ S, P.N Γ S → Q.N Γ S) (r : ∀ v S, P.R v S → Q.R v S) (b : ∀ Γ S, P.bk Γ S → Q.bk Γ S) (c : ∀ Γ S, P.ct Γ S → Q.ct Γ S) (x : ∀ z Γ S, P.ex z Γ S → Q.ex z Γ S) : GSs X B Γ S rest Q := h.imp fun D σ H ⟨H0, at0, z⟩ =>
  ⟨H0, at0, fun Γ S H0 σ H q => z.nx Γ S H0 σ H (n Γ S q), fun v Γ S u H0 σ H q => z.rt v Γ S u H0 σ H (r v S q), fun Γ S H0 σ H q => z.bk Γ S H0 σ H (b Γ S q), fun Γ S H0 σ H q => z.ct Γ S H0 σ H (c Γ S q), fun y Γ S H0 σ H q => z.ex y Γ S H0 σ H (x y Γ S q)⟩
/-! ### with effects -/
variable {Pe : Sl → Sto → Prop} {ex : Value → Gam → Sto → Prop} {Pt : Bool → Sto → Prop}
theorem ge_of {r : Sl} (h : PE X e (rd X.K B Γ S r)) (q : Pe r S) : GE X B Γ S e Pe ex := h.imp fun σ H Q ⟨H0, at0, k, _⟩ => ⟨H0, at0, fun v H0' H' at1 e1 hv => k r S v H0' H' q at1 e1 hv⟩
theorem gs_setE {i : Nat} {x : Str} {pos' : Pos} (hN : X.N.Nodup) (hi : X.N[i]? = some x) (hx : Loc X.env.scope x) (he : GE X B Γ S e (fun r S' => P.N (Γ.set i r) S') P.ex) (hs : swapsWith e (some (.Name x pos')) pos.line X.env = pure false := by rfl)
    (hf : X.fn x = true ∨ X.env.scope.names.lookup x = some .local := by first | exact .inl rfl | exact .inr rfl | assumption) : GS X B Γ S (.Assign [.Name x pos'] e pos) P :=
  (ps_set hN hi hx he hs hf).imp fun D σ H ⟨H0, at0, z⟩ => ⟨H0, at0, fun r S' v H0' H' q at1 e1 hv => z.nx _ _ H0' _ H' q (at1.set i hv), fun cls S' H0' H' q at1 => z.ex cls Γ S' H0' σ H' q at1⟩
theorem gs_exprE (he : GE X B Γ S e (fun _ S' => P.N Γ S') P.ex) (hs : swapsWith e none pos.line X.env = pure false := by rfl) : GS X B Γ S (.Expr e pos) P :=
  (ps_expr he hs).imp fun D σ H ⟨H0, at0, z⟩ => ⟨H0, at0, fun r S' v H0' H' q at1 e1 hv => z.nx _ _ H0' _ H' q at1, fun cls S' H0' H' q at1 => z.ex cls Γ S' H0' σ H' q at1⟩
theorem gs_retE (he : GE X B Γ S e P.R P.ex) : GS X B Γ S (.Return (some e) pos) P :=
  (ps_ret he).imp fun D σ H ⟨H0, at0, z⟩ => ⟨H0, at0, fun r S' v H0' H' q at1 e1 hv => z.rt r Γ S' v H0' σ H' q at1 hv, fun cls S' H0' H' q at1 => z.ex cls Γ S' H0' σ H' q at1⟩
theorem gte_of {k : Bool} (h : GT X B Γ S c k) (q : Pt k S) : GTE X B Γ S c Pt ex := h.imp fun σ H Q ⟨H0, at0, k1, _⟩ => ⟨H0, at0, fun H0' H' at1 e1 => k1 k S H0' H' q at1 e1⟩
theorem gs_ifE {t u : List Stmt} (hc : GTE X B Γ S c Pt P.ex) (h1 : ∀ S', Pt true S' → GSs X B Γ S' t P) (h2 : ∀ S', Pt false S' → GSs X B Γ S' u P) : GS X B Γ S (.If c t u pos) P := by
  have h1' : PSs X t (fun D σ H => ∃ S', Pt true S' ∧ rs X.K B Γ S' P D σ H) := ⟨fun pins s σ H D I ⟨S', m, q⟩ => (h1 S' m).run pins s σ H D I q⟩
  have h2' : PSs X u (fun D σ H => ∃ S', Pt false S' ∧ rs X.K B Γ S' P D σ H) := ⟨fun pins s σ H D I ⟨S', m, q⟩ => (h2 S' m).run pins s σ H D I q⟩
  exact (ps_if hc h1' h2').imp fun D σ H ⟨H0, at0, z⟩ => ⟨H0, at0, fun b S' H0' H' q at1 e1 => by
    cases b with
    | true => exact iteT ⟨S', q, H0', at1, z⟩
    | false => exact iteF ⟨S', q, H0', at1, z⟩, fun cls S' H0' H' q at1 => z.ex cls Γ S' H0' σ H' q at1⟩
end

/-! ### a pure def by its body -/
/-- the slots at the entry -/
def gam (n : Nat) (ds : List PyData) : Gam := ds.map Sl.dat ++ List.replicate (n - ds.length) .un
def gamS (n : Nat) (as : List Sl) : Gam := as ++ List.replicate (n - as.length) .un
abbrev ArgsOk (K : PySem.W.Frag) (H0 : Hp) (vs : List V) (as : List Sl) : Prop := Paired (fun v s => SlOk K H0 (some (some v)) s) vs as
theorem ArgsOk.get {K : PySem.W.Frag} {H0 : Hp} : ∀ {vs : List V} {as : List Sl} {i : Nat} {s : Sl}, ArgsOk K H0 vs as → as[i]? = some s → ∃ v, vs[i]? = some v ∧ SlOk K H0 (some (some v)) s
  | _, _, _, _, .nil, e => by simp at e
  | _, _, 0, _, .cons r _, e => by simp at e; subst e; exact ⟨_, rfl, r⟩
  | _, _, i + 1, s, .cons _ t, e => by
    obtain ⟨u, h1, h2⟩ := ArgsOk.get (i := i) (s := s) t (by simpa using e)
    exact ⟨u, by simpa using h1, h2⟩
theorem args_of {K : PySem.W.Frag} {H0 : Hp} : ∀ {vs : List V} {ds : List PyData}, DpAll K H0 vs ds → ArgsOk K H0 vs (ds.map Sl.dat)
  | _, _, .nil => .nil
  | _, _, .cons h t => .cons (SlOk.dat h) (args_of t)
theorem env_startS {K : PySem.W.Frag} {H0 : Hp} {N : List Str} {vs : List V} {as : List Sl} (h : ArgsOk K H0 vs as) (hl : as.length ≤ N.length) : EnvOk K H0 (L2.start N vs) (gamS N.length as) := by
  have e : vs.length = as.length := Paired.length h
  refine ⟨?_, fun i s q => ?_⟩
  · unfold L2.start gamS
    rw [List.length_append, List.length_append, List.length_map, List.length_replicate, List.length_replicate, e]
  · unfold gamS at q
    by_cases hi : i < as.length
    · rw [List.getElem?_append_left hi] at q
      obtain ⟨v, h1, h2⟩ := ArgsOk.get h q
      unfold L2.start
      rw [List.getElem?_append_left (by rw [List.length_map, e]; exact hi), List.getElem?_map, h1]
      exact h2
    · rw [List.getElem?_append_right (by omega), List.getElem?_replicate] at q
      split at q
      · cases q; trivial
      · cases q
theorem gam_S {n : Nat} {ds : List PyData} : gam n ds = gamS n (ds.map Sl.dat) := by unfold gam gamS; rw [List.length_map]
/-- a def or method that may change what is owned and may raise: what is asked, what is told -/
def NewK (H : Hp) (S S' : Sto) : Prop := ∀ p ∈ keys S', p ∈ keys S ∨ H p = none
abbrev Rq := List Sl → Sto → (Sl → Sto → Prop) → (Value → Sto → Prop) → Prop
def SpM (K : PySem.W.Frag) (R : Rq) : Sp := fun vs H Q E => ∃ H0 as S PR PX, Ex H0 H ∧ R as S PR PX ∧ ArgsOk K H0 vs as ∧ StoOk K H0 H S ∧
  (∀ r S' v H0' H', PR r S' → Fra ⟨H0, H, keys S, fun _ _ _ _ => False⟩ H0' H' → StoOk K H0' H' S' → NewK H S S' → SlOk K H0' (some (some v)) r → Q v H') ∧
  ∀ cls S' H0' H', PX cls S' → Fra ⟨H0, H, keys S, fun _ _ _ _ => False⟩ H0' H' → StoOk K H0' H' S' → NewK H S S' → E cls none H'
theorem Fra.toE {H0 H H0' H' : Hp} {ks : List Addr} {E E' : WX} (f : Fra ⟨H0, H, ks, E⟩ H0' H') : Fra ⟨H0, H, ks, E'⟩ H0' H' := ⟨f.e0, f.e1, f.e2, f.fr, f.th⟩
section
variable {P : Program} {w : World} {K : PySem.W.Frag} {mg : Str → Option Value} {base : Heap}
theorem pure_def {x qual : Str} {st : Stmt} {f : Addr} {fd : FuncData} {N ps : List Str} {n : Nat} {R : List PyData → PyData → Prop} (F : Fun K x qual st f fd) (Sc : FnScope N ps (defScope st)) (hlen : ∀ ds d, R ds d → ds.length = ps.length)
    (hbody : ∀ (cdv : Value) (A : Around) (outer : List Env) (s : Shared) (H : Hp) (E : XK) (B : Bs) (ds : List PyData) (d : PyData), Room n (A.deeper (envOfC qual (defScope st) s.heap.objs.size f cdv)) → R ds d →
      GSs (cxOf CX0 P w K mg base N qual (defScope st) f cdv A outer s H E).nox B (gam N.length ds) [] (defBody st) { N := fun _ _ => d = .none, R := fun r _ => r = .dat d }) : FnOk P w K mg base CX0 (n + 1) f fd ps (SpD K R) := by
  refine F.ok Sc (fun vs H Q E h => ?_) (fun cdv A outer s H vs Q E hr h => ?_)
  · obtain ⟨H0, ds, d, _, hR, hv, _⟩ := h
    rw [dps_len hv]
    exact hlen ds d hR
  · obtain ⟨H0, ds, d, e, hR, hv, k⟩ := h
    have hle : ps.length ≤ N.length := by have := congrArg List.length Sc.pre; rw [List.length_take] at this; omega
    refine ⟨_, hbody cdv A outer s H E ⟨H0, H, [], fun _ _ _ _ => False⟩ ds d hr hR, H0, ⟨Fra.refl e, by rw [gam_S]; exact env_startS (args_of hv) (by rw [List.length_map, hlen ds d hR]; exact hle), StoOk.nil, fun p z => nomatch z⟩, ?_, ?_, ?_, ?_, ?_⟩
    · intro Γ S H0' σ H' hd at1
      subst hd
      exact k .non H0' H' at1.fra.toExt .non
    · intro r Γ S v H0' σ H' hr at1 hv
      subst hr
      exact k v H0' H' at1.fra.toExt hv.toDp
    · intro _ _ _ _ _ h _
      exact h.elim
    · intro _ _ _ _ _ h _
      exact h.elim
    · intro _ _ _ _ _ _ h _
      exact h.elim
/-- .. with owned things, nothing raised -/
theorem mut_def0 {x qual : Str} {st : Stmt} {f : Addr} {fd : FuncData} {N ps : List Str} {n : Nat} {R : Rq} (F : Fun K x qual st f fd) (Sc : FnScope N ps (defScope st)) (hlen : ∀ as S PR PX, R as S PR PX → as.length = ps.length)
    (hbody : ∀ (cdv : Value) (A : Around) (outer : List Env) (s : Shared) (H : Hp) (E : XK) (B : Bs) (as : List Sl) (S : Sto) (PR : Sl → Sto → Prop) (PX : Value → Sto → Prop), Room n (A.deeper (envOfC qual (defScope st) s.heap.objs.size f cdv)) → R as S PR PX →
      GSs (cxOf CX0 P w K mg base N qual (defScope st) f cdv A outer s H E).nox B (gamS N.length as) S (defBody st) { N := fun _ S' => PR (.dat .none) S', R := PR }) : FnOk P w K mg base CX0 (n + 1) f fd ps (SpM K R) := by
  refine F.ok Sc (fun vs H Q E h => ?_) (fun cdv A outer s H vs Q E hr h => ?_)
  · obtain ⟨H0, as, S, PR, PX, _, hR, hv, _⟩ := h
    rw [Paired.length hv]
    exact hlen as S PR PX hR
  · obtain ⟨H0, as, S, PR, PX, e, hR, hv, hS, k, kx⟩ := h
    have hle : ps.length ≤ N.length := by have := congrArg List.length Sc.pre; rw [List.length_take] at this; omega
    refine ⟨_, hbody cdv A outer s H E ⟨H0, H, keys S, fun _ _ _ _ => False⟩ as S PR PX hr hR, H0, ⟨Fra.refl e, env_startS hv (by rw [hlen as S PR PX hR]; exact hle), hS, fun p z => .inl z⟩, ?_, ?_, ?_, ?_, ?_⟩
    · intro Γ S' H0' σ H' hd at1
      exact k _ S' .non H0' H' hd at1.fra at1.sto at1.wr ⟨_, rfl, .non⟩
    · intro r Γ S' v H0' σ H' hr at1 hv
      exact k r S' v H0' H' hr at1.fra at1.sto at1.wr hv
    · intro _ _ _ _ _ h _
      exact h.elim
    · intro _ _ _ _ _ h _
      exact h.elim
    · intro _ _ _ _ _ _ h _
      exact h.elim
end
theorem law_sp {K : PySem.W.Frag} {R : List PyData → PyData → Prop} {H : Hp} {a : Addr} {ns : List Int} {E : XK} (hR : R [.list (ns.map PyData.int)] (.bool true)) (hS : SqL K H a (ns.map V.int)) : SpD K R [.ref a] H (fun v _ => v = .bl true) E :=
  ⟨H, _, _, Ex.refl H, hR, .cons (.lst hS (dps_ints ns)) .nil, fun v H0' H' _ hv => by cases hv; rfl⟩
/-! ### what is owned, changed -/
theorem free_of {K : PySem.W.Frag} {H0 H : Hp} {S : Sto} {p : Addr} (h : StoOk K H0 H S) (hp : H p = none) : p ∉ keys S := fun z => by
  obtain ⟨ov, m⟩ := of_keys z
  exact OvOk.ne (h.at_ p ov m).2 hp
theorem nd_at {S : Sto} (nd : (keys S).Nodup) {n : Nat} {p : Addr} {ov : OV} (hn : S[n]? = some (p, ov)) {q : Addr} {ow : OV} {m : Nat} (hm : S[m]? = some (q, ow)) (h : m ≠ n) : q ≠ p := fun e => by
  subst e
  have h1 : (keys S)[n]? = some q := by rw [List.getElem?_map, hn]; rfl
  have h2 : (keys S)[m]? = some q := by rw [List.getElem?_map, hm]; rfl
  exact h (nd_ix nd h2 h1)
theorem keys_set {S : Sto} {n : Nat} {p : Addr} {ov ow : OV} (hn : S[n]? = some (p, ov)) : keys (S.set n (p, ow)) = keys S := by
  refine List.ext_getElem? fun m => ?_
  rw [List.getElem?_map, List.getElem?_map]
  by_cases h : n = m
  · subst h
    obtain ⟨hl, _⟩ := List.getElem?_eq_some_iff.mp hn
    rw [List.getElem?_set_self hl, hn]
    rfl
  · rw [List.getElem?_set_ne h]
theorem At.write {K : PySem.W.Frag} {B : Bs} {H0 H : Hp} {Γ : Gam} {S : Sto} {σ : St} {n : Nat} {p : Addr} {ov ow : OV} {o : HO} (a : At K B H0 Γ S σ H) (hn : S[n]? = some (p, ov)) (hw : OvOk K H0 (upd H p o) p ow) : At K B H0 Γ (S.set n (p, ow)) σ (upd H p o) := by
  have hm : (p, ov) ∈ S := List.mem_of_getElem? hn
  obtain ⟨h0, h1⟩ := a.sto.at_ p ov hm
  have hne := OvOk.ne h1
  have hp : ∀ b, H b = none → b ≠ p := fun b e z => hne (by rw [← z]; exact e)
  refine ⟨⟨a.fra.e0, fun b o' e nb => ?_, fun b o' e => ?_, a.fra.fr, fun b e => ?_⟩, a.env, ⟨fun q ow' hq => ?_, ?_⟩, fun q hq => ?_⟩
  · have : b ≠ p := fun z => (a.wr p (mem_keys hm)).elim (fun k => nb (by rw [z]; exact k)) fun k => by rw [z, k] at e; cases e
    rw [upd_ne this]; exact a.fra.e1 b o' e nb
  · rw [upd_ne (ne_of_none e h0)]; exact a.fra.e2 b o' e
  · by_cases z : b = p
    · subst z; rw [upd_same]; exact fun q => nomatch q
    · rw [upd_ne z]; exact a.fra.th b e
  · obtain ⟨m, hm'⟩ := List.getElem?_of_mem hq
    by_cases z : n = m
    · subst z
      obtain ⟨hl, _⟩ := List.getElem?_eq_some_iff.mp hn
      rw [List.getElem?_set_self hl] at hm'
      cases hm'
      exact ⟨h0, hw⟩
    · rw [List.getElem?_set_ne z] at hm'
      obtain ⟨k0, k1⟩ := a.sto.at_ q ow' (List.mem_of_getElem? hm')
      have : q ≠ p := nd_at a.sto.nd hn hm' (fun e => z e.symm)
      exact ⟨k0, OvOk.ext (Ex.refl _) (fun o' e => by rw [upd_ne this]; exact e) k1⟩
  · rw [keys_set hn]; exact a.sto.nd
  · rw [keys_set hn] at hq; exact a.wr q hq
/-- a new owned thing -/
theorem At.own {K : PySem.W.Frag} {B : Bs} {H0 H : Hp} {Γ : Gam} {S : Sto} {σ : St} {p : Addr} {ow : OV} {o : HO} (a : At K B H0 Γ S σ H) (hp : H p = none) (hw : OvOk K H0 (upd H p o) p ow) : At K B H0 Γ ((p, ow) :: S) σ (upd H p o) := by
  have b := a.ext (Ext.newH (o := o) a.e2 hp)
  refine ⟨b.fra, b.env, ⟨fun q ow' hq => ?_, ?_⟩, fun q hq => ?_⟩
  · rcases List.mem_cons.mp hq with e | hq
    · cases e; exact ⟨free0 a.e2 hp, hw⟩
    · exact b.sto.at_ q ow' hq
  · exact List.nodup_cons.mpr ⟨free_of a.sto hp, b.sto.nd⟩
  · rcases List.mem_cons.mp hq with e | hq
    · cases e
      refine .inr ?_
      cases z : B.H p with
      | none => rfl
      | some o' => exact absurd hp (a.fra.th p (by rw [z]; exact fun q => nomatch q))
    · exact a.wr q hq
/-- an owned list is data from now on -/
theorem At.freeze {K : PySem.W.Frag} {B : Bs} {H0 H : Hp} {Γ : Gam} {S : Sto} {σ : St} {n : Nat} {p : Addr} {ds : List PyData} (a : At K B H0 Γ S σ H) (hn : S[n]? = some (p, .lst ds)) (hk : B.H p = none) : ∃ H0', Ex H0 H0' ∧ At K B H0' Γ (S.eraseIdx n) σ H ∧ Dp K H0' (.ref p) (.list ds) := by
  have hm : (p, OV.lst ds) ∈ S := List.mem_of_getElem? hn
  obtain ⟨h0, vs, h1, h2⟩ := a.sto.at_ p _ hm
  have e0 : Ex H0 (upd H0 p (.lst vs)) := Ex.new h0
  refine ⟨upd H0 p (.lst vs), e0, ⟨⟨a.fra.e0.trans e0, a.fra.e1, fun b o e => ?_, fun b e1 e2 => ?_, a.fra.th⟩, a.env.ext e0, ⟨fun q ow hq => ?_, ?_⟩, fun q hq => ?_⟩, .lst (.inl (.inl upd_same)) (dps_ex e0 _ _ h2)⟩
  · by_cases z : b = p
    · subst z; rw [upd_same] at e; cases e; exact h1
    · rw [upd_ne z] at e; exact a.fra.e2 b o e
  · have : b ≠ p := fun z => e2 (by rw [z]; exact hk)
    rw [upd_ne this]; exact a.fra.fr b e1 e2
  · obtain ⟨m, hm'⟩ := List.getElem?_of_mem hq
    obtain ⟨m', hne, hm''⟩ : ∃ m', m' ≠ n ∧ S[m']? = some (q, ow) := by
      rw [List.getElem?_eraseIdx] at hm'
      split at hm'
      · exact ⟨m, by omega, hm'⟩
      · exact ⟨m + 1, by omega, hm'⟩
    obtain ⟨k0, k1⟩ := a.sto.at_ q ow (List.mem_of_getElem? hm'')
    have : q ≠ p := nd_at a.sto.nd hn hm'' hne
    exact ⟨by rw [upd_ne this]; exact k0, OvOk.ext e0 (fun o' e => e) k1⟩
  · have sub : (keys (S.eraseIdx n)).Sublist (keys S) := (List.eraseIdx_sublist S n).map _
    exact a.sto.nd.sublist sub
  · have sub : (keys (S.eraseIdx n)).Sublist (keys S) := (List.eraseIdx_sublist S n).map _
    exact a.wr q (sub.subset hq)

/-! ### attributes -/
def idxF (f : Str) : List Str → Option Nat
  | [] => none
  | g :: r => if g = f then some 0 else (idxF f r).map (· + 1)
theorem idxF_cons {f g : Str} {s : Sl} {t : List (Str × Sl)} : idxF f (((g, s) :: t).map (·.1)) = if g = f then some 0 else (idxF f (t.map (·.1))).map (· + 1) := rfl
theorem idxF_look {f : Str} : ∀ {fs : List (Str × Sl)} {j : Nat} {x : Str} {r : Sl}, idxF f (fs.map (·.1)) = some j → fs[j]? = some (x, r) → fs.lookup f = some r
  | [], _, _, _, h, _ => by cases h
  | (g, s) :: t, j, x, r, h, e => by
    rw [idxF_cons] at h
    rw [List.lookup_cons]
    by_cases z : g = f
    · rw [if_pos z] at h; cases h
      cases e
      rw [beq_iff_eq.mpr z.symm]
    · rw [if_neg z] at h
      rw [beq_eq_false_iff_ne.mpr (fun q => z q.symm)]
      cases q : idxF f (t.map (·.1)) with
      | none => rw [q] at h; cases h
      | some k =>
        rw [q] at h; cases h
        exact idxF_look q (by simpa using e)
theorem idxF_no {f : Str} : ∀ {fs : List (Str × Sl)}, idxF f (fs.map (·.1)) = none → fs.lookup f = none
  | [], _ => rfl
  | (g, s) :: t, h => by
    rw [idxF_cons] at h
    rw [List.lookup_cons]
    by_cases z : g = f
    · rw [if_pos z] at h; cases h
    · rw [if_neg z] at h
      rw [beq_eq_false_iff_ne.mpr (fun q => z q.symm)]
      cases q : idxF f (t.map (·.1)) with
      | none => exact idxF_no q
      | some k => rw [q] at h; cases h
theorem putS_at {f : Str} {r : Sl} : ∀ {fs : List (Str × Sl)} {j : Nat}, idxF f (fs.map (·.1)) = some j → putS f r fs = fs.set j (f, r)
  | [], _, h => by cases h
  | (g, s) :: t, j, h => by
    rw [idxF_cons] at h
    unfold putS
    by_cases z : g = f
    · rw [if_pos z] at h; cases h
      rw [if_pos z, z]; rfl
    · rw [if_neg z] at h
      rw [if_neg z]
      cases q : idxF f (t.map (·.1)) with
      | none => rw [q] at h; cases h
      | some k =>
        rw [q] at h; cases h
        rw [putS_at q]; rfl
def setF (j : Option Nat) (f : Str) (r : Sl) (fs : List (Str × Sl)) : List (Str × Sl) := match j with
  | some j => fs.set j (f, r)
  | none => fs ++ [(f, r)]
theorem putS_no {f : Str} {r : Sl} : ∀ {fs : List (Str × Sl)}, idxF f (fs.map (·.1)) = none → putS f r fs = fs ++ [(f, r)]
  | [], _ => rfl
  | (g, s) :: t, h => by
    rw [idxF_cons] at h
    unfold putS
    by_cases z : g = f
    · rw [if_pos z] at h; cases h
    · rw [if_neg z] at h
      rw [if_neg z]
      cases q : idxF f (t.map (·.1)) with
      | none => rw [putS_no q]; rfl
      | some k => rw [q] at h; cases h
section
variable {X : Cx} {B : Bs} {Γ : Gam} {S : Sto} {st : Stmt} {rest : List Stmt} {a b c e o : Expr} {es : List Expr} {d : PyData} {ds : List PyData} {pos : Pos} {k : Bool} {P : Po} {n : Nat} {p : Addr} {i : Int} {f : Str} {C : Addr} {fs : List (Str × Sl)} {names : List Str} {r : Sl}
/-- o.f -/
theorem ge_fld {j : Nat} {x : Str} (ho : GR X B Γ S o (.ref p)) (hn : S[n]? = some (p, .obj C fs)) (hc : Cls X.K C) (hf : NoAttr X.K C f) (hnm : fs.map (·.1) = names) (hj : idxF f names = some j) (hr : fs[j]? = some (x, r)) (hu : r ≠ .un)
    (hb : attributeBase o f X.env (eval o X.env) = eval o X.env := by rfl) : PE X (.Attribute o f pos) (rd X.K B Γ S r) := (pe_fld ho hb).imp fun σ H Q ⟨H0, at0, k⟩ => ⟨H0, at0, fun v H1 H' at1 e1 hv => by
  have hv : (some (some v) : Option (Option V)) = some (some (.ref p)) := hv
  cases hv
  obtain ⟨h0, dx, vs, h1, h2⟩ := at1.sto.at_ p _ (List.mem_of_getElem? hn)
  subst hnm
  obtain ⟨v, h3, h4⟩ := h2.get (idxF_look hj hr)
  exact ⟨p, C, dx, vs, v, rfl, h1, hc, hf, h3, k v H1 H' at1 e1 h4⟩⟩
/-- o.f = e, an attribute that is there -/
theorem gs_fld {j : Nat} {pos' : Pos} (ho : GR X B Γ S o (.ref p)) (he : PE X e (rd X.K B Γ S r)) (hn : S[n]? = some (p, .obj C fs)) (hc : Cls X.K C) (hf : NoAttr X.K C f) (hnm : fs.map (·.1) = names) (hj : idxF f names = some j) (hl : fs.length < 1000)
    (q : P.N Γ (S.set n (p, .obj C (fs.set j (f, r))))) (hs : swapsWith e (some (.Attribute o f pos')) pos.line X.env = pure false := by rfl) : GS X B Γ S (.Assign [.Attribute o f pos'] e pos) P := (ps_fld ho he hs).imp fun D σ H ⟨H0, at0, z⟩ => ⟨H0, at0, fun y H1 H' at1 e1 hy => ⟨H1, at1, fun v H2 H'' at2 e2 hv => by
  have hv : (some (some v) : Option (Option V)) = some (some (.ref p)) := hv
  cases hv
  obtain ⟨h0, dx, vs, h1, h2⟩ := at2.sto.at_ p _ (List.mem_of_getElem? hn)
  subst hnm
  refine ⟨p, C, dx, vs, rfl, h1, hc, hf, by rw [h2.len]; exact hl, ?_⟩
  exact z.nx _ _ H2 σ _ q (at2.write hn ⟨dx, _, upd_same, by rw [← putS_at hj]; exact FsOk.put (hy.ext e2) h2⟩)⟩⟩
/-- o.f = e, a new attribute -/
theorem gs_fldNew {pos' : Pos} (ho : GR X B Γ S o (.ref p)) (he : PE X e (rd X.K B Γ S r)) (hn : S[n]? = some (p, .obj C fs)) (hc : Cls X.K C) (hf : NoAttr X.K C f) (hnm : fs.map (·.1) = names) (hj : idxF f names = none) (hl : fs.length < 1000)
    (q : P.N Γ (S.set n (p, .obj C (fs ++ [(f, r)])))) (hs : swapsWith e (some (.Attribute o f pos')) pos.line X.env = pure false := by rfl) : GS X B Γ S (.Assign [.Attribute o f pos'] e pos) P := (ps_fld ho he hs).imp fun D σ H ⟨H0, at0, z⟩ => ⟨H0, at0, fun y H1 H' at1 e1 hy => ⟨H1, at1, fun v H2 H'' at2 e2 hv => by
  have hv : (some (some v) : Option (Option V)) = some (some (.ref p)) := hv
  cases hv
  obtain ⟨h0, dx, vs, h1, h2⟩ := at2.sto.at_ p _ (List.mem_of_getElem? hn)
  subst hnm
  refine ⟨p, C, dx, vs, rfl, h1, hc, hf, by rw [h2.len]; exact hl, ?_⟩
  exact z.nx _ _ H2 σ _ q (at2.write hn ⟨dx, _, upd_same, by rw [← putS_no hj]; exact FsOk.put (hy.ext e2) h2⟩)⟩⟩
/-- o.f = e, e with effects (a new list): the object stands at n behind it -/
theorem gs_fldE {j : Option Nat} {pos' : Pos} {Pe : Sl → Sto → Prop} (he : GE X B Γ S e Pe P.ex) (hc : Cls X.K C) (hf : NoAttr X.K C f)
    (q : ∀ r S', Pe r S' → ∃ n fs names, GR X B Γ S' o (.ref p) ∧ S'[n]? = some (p, .obj C fs) ∧ fs.map (·.1) = names ∧ idxF f names = j ∧ fs.length < 1000 ∧ P.N Γ (S'.set n (p, .obj C (setF j f r fs))))
    (hs : swapsWith e (some (.Attribute o f pos')) pos.line X.env = pure false := by rfl) : GS X B Γ S (.Assign [.Attribute o f pos'] e pos) P := by
  have ho : PE X o (fun σ H Q => ∃ r S', Pe r S' ∧ rd X.K B Γ S' (.raw (.ref p)) σ H Q) := ⟨fun pins s σ H Q I ⟨r, S', m, z⟩ => by
    obtain ⟨n, fs, names, h1, _⟩ := q r S' m
    exact h1.run pins s σ H Q I z⟩
  refine (ps_fld ho he hs).imp fun D σ H ⟨H0, at0, z⟩ => ⟨H0, at0, fun r S' y H1 H' m at1 e1 hy => ⟨r, S', m, H1, at1, fun v H2 H'' at2 e2 hv => ?_⟩, fun cls S' H0' H' q at1 => z.ex cls Γ S' H0' σ H' q at1⟩
  have hv : (some (some v) : Option (Option V)) = some (some (.ref p)) := hv
  cases hv
  obtain ⟨n, fs, names, _, hn, hnm, hj, hl, qq⟩ := q r S' m
  obtain ⟨h0, dx, vs, h1, h2⟩ := at2.sto.at_ p _ (List.mem_of_getElem? hn)
  subst hnm
  refine ⟨p, C, dx, vs, rfl, h1, hc, hf, by rw [h2.len]; exact hl, ?_⟩
  refine z.nx _ _ H2 σ _ qq (at2.write hn ⟨dx, _, upd_same, ?_⟩)
  cases j with
  | some j => show FsOk _ _ _ (fs.set j (f, r)); rw [← putS_at hj]; exact FsOk.put (hy.ext e2) h2
  | none => show FsOk _ _ _ (fs ++ [(f, r)]); rw [← putS_no hj]; exact FsOk.put (hy.ext e2) h2
/-! ### owned lists -/
theorem gd_ixO (ho : GR X B Γ S o (.ref p)) (hi : GD X B Γ S b (.int i)) (hn : S[n]? = some (p, .lst ds)) (q : atI ds i = some d) (hs : PlainIx b := by exact fun _ _ => rfl) : GD X B Γ S (.Subscript o b pos) d := (pe_ix ix_list ho hi hs).imp fun σ H Q ⟨H0, at0, k⟩ => ⟨H0, at0, fun v H1 H' at1 e1 hv => ⟨H1, at1, fun w H2 H'' at2 e2 hw => by
  have hv : (some (some v) : Option (Option V)) = some (some (.ref p)) := hv
  cases hv
  have hw := hw.toDp
  cases hw
  obtain ⟨h0, vs, h1, h2⟩ := at2.sto.at_ p _ (List.mem_of_getElem? hn)
  have hl := dps_len h2
  obtain ⟨m, q1, q2⟩ : ∃ m, ixN ds.length i = some m ∧ ds[m]? = some d := by
    unfold atI at q
    cases z : ixN ds.length i with
    | none => rw [z] at q; cases q
    | some m => rw [z] at q; exact ⟨m, rfl, q⟩
  obtain ⟨u, u1, u2⟩ := dps_get h2 q2
  exact ⟨p, vs, i, u, rfl, rfl, .inl (.inl h1), by unfold atI; rw [hl, q1]; exact u1, k u H2 H'' at2 (e1.trans e2) ⟨u, rfl, u2⟩⟩⟩⟩
theorem gd_lenO {nm : Str} {p2 : Pos} (hg : Gl X nm) (hm : X.mg nm = none) (hv : bootBuiltins nm = some (.builtin "len")) (ho : GR X B Γ S o (.ref p)) (hn : S[n]? = some (p, .lst ds)) (hnn : nm ≠ "__name__" := by decide) (hdb : (nm == ("__debug__" : Str)) = false := by decide)
    (he : starEach [o] X.env = (false, eval o X.env) :: starEach [] X.env := by rfl) (hpl : (backTo pos (starEach [] X.env)).any (·.1) = false := by rfl) : GD X B Γ S (.Call (.Name nm p2) [o] [] pos) (.int (ds.length : Int)) :=
  (pe_callB call_len_seq hg hm hv (pa_cons ho pa_nil he) hnn hdb he hpl).imp fun σ H Q ⟨H0, at0, k⟩ => ⟨H0, at0, fun v H1 H' at1 e1 hv => by
    have hv : (some (some v) : Option (Option V)) = some (some (.ref p)) := hv
    cases hv
    obtain ⟨h0, vs, h1, h2⟩ := at1.sto.at_ p _ (List.mem_of_getElem? hn)
    exact ⟨p, vs, rfl, .inl (.inl (.inl h1)), k _ H1 H' at1 e1 ⟨_, rfl, by rw [dps_len h2]; exact .int _⟩⟩⟩
/-- o[i] = e -/
theorem gs_setO {m : Nat} {tpos : Pos} (ho : GR X B Γ S o (.ref p)) (hi : GD X B Γ S b (.int i)) (he : GD X B Γ S e d) (hn : S[n]? = some (p, .lst ds)) (hx : ixN ds.length i = some m) (q : P.N Γ (S.set n (p, .lst (ds.set m d))))
    (ha : ∀ v, assign (.Subscript o b tpos) X.env v = (do
      let ov ← holding [v] (eval o X.env)
      let iv ← holding [v, ov] (eval b X.env)
      standAt tpos
      holding [v, ov, iv] (setItem ov iv v)
      release [v, ov, iv] []) := by intro _; rfl)
    (hs : swapsWithSole [.Subscript o b tpos] e pos.line X.env = pure false := by rfl) (hw : swappedStores [.Subscript o b tpos] e X.env = pure none := by rfl)
    (h1 : (assignEach [.Subscript o b tpos] X.env).map (·.2) = [assign (.Subscript o b tpos) X.env] := by rfl) : GS X B Γ S (.Assign [.Subscript o b tpos] e pos) P :=
  (ps_asg he (pg_sub ho hi set_list ha) hs hw h1).imp fun D σ H ⟨H0, at0, z⟩ => ⟨H0, at0, fun y H1 H' at1 e1 hy => ⟨H1, at1, fun v H2 H'' at2 e2 hv => ⟨H2, at2, fun w H3 H3' at3 e3 hw => by
    have hv : (some (some v) : Option (Option V)) = some (some (.ref p)) := hv
    cases hv
    have hw := hw.toDp
    cases hw
    obtain ⟨h0, vs, h1, h2⟩ := at3.sto.at_ p _ (List.mem_of_getElem? hn)
    refine ⟨p, vs, i, m, rfl, rfl, h1, by rw [dps_len h2]; exact hx, ?_⟩
    exact z.nx _ _ H3 σ _ q (at3.write hn ⟨_, upd_same, dps_set (dp_ex (e2.trans e3) _ _ hy.toDp) m h2⟩)⟩⟩⟩
/-- o.append(e) -/
theorem gs_appO {apos epos : Pos} (ho : GR X B Γ S o (.ref p)) (he : GD X B Γ S e d) (hn : S[n]? = some (p, .lst ds)) (hz : ds.length < 100000) (q : P.N Γ (S.set n (p, .lst (ds ++ [d]))))
    (hbase : attributeBase o "append" X.env (eval o X.env) = eval o X.env := by rfl)
    (hfew : ((backTo pos (starEach [e] X.env)).all (fun x => !x.1) && (backToKw pos (keywordEach [] X.env)).all (fun x => x.1.isSome)
      && decide (([e] : List Expr).length + ([] : List Keyword).length + (if ([] : List Keyword).isEmpty then 0 else 1) < 30)) = true := by rfl)
    (hline : (apos.endLine == pos.line) = true := by rfl) (hs : starEach [e] X.env = (false, eval e X.env) :: starEach [] X.env := by rfl) (hplain : (backTo pos (starEach [] X.env)).any (·.1) = false := by rfl)
    (hsw : swapsWith (.Call (.Attribute o "append" apos) [e] [] pos) none epos.line X.env = pure false := by rfl) : GS X B Γ S (.Expr (.Call (.Attribute o "append" apos) [e] [] pos) epos) P :=
  (ps_expr (pe_bm PySem.F.plainAttrs_list PySem.F.slot_list_append PySem.F.type_list_append mt_append ho (pa_cons he pa_nil hs) hbase hfew hline hs hplain) hsw).imp fun D σ H ⟨H0, at0, z⟩ => ⟨H0, at0, fun v H1 H' at1 e1 hv => by
    have hv : (some (some v) : Option (Option V)) = some (some (.ref p)) := hv
    cases hv
    obtain ⟨h0, vs, h1, h2⟩ := at1.sto.at_ p _ (List.mem_of_getElem? hn)
    refine ⟨.inl ⟨rfl, _, .inl (.inl h1)⟩, H1, at1, fun y H2 H'' at2 e2 hy => ?_⟩
    obtain ⟨h0', vs', h1', h2'⟩ := at2.sto.at_ p _ (List.mem_of_getElem? hn)
    exact ⟨p, vs', y, rfl, rfl, h1', by rw [dps_len h2']; exact Evl.sz_lt hz, z.nx _ _ H2 σ _ q (at2.write hn ⟨_, upd_same, dps_app h2' (.cons hy.toDp .nil)⟩)⟩⟩
/-- a new owned list -/
theorem ge_lst (h : GA X B Γ S es ds) (hl : ds.length ≤ 100000) {ex : Value → Gam → Sto → Prop} : GE X B Γ S (.List es pos) (fun r S' => ∃ p, B.H p = none ∧ r = .raw (.ref p) ∧ S' = (p, .lst ds) :: S) ex := (pe_lst h).imp fun σ H Q ⟨H0, at0, k, _⟩ => ⟨H0, at0, fun vs H1 H' at1 e1 hvs =>
  ⟨by rw [dps_len hvs]; exact Evl.sz_of hl, fun p hp => k _ _ (.ref p) H1 _ ⟨p, by
      have := (at1.own (ow := .lst ds) (o := .lst vs) hp ⟨vs, upd_same, hvs⟩)
      cases z : B.H p with
      | none => rfl
      | some o' => exact absurd hp (at1.fra.th p (by rw [z]; exact fun q => nomatch q)), rfl, rfl⟩ (at1.own hp ⟨vs, upd_same, hvs⟩) e1 rfl⟩⟩
/-- list(e), owned -/
theorem ge_list {nm : Str} {p2 : Pos} {es : List PyData} (hg : Gl X nm) (hm : X.mg nm = none) (hv : bootBuiltins nm = some (.type "list")) (he : GD X B Γ S e (.list es)) {ex : Value → Gam → Sto → Prop} (hnn : nm ≠ "__name__" := by decide) (hdb : (nm == ("__debug__" : Str)) = false := by decide)
    (hst : starEach [e] X.env = (false, eval e X.env) :: starEach [] X.env := by rfl) (hpl : (backTo pos (starEach [] X.env)).any (·.1) = false := by rfl) : GE X B Γ S (.Call (.Name nm p2) [e] [] pos) (fun r S' => ∃ p, B.H p = none ∧ r = .raw (.ref p) ∧ S' = (p, .lst es) :: S) ex :=
  (pe_callTy call_list_of hg hm hv (pa_cons he pa_nil hst) hnn hdb hst hpl).imp fun σ H Q ⟨H0, at0, k, _⟩ => ⟨H0, at0, fun v H1 H' at1 e1 hv => by
    have hv := hv.toDp
    cases hv with
    | @lst q vs _ hs ha =>
      refine ⟨q, vs, rfl, .inl (ex_l at1.e2 hs), fun l hl => k _ _ (.ref l) H1 _ ⟨l, ?_, rfl, rfl⟩ (at1.own hl ⟨vs, upd_same, ha⟩) e1 rfl⟩
      cases z : B.H l with
      | none => rfl
      | some o' => exact absurd hl (at1.fra.th l (by rw [z]; exact fun q => nomatch q))⟩
/-- list(e) of an owned list, owned -/
theorem ge_listO {nm : Str} {p2 : Pos} {es : List PyData} (hg : Gl X nm) (hm : X.mg nm = none) (hv : bootBuiltins nm = some (.type "list")) (he : GR X B Γ S e (.ref p)) (hn : S[n]? = some (p, .lst es)) {ex : Value → Gam → Sto → Prop} (hnn : nm ≠ "__name__" := by decide) (hdb : (nm == ("__debug__" : Str)) = false := by decide)
    (hst : starEach [e] X.env = (false, eval e X.env) :: starEach [] X.env := by rfl) (hpl : (backTo pos (starEach [] X.env)).any (·.1) = false := by rfl) : GE X B Γ S (.Call (.Name nm p2) [e] [] pos) (fun r S' => ∃ p, B.H p = none ∧ r = .raw (.ref p) ∧ S' = (p, .lst es) :: S) ex :=
  (pe_callTy call_list_of hg hm hv (pa_cons he pa_nil hst) hnn hdb hst hpl).imp fun σ H Q ⟨H0, at0, k, _⟩ => ⟨H0, at0, fun v H1 H' at1 e1 hv => by
    have hv : (some (some v) : Option (Option V)) = some (some (.ref p)) := hv
    cases hv
    obtain ⟨h0, vs, h1, h2⟩ := at1.sto.at_ p _ (List.mem_of_getElem? hn)
    refine ⟨p, vs, rfl, .inl (.inl (.inl h1)), fun l hl => k _ _ (.ref l) H1 _ ⟨l, ?_, rfl, rfl⟩ (at1.own hl ⟨vs, upd_same, h2⟩) e1 rfl⟩
    cases z : B.H l with
    | none => rfl
    | some o' => exact absurd hl (at1.fra.th l (by rw [z]; exact fun q => nomatch q))⟩
/-- an owned list handed on as data -/
theorem ge_freeze {ex : Value → Gam → Sto → Prop} (h : GR X B Γ S e (.ref p)) (hn : S[n]? = some (p, .lst ds)) (hk : B.H p = none) : GE X B Γ S e (fun r S' => r = .dat (.list ds) ∧ S' = S.eraseIdx n) ex := h.imp fun σ H Q ⟨H0, at0, k, _⟩ => ⟨H0, at0, fun v H1 H' at1 e1 hv => by
  have hv : (some (some v) : Option (Option V)) = some (some (.ref p)) := hv
  cases hv
  obtain ⟨H2, e2, at2, hd⟩ := at1.freeze hn hk
  exact k _ _ _ H2 H' ⟨rfl, rfl⟩ at2 (e1.trans e2) ⟨_, rfl, hd⟩⟩
end
/-! ### calls that may change what is owned -/
def raS (K : PySem.W.Frag) (B : Bs) (Γ : Gam) (S : Sto) (as : List Sl) : TA := fun σ H Q => ∃ H0, At K B H0 Γ S σ H ∧ ∀ vs H0' H', At K B H0' Γ S σ H' → Ex H0 H0' → ArgsOk K H0' vs as → Q vs H'
abbrev GAS (X : Cx) (B : Bs) (Γ : Gam) (S : Sto) (es : List Expr) (as : List Sl) : Prop := PA X es (raS X.K B Γ S as)
theorem ArgsOk.ext {K : PySem.W.Frag} {H0 H0' : Hp} (e : Ex H0 H0') {vs : List V} {as : List Sl} (h : ArgsOk K H0 vs as) : ArgsOk K H0' vs as := Paired.mapP h fun _ _ z => SlOk.ext e z
theorem none_B {B : Bs} {H0 H : Hp} (f : Fra B H0 H) {p : Addr} (hp : H p = none) : B.H p = none := by
  cases z : B.H p with
  | none => rfl
  | some o' => exact absurd hp (f.th p (by rw [z]; exact fun q => nomatch q))
theorem At.call {K : PySem.W.Frag} {B : Bs} {H0 H H0' H' : Hp} {Γ : Gam} {S1 S1' F : Sto} {σ : St} {E : WX} (a : At K B H0 Γ (S1 ++ F) σ H) (g : Fra ⟨H0, H, keys S1, E⟩ H0' H') (hS : StoOk K H0' H' S1') (nk : NewK H S1 S1') : At K B H0' Γ (S1' ++ F) σ H' := by
  have hk : keys (S1 ++ F) = keys S1 ++ keys F := List.map_append
  have nd := a.sto.nd
  rw [hk] at nd
  obtain ⟨nd1, nd2, nd3⟩ := List.nodup_append.mp nd
  have w1 : ∀ p ∈ keys S1, p ∈ B.ks ∨ B.H p = none := fun p hp => a.wr p (by rw [hk]; exact List.mem_append_left _ hp)
  have inF : ∀ q ow, (q, ow) ∈ F → H0 q = none ∧ OvOk K H0 H q ow ∧ q ∉ keys S1 := fun q ow hq => by
    obtain ⟨k0, k1⟩ := a.sto.at_ q ow (List.mem_append_right _ hq)
    exact ⟨k0, k1, fun z => nd3 q z q (mem_keys hq) rfl⟩
  refine ⟨a.fra.trans g w1, a.env.ext g.e0, ⟨fun q ow hq => ?_, ?_⟩, fun q hq => ?_⟩
  · rcases List.mem_append.mp hq with hq | hq
    · exact hS.at_ q ow hq
    · obtain ⟨k0, k1, k2⟩ := inF q ow hq
      exact ⟨g.fr q k0 (OvOk.ne k1), OvOk.ext g.e0 (fun o e => g.e1 q o e k2) k1⟩
  · rw [show keys (S1' ++ F) = keys S1' ++ keys F from List.map_append]
    refine List.nodup_append.mpr ⟨hS.nd, nd2, fun p hp q hq => ?_⟩
    obtain ⟨ow, hq⟩ := of_keys hq
    obtain ⟨_, k1, k2⟩ := inF q ow hq
    intro e
    subst e
    exact (nk p hp).elim k2 fun z => OvOk.ne k1 z
  · rw [show keys (S1' ++ F) = keys S1' ++ keys F from List.map_append] at hq
    rcases List.mem_append.mp hq with hq | hq
    · exact (nk q hq).elim (w1 q) fun z => .inr (none_B a.fra z)
    · exact a.wr q (by rw [hk]; exact List.mem_append_right _ hq)
theorem StoOk.left {K : PySem.W.Frag} {H0 H : Hp} {S1 F : Sto} (h : StoOk K H0 H (S1 ++ F)) : StoOk K H0 H S1 := ⟨fun p ov m => h.at_ p ov (List.mem_append_left _ m), by
  have nd := h.nd
  rw [show keys (S1 ++ F) = keys S1 ++ keys F from List.map_append] at nd
  exact (List.nodup_append.mp nd).1⟩
theorem spm_of {K : PySem.W.Frag} {B : Bs} {H0 H : Hp} {Γ : Gam} {S1 F : Sto} {σ : St} {R : Rq} {as : List Sl} {PR : Sl → Sto → Prop} {PX : Value → Sto → Prop} {vs : List V} {Q : VK} {E : XK} (a : At K B H0 Γ (S1 ++ F) σ H) (hR : R as S1 PR PX) (ha : ArgsOk K H0 vs as)
    (k : ∀ r S1' v H0' H', PR r S1' → At K B H0' Γ (S1' ++ F) σ H' → Ex H0 H0' → SlOk K H0' (some (some v)) r → Q v H') (kx : ∀ cls S1' H0' H', PX cls S1' → At K B H0' Γ (S1' ++ F) σ H' → Ex H0 H0' → E cls none H') : SpM K R vs H Q E :=
  ⟨H0, as, S1, PR, PX, a.e2, hR, ha, a.sto.left, fun r S' v H0' H' p g hS nk hv => k r S' v H0' H' p (a.call g hS nk) g.e0 hv, fun cls S' H0' H' p g hS nk => kx cls S' H0' H' p (a.call g hS nk) g.e0⟩
/-- how a call of a method is evaluated -/
abbrev MethForm (X : Cx) (o : Expr) (m : Str) (es : List Expr) (pos apos : Pos) (pl : Sem Bool) : Prop := eval (.Call (.Attribute o m apos) es [] pos) X.env = (do let recv ← eval o X.env; standAt apos.atName; let (fn, fst) ← holding [recv] (getMethod recv m pl); callWith pos fn fst (backTo pos (starEach es X.env)) (backToKw pos (keywordEach [] X.env)))
/-- a method call whose exception is wished for at the slots -/
def tMethW (C : Addr) (m : Str) (sp : Sp) (E : St → XK) (ta : TE) (t : TA) : TE := fun σ H Q => ta σ H fun x H1 => ∃ a dx fs, x = .ref a ∧ H1 a = some (.ins C dx fs) ∧ fs.lookup m = none ∧ t σ H1 fun vs H2 => sp (x :: vs) H2 Q (E σ)
section
variable {X : Cx} {CX : CXT} {k : Nat} {f C : Addr} {fd : FuncData} {ps : List Str} {sp : Sp} {E : St → XK} {m : Str} {pos apos : Pos} {e o : Expr} {es : List Expr} {ta : TE} {t : TA}
theorem pe_methW {pl : Sem Bool} (he : PE X o ta) (c : Cls X.K C) (hm : Meth X.K C m f) (F : FnOk X.prog X.w X.K X.mg X.base CX k f fd ps sp) (hr : Room k X.A) (hb : Binds X.K fd ps []) (hx : ∀ σ, PassesAt CX X σ (E σ)) (ha : PA X (e :: es) t)
    (hst : starEach (e :: es) X.env = (false, eval e X.env) :: starEach es X.env := by rfl)
    (hpl : (backTo pos (starEach es X.env)).any (·.1) = false := by rfl) (ht : MethForm X o m (e :: es) pos apos pl := by rfl) : PE X (.Call (.Attribute o m apos) (e :: es) [] pos) (tMethW C m sp E ta t) :=
  ⟨fun pins s0 σ0 H0 Q0 inv hq => PySem.W.methodCall_KW (pl := pl) (thn (he.run pins s0 σ0 H0 _ inv hq) fun recv s1 ⟨_, H1, inv1, hrel, a, dx, fs, hxa, hobj, hno, q1⟩ => by
    subst hxa
    have hrecv : recv = Value.ref a := hrel
    subst hrecv
    exact getmeth_ok inv1 hobj c hm hno (PySem.W.callWith_K (h₀ := X.base) (first := [.ref a]) inv.ok.mod.kin hm.kp (thn (ha.run pos pins s1 σ0 H1 _ inv1 q1) fun us s2 ⟨vs, H2, inv2, hv, q2⟩ => ⟨inv2.kIn, run_fnS (us := .ref a :: us) (vs := .ref a :: vs) F hr hb (hx σ0) inv2 (.cons rfl hv) q2⟩) hst hpl)) ht⟩
theorem pe_methW0 {pl : Sem Bool} (he : PE X o ta) (c : Cls X.K C) (hm : Meth X.K C m f) (F : FnOk X.prog X.w X.K X.mg X.base CX k f fd ps sp) (hr : Room k X.A) (hb : Binds X.K fd ps []) (hx : ∀ σ, PassesAt CX X σ (E σ)) (ht : MethForm X o m [] pos apos pl := by rfl) : PE X (.Call (.Attribute o m apos) [] [] pos) (tMethW C m sp E ta tNil) :=
  ⟨fun pins s0 σ0 H0 Q0 inv hq => PySem.W.methodCall_KW (pl := pl) (thn (he.run pins s0 σ0 H0 _ inv hq) fun recv s1 ⟨_, H1, inv1, hrel, a, dx, fs, hxa, hobj, hno, q1⟩ => by
    subst hxa
    have hrecv : recv = Value.ref a := hrel
    subst hrecv
    exact getmeth_ok inv1 hobj c hm hno (PySem.W.callWith_K0 (first := [.ref a]) inv1.kIn hm.kp (run_fnS (us := [.ref a]) (vs := [.ref a]) F hr hb (hx σ0) inv1 (.cons rfl .nil) q1))) ht⟩
end
section
variable {X : Cx} {B : Bs} {Γ : Gam} {S S1 F : Sto} {a b c e o : Expr} {es : List Expr} {pos apos : Pos} {P : Po} {n : Nat} {q : Addr} {fs : List (Str × Sl)} {names : List Str} {r : Sl} {as : List Sl} {CX : CXT} {lv : Nat} {f C : Addr} {fd : FuncData} {ps : List Str} {R : Rq} {PR : Sl → Sto → Prop} {PX : Value → Sto → Prop} {m x : Str} {p : Pos}
theorem gas_nil : GAS X B Γ S [] [] := pa_nil.imp fun σ H Q ⟨H0, at0, k⟩ => k [] H0 H at0 (Ex.refl _) .nil
theorem gas_cons (he : PE X e (rd X.K B Γ S r)) (ht : GAS X B Γ S es as) (hs : starEach (e :: es) X.env = (false, eval e X.env) :: starEach es X.env := by rfl) : GAS X B Γ S (e :: es) (r :: as) := (pa_cons he ht hs).imp fun σ H Q ⟨H0, at0, k⟩ =>
  ⟨H0, at0, fun v H1 H' at1 e1 hv => ⟨H1, at1, fun vs H2 H'' at2 e2 hvs => k _ H2 H'' at2 (e1.trans e2) (.cons (hv.ext e2) hvs)⟩⟩
abbrev PostR (PR : Sl → Sto → Prop) (F : Sto) : Sl → Sto → Prop := fun r S' => ∃ S1', PR r S1' ∧ S' = S1' ++ F
abbrev PostX (PX : Value → Sto → Prop) (F : Sto) : Value → Gam → Sto → Prop := fun cls _ S' => ∃ S1', PX cls S1' ∧ S' = S1' ++ F
/-- o.m(e, ..) -/
theorem ge_meth {pl : Sem Bool} (ho : GR X B Γ (S1 ++ F) o (.ref q)) (hn : (S1 ++ F)[n]? = some (q, .obj C fs)) (c : Cls X.K C) (hm : Meth X.K C m f) (hnm : fs.map (·.1) = names) (hj : idxF m names = none) (Gf : FnOk X.prog X.w X.K X.mg X.base CX lv f fd ps (SpM X.K R)) (hr : Room lv X.A) (hb : Binds X.K fd ps [])
    (hx : ∀ σ, PassesAt CX X σ fun cls d H => B.E cls d σ H) (ha : GAS X B Γ (S1 ++ F) (e :: es) as) (hR : R (.raw (.ref q) :: as) S1 PR PX)
    (hst : starEach (e :: es) X.env = (false, eval e X.env) :: starEach es X.env := by rfl) (hpl : (backTo pos (starEach es X.env)).any (·.1) = false := by rfl)
    (ht : MethForm X o m (e :: es) pos apos pl := by rfl) :
    GE X B Γ (S1 ++ F) (.Call (.Attribute o m apos) (e :: es) [] pos) (PostR PR F) (PostX PX F) := (pe_methW ho c hm Gf hr hb hx ha hst hpl ht).imp fun σ H Q ⟨H0, at0, k, kx⟩ => ⟨H0, at0, fun v H1 H' at1 e1 hv => by
  have hv : (some (some v) : Option (Option V)) = some (some (.ref q)) := hv
  cases hv
  obtain ⟨h0, dx, vs, h1, h2⟩ := at1.sto.at_ q _ (List.mem_of_getElem? hn)
  subst hnm
  exact ⟨q, dx, vs, rfl, h1, h2.no (idxF_no hj), H1, at1, fun us H2 H'' at2 e2 hus => spm_of at2 hR (.cons rfl hus) (fun r S1' v H0' H' p a2 e3 hv => k r _ v H0' H' ⟨S1', p, rfl⟩ a2 ((e1.trans e2).trans e3) hv) fun cls S1' H0' H' p a2 e3 => kx cls _ H0' H' ⟨S1', p, rfl⟩ a2⟩⟩
/-- o.m() -/
theorem ge_meth0 {pl : Sem Bool} (ho : GR X B Γ (S1 ++ F) o (.ref q)) (hn : (S1 ++ F)[n]? = some (q, .obj C fs)) (c : Cls X.K C) (hm : Meth X.K C m f) (hnm : fs.map (·.1) = names) (hj : idxF m names = none) (Gf : FnOk X.prog X.w X.K X.mg X.base CX lv f fd ps (SpM X.K R)) (hr : Room lv X.A) (hb : Binds X.K fd ps [])
    (hx : ∀ σ, PassesAt CX X σ fun cls d H => B.E cls d σ H) (hR : R [.raw (.ref q)] S1 PR PX)
    (ht : MethForm X o m [] pos apos pl := by rfl) :
    GE X B Γ (S1 ++ F) (.Call (.Attribute o m apos) [] [] pos) (PostR PR F) (PostX PX F) := (pe_methW0 ho c hm Gf hr hb hx ht).imp fun σ H Q ⟨H0, at0, k, kx⟩ => ⟨H0, at0, fun v H1 H' at1 e1 hv => by
  have hv : (some (some v) : Option (Option V)) = some (some (.ref q)) := hv
  cases hv
  obtain ⟨h0, dx, vs, h1, h2⟩ := at1.sto.at_ q _ (List.mem_of_getElem? hn)
  subst hnm
  refine ⟨q, dx, vs, rfl, h1, h2.no (idxF_no hj), ?_⟩
  show SpM X.K R [V.ref q] H' Q fun cls d H => B.E cls d σ H
  exact spm_of at1 hR (.cons rfl .nil) (fun r S1' v H0' H' p a2 e3 hv => k r _ v H0' H' ⟨S1', p, rfl⟩ a2 (e1.trans e3) hv) fun cls S1' H0' H' p a2 e3 => kx cls _ H0' H' ⟨S1', p, rfl⟩ a2⟩
/-- f(e, ..) -/
theorem ge_call (Gf : FnOk X.prog X.w X.K X.mg X.base CX lv f fd ps (SpM X.K R)) (hr : Room lv X.A) (hg : Gl X x) (hm : X.mg x = some (.ref f)) (hk : PySem.W.keepIn X.K (.ref f) = true) (hb : Binds X.K fd ps []) (hx : ∀ σ, PassesAt CX X σ fun cls d H => B.E cls d σ H)
    (ha : GAS X B Γ (S1 ++ F) (e :: es) as) (hR : R as S1 PR PX) (hdb : (x == ("__debug__" : Str)) = false := by decide) (he : starEach (e :: es) X.env = (false, eval e X.env) :: starEach es X.env := by rfl) (hpl : (backTo pos (starEach es X.env)).any (·.1) = false := by rfl) :
    GE X B Γ (S1 ++ F) (.Call (.Name x p) (e :: es) [] pos) (PostR PR F) (PostX PX F) := (pe_callS (E := fun σ cls d H => B.E cls d σ H) Gf hr hg hm hk hb hx ha hdb he hpl).imp fun σ H Q ⟨H0, at0, k, kx⟩ => ⟨H0, at0, fun us H2 H'' at2 e2 hus =>
  spm_of at2 hR hus (fun r S1' v H0' H' p a2 e3 hv => k r _ v H0' H' ⟨S1', p, rfl⟩ a2 (e2.trans e3) hv) fun cls S1' H0' H' p a2 e3 => kx cls _ H0' H' ⟨S1', p, rfl⟩ a2⟩
/-- a pure one: what is owned stays -/
theorem gd_ofE {d : PyData} (h : GE X B Γ S e (fun r S' => r = .dat d ∧ S' = S) (fun _ _ _ => False)) : GD X B Γ S e d := h.imp fun σ H Q ⟨H0, at0, k⟩ => ⟨H0, at0, fun r S' v H0' H' ⟨e1, e2⟩ at1 e3 hv => by subst e1 e2; exact k v H0' H' at1 e3 hv, fun _ _ _ _ z => z.elim⟩
theorem ge_mono {Pe Pe' : Sl → Sto → Prop} {ex ex' : Value → Gam → Sto → Prop} (h : GE X B Γ S e Pe ex) (h1 : ∀ r S', Pe r S' → Pe' r S') (h2 : ∀ c S', ex c Γ S' → ex' c Γ S') : GE X B Γ S e Pe' ex' := h.imp fun σ H Q ⟨H0, at0, k, kx⟩ => ⟨H0, at0, fun r S' v H0' H' p => k r S' v H0' H' (h1 r S' p), fun cls S' H0' H' p => kx cls S' H0' H' (h2 cls S' p)⟩
/-- C(e, ..): a new object, by its __init__ -/
theorem ge_make {E : XK} (M : Mk X.K C f) (Gf : FnOk X.prog X.w X.K X.mg X.base CX lv f fd ps (SpM X.K R)) (hr : Room (lv + 1) X.A) (hg : Gl X x) (hm : X.mg x = some (.ref C)) (hb : Binds X.K fd ps []) (hx : Passes CX X E) (hE : ∀ cls σ H, B.E cls none σ H → E cls none H)
    (ha : GAS X B Γ (S1 ++ F) (e :: es) as) {PRx : Addr → Sto → Prop} {PXx : Addr → Value → Sto → Prop} (hR : ∀ y, R (.raw (.ref y) :: as) ((y, .obj C []) :: S1) (fun r S' => r = .dat .none ∧ PRx y S') (PXx y)) (hdb : (x == ("__debug__" : Str)) = false := by decide)
    (he : starEach (e :: es) X.env = (false, eval e X.env) :: starEach es X.env := by rfl) (hpl : (backTo pos (starEach es X.env)).any (·.1) = false := by rfl) :
    GE X B Γ (S1 ++ F) (.Call (.Name x p) (e :: es) [] pos) (fun r S' => ∃ y S1', B.H y = none ∧ PRx y S1' ∧ r = .raw (.ref y) ∧ S' = S1' ++ F) (fun cls _ S' => ∃ y S1', PXx y cls S1' ∧ S' = S1' ++ F) := (pe_make M Gf hr hg hm hb .nil hx ha hdb he hpl).imp fun σ H Q ⟨H0, at0, k, kx⟩ => ⟨H0, at0, fun us H2 H'' at2 e2 hus => by
  intro y dx hy hdx hne
  have a3 := at2.ext (Ext.newH (o := .own y) at2.e2 hdx)
  have hy' : (upd H'' dx (.own y)) y = none := by rw [upd_ne (fun z => hne z.symm)]; exact hy
  have a4 := a3.own (ow := .obj C []) (o := .ins C dx []) hy' ⟨dx, [], upd_same, .nil⟩
  have hB : B.H y = none := none_B at2.fra hy
  show SpM X.K R (V.ref y :: (us ++ [])) _ _ _
  rw [List.append_nil]
  refine spm_of (S1 := (y, .obj C []) :: S1) a4 (hR y) (.cons rfl hus) (fun r S1' v H0' H' pp a5 e5 hv => ?_) fun cls S1' H0' H' pp a5 e5 => ?_
  · obtain ⟨hr', hp⟩ := pp
    subst hr'
    have hv := hv.toDp
    cases hv
    exact ⟨rfl, k _ _ (.ref y) H0' H' ⟨y, S1', hB, hp, rfl, rfl⟩ a5 (e2.trans e5) rfl⟩
  · exact hE cls σ H' (kx cls _ H0' H' ⟨y, S1', pp, rfl⟩ a5)⟩
end
/-! ### texts made, errors raised -/
def okJ : Str → List Str → Prop
  | _, [] => True
  | acc, y :: r => (acc ++ y).length ≤ sizeLine ∧ okJ (acc ++ y) r
section
variable {X : Cx} {B : Bs} {Γ : Gam} {S : Sto} {a b c e e0 : Expr} {es : List Expr} {d : PyData} {pos pos2 : Pos} {P : Po} {i : Int} {x : Str} {p : Pos} {r : Sl}
theorem rd_un (h : PE X e (rd X.K B Γ S r)) : PE X e (rd X.K B Γ S .un) := h.imp fun σ H Q ⟨H0, at0, k⟩ => ⟨H0, at0, fun v H0' H' at1 e1 _ => k v H0' H' at1 e1 trivial⟩
theorem gd_fmt (h : GD X B Γ S e (.int i)) (hi : i.natAbs.log2 < 1920) : GD X B Γ S (.FormattedValue e (-1) none pos) (.str (toString i)) := (pe_fmt h).imp fun σ H Q ⟨H0, at0, k⟩ => ⟨H0, at0, fun v H1 H' at1 e1 hv => by
  have hv := hv.toDp
  cases hv
  exact .inr ⟨i, rfl, hi, k _ H1 H' at1 e1 ⟨_, rfl, .str _⟩⟩⟩
inductive PJd (X : Cx) (B : Bs) (Γ : Gam) (S : Sto) : List Expr → List Str → Prop
  | nil : PJd X B Γ S [] []
  | cons {e : Expr} {y : Str} {es : List Expr} {ys : List Str} (h : GD X B Γ S e (.str y)) (t : PJd X B Γ S es ys) : PJd X B Γ S (e :: es) (y :: ys)
theorem pjd_run : ∀ {es : List Expr} {ys : List Str}, PJd X B Γ S es ys → ∃ ts, PJ X es ts ∧ ∀ (acc : Str) (σ : St) (H : Hp) (Q : Str → Hp → Prop) (H0 : Hp), At X.K B H0 Γ S σ H → okJ acc ys → (∀ out H0' H', At X.K B H0' Γ S σ H' → Ex H0 H0' → Q out H') → tJs ts acc σ H Q
  | _, _, .nil => ⟨[], .nil, fun acc σ H Q H0 at0 _ k => k acc H0 H at0 (Ex.refl _)⟩
  | _, _, .cons (y := y) h t => by
    obtain ⟨ts, h1, h2⟩ := pjd_run t
    refine ⟨_ :: ts, .cons h h1, fun acc σ H Q H0 at0 ok k => ⟨H0, at0, fun v H1 H' at1 e1 hv => ?_⟩⟩
    have hv := hv.toDp
    cases hv
    exact ⟨y, rfl, ok.1, h2 _ σ H' Q H1 at1 ok.2 fun out H2 H'' at2 e2 => k out H2 H'' at2 (e1.trans e2)⟩
theorem ge_join {v1 v2 : Expr} {rest : List Expr} {ys : List Str} (h : PJd X B Γ S (v1 :: v2 :: rest) ys) (ok : okJ Str.empty ys) : PE X (.JoinedStr (v1 :: v2 :: rest) pos) (rd X.K B Γ S .un) := by
  obtain ⟨ts, h1, h2⟩ := pjd_run h
  exact (pe_joined h1).imp fun σ H Q ⟨H0, at0, k⟩ => h2 _ σ H _ H0 at0 ok fun out H0' H' at1 e1 => k _ H0' H' at1 e1 trivial
/-- an own exception made from one argument: its context is none -/
theorem mkN {C : Addr} {bmB : List Value} {nB newId initId : String} {x : Str} {e0 : Expr} {ta : TE} {p p2 : Pos} (Fx : ExcBaseFacts nB newId initId bmB) (q : PySem.W.excIn X.K C bmB newId = true) (gC : X.mg x = some (.ref C)) (kC : PySem.W.keepIn X.K (.ref C) = true) (rC : Raises X (.ref C)) (hg : Gl X x)
    (he : PE X e0 ta) (hst : starEach [e0] X.env = (false, eval e0 X.env) :: starEach [] X.env := by rfl) (hdb : (x == ("__debug__" : Str)) = false := by decide) :
    L2N.PMk X (.Call (.Name x p) [e0] [] p2) (fun σ0 H0 Q0 => ta σ0 H0 fun _ H1 => Q0 (.ref C) none H1) := fun pins s0 σ0 H0 Q0 inv hq => wpAny_Call_Name_kw (ld_glob inv hg gC (PySem.W.callWith_K (h₀ := X.base) inv.ok.mod.kin kC (by
      rw [hst]
      show wpAny _ _ (spliced ((false, eval e0 X.env) :: backTo p2 (starEach [] X.env))) _ _ s0
      exact Calls.spliced_cons (thn (he.run pins s0 σ0 H0 _ inv hq) fun u0 s2 ⟨v0, H2, inv2, r2, q2⟩ => Calls.spliced_nil ⟨inv2.kIn, by
        show wpAny _ _ (call (.ref C) [u0]) _ _ _
        obtain ⟨w1, w2, w3, w4, w5, w6, w7, w8, w9, v1, v2, v3, v4, v5, v6, v7, mN, hC, hN, hni, TT⟩ := exc_obj inv2.kIn q
        exact wpAny_call_exc_subT Fx TT hC hN hni (fun _ _ made => L2N.mk_of inv2 made rC q2 (inv2.hok.gone made.new)) (by show 1 ≤ sizeLine; rw [sizeLine_eq]; omega)⟩)) hst (by rfl)) hdb)
theorem gs_raise {C : Addr} {bmB : List Value} {nB newId initId : String} (hc : X.calm = true) (tk : L2N.Takes X B.E) (Fx : ExcBaseFacts nB newId initId bmB) (q : PySem.W.excIn X.K C bmB newId = true) (gC : X.mg x = some (.ref C)) (kC : PySem.W.keepIn X.K (.ref C) = true) (rC : Raises X (.ref C)) (hg : Gl X x)
    (he : PE X e0 (rd X.K B Γ S r)) (hp : P.ex (.ref C) Γ S) (hs : starEach [e0] X.env = (false, eval e0 X.env) :: starEach [] X.env := by rfl) (hdb : (x == ("__debug__" : Str)) = false := by decide) : GS X B Γ S (.Raise (some (.Call (.Name x p) [e0] [] pos2)) none pos) P :=
  (L2N.ps_raise hc tk (mkN Fx q gC kC rC hg (rd_un he) hs hdb)).imp fun D σ H ⟨H0, at0, z⟩ => ⟨H0, at0, fun v H1 H' at1 e1 hv => z.ex (.ref C) Γ S H1 σ H' hp at1⟩
/-- a statement that isn't come to -/
theorem gs_dead {st : Stmt} (h : False) : GS X B Γ S st P := h.elim
end
section
variable {P : Program} {w : World} {K : PySem.W.Frag} {mg : Str → Option Value} {base : Heap}
/-- a def that may raise, what it raises having no context -/
theorem okN {x qual : Str} {st : Stmt} {f : Addr} {fd : FuncData} {N ps : List Str} {n : Nat} {sp : Sp} (F : Fun K x qual st f fd) (Sc : FnScope N ps (defScope st)) (hl : ∀ vs H Q E, sp vs H Q E → vs.length = ps.length)
    (hb : ∀ (cd0 : Value) (A : Around) (out : List Env) (s0 : Shared) (H : Hp) (vs : List V) (Q : VK) (E : XK), Room n (A.deeper (envOfC qual (defScope st) s0.heap.objs.size f cd0)) → sp vs H Q E →
      ∃ t, PSs (cxOf (L2N.CX P w) P w K mg base N qual (defScope st) f cd0 A out s0 H E) (defBody st) t ∧ t { nx := fun _ H' => Q .non H', rt := Q } (start N vs) H) : FnOk P w K mg base (L2N.CX P w) (n + 1) f fd ps sp := by
  obtain ⟨_, _, _, _, _, _, cd0, _, _, hfd, hlk, hcode⟩ := F.ex
  subst hfd
  exact fn_of hlk hcode Sc hl fun A out s0 H vs Q E hr h => hb cd0 A out s0 H vs Q E hr h
/-- a def that may change what is owned, and may raise -/
theorem mut_def {x qual : Str} {st : Stmt} {f : Addr} {fd : FuncData} {N ps : List Str} {n : Nat} {R : Rq} (F : Fun K x qual st f fd) (Sc : FnScope N ps (defScope st)) (hlen : ∀ as S PR PX, R as S PR PX → as.length = ps.length)
    (hbody : ∀ (cdv : Value) (A : Around) (outer : List Env) (s : Shared) (H : Hp) (E : XK) (H0 Hh : Hp) (ks : List Addr) (as : List Sl) (S : Sto) (PR : Sl → Sto → Prop) (PX : Value → Sto → Prop), Room n (A.deeper (envOfC qual (defScope st) s.heap.objs.size f cdv)) → R as S PR PX →
      GSs (cxOf (L2N.CX P w) P w K mg base N qual (defScope st) f cdv A outer s H E) ⟨H0, Hh, ks, fun cls d _ H => E cls d H⟩ (gamS N.length as) S (defBody st) { N := fun _ S' => PR (.dat .none) S', R := PR, ex := fun cls _ S' => PX cls S' }) : FnOk P w K mg base (L2N.CX P w) (n + 1) f fd ps (SpM K R) := by
  refine okN F Sc (fun vs H Q E h => ?_) (fun cdv A outer s H vs Q E hr h => ?_)
  · obtain ⟨H0, as, S, PR, PX, _, hR, hv, _⟩ := h
    rw [Paired.length hv]
    exact hlen as S PR PX hR
  · obtain ⟨H0, as, S, PR, PX, e, hR, hv, hS, k, kx⟩ := h
    have hle : ps.length ≤ N.length := by have := congrArg List.length Sc.pre; rw [List.length_take] at this; omega
    refine ⟨_, hbody cdv A outer s H E H0 H (keys S) as S PR PX hr hR, H0, ⟨Fra.refl e, env_startS hv (by rw [hlen as S PR PX hR]; exact hle), hS, fun p z => .inl z⟩, ?_, ?_, ?_, ?_, ?_⟩
    · intro Γ S' H0' σ H' hd at1
      exact k _ S' .non H0' H' hd at1.fra.toE at1.sto at1.wr ⟨_, rfl, .non⟩
    · intro r Γ S' v H0' σ H' hr at1 hv
      exact k r S' v H0' H' hr at1.fra.toE at1.sto at1.wr hv
    · intro _ _ _ _ _ h _
      exact h.elim
    · intro _ _ _ _ _ h _
      exact h.elim
    · intro cls Γ S' H0' σ H' h at1
      exact kx cls S' H0' H' h at1.fra.toE at1.sto at1.wr
end

/-! ### loops -/
theorem At.rebase {K : PySem.W.Frag} {B : Bs} {H0 H : Hp} {Γ : Gam} {S : Sto} {σ : St} (a : At K B H0 Γ S σ H) : At K { B with H0 := H0 } H0 Γ S σ H := ⟨⟨Ex.refl _, a.fra.e1, a.fra.e2, fun _ h _ => h, a.fra.th⟩, a.env, a.sto, a.wr⟩
theorem At.unbase {K : PySem.W.Frag} {B : Bs} {G Hg H0 H : Hp} {Γ : Gam} {S : Sto} {σ : St} (g : Fra B G Hg) (a : At K { B with H0 := G } H0 Γ S σ H) : At K B H0 Γ S σ H := ⟨⟨g.e0.trans a.fra.e0, a.fra.e1, a.fra.e2, fun p h1 h2 => a.fra.fr p (g.fr p h1 h2) h2, a.fra.th⟩, a.env, a.sto, a.wr⟩
abbrev Bs.at (B : Bs) (G : Hp) : Bs := { B with H0 := G }
section
variable {X : Cx} {B : Bs} {Γ : Gam} {S : Sto} {a b c e it : Expr} {es : List Expr} {d : PyData} {ds : List PyData} {pos pos2 pos3 : Pos} {P : Po} {n : Int} {x : Str} {p : Pos} {j : Nat} {body : List Stmt}
/-- what the turn number i of a loop is to reach -/
abbrev Po.turn (P : Po) (I : Nat → Gam → Sto → Prop) (i : Nat) : Po := { N := I (i + 1), R := P.R, bk := P.N, ct := I (i + 1), ex := P.ex }
theorem turn_endz {K : PySem.W.Frag} {D : Ends} {I : Nat → Gam → Sto → Prop} {i : Nat} {G Hg : Hp} (g : Fra B G Hg) (z : Endz K B P D) (N : St → Hp → Prop) (hN : ∀ Γ' S' H0 σ H, I (i + 1) Γ' S' → At K B H0 Γ' S' σ H → Ex G H0 → N σ H) : Endz K (B.at G) (P.turn I i) { D with nx := N, ct := N, bk := D.nx } :=
  ⟨fun Γ' S' H0 σ H q a => hN Γ' S' H0 σ H q (a.unbase g) a.fra.e0, fun r Γ' S' v H0 σ H q a hv => z.rt r Γ' S' v H0 σ H q (a.unbase g) hv, fun Γ' S' H0 σ H q a => z.nx Γ' S' H0 σ H q (a.unbase g), fun Γ' S' H0 σ H q a => hN Γ' S' H0 σ H q (a.unbase g) a.fra.e0, fun cls Γ' S' H0 σ H q a => z.ex cls Γ' S' H0 σ H q (a.unbase g)⟩
/-- for x in range(n) -/
theorem gs_forR (hp : PassesOwn (model X.prog X.w) X.A X.env X.xe) (hc : X.calm = true) (hg : Gl X "range") (hm : X.mg "range" = none) (he : GD X B Γ S e (.int n)) (hn : 0 ≤ n ∧ n < 2 ^ 62) (hN : X.N.Nodup) (hj : X.N[j]? = some x) (hx : Loc X.env.scope x) (I : Nat → Gam → Sto → Prop) (h0 : I 0 Γ S)
    (hb : ∀ (i : Nat) Γ' S' G, (i : Int) < n → I i Γ' S' → GSs X (B.at G) (Γ'.set j (.dat (.int (i : Int)))) S' body (P.turn I i)) (hd : ∀ Γ' S', I n.toNat Γ' S' → P.N Γ' S')
    (hs : starEach [e] X.env = [(false, eval e X.env)] := by rfl) (hf : X.fn x = true ∨ X.env.scope.names.lookup x = some .local := by first | exact .inl rfl | exact .inr rfl | assumption) : GS X B Γ S (.For (.Name x p) (.Call (.Name "range" pos2) [e] [] pos3) body [] pos) P := by
  have hbody : PSs X body (fun D σ H => ∃ (i : Nat) (Γ' : Gam) (S' : Sto) (G : Hp), (i : Int) < n ∧ I i Γ' S' ∧ rs X.K (B.at G) (Γ'.set j (.dat (.int (i : Int)))) S' (P.turn I i) D σ H) := ⟨fun pins s σ H D Iv ⟨i, Γ', S', G, h1, h2, z⟩ => (hb i Γ' S' G h1 h2).run pins s σ H D Iv z⟩
  refine (ps_for hp hc (pi_range1 hg hm (pa_cons he pa_nil (by rw [hs]; rfl)) hs) (pg_name (i := j) hN hj hx hf) hbody).imp fun D σ H ⟨H0, at0, z⟩ => ⟨H0, at0, fun v H1 H' at1 e1 hv => ?_⟩
  have hv := hv.toDp
  cases hv
  refine ⟨n, rfl, by omega, by omega, for_range (lo := 0) (n := n.toNat) (g := gName j) (tb := fun D σ H => ∃ (i : Nat) (Γ' : Gam) (S' : Sto) (G : Hp), (i : Int) < n ∧ I i Γ' S' ∧ rs X.K (B.at G) (Γ'.set j (.dat (.int (i : Int)))) S' (P.turn I i) D σ H) (D := D) (fun i σ H => ∃ Γ' S' H0, I i Γ' S' ∧ At X.K B H0 Γ' S' σ H) ⟨Γ, S, H1, h0, at1⟩ (fun i σ H hi pv => ?_) fun σ H pv => ?_⟩
  · obtain ⟨Γ', S', G, hI, at2⟩ := pv
    have e0 : (0 : Int) + (i : Int) = (i : Int) := Int.zero_add _
    show ∃ (i' : Nat) (Γ' : Gam) (S' : Sto) (G : Hp), (i' : Int) < n ∧ I i' Γ' S' ∧ rs X.K (B.at G) (Γ'.set j (.dat (.int (i' : Int)))) S' (P.turn I i') _ (σ.set j (some (.int ((0 : Int) + (i : Int))))) H
    rw [e0]
    exact ⟨i, Γ', S', G, by omega, hI, G, at2.rebase.set j ⟨_, rfl, .int _⟩, turn_endz at2.fra z _ fun Γ1 S1 H2 σ2 H3 q a _ => ⟨Γ1, S1, H2, q, a⟩⟩
  · obtain ⟨Γ', S', G, hI, at2⟩ := pv
    exact z.nx Γ' S' G σ H (hd Γ' S' hI) at2
/-- for x in a list that is data -/
theorem gs_forL (hp : PassesOwn (model X.prog X.w) X.A X.env X.xe) (hc : X.calm = true) (he : GD X B Γ S it (.list ds)) (hN : X.N.Nodup) (hj : X.N[j]? = some x) (hx : Loc X.env.scope x) (I : Nat → Gam → Sto → Prop) (h0 : I 0 Γ S)
    (hb : ∀ (i : Nat) d Γ' S' G, ds[i]? = some d → I i Γ' S' → GSs X (B.at G) (Γ'.set j (.dat d)) S' body (P.turn I i)) (hd : ∀ Γ' S', I ds.length Γ' S' → P.N Γ' S')
    (hs : ∀ y, foldedSetIterable it X.env y = pure y := by intro _; rfl) (hf : X.fn x = true ∨ X.env.scope.names.lookup x = some .local := by first | exact .inl rfl | exact .inr rfl | assumption) : GS X B Γ S (.For (.Name x p) it body [] pos) P := by
  have hbody : PSs X body (fun D σ H => ∃ (i : Nat) (d : PyData) (Γ' : Gam) (S' : Sto) (G : Hp), ds[i]? = some d ∧ I i Γ' S' ∧ rs X.K (B.at G) (Γ'.set j (.dat d)) S' (P.turn I i) D σ H) := ⟨fun pins s σ H D Iv ⟨i, d, Γ', S', G, h1, h2, z⟩ => (hb i d Γ' S' G h1 h2).run pins s σ H D Iv z⟩
  refine (ps_for hp hc (pi_list he) (pg_name (i := j) hN hj hx hf) hbody hs).imp fun D σ H ⟨H0, at0, z⟩ => ⟨H0, at0, fun v H1 H' at1 e1 hv => ?_⟩
  have hv := hv.toDp
  cases hv with
  | @lst a xs _ hl ha =>
    refine ⟨a, rfl, ⟨xs, ex_l at1.e2 hl⟩, for_list (K := X.K) (a := a) (xs := xs) (g := gName j) (tb := fun D σ H => ∃ (i : Nat) (d : PyData) (Γ' : Gam) (S' : Sto) (G : Hp), ds[i]? = some d ∧ I i Γ' S' ∧ rs X.K (B.at G) (Γ'.set j (.dat d)) S' (P.turn I i) D σ H) (D := D) (fun i σ H => ∃ Γ' S' H0, I i Γ' S' ∧ At X.K B H0 Γ' S' σ H ∧ Ex H1 H0) ⟨Γ, S, H1, h0, at1, Ex.refl _⟩ (fun i σ H _ pv => ?_) (fun i y σ H hi pv => ?_) fun σ H pv => ?_⟩
    · obtain ⟨Γ', S', G, hI, at2, e2⟩ := pv
      exact ex_l at2.e2 (ex_l e2 hl)
    · obtain ⟨Γ', S', G, hI, at2, e2⟩ := pv
      obtain ⟨d, h1, h2⟩ := dps_getV ha hi
      exact ⟨i, d, Γ', S', G, h1, hI, G, at2.rebase.set j ⟨_, rfl, dp_ex e2 _ _ h2⟩, turn_endz at2.fra z _ fun Γ1 S1 H2 σ2 H3 q a e3 => ⟨Γ1, S1, H2, q, a, e2.trans e3⟩⟩
    · obtain ⟨Γ', S', G, hI, at2, e2⟩ := pv
      rw [dps_len ha] at hI
      exact z.nx Γ' S' G σ H (hd Γ' S' hI) at2
/-- for k, x in enumerate(a list that is data) -/
theorem gs_forE {k : Nat} {kk : Nat} {y : Str} {p2 tpos : Pos} (hp : PassesOwn (model X.prog X.w) X.A X.env X.xe) (hc : X.calm = true) (hg : Gl X "enumerate") (hm : X.mg "enumerate" = none) (he : GD X B Γ S it (.list ds)) (hN : X.N.Nodup) (hj : X.N[j]? = some x) (hx : Loc X.env.scope x) (hk : X.N[k]? = some y) (hy : Loc X.env.scope y) (I : Nat → Gam → Sto → Prop) (h0 : I 0 Γ S)
    (hb : ∀ (i : Nat) d Γ' S' G, ds[i]? = some d → I i Γ' S' → GSs X (B.at G) ((Γ'.set j (.dat (.int (i : Int)))).set k (.dat d)) S' body (P.turn I i)) (hd : ∀ Γ' S', I ds.length Γ' S' → P.N Γ' S')
    (hs : starEach [it] X.env = [(false, eval it X.env)] := by rfl) (hl2 : (assignEach [.Name x p, .Name y p2] X.env).length = 2 := by rfl) (hst : (assignEach [.Name x p, .Name y p2] X.env).findIdx? (·.1) = none := by rfl)
    (ha1 : (assignEach [.Name x p, .Name y p2] X.env).map (·.2) = assign (.Name x p) X.env :: (assignEach [.Name y p2] X.env).map (·.2) := by rfl) (ha2 : (assignEach [.Name y p2] X.env).map (·.2) = assign (.Name y p2) X.env :: (assignEach [] X.env).map (·.2) := by rfl)
    (hf : X.fn x = true ∨ X.env.scope.names.lookup x = some .local := by first | exact .inl rfl | exact .inr rfl | assumption) (hf2 : X.fn y = true ∨ X.env.scope.names.lookup y = some .local := by first | exact .inl rfl | exact .inr rfl | assumption) :
    GS X B Γ S (.For (.Tuple [.Name x p, .Name y p2] kk tpos) (.Call (.Name "enumerate" pos2) [it] [] pos3) body [] pos) P := by
  have hbody : PSs X body (fun D σ H => ∃ (i : Nat) (d : PyData) (Γ' : Gam) (S' : Sto) (G : Hp), ds[i]? = some d ∧ I i Γ' S' ∧ rs X.K (B.at G) ((Γ'.set j (.dat (.int (i : Int)))).set k (.dat d)) S' (P.turn I i) D σ H) := ⟨fun pins s σ H D Iv ⟨i, d, Γ', S', G, h1, h2, z⟩ => (hb i d Γ' S' G h1 h2).run pins s σ H D Iv z⟩
  refine (ps_for hp hc (pi_enum hg hm (pa_cons he pa_nil (by rw [hs]; rfl)) hs) (pg_tup hc (pgs_cons (pg_name (i := j) hN hj hx hf) (pgs_cons (pg_name (i := k) hN hk hy hf2) pgs_nil ha2) ha1) hl2 hst) hbody).imp fun D σ H ⟨H0, at0, z⟩ => ⟨H0, at0, fun v H1 H' at1 e1 hv => ?_⟩
  have hv := hv.toDp
  cases hv with
  | @lst a xs _ hl ha =>
    refine ⟨a, xs, rfl, ex_l at1.e2 hl, fun i m σ H => m = xs.length - i ∧ i ≤ xs.length ∧ ∃ Γ' S' H0, I i Γ' S' ∧ At X.K B H0 Γ' S' σ H ∧ Ex H1 H0, ⟨xs.length, by simp, Nat.zero_le _, Γ, S, H1, h0, at1, Ex.refl _⟩, ?_⟩
    rintro i m σ H ⟨rfl, hi, Γ', S', G, hI, at2, e2⟩
    have hq : SqL X.K H a xs := ex_l at2.e2 (ex_l e2 hl)
    by_cases hlt : i < xs.length
    · refine .inr ⟨⟨xs, xs[i], hq, by simp [hlt]⟩, fun σ' H' => i + 1 ≤ xs.length ∧ ∃ Γ' S' H0, I (i + 1) Γ' S' ∧ At X.K B H0 Γ' S' σ' H' ∧ Ex H1 H0, fun σ' H' p' => ⟨xs.length - (i + 1), by omega, rfl, p'⟩, fun v H' y => ?_⟩
      obtain ⟨T, u, rfl, hT, rfl, hu⟩ := y
      have hi2 := hu xs hq
      obtain ⟨d, h1, h2⟩ := dps_getV ha hi2
      have xt := Ext.new (o := .tup [.int (i : Nat), u]) at2.e2 hT
      have at3 := at2.ext xt
      refine ⟨T, [.int (i : Nat), u], rfl, .inl (.inl upd_same), rfl, _, _, rfl, _, _, rfl, rfl, ?_⟩
      exact ⟨i, d, Γ', S', _, h1, hI, _, (at3.rebase.set j (s := .dat (.int (i : Int))) ⟨_, rfl, .int _⟩).set k (s := .dat d) ⟨_, rfl, dp_ex (e2.trans xt.e0) _ _ h2⟩, turn_endz at3.fra z _ fun Γ1 S1 H2 σ2 H3 q a e3 => ⟨hlt, Γ1, S1, H2, q, a, (e2.trans xt.e0).trans e3⟩⟩
    · have e : i = xs.length := by omega
      subst e
      rw [dps_len ha] at hI
      exact .inl ⟨⟨xs, hq, Nat.le_refl _⟩, z.nx Γ' S' G σ H (hd Γ' S' hI) at2⟩

/-! ### comprehensions -/
def wipeG (Γ : Gam) : List Nat → Gam
  | [] => Γ
  | v :: vs => (wipeG Γ vs).set v .un
theorem env_un {K : PySem.W.Frag} {H0 : Hp} {σ : St} {Γ : Gam} {v : Nat} (h : EnvOk K H0 σ Γ) : EnvOk K H0 (σ.set v none) (Γ.set v .un) := by
  refine ⟨by rw [List.length_set, List.length_set]; exact h.len, fun i s q => ?_⟩
  by_cases hj : v = i
  · subst hj
    have hi : v < Γ.length := by
      by_cases hi : v < Γ.length
      · exact hi
      · rw [List.getElem?_eq_none_iff.mpr (by rw [List.length_set]; omega)] at q; cases q
    rw [List.getElem?_set_self hi] at q
    cases q
    trivial
  · rw [List.getElem?_set_ne hj] at q ⊢
    exact h.at_ i s q
theorem env_wipe {K : PySem.W.Frag} {H0 : Hp} {σ : St} {Γ : Gam} (h : EnvOk K H0 σ Γ) : ∀ vs, EnvOk K H0 (wipe σ vs) (wipeG Γ vs)
  | [] => h
  | v :: vs => env_un (env_wipe h vs)
theorem At.wipe {K : PySem.W.Frag} {B : Bs} {H0 H : Hp} {Γ : Gam} {S : Sto} {σ : St} (a : At K B H0 Γ S σ H) (vs : List Nat) : At K B H0 (wipeG Γ vs) S (L2.wipe σ vs) H := ⟨a.fra, env_wipe a.env vs, a.sto, a.wr⟩
theorem wipe_set1 {σ : St} {j : Nat} {x : Option V} : wipe ((wipe σ [j]).set j x) [j] = wipe σ [j] := by
  show ((σ.set j none).set j x).set j none = σ.set j none
  rw [List.set_set, List.set_set]
theorem At.frame {K : PySem.W.Frag} {B : Bs} {H0 H H0' H' : Hp} {Γ Γ' : Gam} {S : Sto} {σ σ' : St} (a : At K B H0 Γ S σ H) (b : At K B H0' Γ' S σ' H') (e : Ex H0 H0') : At K B H0' Γ S σ H' := ⟨b.fra, a.env.ext e, b.sto, b.wr⟩
/-- what the block's element is to give -/
def teR (K : PySem.W.Frag) (B : Bs) (Γ : Gam) (S : Sto) (n : Int) (j : Nat) (g : Nat → PyData) : TE := fun σ H Q => ∃ (i : Nat) (D : Addr) (acc : List PyData), (i : Int) < n ∧ rd K B ((wipeG Γ [j]).set j (.dat (.int (i : Int)))) ((D, .lst acc) :: S) (.dat (g i)) σ H Q
theorem lcR_go (g : Nat → PyData) (hn : 0 ≤ n ∧ n ≤ 100000) {σ : St} {H : Hp} {Q : VK} (h : rd X.K B Γ S (.dat (.list ((List.range n.toNat).map g))) σ H Q) : tLc (iRng1 (tCons (rd X.K B Γ S (.dat (.int n))) tNil)) (gName j) tYes (teR X.K B Γ S n j g) [j] σ H Q := by
  obtain ⟨H0, at0, k⟩ := h
  refine ⟨H0, at0, fun v H1 H' at1 e1 hv => ?_⟩
  have hv := hv.toDp
  cases hv
  refine ⟨n, rfl, by omega, by omega, fun D hD => ?_⟩
  have hB : B.H D = none := none_B at1.fra hD
  refine lc_range (lo := 0) (n := n.toNat) (g := gName j) (tt := tYes) (te := teR X.K B Γ S n j g) (vs := [j]) (σ := σ) (D := D) (Qd := fun H => Q (.ref D) H) (fun i H => i ≤ n.toNat ∧ ∃ H0, At X.K B H0 Γ ((D, .lst ((List.range i).map g)) :: S) σ H ∧ Ex H1 H0) ⟨Nat.zero_le _, H1, at1.own hD ⟨[], upd_same, .nil⟩, Ex.refl _⟩ (fun i H hi pv => ?_) fun H pv => ?_
  · obtain ⟨_, G, at2, e2⟩ := pv
    have e0 : (0 : Int) + (i : Int) = (i : Int) := Int.zero_add _
    refine ⟨wipe_set1, ?_⟩
    refine ⟨i, D, _, by omega, G, (at2.wipe [j]).set j ⟨_, rfl, by rw [e0]; exact .int _⟩, fun v H2 H'' at3 e3 hv => ?_⟩
    obtain ⟨_, acc, h1, h2⟩ := at3.sto.at_ D _ List.mem_cons_self
    refine ⟨acc, h1, ?_, by omega, H2, ?_, e2.trans e3⟩
    · rw [dps_len h2, List.length_map, List.length_range]; exact Evl.sz_lt (by omega)
    · have a4 := at2.frame at3 e3
      have a5 := a4.write (n := 0) (ow := .lst ((List.range i).map g ++ [g i])) (o := .lst (acc ++ [v])) rfl ⟨_, upd_same, dps_app h2 (.cons hv.toDp .nil)⟩
      rw [List.range_succ, List.map_append]
      exact a5
  · obtain ⟨_, G, at2, e2⟩ := pv
    obtain ⟨G', e3, at3, hd⟩ := at2.freeze (n := 0) rfl hB
    exact k _ G' H at3 ((e1.trans e2).trans e3) ⟨_, rfl, hd⟩
/-- [elt for x in range(n)] -/
theorem gd_lcR {elt : Expr} {scope : Scope} {lp : Pos} (g : Nat → PyData) (hc : X.calm = true) (hN : X.N.Nodup) (hg : Gl X "range") (hm : X.mg "range" = none) (he : GD X B Γ S e (.int n)) (hn : 0 ≤ n ∧ n ≤ 100000) (ok : BlkOk X.N X.env.scope scope [(x, j)])
    (htg : ∀ (s : Shared) (H : Hp) (C : Addr) (cl : List (Str × Addr)) (fp : List Addr), PG (X.blk s H scope (compEnvC scope cl C X.env) fp) (.Name x p) (gName j))
    (hel : ∀ (i : Nat) (D : Addr) (acc : List PyData), (i : Int) < n → ∀ (s : Shared) (H : Hp) (C : Addr) (cl : List (Str × Addr)) (fp : List Addr), GD (X.blk s H scope (compEnvC scope cl C X.env) fp) B ((wipeG Γ [j]).set j (.dat (.int (i : Int)))) ((D, .lst acc) :: S) elt (g i))
    (hs : starEach [e] X.env = [(false, eval e X.env)] := by rfl) : GD X B Γ S (.ListComp elt [⟨.Name x p, .Call (.Name "range" pos2) [e] [] pos3, [], 0⟩] scope lp) (.list ((List.range n.toNat).map g)) :=
  (pe_lc (own := [(x, j)]) hc hN (pi_range1 hg hm (pa_cons he pa_nil (by rw [hs]; rfl)) hs) ok htg (fun _ _ _ _ _ => pts_nil) (te := teR X.K B Γ S n j g) (fun s H C cl fp => ⟨fun pins s' σ H' Q Iv ⟨i, D, acc, h1, z⟩ => (hel i D acc h1 s H C cl fp).run pins s' σ H' Q Iv z⟩)).imp fun σ H Q h => lcR_go g hn h
/-- y = [elt for x in range(n)] -/
theorem gs_setLcR {elt : Expr} {scope : Scope} {lp spos py : Pos} {y : Str} {P : Po} (i : Nat) (g : Nat → PyData) (hy : X.N[i]? = some y) (hyl : X.env.scope.names.lookup y = some .local) (hsw : swapsWith (.ListComp elt [⟨.Name x p, .Call (.Name "range" pos2) [e] [] pos3, [], 0⟩] scope lp) (some (.Name y py)) spos.line X.env = pure true) (hc : X.calm = true) (hN : X.N.Nodup) (hg : Gl X "range") (hm : X.mg "range" = none) (he : GD X B Γ S e (.int n)) (hn : 0 ≤ n ∧ n ≤ 100000) (ok : BlkOk X.N X.env.scope scope [(x, j)])
    (htg : ∀ (s : Shared) (H : Hp) (C : Addr) (cl : List (Str × Addr)) (fp : List Addr), PG (X.blk s H scope (compEnvC scope cl C X.env) fp) (.Name x p) (gName j))
    (hel : ∀ (i : Nat) (D : Addr) (acc : List PyData), (i : Int) < n → ∀ (s : Shared) (H : Hp) (C : Addr) (cl : List (Str × Addr)) (fp : List Addr), GD (X.blk s H scope (compEnvC scope cl C X.env) fp) B ((wipeG Γ [j]).set j (.dat (.int (i : Int)))) ((D, .lst acc) :: S) elt (g i))
    (hs : starEach [e] X.env = [(false, eval e X.env)] := by rfl) 
    (q : P.N (Γ.set i (.dat (.list ((List.range n.toNat).map g)))) S) : GS X B Γ S (.Assign [.Name y py] (.ListComp elt [⟨.Name x p, .Call (.Name "range" pos2) [e] [] pos3, [], 0⟩] scope lp) spos) P :=
  (ps_setLc (own := [(x, j)]) hc hN hy hyl hsw (pi_range1 hg hm (pa_cons he pa_nil (by rw [hs]; rfl)) hs) ok htg (fun _ _ _ _ _ => pts_nil) (te := teR X.K B Γ S n j g) (fun s H C cl fp => ⟨fun pins s' σ H' Q Iv ⟨i, D, acc, h1, z⟩ => (hel i D acc h1 s H C cl fp).run pins s' σ H' Q Iv z⟩)).imp fun D σ H ⟨H0, at0, z⟩ => lcR_go g hn ⟨H0, at0, fun v H0' H' at1 e1 hv => z.nx _ _ H0' _ H' q (at1.set i hv)⟩
end
/-! ### xs[i] op= e of an owned list of ints -/
def rGetN (K : PySem.W.Frag) : V → V → Hp → VK → Prop := fun x y H Q => ∃ p xs i v, x = .ref p ∧ y = .int i ∧ 0 ≤ i ∧ SqL K H p xs ∧ xs[i.toNat]? = some v ∧ Q v H
theorem get_listN {X : Cx} : PGet X (rGetN X.K) := by
  intro pins s σ H x y v u Q I rx ry h
  obtain ⟨p, xs, i, z, rfl, rfl, h0, hq, he, q⟩ := h
  cases rx
  obtain ⟨t, rfl⟩ := ry
  obtain ⟨its, r, pl, hz⟩ := I.list hq
  obtain ⟨w, ew, rw'⟩ := r.get he
  have hl := r.length
  have hn := line63
  have hi := (List.getElem?_eq_some_iff.mp he).1
  exact wpAny_getItem_list pl.isList h0 (by omega) (by simpa using ew) ⟨z, H, I, rw', q⟩
def tipI (C : Int → Int → Prop) (f : Int → Int → Int) : TIp := fun x y H Q => ∃ i j, x = .int i ∧ y = .int j ∧ C i j ∧ Q (.int (f i j)) H
theorem ip_addT {X : Cx} : PIp X .Add (tipI (fun _ _ => True) fun i j => i + j) := fun pins s σ H x y v u Q I r1 r2 ⟨i, j, e1, e2, _, q⟩ => ip_add pins s σ H x y v u Q I r1 r2 ⟨i, j, e1, e2, q⟩
theorem ip_mulT {X : Cx} : PIp X .Mult (tipI IntMulOk fun i j => i * j) := by
  intro pins s σ H x y v u Q I r1 r2 h
  obtain ⟨i, j, e1, e2, hc, q⟩ := h
  subst e1 e2
  obtain ⟨t, rfl⟩ := r1
  obtain ⟨t', rfl⟩ := r2
  exact PyProof.Rows.imul_int ⟨.int _, H, I.tok _, ⟨_, rfl⟩, q⟩ hc
section
variable {X : Cx} {B : Bs} {Γ : Gam} {S : Sto} {a b c e o : Expr} {ds : List PyData} {pos tpos : Pos} {P : Po} {n : Nat} {p : Addr} {z w : Int} {m : Nat}
theorem gs_augO {op : Operator} {C : Int → Int → Prop} {f : Int → Int → Int} (hp : PIp X op (tipI C f)) (ho : GR X B Γ S o (.ref p)) (hi : GD X B Γ S b (.int (m : Int))) (he : GD X B Γ S e (.int w)) (hn : S[n]? = some (p, .lst ds)) (hz : ds[m]? = some (.int z)) (hC : C z w)
    (q : P.N Γ (S.set n (p, .lst (ds.set m (.int (f z w))))))
    (ha : ∀ ov iv new, augStore b ov iv new = (do holding [new, ov, iv] (setItem ov iv new); release [new, ov, iv] []; pure .next) := by intros; rfl) : GS X B Γ S (.AugAssign (.Subscript o b tpos) op e pos) P :=
  (ps_augS ho hi get_listN he hp set_list ha).imp fun D σ H ⟨H0, at0, zz⟩ => ⟨H0, at0, fun v H1 H' at1 e1 hv => ⟨H1, at1, fun y H2 H'' at2 e2 hy => by
    have hv : (some (some v) : Option (Option V)) = some (some (.ref p)) := hv
    cases hv
    have hy := hy.toDp
    cases hy
    obtain ⟨h0, vs, h1, h2⟩ := at2.sto.at_ p _ (List.mem_of_getElem? hn)
    obtain ⟨u, u1, u2⟩ := dps_get h2 hz
    cases u2
    refine ⟨p, vs, _, _, rfl, rfl, Int.natCast_nonneg m, .inl (.inl h1), u1, H2, at2, fun v3 H3 H3' at3 e3 hv3 => ?_⟩
    have hv3 := hv3.toDp
    cases hv3
    refine ⟨z, w, rfl, rfl, hC, ?_⟩
    obtain ⟨h0', vs', h1', h2'⟩ := at3.sto.at_ p _ (List.mem_of_getElem? hn)
    have hm := (List.getElem?_eq_some_iff.mp hz).1
    refine ⟨p, vs', _, m, rfl, rfl, h1', ?_, ?_⟩
    · unfold ixN
      rw [if_pos (Int.natCast_nonneg m), if_pos (by rw [dps_len h2']; omega), Int.toNat_natCast]
    · exact zz.nx _ _ H3 σ _ q (at3.write hn ⟨_, upd_same, dps_set (.int _) m h2'⟩)⟩⟩
end
/-! ### a part of what is owned, in another order -/
theorem At.pick {K : PySem.W.Frag} {B : Bs} {H0 H : Hp} {Γ : Gam} {S S2 : Sto} {σ : St} (a : At K B H0 Γ S σ H) (is : List Nat) (nd : is.Nodup) (h : is.map (fun i => S[i]?) = S2.map some) : At K B H0 Γ S2 σ H := by
  have hm : ∀ e ∈ S2, e ∈ S := fun e he => by
    have : some e ∈ S2.map some := List.mem_map.mpr ⟨e, he, rfl⟩
    rw [← h] at this
    obtain ⟨i, _, hi⟩ := List.mem_map.mp this
    exact List.mem_of_getElem? hi
  have key : ∀ (is : List Nat) (S2 : Sto), is.Nodup → is.map (fun i => S[i]?) = S2.map some → (keys S2).Nodup := by
    intro is
    induction is with
    | nil => intro S2 _ h; cases S2 with
      | nil => exact List.nodup_nil
      | cons _ _ => cases h
    | cons i is ih =>
      intro S2 nd h
      cases S2 with
      | nil => cases h
      | cons e S2 =>
        obtain ⟨p, ov⟩ := e
        have h1 : S[i]? = some (p, ov) := (List.cons.inj h).1
        have h2 := (List.cons.inj h).2
        obtain ⟨n1, n2⟩ := List.nodup_cons.mp nd
        refine List.nodup_cons.mpr ⟨fun z => ?_, ih S2 n2 h2⟩
        obtain ⟨ow, hz⟩ := of_keys z
        have : some (p, ow) ∈ S2.map some := List.mem_map.mpr ⟨_, hz, rfl⟩
        rw [← h2] at this
        obtain ⟨k, hk, hk2⟩ := List.mem_map.mp this
        exact nd_at a.sto.nd h1 hk2 (fun e => n1 (e ▸ hk)) rfl
  refine ⟨a.fra, a.env, ⟨fun p ov m => a.sto.at_ p ov (hm _ m), key is S2 nd h⟩, fun p hp => ?_⟩
  obtain ⟨ov, m⟩ := of_keys hp
  exact a.wr p (mem_keys (hm _ m))
section
variable {X : Cx} {B : Bs} {Γ : Gam} {S S1 S2 F : Sto} {a b c e o : Expr} {es : List Expr} {pos apos : Pos} {P : Po} {n : Nat} {q : Addr} {fs : List (Str × Sl)} {names : List Str} {r : Sl} {as : List Sl} {CX : CXT} {lv : Nat} {f C : Addr} {fd : FuncData} {ps : List Str} {R : Rq} {PR : Sl → Sto → Prop} {PX : Value → Sto → Prop} {m x : Str} {p : Pos} {rest : List Stmt} {d : PyData}
theorem gss_pick (is : List Nat) (nd : is.Nodup) (h : is.map (fun i => S[i]?) = S2.map some) (k : GSs X B Γ S2 rest P) : GSs X B Γ S rest P := k.imp fun D σ H ⟨H0, at0, z⟩ => ⟨H0, at0.pick is nd h, z⟩
/-- a statement that leaves the slots as they are -/
theorem gss_keep {st : Stmt} (Ms : Sto → Prop) (h1 : GS X B Γ S st { P with N := fun Γ' S' => Γ' = Γ ∧ Ms S' }) (h2 : ∀ S', Ms S' → GSs X B Γ S' rest P) : GSs X B Γ S (st :: rest) P := gss_cons h1 fun Γ' S' ⟨e, m⟩ => e ▸ h2 S' m
theorem gs_imp {st : Stmt} {Q : Po} (h : GS X B Γ S st P) (n : ∀ Γ S, P.N Γ S → Q.N Γ S) (r : ∀ v S, P.R v S → Q.R v S) (b : ∀ Γ S, P.bk Γ S → Q.bk Γ S) (c : ∀ Γ S, P.ct Γ S → Q.ct Γ S) (x : ∀ z Γ S, P.ex z Γ S → Q.ex z Γ S) : GS X B Γ S st Q := h.imp fun D σ H ⟨H0, at0, z⟩ =>
  ⟨H0, at0, fun Γ S H0 σ H q => z.nx Γ S H0 σ H (n Γ S q), fun v Γ S u H0 σ H q => z.rt v Γ S u H0 σ H (r v S q), fun Γ S H0 σ H q => z.bk Γ S H0 σ H (b Γ S q), fun Γ S H0 σ H q => z.ct Γ S H0 σ H (c Γ S q), fun y Γ S H0 σ H q => z.ex y Γ S H0 σ H (x y Γ S q)⟩
/-- the same store, told otherwise -/
theorem gss_sto (h : S = S2) (k : GSs X B Γ S2 rest P) : GSs X B Γ S rest P := h ▸ k
/-- a method that changes nothing and gives data -/
theorem gd_methP {pl : Sem Bool} (ho : GR X B Γ (S1 ++ F) o (.ref q)) (hn : (S1 ++ F)[n]? = some (q, .obj C fs)) (c : Cls X.K C) (hm : Meth X.K C m f) (hnm : fs.map (·.1) = names) (hj : idxF m names = none) (Gf : FnOk X.prog X.w X.K X.mg X.base CX0 lv f fd ps (SpM X.K R)) (hr : Room lv X.A) (hb : Binds X.K fd ps [])
    (ha : GAS X B Γ (S1 ++ F) (e :: es) as) (hR : R (.raw (.ref q) :: as) S1 (fun r S' => r = .dat d ∧ S' = S1) (fun _ _ => False))
    (hst : starEach (e :: es) X.env = (false, eval e X.env) :: starEach es X.env := by rfl) (hpl : (backTo pos (starEach es X.env)).any (·.1) = false := by rfl)
    (ht : MethForm X o m (e :: es) pos apos pl := by rfl) : GD X B Γ (S1 ++ F) (.Call (.Attribute o m apos) (e :: es) [] pos) d :=
  gd_ofE (ge_mono (ge_meth ho hn c hm hnm hj Gf hr hb (fun _ _ _ _ _ _ _ h => h.elim) ha hR hst hpl ht) (fun r S' ⟨S1', ⟨h1, h2⟩, h3⟩ => by subst h1 h2 h3; exact ⟨rfl, rfl⟩) fun cls S' ⟨_, h, _⟩ => h)
/-- a def that changes nothing and gives data, some of its arguments owned -/
theorem gd_callP (Gf : FnOk X.prog X.w X.K X.mg X.base CX0 lv f fd ps (SpM X.K R)) (hr : Room lv X.A) (hg : Gl X x) (hm : X.mg x = some (.ref f)) (hk : PySem.W.keepIn X.K (.ref f) = true) (hb : Binds X.K fd ps []) (ha : GAS X B Γ (S1 ++ F) (e :: es) as) (hR : R as S1 (fun r S' => r = .dat d ∧ S' = S1) (fun _ _ => False))
    (hdb : (x == ("__debug__" : Str)) = false := by decide) (he : starEach (e :: es) X.env = (false, eval e X.env) :: starEach es X.env := by rfl) (hpl : (backTo pos (starEach es X.env)).any (·.1) = false := by rfl) : GD X B Γ (S1 ++ F) (.Call (.Name x p) (e :: es) [] pos) d :=
  gd_ofE (ge_mono (ge_call Gf hr hg hm hk hb (fun _ _ _ _ _ _ _ h => h.elim) ha hR hdb he hpl) (fun r S' ⟨S1', ⟨h1, h2⟩, h3⟩ => by subst h1 h2 h3; exact ⟨rfl, rfl⟩) fun cls S' ⟨_, h, _⟩ => h)
end
/-! ### lists that are data or owned -/
section
variable {X : Cx} {B : Bs} {Γ : Gam} {S : Sto} {e o it : Expr} {es : List Expr} {d : PyData} {ds : List PyData} {pos pos2 pos3 : Pos} {P : Po} {n : Nat} {x nm : Str} {p2 : Pos} {j : Nat} {body : List Stmt}
def LSl (S : Sto) (r : Sl) (ds : List PyData) : Prop := r = .dat (.list ds) ∨ ∃ p, r = .raw (.ref p) ∧ (p, OV.lst ds) ∈ S
inductive GLs (X : Cx) (B : Bs) (Γ : Gam) (S : Sto) (e : Expr) (ds : List PyData) : Prop
  | dat (h : GD X B Γ S e (.list ds))
  | own (p : Addr) (n : Nat) (h : GR X B Γ S e (.ref p)) (hn : S[n]? = some (p, .lst ds))
theorem gls_var {r : Sl} (h : PE X e (tVar n)) (q : Γ[n]? = some r) (hr : LSl S r ds) : GLs X B Γ S e ds := by
  rcases hr with rfl | ⟨p, rfl, hm⟩
  · exact .dat (gd_var h q)
  · obtain ⟨i, hi⟩ := List.getElem?_of_mem hm
    exact .own p i (gr_var h q) hi
theorem gl_len (hg : Gl X nm) (hm : X.mg nm = none) (hv : bootBuiltins nm = some (.builtin "len")) (ho : GLs X B Γ S o ds) (hnn : nm ≠ "__name__" := by decide) (hdb : (nm == ("__debug__" : Str)) = false := by decide)
    (he : starEach [o] X.env = (false, eval o X.env) :: starEach [] X.env := by rfl) (hpl : (backTo pos (starEach [] X.env)).any (·.1) = false := by rfl) : GD X B Γ S (.Call (.Name nm p2) [o] [] pos) (.int (ds.length : Int)) := by
  cases ho with
  | dat h => exact gd_callB call_len (ca_len (.inl rfl)) hg hm hv (ga_cons h ga_nil he) hnn hdb he hpl
  | own p n h hn => exact gd_lenO hg hm hv h hn hnn hdb he hpl
theorem gl_list (hg : Gl X nm) (hm : X.mg nm = none) (hv : bootBuiltins nm = some (.type "list")) (he : GLs X B Γ S e ds) {ex : Value → Gam → Sto → Prop} (hnn : nm ≠ "__name__" := by decide) (hdb : (nm == ("__debug__" : Str)) = false := by decide)
    (hst : starEach [e] X.env = (false, eval e X.env) :: starEach [] X.env := by rfl) (hpl : (backTo pos (starEach [] X.env)).any (·.1) = false := by rfl) : GE X B Γ S (.Call (.Name nm p2) [e] [] pos) (fun r S' => ∃ p, B.H p = none ∧ r = .raw (.ref p) ∧ S' = (p, .lst ds) :: S) ex := by
  cases he with
  | dat h => exact ge_list hg hm hv h hnn hdb hst hpl
  | own p n h hn => exact ge_listO hg hm hv h hn hnn hdb hst hpl
/-- .. and given as data at once: nobody else holds it -/
theorem gl_listD (hg : Gl X nm) (hm : X.mg nm = none) (hv : bootBuiltins nm = some (.type "list")) (he : GLs X B Γ S e ds) (hnn : nm ≠ "__name__" := by decide) (hdb : (nm == ("__debug__" : Str)) = false := by decide)
    (hst : starEach [e] X.env = (false, eval e X.env) :: starEach [] X.env := by rfl) (hpl : (backTo pos (starEach [] X.env)).any (·.1) = false := by rfl) : GD X B Γ S (.Call (.Name nm p2) [e] [] pos) (.list ds) :=
  (gl_list hg hm hv he (ex := fun _ _ _ => False) hnn hdb hst hpl).imp fun σ H Q ⟨H0, at0, k⟩ => ⟨H0, at0, fun r S' v H0' H' ⟨p, hp, er, es⟩ at1 e1 hv => by
    subst er es
    have hv : (some (some v) : Option (Option V)) = some (some (.ref p)) := hv
    cases hv
    obtain ⟨H2, e2, at2, hd⟩ := at1.freeze (n := 0) rfl hp
    exact k _ H2 H' at2 (e1.trans e2) ⟨_, rfl, hd⟩, fun _ _ _ _ z => z.elim⟩
/-- for k, x in enumerate(a list that is owned and stays) -/
theorem gs_forEO {p : Addr} {px : Pos} {k : Nat} {kk : Nat} {y : Str} {p2 tpos : Pos} (hp : PassesOwn (model X.prog X.w) X.A X.env X.xe) (hc : X.calm = true) (hg : Gl X "enumerate") (hm : X.mg "enumerate" = none) (he : GR X B Γ S it (.ref p)) (hN : X.N.Nodup) (hj : X.N[j]? = some x) (hx : Loc X.env.scope x) (hk : X.N[k]? = some y) (hy : Loc X.env.scope y) (I : Nat → Gam → Sto → Prop) (h0 : I 0 Γ S)
    (hkp : ∀ i Γ' S', I i Γ' S' → (p, OV.lst ds) ∈ S')
    (hb : ∀ (i : Nat) d Γ' S' G, ds[i]? = some d → I i Γ' S' → GSs X (B.at G) ((Γ'.set j (.dat (.int (i : Int)))).set k (.dat d)) S' body (P.turn I i)) (hd : ∀ Γ' S', I ds.length Γ' S' → P.N Γ' S')
    (hs : starEach [it] X.env = [(false, eval it X.env)] := by rfl) (hl2 : (assignEach [.Name x px, .Name y p2] X.env).length = 2 := by rfl) (hst : (assignEach [.Name x px, .Name y p2] X.env).findIdx? (·.1) = none := by rfl)
    (ha1 : (assignEach [.Name x px, .Name y p2] X.env).map (·.2) = assign (.Name x px) X.env :: (assignEach [.Name y p2] X.env).map (·.2) := by rfl) (ha2 : (assignEach [.Name y p2] X.env).map (·.2) = assign (.Name y p2) X.env :: (assignEach [] X.env).map (·.2) := by rfl)
    (hf : X.fn x = true ∨ X.env.scope.names.lookup x = some .local := by first | exact .inl rfl | exact .inr rfl | assumption) (hf2 : X.fn y = true ∨ X.env.scope.names.lookup y = some .local := by first | exact .inl rfl | exact .inr rfl | assumption) :
    GS X B Γ S (.For (.Tuple [.Name x px, .Name y p2] kk tpos) (.Call (.Name "enumerate" pos2) [it] [] pos3) body [] pos) P := by
  have hbody : PSs X body (fun D σ H => ∃ (i : Nat) (d : PyData) (Γ' : Gam) (S' : Sto) (G : Hp), ds[i]? = some d ∧ I i Γ' S' ∧ rs X.K (B.at G) ((Γ'.set j (.dat (.int (i : Int)))).set k (.dat d)) S' (P.turn I i) D σ H) := ⟨fun pins s σ H D Iv ⟨i, d, Γ', S', G, h1, h2, z⟩ => (hb i d Γ' S' G h1 h2).run pins s σ H D Iv z⟩
  refine (ps_for hp hc (pi_enum hg hm (pa_cons he pa_nil (by rw [hs]; rfl)) hs) (pg_tup hc (pgs_cons (pg_name (i := j) hN hj hx hf) (pgs_cons (pg_name (i := k) hN hk hy hf2) pgs_nil ha2) ha1) hl2 hst) hbody).imp fun D σ H ⟨H0, at0, z⟩ => ⟨H0, at0, fun v H1 H' at1 e1 hv => ?_⟩
  have hv : (some (some v) : Option (Option V)) = some (some (.ref p)) := hv
  cases hv
  obtain ⟨_, xs, hl, _⟩ := at1.sto.at_ p _ (hkp 0 Γ S h0)
  refine ⟨p, xs, rfl, .inl (.inl hl), fun i m σ H => m = ds.length - i ∧ i ≤ ds.length ∧ ∃ Γ' S' H0, I i Γ' S' ∧ At X.K B H0 Γ' S' σ H ∧ Ex H1 H0, ⟨ds.length, by simp, Nat.zero_le _, Γ, S, H1, h0, at1, Ex.refl _⟩, ?_⟩
  rintro i m σ H ⟨rfl, hi, Γ', S', G, hI, at2, e2⟩
  obtain ⟨_, xs, hl, ha⟩ := at2.sto.at_ p _ (hkp i Γ' S' hI)
  have hq : SqL X.K H p xs := .inl (.inl hl)
  have hln := dps_len ha
  by_cases hlt : i < ds.length
  · have hlx : i < xs.length := by omega
    refine .inr ⟨⟨xs, xs[i], hq, by simp [hlx]⟩, fun σ' H' => i + 1 ≤ ds.length ∧ ∃ Γ' S' H0, I (i + 1) Γ' S' ∧ At X.K B H0 Γ' S' σ' H' ∧ Ex H1 H0, fun σ' H' p' => ⟨ds.length - (i + 1), by omega, rfl, p'⟩, fun v H' y => ?_⟩
    obtain ⟨T, u, rfl, hT, rfl, hu⟩ := y
    have hi2 := hu xs hq
    obtain ⟨d, h1, h2⟩ := dps_getV ha hi2
    have xt := Ext.new (o := .tup [.int (i : Nat), u]) at2.e2 hT
    have at3 := at2.ext xt
    refine ⟨T, [.int (i : Nat), u], rfl, .inl (.inl upd_same), rfl, _, _, rfl, _, _, rfl, rfl, ?_⟩
    exact ⟨i, d, Γ', S', _, h1, hI, _, (at3.rebase.set j (s := .dat (.int (i : Int))) ⟨_, rfl, .int _⟩).set k (s := .dat d) ⟨_, rfl, dp_ex xt.e0 _ _ h2⟩, turn_endz at3.fra z _ fun Γ1 S1 H2 σ2 H3 q a e3 => ⟨hlt, Γ1, S1, H2, q, a, (e2.trans xt.e0).trans e3⟩⟩
  · have e : i = ds.length := by omega
    subst e
    exact .inl ⟨⟨xs, hq, by omega⟩, z.nx Γ' S' G σ H (hd Γ' S' hI) at2⟩
theorem gl_forE {px : Pos} {k : Nat} {kk : Nat} {y : Str} {p2 tpos : Pos} (hp : PassesOwn (model X.prog X.w) X.A X.env X.xe) (hc : X.calm = true) (hg : Gl X "enumerate") (hm : X.mg "enumerate" = none) (he : GLs X B Γ S it ds) (hN : X.N.Nodup) (hj : X.N[j]? = some x) (hx : Loc X.env.scope x) (hk : X.N[k]? = some y) (hy : Loc X.env.scope y) (I : Nat → Gam → Sto → Prop) (h0 : I 0 Γ S)
    (hkp : ∀ i Γ' S', I i Γ' S' → S' = S)
    (hb : ∀ (i : Nat) d Γ' S' G, ds[i]? = some d → I i Γ' S' → GSs X (B.at G) ((Γ'.set j (.dat (.int (i : Int)))).set k (.dat d)) S' body (P.turn I i)) (hd : ∀ Γ' S', I ds.length Γ' S' → P.N Γ' S')
    (hs : starEach [it] X.env = [(false, eval it X.env)] := by rfl) (hl2 : (assignEach [.Name x px, .Name y p2] X.env).length = 2 := by rfl) (hst : (assignEach [.Name x px, .Name y p2] X.env).findIdx? (·.1) = none := by rfl)
    (ha1 : (assignEach [.Name x px, .Name y p2] X.env).map (·.2) = assign (.Name x px) X.env :: (assignEach [.Name y p2] X.env).map (·.2) := by rfl) (ha2 : (assignEach [.Name y p2] X.env).map (·.2) = assign (.Name y p2) X.env :: (assignEach [] X.env).map (·.2) := by rfl)
    (hf : X.fn x = true ∨ X.env.scope.names.lookup x = some .local := by first | exact .inl rfl | exact .inr rfl | assumption) (hf2 : X.fn y = true ∨ X.env.scope.names.lookup y = some .local := by first | exact .inl rfl | exact .inr rfl | assumption) :
    GS X B Γ S (.For (.Tuple [.Name x px, .Name y p2] kk tpos) (.Call (.Name "enumerate" pos2) [it] [] pos3) body [] pos) P := by
  cases he with
  | dat h => exact gs_forE hp hc hg hm h hN hj hx hk hy I h0 hb hd hs hl2 hst ha1 ha2 hf hf2
  | own p n h hn => exact gs_forEO hp hc hg hm h hN hj hx hk hy I h0 (fun i Γ' S' q => hkp i Γ' S' q ▸ List.mem_of_getElem? hn) hb hd hs hl2 hst ha1 ha2 hf hf2
end
section
variable {X : Cx} {B : Bs} {Γ : Gam} {S F : Sto} {e : Expr} {es : List Expr} {d : PyData} {ds : List PyData} {pos : Pos} {P : Po} {n lv : Nat} {x : Str} {p : Pos} {as : List Sl} {f : Addr} {fd : FuncData} {ps : List Str} {R : Rq} {r : Sl} {o : Addr × OV}
theorem LSl.cons (h : LSl S r ds) : LSl (o :: S) r ds := h.imp id fun ⟨p, h1, h2⟩ => ⟨p, h1, List.mem_cons_of_mem _ h2⟩
theorem LSl.app (h : LSl F r ds) : LSl (S ++ F) r ds := h.imp id fun ⟨p, h1, h2⟩ => ⟨p, h1, List.mem_append_right _ h2⟩
theorem LSl.ne (h : LSl S r ds) : r ≠ .un := by
  rcases h with rfl | ⟨p, rfl, _⟩ <;> exact fun z => nomatch z
theorem gd_callP0 (Gf : FnOk X.prog X.w X.K X.mg X.base CX0 lv f fd ps (SpM X.K R)) (hr : Room lv X.A) (hg : Gl X x) (hm : X.mg x = some (.ref f)) (hk : PySem.W.keepIn X.K (.ref f) = true) (hb : Binds X.K fd ps []) (ha : GAS X B Γ S (e :: es) as) (hR : R as S (fun r S' => r = .dat d ∧ S' = S) (fun _ _ => False))
    (hdb : (x == ("__debug__" : Str)) = false := by decide) (he : starEach (e :: es) X.env = (false, eval e X.env) :: starEach es X.env := by rfl) (hpl : (backTo pos (starEach es X.env)).any (·.1) = false := by rfl) : GD X B Γ S (.Call (.Name x p) (e :: es) [] pos) d := by
  have ha' : GAS X B Γ (S ++ []) (e :: es) as := by rw [List.append_nil]; exact ha
  have := gd_callP (F := []) (p := p) Gf hr hg hm hk hb ha' hR hdb he hpl
  rwa [List.append_nil] at this
theorem gss_then {st : Stmt} {rest : List Stmt} (h : GS X B Γ S st { P with N := fun Γ' S' => GSs X B Γ' S' rest P }) : GSs X B Γ S (st :: rest) P := gss_cons h fun _ _ q => q
end
/-! ### a new list -/
def GF (X : Cx) (B : Bs) (Γ : Gam) (S : Sto) (e : Expr) (ds : List PyData) : Prop := ∀ ex : Value → Gam → Sto → Prop, GE X B Γ S e (fun r S' => ∃ p, B.H p = none ∧ r = .raw (.ref p) ∧ S' = (p, .lst ds) :: S) ex
section
variable {X : Cx} {B : Bs} {Γ : Gam} {S : Sto} {e o : Expr} {es : List Expr} {ds : List PyData} {pos pos' p2 : Pos} {P : Po} {n : Nat} {p C : Addr} {fs : List (Str × Sl)} {names : List Str} {f nm x : Str}
theorem gf_lst (h : GA X B Γ S es ds) (hl : ds.length ≤ 100000) : GF X B Γ S (.List es pos) ds := fun _ => ge_lst h hl
theorem gf_list (hg : Gl X nm) (hm : X.mg nm = none) (hv : bootBuiltins nm = some (.type "list")) (he : GLs X B Γ S e ds) (hnn : nm ≠ "__name__" := by decide) (hdb : (nm == ("__debug__" : Str)) = false := by decide)
    (hst : starEach [e] X.env = (false, eval e X.env) :: starEach [] X.env := by rfl) (hpl : (backTo pos (starEach [] X.env)).any (·.1) = false := by rfl) : GF X B Γ S (.Call (.Name nm p2) [e] [] pos) ds := fun _ => gl_list hg hm hv he hnn hdb hst hpl
theorem gs_fldF {j : Option Nat} (he : GF X B Γ S e ds) (ho : ∀ S', GR X B Γ S' o (.ref p)) (hn : S[n]? = some (p, .obj C fs)) (hc : Cls X.K C) (hf : NoAttr X.K C f) (hnm : fs.map (·.1) = names) (hj : idxF f names = j) (hl : fs.length < 1000)
    (q : ∀ b, B.H b = none → P.N Γ ((b, .lst ds) :: S.set n (p, .obj C (setF j f (.raw (.ref b)) fs))))
    (hs : swapsWith e (some (.Attribute o f pos')) pos.line X.env = pure false := by rfl) : GS X B Γ S (.Assign [.Attribute o f pos'] e pos) P :=
  gs_fldE (he P.ex) hc hf (fun r S' ⟨b, hb, hr, hS⟩ => by subst hr hS; exact ⟨n + 1, fs, names, ho _, by rw [List.getElem?_cons_succ]; exact hn, hnm, hj, hl, q b hb⟩) hs
/-- x = a new list -/
theorem gs_setF {i : Nat} (he : GF X B Γ S e ds) (hN : X.N.Nodup) (hi : X.N[i]? = some x) (hx : Loc X.env.scope x) (q : ∀ b, B.H b = none → P.N (Γ.set i (.raw (.ref b))) ((b, .lst ds) :: S)) (hs : swapsWith e (some (.Name x pos')) pos.line X.env = pure false := by rfl) (hf : X.fn x = true ∨ X.env.scope.names.lookup x = some .local := by first | exact .inl rfl | exact .inr rfl | assumption) : GS X B Γ S (.Assign [.Name x pos'] e pos) P :=
  gs_setE hN hi hx (ge_mono (he P.ex) (fun r S' ⟨b, hb, hr, hS⟩ => by subst hr hS; exact q b hb) fun _ _ h => h) hs
end
section
variable {X : Cx} {B : Bs} {Γ : Gam} {S S1 F : Sto} {e : Expr} {es : List Expr} {pos : Pos} {n lv : Nat} {x : Str} {p : Pos} {as : List Sl} {C f : Addr} {fd : FuncData} {ps : List Str} {R : Rq} {CX : CXT}
/-- C(e, ..), told by what follows -/
theorem ge_makeQ {E : XK} {Pe : Sl → Sto → Prop} {ex : Value → Gam → Sto → Prop} (M : Mk X.K C f) (Gf : FnOk X.prog X.w X.K X.mg X.base CX lv f fd ps (SpM X.K R)) (hr : Room (lv + 1) X.A) (hg : Gl X x) (hm : X.mg x = some (.ref C)) (hb : Binds X.K fd ps []) (hx : Passes CX X E) (hE : ∀ cls σ H, B.E cls none σ H → E cls none H)
    {PRx : Addr → Sto → Prop} {PXx : Addr → Value → Sto → Prop} (ha : GAS X B Γ (S1 ++ F) (e :: es) as) (hR : ∀ y, R (.raw (.ref y) :: as) ((y, .obj C []) :: S1) (fun r S' => r = .dat .none ∧ PRx y S') (PXx y)) 
    (q : ∀ y S1', B.H y = none → PRx y S1' → Pe (.raw (.ref y)) (S1' ++ F)) (qx : ∀ y cls S1', PXx y cls S1' → ex cls Γ (S1' ++ F)) (hdb : (x == ("__debug__" : Str)) = false := by decide)
    (he : starEach (e :: es) X.env = (false, eval e X.env) :: starEach es X.env := by rfl) (hpl : (backTo pos (starEach es X.env)).any (·.1) = false := by rfl) :
    GE X B Γ (S1 ++ F) (.Call (.Name x p) (e :: es) [] pos) Pe ex :=
  ge_mono (ge_make (PRx := PRx) (PXx := PXx) M Gf hr hg hm hb hx hE ha hR hdb he hpl) (fun r S' ⟨y, S1', hy, hp, h1, h2⟩ => by subst h1 h2; exact q y S1' hy hp) fun cls S' ⟨y, S1', hp, h⟩ => by subst h; exact qx y cls S1' hp
end
section
variable {X : Cx} {B : Bs} {Γ : Gam} {S : Sto} {a : Expr} {d : PyData} {pos : Pos}
theorem gt_isN {n : Nat} {p2 : Pos} (ha : GD X B Γ S a d) : GT X B Γ S (.Compare a [.Is] [.Constant .none n p2] pos) (isN d) := (pt_cmp (pc_isN ha) rfl).imp (test_go fun σ H Q ⟨H0, at0, k⟩ => ⟨H0, at0, fun v H0' H' at1 e1 hv => k _ H0' H' at1 e1 ⟨_, rfl, by rw [isN_of hv.toDp]; exact .bl _⟩⟩)
theorem gt_notN {n : Nat} {p2 : Pos} (ha : GD X B Γ S a d) : GT X B Γ S (.Compare a [.IsNot] [.Constant .none n p2] pos) (!isN d) := (pt_cmp (pc_notN ha) rfl).imp (test_go fun σ H Q ⟨H0, at0, k⟩ => ⟨H0, at0, fun v H0' H' at1 e1 hv => k _ H0' H' at1 e1 ⟨_, rfl, by rw [isN_of hv.toDp]; exact .bl _⟩⟩)
end
section
variable {X : Cx} {B : Bs} {Γ : Gam} {S : Sto} {rest : List Stmt} {P : Po} {p : Addr} {ds : List PyData} {n i : Nat}
/-- what a slot alone holds is data from here on -/
theorem gss_freeze (i n : Nat) (hi : Γ[i]? = some (.raw (.ref p))) (hn : S[n]? = some (p, .lst ds)) (hB : B.H p = none) (k : GSs X B (Γ.set i (.dat (.list ds))) (S.eraseIdx n) rest P) : GSs X B Γ S rest P := k.imp fun D σ H ⟨H0, at0, z⟩ => by
  obtain ⟨H2, e2, at2, hd⟩ := at0.freeze hn hB
  refine ⟨H2, ⟨at2.fra, ⟨by rw [List.length_set]; exact at2.env.len, fun j s q => ?_⟩, at2.sto, at2.wr⟩, z⟩
  by_cases e : i = j
  · subst e
    have hl : i < Γ.length := (List.getElem?_eq_some_iff.mp hi).1
    rw [List.getElem?_set_self hl] at q
    cases q
    have := at2.env.at_ i _ hi
    exact ⟨_, this, hd⟩
  · rw [List.getElem?_set_ne e] at q
    exact at2.env.at_ j s q
end
section
variable {X : Cx} {B : Bs} {Γ : Gam} {S : Sto} {o b a : Expr} {ds : List PyData} {d : PyData} {i : Int} {pos : Pos}
theorem gl_ix (ho : GLs X B Γ S o ds) (hi : GD X B Γ S b (.int i)) (q : atI ds i = some d) (hs : PlainIx b := by exact fun _ _ => rfl) : GD X B Γ S (.Subscript o b pos) d := by
  cases ho with
  | dat h => exact gd_ixL h hi q hs
  | own p n h hn => exact gd_ixO h hi hn q hs
theorem gl_isL {f : Str} {p p2 : Pos} (hg : Gl X f) (hm : X.mg f = none) (hv : bootBuiltins f = some (.builtin "isinstance")) (hT : PE X (.Name "list" p2) (tC (.ty "list"))) (ha : GLs X B Γ S a ds)
    (hn : f ≠ "__name__" := by decide) (hdb : (f == ("__debug__" : Str)) = false := by decide)
    (he : starEach [a, .Name "list" p2] X.env = (false, eval a X.env) :: starEach [.Name "list" p2] X.env := by rfl) (he2 : starEach [.Name "list" p2] X.env = (false, eval (.Name "list" p2) X.env) :: starEach [] X.env := by rfl) (hpl : (backTo pos (starEach [.Name "list" p2] X.env)).any (·.1) = false := by rfl) : GD X B Γ S (.Call (.Name f p) [a, .Name "list" p2] [] pos) (.bool true) := by
  cases ha with
  | dat h => exact gd_isi hg hm hv hT h kit_list_list hn hdb he he2 hpl
  | own q n h hnn =>
    exact (pe_callB call_isi hg hm hv (pa_cons h (pa_cons hT pa_nil he2) he) hn hdb he hpl).imp fun σ H Q ⟨H0, at0, k⟩ => ⟨H0, at0, fun v H1 H' at1 e1 hv => by
      have hv : (some (some v) : Option (Option V)) = some (some (.ref q)) := hv
      cases hv
      obtain ⟨_, vs, h1, _⟩ := at1.sto.at_ q _ (List.mem_of_getElem? hnn)
      exact ⟨.ref q, .ty "list", .type "list", .type "list", true, rfl, .ty "list", .base (.lst h1), kit_ty kit_list_list, k _ H1 H' at1 e1 ⟨_, rfl, .bl _⟩⟩⟩
end
/-! ### try -/
section
variable {X : Cx} {B : Bs} {Γ : Gam} {S : Sto} {pos : Pos} {P : Po} {body : List Stmt}
abbrev Bs.E0 (B : Bs) (W : WX) : Bs := { B with E := W }
theorem At.reE {K : PySem.W.Frag} {W : WX} {H0 H : Hp} {σ : St} (a : At K B H0 Γ S σ H) : At K (B.E0 W) H0 Γ S σ H := ⟨a.fra.toE, a.env, a.sto, a.wr⟩
theorem At.unE {K : PySem.W.Frag} {W : WX} {H0 H : Hp} {σ : St} (a : At K (B.E0 W) H0 Γ S σ H) : At K B H0 Γ S σ H := ⟨a.fra.toE, a.env, a.sto, a.wr⟩
/-- which clause an exception of the class goes to; none lets it through -/
def Sel (K : PySem.W.Frag) (cls : Value) (Γ : Gam) (S : Sto) : List (Value × (Gam → Sto → Prop)) → Prop
  | [] => False
  | (c, Pc) :: r => ∃ b, PySem.W.exmOne K cls c = some b ∧ (b = true → Pc Γ S) ∧ (b = false → Sel K cls Γ S r)
inductive HdG (X : Cx) (B : Bs) (P : Po) : List ExceptHandler → List (Value × (Gam → Sto → Prop)) → Prop
  | nil : HdG X B P [] []
  | cons {x : Str} {c : Value} {Pc : Gam → Sto → Prop} {b₀ : Stmt} {suite : List Stmt} {np pos' : Pos} {hds : List ExceptHandler} {l : List (Value × (Gam → Sto → Prop))} (hc : Names X x c)
      (hsu : ∀ (a : Addr) (oe : Obj) (pn : List (Addr × Obj)) Γ' S', Pc Γ' S' → GSs (X.suite a ((a, oe) :: pn)) B Γ' S' (b₀ :: suite) P) (r : HdG X B P hds l) : HdG X B P (.ExceptHandler (some (.Name x np)) none (b₀ :: suite) pos' :: hds) ((c, Pc) :: l)
def tsOf (K : PySem.W.Frag) (B : Bs) (P : Po) (Pc : Gam → Sto → Prop) : Addr → Value → Option Addr → TS := fun _ _ _ D σ H => ∃ Γ' S', Pc Γ' S' ∧ rs K B Γ' S' P D σ H
theorem HdG.toOk {hds : List ExceptHandler} {l : List (Value × (Gam → Sto → Prop))} (h : HdG X B P hds l) : L2N.HdsOk X hds (l.map fun p => (p.1, tsOf X.K B P p.2)) := by
  induction h with
  | nil => exact .nil
  | cons hc hsu r ih => exact .cons hc (fun a oe cls d pn _ _ => ⟨fun pins s σ H D I ⟨Γ', S', hp, z⟩ => (hsu a oe pn Γ' S' hp).run pins s σ H D I z⟩) ih
/-- try: body, except A: .., except B: .. (what the body raises is caught) -/
theorem gs_tryM {h₀ : ExceptHandler} {hds : List ExceptHandler} {l : List (Value × (Gam → Sto → Prop))} (hs : X.stack = X.env :: X.outer) (hf : X.env.frame = some X.env.locals) (Px : Value → Gam → Sto → Prop)
    (hb : ∀ (W : WX) (pn : List (Addr × Obj)) (xe : Value → Shared → Prop), L2N.Takes (X.tr pn xe) W → PassesOwn (model X.prog X.w) X.A X.env xe → GSs (X.tr pn xe) (B.E0 W) Γ S body { N := P.N, R := P.R, bk := P.bk, ct := P.ct, ex := Px })
    (hsel : ∀ cls Γ' S', Px cls Γ' S' → Sel X.K cls Γ' S' l) (hh : HdG X B P (h₀ :: hds) l) : GS X B Γ S (.Try body (h₀ :: hds) [] [] pos) P :=
  (L2N.ps_try_many (Wout := fun _ _ _ _ => False) (tb := fun W => rs X.K (B.E0 W) Γ S { N := P.N, R := P.R, bk := P.bk, ct := P.ct, ex := Px }) hs hf (fun _ _ ⟨_, _, _, _, _, _, _, _, _, _, _, _, _, _, _, _, w⟩ => w.elim) hb hh.toOk).imp fun D σ H ⟨H0, at0, z⟩ =>
    ⟨H0, at0.reE, fun Γ' S' H0' σ' H' q a => z.nx Γ' S' H0' σ' H' q a.unE, fun r Γ' S' v H0' σ' H' q a hv => z.rt r Γ' S' v H0' σ' H' q a.unE hv, fun Γ' S' H0' σ' H' q a => z.bk Γ' S' H0' σ' H' q a.unE, fun Γ' S' H0' σ' H' q a => z.ct Γ' S' H0' σ' H' q a.unE, fun cls Γ' S' H0' σ' H' q a => by
      have h := hsel cls Γ' S' q
      have a2 : At X.K B H0' Γ' S' σ' H' := a.unE
      show wMany X.K _ D _ cls none σ' H'
      clear q hsel hh hb a
      induction l with
      | nil => exact h.elim
      | cons p r ih =>
        obtain ⟨b, h1, h2, h3⟩ := h
        exact ⟨b, h1, fun hb _ _ => ⟨Γ', S', h2 hb, H0', a2, z⟩, fun hb => ih (h3 hb)⟩⟩
end
/-! ### a def that is asked of the exception in hand -/
structure FnE (P : Program) (w : World) (K : PySem.W.Frag) (mg : Str → Option Value) (base : Heap) (n : Nat) (f : Addr) (fd : FuncData) (ps : List Str) (R : Value → PyData → Prop) : Prop where
  one : ps.length = 1
  run : ∀ (A : Around) (out : List Env) (s0 : Shared) (H : Hp) (ag : Args) (p : Addr × Obj) (cls : Value) (d : PyData) (Q : VK) (E : XK), L2H.RoomH n A → L2H.Hot1 A p → L2H.PinOk out H s0 p → Env0 P w K mg base A out s0 H → BindsTo s0 fd ag (ps.zip [Value.ref p.1]) → Zc cls none p.2 → (∃ v, p.2.data = .fields v) → R cls d →
    (∃ H0, Ex H0 H ∧ ∀ v H0' H', Ext H0 H H0' H' → Dp K H0' v d → Q v H') → codeAny (model P w) A (.call (.ref f) ag) (CR CX0 out P w H s0 Q E) s0
section
variable {P : Program} {w : World} {K : PySem.W.Frag} {mg : Str → Option Value} {base : Heap}
theorem fnE_of {x qual : Str} {st : Stmt} {f : Addr} {fd : FuncData} {N ps : List Str} {n : Nat} {R : Value → PyData → Prop} (F : Fun K x qual st f fd) (Sc : FnScope N ps (defScope st)) (h1 : ps.length = 1)
    (hbody : ∀ (cd0 : Value) (A : Around) (out : List Env) (s0 : Shared) (H : Hp) (E : XK) (B : Bs) (p : Addr × Obj) (cls : Value) (d : PyData), L2H.RoomH n (A.deeper (envOfC qual (defScope st) s0.heap.objs.size f cd0)) → Zc cls none p.2 → (∃ v, p.2.data = .fields v) → R cls d →
      GSs (L2H.cxH CX0 P w K mg base N qual (defScope st) f cd0 A out s0 H E p) B (gamS N.length [.raw (.ref p.1)]) [] (defBody st) { N := fun _ _ => d = .none, R := fun r _ => r = .dat d }) : FnE P w K mg base (n + 1) f fd ps R := by
  refine ⟨h1, ?_⟩
  intro A out s0 H ag p cls d Q E room hot pin env hbind hz hdat hR ⟨H0, hex, hQ⟩
  obtain ⟨_, _, _, _, _, _, cd0, _, _, hfd, hlk, hcode⟩ := F.ex
  subst hfd
  have kin : K.In s0.heap := env.mod.kin.keeps fun _ _ e => (env.bs _ _ e).1
  have free : s0.heap.NoLimit := env.mod.nolimit.keeps fun _ _ e => (env.bs _ _ e).1
  have hv : Vals [V.ref p.1] [Value.ref p.1] := .cons rfl .nil
  refine codeAny_call_function room.depth (kin _ _ hlk) rfl Sc.co Sc.gen rfl (PySem.W.codeRec_of kin hcode) (hbind _ _ _ _ (wpAny_newFunctionEnv_cells Sc.kind (fun y hy => ?_) fun env2 he s1 made => ?_))
  · rcases Sc.par y.1 (List.of_mem_zip (a := y.1) (b := y.2) hy).1 with q | q
    · exact Or.inl q
    · exact Or.inr ⟨q, PySem.W.cellsFrom_some _ _ _ (Or.inl q)⟩
  subst he
  refine ⟨free.keeps made.toInCall.keep, codeAny_func ?_⟩
  have start : Inv (L2H.cxH CX0 P w K mg base N qual (defScope st) f cd0 A out s0 H E p) [] (L2.start N [V.ref p.1]) H s1 := L2H.inv_startH Sc pin env (by rw [h1]; rfl) hv made
  have hle : ps.length ≤ N.length := by have := congrArg List.length Sc.pre; rw [List.length_take] at this; omega
  have go := hbody cd0 A out s0 H E ⟨H0, H, [], fun _ _ _ _ => False⟩ p cls d (room.deeper _) hz hdat hR
  have done : ∀ {σ2 : St} {H2 : Hp} {v2 : V} {u2 : Value} {s2 : Shared}, Inv (L2H.cxH CX0 P w K mg base N qual (defScope st) f cd0 A out s0 H E p) [] σ2 H2 s2 → RelV v2 u2 → Q v2 H2 → CE out P w H s0 Q u2 s2 := fun {σ2 H2 v2 u2 s2} J rv q => ⟨v2, H2, J.os, J.bare, J.base, J.hok, rv, q⟩
  refine wpAny_mono (go.run [] s1 (L2.start N [V.ref p.1]) H { nx := fun _ H' => Q .non H', rt := Q } start ⟨H0, ⟨Fra.refl hex, env_startS (as := [.raw (.ref p.1)]) (.cons rfl .nil) (by show 1 ≤ N.length; omega), StoOk.nil, fun _ z => nomatch z⟩, ?_, ?_, ?_, ?_, ?_⟩) (fun fl s2 hs => ?_) fun _ _ z => z
  · intro Γ S' H0' σ2 H2 hd a
    subst hd
    exact hQ _ H0' H2 a.fra.toExt .non
  · intro r Γ S' v H0' σ2 H2 hr a hv2
    subst hr
    exact hQ _ H0' H2 a.fra.toExt hv2.toDp
  · exact fun _ _ _ _ _ z => z.elim
  · exact fun _ _ _ _ _ z => z.elim
  · exact fun _ _ _ _ _ _ z => z.elim
  · cases fl with
    | ret u2 =>
      obtain ⟨_, _, _, J, rv, q⟩ := hs
      exact done J rv q
    | next =>
      obtain ⟨_, _, J, q⟩ := hs
      exact done (v2 := V.non) (u2 := Value.none) J rfl q
    | brk => exact False.elim hs.choose_spec.choose_spec.2
    | cont => exact False.elim hs.choose_spec.choose_spec.2
end
section
variable {X : Cx} {B : Bs} {Γ : Gam} {S : Sto} {a e : Expr} {d : PyData} {pos : Pos}
theorem call_isP {q D : Addr} {oe : Obj} (hin : (q, oe) ∈ X.pn) (C : ExcC X.K D) (hz : Zc (.ref D) none oe) (hf : ∃ v, oe.data = .fields v) : CallR X (.builtin "isinstance") (rIsE X.K D q) := by
  intro pins s σ H xs us Q inv r ⟨c, cv, b, hxs, hcv, hk, hQ⟩
  subst hxs
  obtain ⟨u1, u2, rfl, r1, r2⟩ : ∃ u1 u2, us = [u1, u2] ∧ RelV (.ref q) u1 ∧ RelV c u2 := by
    cases r with
    | cons r1 r =>
      cases r with
      | cons r2 r =>
        cases r
        exact ⟨_, _, rfl, r1, r2⟩
  cases r1
  have e2 := hcv _ r2
  subst e2
  have stands := (inv.pin (q, oe) (List.mem_append_left _ hin)).1
  obtain ⟨v, hv⟩ := hf
  have at_ : PySem.W.InstAt s.heap q oe D none := by
    rcases oe with ⟨_, _, _, _⟩
    obtain ⟨z1, z2⟩ := hz
    simp only at z1 z2 hv
    subst z1 z2 hv
    exact ⟨stands, rfl, rfl, trivial⟩
  exact PySem.W.kia_one (PySem.W.handS_kitx_exc C.hg C.hk C.hs C.hd C.ha C.hn C.ht C.hm) inv.kIn at_ hk (fun z => nomatch z) fun t => ⟨.bl b, H, inv.kept (t' := t) fun _ _ z => z, rfl, hQ⟩
/-- isinstance(e, T), e the exception in hand -/
theorem gd_isE {q D : Addr} {oe : Obj} {f T : Str} {p p2 : Pos} {c : V} {cv : Value} {b : Bool} (hin : (q, oe) ∈ X.pn) (C : ExcC X.K D) (hz : Zc (.ref D) none oe) (hf : ∃ v, oe.data = .fields v) (hg : Gl X f) (hm : X.mg f = none) (hv : bootBuiltins f = some (.builtin "isinstance"))
    (hT : PE X (.Name T p2) (tC c)) (hcv : ∀ u, RelV c u → u = cv) (hk : PySem.W.kitOne X.K (.ref D) cv = some b) (ha : GR X B Γ S a (.ref q)) (hn : f ≠ "__name__" := by decide) (hdb : (f == ("__debug__" : Str)) = false := by decide)
    (he : starEach [a, .Name T p2] X.env = (false, eval a X.env) :: starEach [.Name T p2] X.env := by rfl) (he2 : starEach [.Name T p2] X.env = (false, eval (.Name T p2) X.env) :: starEach [] X.env := by rfl) (hpl : (backTo pos (starEach [.Name T p2] X.env)).any (·.1) = false := by rfl) : GD X B Γ S (.Call (.Name f p) [a, .Name T p2] [] pos) (.bool b) :=
  (pe_callB (call_isP hin C hz hf) hg hm hv (pa_cons ha (pa_cons hT pa_nil he2) he) hn hdb he hpl).imp fun σ H Q ⟨H0, at0, k⟩ => ⟨H0, at0, fun v H1 H' at1 e1 hv => by
    have hv : (some (some v) : Option (Option V)) = some (some (.ref q)) := hv
    cases hv
    exact ⟨c, cv, b, rfl, hcv, hk, k _ H1 H' at1 e1 ⟨_, rfl, .bl _⟩⟩⟩
/-- f(e), e the exception in hand -/
theorem gd_callE {n : Nat} {x : Str} {q : Pos} {f : Addr} {fd : FuncData} {ps : List Str} {R : Value → PyData → Prop} {p : Addr × Obj} {cls : Value} (F : FnE X.prog X.w X.K X.mg X.base n f fd ps R) (room : L2H.RoomH n X.A) (hot : L2H.Hot1 X.A p) (hin : p ∈ X.pn) (hz : Zc cls none p.2) (hdat : ∃ v, p.2.data = .fields v) (hR : R cls d)
    (hg : Gl X x) (hm : X.mg x = some (.ref f)) (hk : PySem.W.keepIn X.K (.ref f) = true) (hb : Binds X.K fd ps []) (ha : GR X B Γ S e (.ref p.1)) (hdb : (x == ("__debug__" : Str)) = false := by decide)
    (he : starEach [e] X.env = (false, eval e X.env) :: starEach [] X.env := by rfl) (hpl : (backTo pos (starEach [] X.env)).any (·.1) = false := by rfl) : GD X B Γ S (.Call (.Name x q) [e] [] pos) d := by
  refine ⟨fun pins s σ H Q inv ⟨H0, at0, k⟩ => wpAny_Call_Name_kw (ld_glob inv hg hm (PySem.W.callWith_K (h₀ := X.base) inv.ok.mod.kin hk (thn ((gas_cons ha gas_nil he).run pos pins s σ H (fun vs H1 => vs = [V.ref p.1] ∧ ∃ H2, At X.K B H2 Γ S σ H1 ∧ Ex H0 H2) inv ⟨H0, at0, fun vs H1 H' at1 e1 hvs => ?_⟩) fun us s1 hh => ?_) he hpl) hdb)⟩
  · cases hvs with
    | cons h1 h2 =>
      cases h2
      have h1 : (some (some _) : Option (Option V)) = some (some (.ref p.1)) := h1
      cases h1
      exact ⟨rfl, H1, at1, e1⟩
  · obtain ⟨vs, H1, inv1, r, hvs, H2, at1, e1⟩ := hh
    subst hvs
    refine ⟨inv1.kIn, ?_⟩
    obtain ⟨rfl⟩ : us = [Value.ref p.1] := by
      cases r with
      | cons r1 r2 =>
        cases r2
        cases r1
        rfl
    have bnd := hb s1 [Value.ref p.1] inv1.kIn (by rw [List.append_nil, F.one]; rfl)
    rw [List.append_nil] at bnd
    have there := inv1.pin p (List.mem_append_left _ hin)
    have pin : L2H.PinOk X.stack H1 s1 p := ⟨there.1, there.2.1, fun z => (List.mem_cons.mp (inv1.stkSub p.1 z)).elim there.2.2.1 there.2.2.2.1, there.2.2.2.2⟩
    have run := F.run X.A X.stack s1 H1 ⟨[Value.ref p.1], []⟩ p cls d Q (fun _ _ _ => False) room hot pin inv1.env0 bnd hz hdat hR ⟨H2, at1.e2, fun v H0' H' ext hd => k v H0' H' (at1.ext ext) (e1.trans ext.e0) ⟨_, rfl, hd⟩⟩
    refine wpAny_call (codeAny_mono run fun r s2 hq => ?_)
    match r, hq with
    | .error _, hq => exact False.elim hq
    | .ok (.ret _), hq => exact inv1.after hq
    | .ok .next, hq => exact False.elim hq
    | .ok .brk, hq => exact False.elim hq
    | .ok .cont, hq => exact False.elim hq
end
section
variable {X : Cx} {B : Bs} {Γ : Gam} {S : Sto} {pos pos' np : Pos} {P : Po} {body suite : List Stmt} {b₀ : Stmt} {x n : Str} {c : Value} {i : Nat}
/-- the ends of a suite whose name goes -/
abbrev Po.named (P : Po) (i : Nat) : Po := { N := fun Γ S => P.N (Γ.set i .un) S, R := P.R, bk := fun Γ S => P.bk (Γ.set i .un) S, ct := fun Γ S => P.ct (Γ.set i .un) S }
theorem At.unset {K : PySem.W.Frag} {H0 H : Hp} {σ : St} (a : At K B H0 Γ S σ H) (i : Nat) : At K B H0 (Γ.set i .un) S (σ.set i none) H := ⟨a.fra, env_un a.env, a.sto, a.wr⟩
def tsA (K : PySem.W.Frag) (B : Bs) (P : Po) (i : Nat) (Pc : Value → Gam → Sto → Prop) : Addr → Value → Option Addr → TS := fun a cls d D σ H => d = none ∧ ∃ Γ' S', Pc cls Γ' S' ∧ rs K B (Γ'.set i (.raw (.ref a))) S' (P.named i) D σ H
/-- try: body, except T as n: suite (all that the body raises is of T) -/
theorem gs_tryA (hs : X.stack = X.env :: X.outer) (hf : X.env.frame = some X.env.locals) (hN : X.N.Nodup) (hi : X.N[i]? = some n) (hln : X.env.kindOf n = some .local) (hc : Names X x c) (Px : Value → Gam → Sto → Prop)
    (hb : ∀ (W : WX) (pn : List (Addr × Obj)) (xe : Value → Shared → Prop), L2N.Takes (X.tr pn xe) W → PassesOwn (model X.prog X.w) X.A X.env xe → GSs (X.tr pn xe) (B.E0 W) Γ S body { N := P.N, R := P.R, bk := P.bk, ct := P.ct, ex := Px })
    (hm : ∀ cls Γ' S', Px cls Γ' S' → PySem.W.exmOne X.K cls c = some true)
    (hsu : ∀ (a : Addr) (oe : Obj) (cls : Value) (pn : List (Addr × Obj)) Γ' S', L2N.Zn cls none oe → (∃ v, oe.data = .fields v) → Px cls Γ' S' → GSs (X.suite a ((a, oe) :: pn)) B (Γ'.set i (.raw (.ref a))) S' (b₀ :: suite) (P.named i)) :
    GS X B Γ S (.Try body [.ExceptHandler (some (.Name x np)) (some n) (b₀ :: suite) pos'] [] [] pos) P :=
  (L2N.ps_try_as (Wout := fun _ _ _ _ => False) (ts := tsA X.K B P i Px) (tb := fun W => rs X.K (B.E0 W) Γ S { N := P.N, R := P.R, bk := P.bk, ct := P.ct, ex := Px }) hs hf hN hi hln hc (fun _ _ ⟨_, _, _, _, _, _, _, _, _, _, _, _, _, _, _, _, w⟩ => w.elim) hb
    (fun a oe cls d pn hz hd => ⟨fun pins s σ H D inv ⟨e, Γ', S', q, z⟩ => by subst e; exact (hsu a oe cls pn Γ' S' hz hd q).run pins s σ H D inv z⟩)).imp fun D σ H ⟨H0, at0, z⟩ =>
    ⟨H0, at0.reE, fun Γ' S' H0' σ' H' q a => z.nx Γ' S' H0' σ' H' q a.unE, fun r Γ' S' v H0' σ' H' q a hv => z.rt r Γ' S' v H0' σ' H' q a.unE hv, fun Γ' S' H0' σ' H' q a => z.bk Γ' S' H0' σ' H' q a.unE, fun Γ' S' H0' σ' H' q a => z.ct Γ' S' H0' σ' H' q a.unE, fun cls Γ' S' H0' σ' H' q a =>
      ⟨true, hm cls Γ' S' q, fun _ b _ => ⟨rfl, Γ', S', q, H0', a.unE.set i (v := .ref b) (s := .raw (.ref b)) rfl, fun Γ1 S1 G σ1 H1 q1 a1 => z.nx _ _ G _ H1 q1 (a1.unset i), fun r Γ1 S1 v G σ1 H1 q1 a1 hv => z.rt r Γ1 S1 v G σ1 H1 q1 a1 hv, fun Γ1 S1 G σ1 H1 q1 a1 => z.bk _ _ G _ H1 q1 (a1.unset i), fun Γ1 S1 G σ1 H1 q1 a1 => z.ct _ _ G _ H1 q1 (a1.unset i), fun _ _ _ _ _ _ w _ => w.elim⟩, fun w => nomatch w⟩⟩
end
/-! ### lists of what is no data -/
def raE (K : PySem.W.Frag) (B : Bs) (Γ : Gam) (S : Sto) (Pa : List Sl → Sto → Prop) : TA := fun σ H Q => ∃ H0, At K B H0 Γ S σ H ∧ ∀ as S' vs H0' H', Pa as S' → At K B H0' Γ S' σ H' → Ex H0 H0' → ArgsOk K H0' vs as → Q vs H'
/-- a row of expressions, each with effects, nothing raised -/
abbrev GEA (X : Cx) (B : Bs) (Γ : Gam) (S : Sto) (es : List Expr) (Pa : List Sl → Sto → Prop) : Prop := PA X es (raE X.K B Γ S Pa)
section
variable {X : Cx} {B : Bs} {Γ : Gam} {S : Sto} {e o b it : Expr} {es : List Expr} {ds : List PyData} {ws : List V} {pos : Pos} {P : Po} {n : Nat} {p : Addr} {r : Sl} {x : Str} {j : Nat} {body : List Stmt} {px : Pos}
theorem gea_nil {Pa : List Sl → Sto → Prop} (h : Pa [] S) : GEA X B Γ S [] Pa := pa_nil.imp fun σ H Q ⟨H0, at0, k⟩ => k [] S [] H0 H h at0 (Ex.refl _) .nil
theorem gea_cons {Pe : Sl → Sto → Prop} {Pa : List Sl → Sto → Prop} (he : GE X B Γ S e Pe (fun _ _ _ => False)) (ht : ∀ r S', Pe r S' → GEA X B Γ S' es (fun as S'' => Pa (r :: as) S'')) (hs : starEach (e :: es) X.env = (false, eval e X.env) :: starEach es X.env := by rfl) : GEA X B Γ S (e :: es) Pa := by
  have hrest : PA X es (fun σ H Q => ∃ r S', Pe r S' ∧ raE X.K B Γ S' (fun as S'' => Pa (r :: as) S'') σ H Q) := ⟨fun pos pins s σ H Q I ⟨r, S', hp, z⟩ => (ht r S' hp).run pos pins s σ H Q I z⟩
  exact (pa_cons he hrest hs).imp fun σ H Q ⟨H0, at0, k⟩ => ⟨H0, at0, fun r S' v H1 H' hp at1 e1 hv => ⟨r, S', hp, H1, at1, fun as S'' vs H2 H'' hp2 at2 e2 hvs => k (r :: as) S'' (v :: vs) H2 H'' hp2 at2 (e1.trans e2) (.cons (hv.ext e2) hvs)⟩, fun _ _ _ _ w => w.elim⟩
theorem raws_of {K : PySem.W.Frag} {H0 : Hp} : ∀ {ws vs : List V}, ArgsOk K H0 vs (ws.map Sl.raw) → vs = ws
  | [], _, .nil => rfl
  | w :: ws, _, .cons h t => by
    have h : (some (some _) : Option (Option V)) = some (some w) := h
    cases h
    rw [raws_of t]
/-- [e, ..], the elements no data -/
theorem ge_lsR {Pa : List V → Sto → Prop} (h : GEA X B Γ S es (fun as S' => ∃ ws, as = ws.map Sl.raw ∧ ws.length ≤ 100000 ∧ Pa ws S')) {ex : Value → Gam → Sto → Prop} : GE X B Γ S (.List es pos) (fun r S' => ∃ p ws S1, B.H p = none ∧ Pa ws S1 ∧ r = .raw (.ref p) ∧ S' = (p, .ho (.lst ws)) :: S1) ex :=
  (pe_lst h).imp fun σ H Q ⟨H0, at0, k, _⟩ => ⟨H0, at0, fun as S' vs H1 H' ⟨ws, e, hl, hp⟩ at1 e1 hvs => by
    subst e
    have e := raws_of hvs
    subst e
    exact ⟨Evl.sz_of hl, fun q hq => k _ _ (.ref q) H1 _ ⟨q, vs, S', none_B at1.fra hq, hp, rfl, rfl⟩ (at1.own (ow := .ho (.lst vs)) (o := .lst vs) hq upd_same) e1 rfl⟩⟩
/-- [e, ..], each element data or not -/
theorem ge_lsS {Pa : List Sl → Sto → Prop} (h : GEA X B Γ S es (fun as S' => as.length ≤ 100000 ∧ Pa as S')) {ex : Value → Gam → Sto → Prop} : GE X B Γ S (.List es pos) (fun r S' => ∃ p as S1, B.H p = none ∧ Pa as S1 ∧ r = .raw (.ref p) ∧ S' = (p, .ls as) :: S1) ex :=
  (pe_lst h).imp fun σ H Q ⟨H0, at0, k, _⟩ => ⟨H0, at0, fun as S' vs H1 H' ⟨hl, hp⟩ at1 e1 hvs =>
    ⟨by rw [Paired.length hvs]; exact Evl.sz_of hl, fun q hq => k _ _ (.ref q) H1 _ ⟨q, as, S', none_B at1.fra hq, hp, rfl, rfl⟩ (at1.own (ow := .ls as) (o := .lst vs) hq ⟨vs, upd_same, hvs⟩) e1 rfl⟩⟩
theorem atI_V {vs : List V} {i : Nat} {v : V} (h : vs[i]? = some v) : atI vs (i : Int) = some v := atI_nat h
/-- o[i] of such a list -/
theorem ge_ixS {as : List Sl} {i : Nat} (ho : GR X B Γ S o (.ref p)) (hi : GD X B Γ S b (.int (i : Int))) (hn : S[n]? = some (p, .ls as)) (q : as[i]? = some r) (hs : PlainIx b := by exact fun _ _ => rfl) : PE X (.Subscript o b pos) (rd X.K B Γ S r) := (pe_ix ix_list ho hi hs).imp fun σ H Q ⟨H0, at0, k⟩ => ⟨H0, at0, fun v H1 H' at1 e1 hv => ⟨H1, at1, fun w H2 H'' at2 e2 hw => by
  have hv : (some (some v) : Option (Option V)) = some (some (.ref p)) := hv
  cases hv
  have hw := hw.toDp
  cases hw
  obtain ⟨_, vs, h1, h2⟩ := at2.sto.at_ p _ (List.mem_of_getElem? hn)
  have hl := Paired.length h2
  obtain ⟨hj, _⟩ := List.getElem?_eq_some_iff.mp q
  have hu : vs[i]? = some vs[i] := List.getElem?_eq_getElem (by omega)
  exact ⟨p, vs, _, vs[i], rfl, rfl, .inl (.inl h1), atI_V hu, k _ H2 H'' at2 (e1.trans e2) (by
    obtain ⟨u, h3, h4⟩ := ArgsOk.get (i := i) h2 q
    rw [hu] at h3
    cases h3
    exact h4)⟩⟩⟩
theorem gr_ixR {v : V} {i : Nat} (ho : GR X B Γ S o (.ref p)) (hi : GD X B Γ S b (.int (i : Int))) (hn : S[n]? = some (p, .ho (.lst ws))) (q : ws[i]? = some v) (hs : PlainIx b := by exact fun _ _ => rfl) : GR X B Γ S (.Subscript o b pos) v := (pe_ix ix_list ho hi hs).imp fun σ H Q ⟨H0, at0, k⟩ => ⟨H0, at0, fun z H1 H' at1 e1 hv => ⟨H1, at1, fun w H2 H'' at2 e2 hw => by
  have hv : (some (some z) : Option (Option V)) = some (some (.ref p)) := hv
  cases hv
  have hw := hw.toDp
  cases hw
  obtain ⟨_, h1⟩ := at2.sto.at_ p _ (List.mem_of_getElem? hn)
  exact ⟨p, ws, _, v, rfl, rfl, .inl (.inl h1), atI_V q, k _ H2 H'' at2 (e1.trans e2) rfl⟩⟩⟩
/-- o.append(e), e no data, perhaps made there -/
theorem gs_appR {apos epos : Pos} {Pe : Sl → Sto → Prop} (ho : GR X B Γ S o (.ref p)) (hz0 : ∃ ws, (p, OV.ho (.lst ws)) ∈ S) (he : GE X B Γ S e Pe P.ex) (q : ∀ r S', Pe r S' → ∃ n ws v, r = .raw v ∧ S'[n]? = some (p, .ho (.lst ws)) ∧ ws.length < 100000 ∧ P.N Γ (S'.set n (p, .ho (.lst (ws ++ [v])))))
    (hbase : attributeBase o "append" X.env (eval o X.env) = eval o X.env := by rfl)
    (hfew : ((backTo pos (starEach [e] X.env)).all (fun x => !x.1) && (backToKw pos (keywordEach [] X.env)).all (fun x => x.1.isSome)
      && decide (([e] : List Expr).length + ([] : List Keyword).length + (if ([] : List Keyword).isEmpty then 0 else 1) < 30)) = true := by rfl)
    (hline : (apos.endLine == pos.line) = true := by rfl) (hs : starEach [e] X.env = (false, eval e X.env) :: starEach [] X.env := by rfl) (hplain : (backTo pos (starEach [] X.env)).any (·.1) = false := by rfl)
    (hsw : swapsWith (.Call (.Attribute o "append" apos) [e] [] pos) none epos.line X.env = pure false := by rfl) : GS X B Γ S (.Expr (.Call (.Attribute o "append" apos) [e] [] pos) epos) P :=
  (ps_expr (pe_bm PySem.F.plainAttrs_list PySem.F.slot_list_append PySem.F.type_list_append mt_append ho (pa_cons he pa_nil hs) hbase hfew hline hs hplain) hsw).imp fun D σ H ⟨H0, at0, z⟩ => ⟨H0, at0, fun v H1 H' at1 e1 hv => by
    have hv : (some (some v) : Option (Option V)) = some (some (.ref p)) := hv
    cases hv
    obtain ⟨ws0, hm0⟩ := hz0
    obtain ⟨_, h1⟩ := at1.sto.at_ p _ hm0
    refine ⟨.inl ⟨rfl, _, .inl (.inl h1)⟩, H1, at1, fun r S' y H2 H'' hp at2 e2 hy => ?_, fun cls S' H2 H'' hx at2 => z.ex cls Γ S' H2 σ H'' hx at2⟩
    obtain ⟨n, ws, u, rfl, hn, hl, hN⟩ := q r S' hp
    have hy : (some (some y) : Option (Option V)) = some (some u) := hy
    cases hy
    obtain ⟨_, h2⟩ := at2.sto.at_ p _ (List.mem_of_getElem? hn)
    exact ⟨p, ws, _, rfl, rfl, h2, Evl.sz_lt hl, z.nx _ _ H2 σ _ hN (at2.write hn upd_same)⟩⟩
/-- for x in such a list, which stays -/
theorem gs_forRaw (hp : PassesOwn (model X.prog X.w) X.A X.env X.xe) (hc : X.calm = true) (he : GR X B Γ S it (.ref p)) (hN : X.N.Nodup) (hj : X.N[j]? = some x) (hx : Loc X.env.scope x) (I : Nat → Gam → Sto → Prop) (h0 : I 0 Γ S) (hk : ∀ i Γ' S', I i Γ' S' → (p, OV.ho (.lst ws)) ∈ S')
    (hb : ∀ (i : Nat) v Γ' S' G, ws[i]? = some v → I i Γ' S' → GSs X (B.at G) (Γ'.set j (.raw v)) S' body (P.turn I i)) (hd : ∀ Γ' S', I ws.length Γ' S' → P.N Γ' S')
    (hs : ∀ y, foldedSetIterable it X.env y = pure y := by intro _; rfl) (hf : X.fn x = true ∨ X.env.scope.names.lookup x = some .local := by first | exact .inl rfl | exact .inr rfl | assumption) : GS X B Γ S (.For (.Name x px) it body [] pos) P := by
  have hbody : PSs X body (fun D σ H => ∃ (i : Nat) (v : V) (Γ' : Gam) (S' : Sto) (G : Hp), ws[i]? = some v ∧ I i Γ' S' ∧ rs X.K (B.at G) (Γ'.set j (.raw v)) S' (P.turn I i) D σ H) := ⟨fun pins s σ H D Iv ⟨i, v, Γ', S', G, h1, h2, z⟩ => (hb i v Γ' S' G h1 h2).run pins s σ H D Iv z⟩
  refine (ps_for hp hc (pi_list he) (pg_name (i := j) hN hj hx hf) hbody hs).imp fun D σ H ⟨H0, at0, z⟩ => ⟨H0, at0, fun v H1 H' at1 e1 hv => ?_⟩
  have hv : (some (some v) : Option (Option V)) = some (some (.ref p)) := hv
  cases hv
  have now : ∀ {i : Nat} {Γ' : Gam} {S' : Sto} {G Hn : Hp} {σ' : St}, I i Γ' S' → At X.K B G Γ' S' σ' Hn → SqL X.K Hn p ws := fun hI a => .inl (.inl (a.sto.at_ p _ (hk _ _ _ hI)).2)
  refine ⟨p, rfl, ⟨ws, now h0 at1⟩, for_list (K := X.K) (a := p) (xs := ws) (g := gName j) (tb := fun D σ H => ∃ (i : Nat) (v : V) (Γ' : Gam) (S' : Sto) (G : Hp), ws[i]? = some v ∧ I i Γ' S' ∧ rs X.K (B.at G) (Γ'.set j (.raw v)) S' (P.turn I i) D σ H) (D := D) (fun i σ H => ∃ Γ' S' H0, I i Γ' S' ∧ At X.K B H0 Γ' S' σ H) ⟨Γ, S, H1, h0, at1⟩ (fun i σ H _ pv => ?_) (fun i y σ H hi pv => ?_) fun σ H pv => ?_⟩
  · obtain ⟨Γ', S', G, hI, at2⟩ := pv
    exact now hI at2
  · obtain ⟨Γ', S', G, hI, at2⟩ := pv
    exact ⟨i, y, Γ', S', G, hi, hI, G, at2.rebase.set j (s := .raw y) rfl, turn_endz at2.fra z _ fun Γ1 S1 H2 σ2 H3 q a _ => ⟨Γ1, S1, H2, q, a⟩⟩
  · obtain ⟨Γ', S', G, hI, at2⟩ := pv
    exact z.nx Γ' S' G σ H (hd Γ' S' hI) at2
end
section
variable {X : Cx} {B : Bs} {Γ : Gam} {S : Sto} {a b : Expr} {ds es : List PyData} {ws : List V} {d : PyData} {pos : Pos} {p : Addr}
/-- lists that are owned, seen as data as they stand -/
abbrev Seen (S : Sto) (ws : List V) (ds : List PyData) : Prop := Paired (fun w d => ∃ q es, w = .ref q ∧ d = .list es ∧ (q, OV.lst es) ∈ S) ws ds
theorem seen_all {K : PySem.W.Frag} {H0 H : Hp} (e : Ex H0 H) (h : StoOk K H0 H S) : ∀ {ws : List V} {ds : List PyData}, Seen S ws ds → DpAll K H ws ds
  | _, _, .nil => .nil
  | _, _, .cons ⟨q, es, h1, h2, h3⟩ t => by
    subst h1 h2
    obtain ⟨_, vs, k1, k2⟩ := h.at_ q _ h3
    exact .cons (.lst (.inl (.inl k1)) (dps_ex e _ _ k2)) (seen_all e h t)
theorem gt_neV (hu : X.A.units + 64 < cLine) (ha : GR X B Γ S a (.ref p)) (hb : GD X B Γ S b d) (hm : (p, OV.ho (.lst ws)) ∈ S) (hs : Seen S ws ds) (h1 : SeqAt.shaped (.list ds) = true) (h2 : SeqAt.shaped d = true) : GT X B Γ S (.Compare a [.NotEq] [b] pos) (!PyData.eqv (.list ds) d) :=
  (pt_cmpR (op_neD hu) ha hb (nomark _)).imp fun σ H Q ⟨H0, at0, k⟩ => ⟨H0, at0, fun v H1 H' at1 e1 hv => ⟨H1, at1, fun w H2 H'' at2 e2 hw => by
    have hv : (some (some v) : Option (Option V)) = some (some (.ref p)) := hv
    cases hv
    obtain ⟨_, k1⟩ := at2.sto.at_ p _ hm
    exact ⟨.list ds, d, .lst (.inl (.inl k1)) (seen_all at2.e2 at2.sto hs), dp_ex at2.e2 _ _ hw.toDp, h1, h2, _, rfl, k H2 H'' at2 (e1.trans e2)⟩⟩⟩
end
/-! ### tests with effects -/
section
variable {X : Cx} {B : Bs} {Γ : Gam} {S : Sto} {a b : Expr} {rest : List Expr} {d : PyData} {pos : Pos} {Pe : Sl → Sto → Prop} {Pt Pt' : Bool → Sto → Prop} {ex : Value → Gam → Sto → Prop}
abbrev GWE (X : Cx) (B : Bs) (Γ : Gam) (S : Sto) (e : Expr) (Pt : Bool → Sto → Prop) (ex : Value → Gam → Sto → Prop) : Prop := PW X e (rtE X.K B Γ S Pt ex)
theorem gwe_or1 (ha : GTE X B Γ S a Pt ex) : GWE X B Γ S (.BoolOp .Or [a] pos) Pt ex := pw_or1 ha
theorem gwe_or (ha : GTE X B Γ S a Pt' ex) (ht : ∀ S', Pt' true S' → Pt true S') (hb : ∀ S', Pt' false S' → GWE X B Γ S' (.BoolOp .Or (b :: rest) pos) Pt ex) : GWE X B Γ S (.BoolOp .Or (a :: b :: rest) pos) Pt ex := by
  refine ⟨fun wh pins s σ H Q I h => ?_⟩
  obtain ⟨H0, at0, q, qx⟩ := h
  refine isTrue_or (thn (ha.run pins s σ H (fun c H' => ∃ S' H0', Pt' c S' ∧ At X.K B H0' Γ S' σ H' ∧ Ex H0 H0') I ⟨H0, at0, fun c S' H0' H' hp at1 e1 => ⟨S', H0', hp, at1, e1⟩, qx⟩) fun c s1 h1 => ?_)
  obtain ⟨H1, I1, S', H0', hp, at1, x1⟩ := h1
  cases c with
  | true => exact ⟨H1, I1, q true S' H0' H1 (ht S' hp) at1 x1⟩
  | false => exact (hb S' hp).run wh pins s1 σ H1 Q I1 ⟨H0', at1, fun c2 S2 H2 H2' hp2 at2 e2 => q c2 S2 H2 H2' hp2 at2 (x1.trans e2), qx⟩
theorem gte_w (h : GWE X B Γ S a Pt ex) : GTE X B Γ S a Pt ex := h.pt
/-- e != f, e with effects -/
theorem gte_ne (hu : X.A.units + 64 < cLine) (ha : GE X B Γ S a Pe ex) (hb : ∀ r S', Pe r S' → GD X B Γ S' b d) (hd : ∀ r S', Pe r S' → ∃ d1, r = .dat d1 ∧ SeqAt.shaped d1 = true ∧ SeqAt.shaped d = true ∧ Pt (!PyData.eqv d1 d) S') : GTE X B Γ S (.Compare a [.NotEq] [b] pos) Pt ex := by
  have hb' : PE X b (fun σ H Q => ∃ r S', Pe r S' ∧ rd X.K B Γ S' (.dat d) σ H Q) := ⟨fun pins s σ H Q I ⟨r, S', m, z⟩ => (hb r S' m).run pins s σ H Q I z⟩
  refine (pt_cmpR (op_neD hu) ha hb' (nomark _)).imp fun σ H Q ⟨H0, at0, k, kx⟩ => ⟨H0, at0, fun r S' v H1 H' hp at1 e1 hv => ⟨r, S', hp, H1, at1, fun w H2 H'' at2 e2 hw => ?_⟩, kx⟩
  obtain ⟨d1, hr, s1, s2, hP⟩ := hd r S' hp
  subst hr
  exact ⟨d1, d, dp_ex (e2.trans at2.e2) _ _ hv.toDp, dp_ex at2.e2 _ _ hw.toDp, s1, s2, _, rfl, k _ S' H2 H'' hP at2 (e1.trans e2)⟩
end
/-! ### what is owned, in any order, less some -/
def Within (S2 S : Sto) : Prop := ∃ l : Sto, l.Perm S2 ∧ l.Sublist S
theorem Within.of_perm {S2 S : Sto} (h : S.Perm S2) : Within S2 S := ⟨S, h, List.Sublist.refl _⟩
theorem Within.keys_nd {S2 S : Sto} (h : Within S2 S) (nd : (keys S).Nodup) : (keys S2).Nodup := by
  obtain ⟨l, hp, hs⟩ := h
  exact (hp.map _).nodup_iff.mp (nd.sublist (hs.map _))
theorem At.within {K : PySem.W.Frag} {B : Bs} {H0 H : Hp} {Γ : Gam} {S S2 : Sto} {σ : St} (a : At K B H0 Γ S σ H) (h : Within S2 S) : At K B H0 Γ S2 σ H := by
  have hin : ∀ e ∈ S2, e ∈ S := fun e he => by
    obtain ⟨l, hp, hs⟩ := h
    exact hs.subset (hp.mem_iff.mpr he)
  refine ⟨a.fra, a.env, ⟨fun p ov m => a.sto.at_ p ov (hin _ m), h.keys_nd a.sto.nd⟩, fun p hp => ?_⟩
  obtain ⟨ov, m⟩ := of_keys hp
  exact a.wr p (mem_keys (hin _ m))
section
variable {X : Cx} {B : Bs} {Γ : Gam} {S S2 : Sto} {rest : List Stmt} {P : Po}
theorem gss_within (h : Within S2 S) (k : GSs X B Γ S2 rest P) : GSs X B Γ S rest P := k.imp fun D σ H ⟨H0, at0, z⟩ => ⟨H0, at0.within h, z⟩
end
/-! ### a comprehension over a list of what is no data -/
section
variable {X : Cx} {B : Bs} {Γ : Gam} {S : Sto} {o elt : Expr} {ws : List V} {q : Addr} {x : Str} {p lp : Pos} {j : Nat} {scope : Scope}
def teW (K : PySem.W.Frag) (B : Bs) (Γ : Gam) (S : Sto) (ws : List V) (j : Nat) (g : Nat → PyData) : TE := fun σ H Q => ∃ (i : Nat) (D : Addr) (acc : List PyData) (v : V), ws[i]? = some v ∧ rd K B ((wipeG Γ [j]).set j (.raw v)) ((D, .lst acc) :: S) (.dat (g i)) σ H Q
theorem gd_lcW (g : Nat → PyData) (hc : X.calm = true) (hN : X.N.Nodup) (ho : GR X B Γ S o (.ref q)) (hm : (q, OV.ho (.lst ws)) ∈ S) (hl : ws.length ≤ 100000) (ok : BlkOk X.N X.env.scope scope [(x, j)])
    (htg : ∀ (s : Shared) (H : Hp) (C : Addr) (cl : List (Str × Addr)) (fp : List Addr), PG (X.blk s H scope (compEnvC scope cl C X.env) fp) (.Name x p) (gName j))
    (hel : ∀ (i : Nat) (D : Addr) (acc : List PyData) (v : V), ws[i]? = some v → ∀ (s : Shared) (H : Hp) (C : Addr) (cl : List (Str × Addr)) (fp : List Addr), GD (X.blk s H scope (compEnvC scope cl C X.env) fp) B ((wipeG Γ [j]).set j (.raw v)) ((D, .lst acc) :: S) elt (g i))
    (hfs : ∀ y, foldedSetIterable o X.env y = pure y := by intro _; rfl) : GD X B Γ S (.ListComp elt [⟨.Name x p, o, [], 0⟩] scope lp) (.list ((List.range ws.length).map g)) :=
  (pe_lc (own := [(x, j)]) hc hN (pi_list ho) ok htg (fun _ _ _ _ _ => pts_nil) (te := teW X.K B Γ S ws j g) (fun s H C cl fp => ⟨fun pins s' σ H' Q Iv ⟨i, D, acc, v, h1, z⟩ => (hel i D acc v h1 s H C cl fp).run pins s' σ H' Q Iv z⟩) hfs).imp fun σ H Q ⟨H0, at0, k⟩ => ⟨H0, at0, fun v H1 H' at1 e1 hv => by
    have hv : (some (some v) : Option (Option V)) = some (some (.ref q)) := hv
    cases hv
    obtain ⟨_, here⟩ := at1.sto.at_ q _ hm
    refine ⟨q, rfl, ⟨ws, .inl (.inl here)⟩, fun D hD => ?_⟩
    have hB : B.H D = none := none_B at1.fra hD
    refine lc_list (K := X.K) (a := q) (xs := ws) (g := gName j) (tt := tYes) (te := teW X.K B Γ S ws j g) (vs := [j]) (σ := σ) (D := D) (Qd := fun H => Q (.ref D) H) (fun i H => i ≤ ws.length ∧ ∃ H0, At X.K B H0 Γ ((D, .lst ((List.range i).map g)) :: S) σ H ∧ Ex H1 H0) ⟨Nat.zero_le _, H1, at1.own hD ⟨[], upd_same, .nil⟩, Ex.refl _⟩ (fun i H _ pv => ?_) (fun i y H hi pv => ?_) fun H pv => ?_
    · obtain ⟨_, G, at2, _⟩ := pv
      exact .inl (.inl (at2.sto.at_ q _ (List.mem_cons_of_mem _ hm)).2)
    · obtain ⟨_, G, at2, e2⟩ := pv
      have hlt : i < ws.length := (List.getElem?_eq_some_iff.mp hi).1
      refine ⟨wipe_set1, ?_⟩
      refine ⟨i, D, _, y, hi, G, (at2.wipe [j]).set j (s := .raw y) rfl, fun v H2 H'' at3 e3 hv => ?_⟩
      obtain ⟨_, acc, h1, h2⟩ := at3.sto.at_ D _ List.mem_cons_self
      refine ⟨acc, h1, ?_, hlt, H2, ?_, e2.trans e3⟩
      · rw [dps_len h2, List.length_map, List.length_range]; exact Evl.sz_lt (by omega)
      · have a4 := at2.frame at3 e3
        have a5 := a4.write (n := 0) (ow := .lst ((List.range i).map g ++ [g i])) (o := .lst (acc ++ [v])) rfl ⟨_, upd_same, dps_app h2 (.cons hv.toDp .nil)⟩
        rw [List.range_succ, List.map_append]
        exact a5
    · obtain ⟨_, G, at2, e2⟩ := pv
      obtain ⟨G', e3, at3, hd⟩ := at2.freeze (n := 0) rfl hB
      exact k _ G' H at3 ((e1.trans e2).trans e3) ⟨_, rfl, hd⟩⟩
/-- a pure expression asks for a part of the store only -/
theorem gd_within {S2 F : Sto} {e : Expr} {d : PyData} (hp : S.Perm (S2 ++ F)) (h : GD X B Γ (S2 ++ F) e d) : GD X B Γ S e d := h.imp fun σ H Q ⟨H0, at0, k⟩ => ⟨H0, at0.within (.of_perm hp), fun v H1 H' at1 e1 hv => k v H1 H' (at1.within (.of_perm hp.symm)) e1 hv⟩
end
/-! ### more of lists, stores -/
section
variable {X : Cx} {B : Bs} {Γ Γ2 : Gam} {S S2 : Sto} {e : Expr} {es : List Expr} {ds : List PyData} {pos pos' lpos : Pos} {P : Po} {x : Str} {r : Sl} {rest : List Stmt}
theorem gea_F {Pa : List Sl → Sto → Prop} (he : GF X B Γ S e ds) (ht : ∀ p, B.H p = none → GEA X B Γ ((p, .lst ds) :: S) es (fun as S'' => Pa (.raw (.ref p) :: as) S'')) (hs : starEach (e :: es) X.env = (false, eval e X.env) :: starEach es X.env := by rfl) : GEA X B Γ S (e :: es) Pa :=
  gea_cons (he _) (fun r S' ⟨p, hp, hr, hS⟩ => by subst hr hS; exact ht p hp) hs
theorem gea_v {Pa : List Sl → Sto → Prop} (he : PE X e (rd X.K B Γ S r)) (ht : GEA X B Γ S es (fun as S'' => Pa (r :: as) S'')) (hs : starEach (e :: es) X.env = (false, eval e X.env) :: starEach es X.env := by rfl) : GEA X B Γ S (e :: es) Pa :=
  gea_cons (Pe := fun r' S' => r' = r ∧ S' = S) (ge_of he ⟨rfl, rfl⟩) (fun r' S' ⟨h1, h2⟩ => by subst h1 h2; exact ht) hs
/-- x = [e, ..], the elements no data -/
theorem gs_setLsR {i : Nat} (hN : X.N.Nodup) (hi : X.N[i]? = some x) (hx : Loc X.env.scope x) (h : GEA X B Γ S es (fun as S' => ∃ ws, as = ws.map Sl.raw ∧ ws.length ≤ 100000 ∧ ∀ p, B.H p = none → P.N (Γ.set i (.raw (.ref p))) ((p, .ho (.lst ws)) :: S')))
    (hs : swapsWith (.List es lpos) (some (.Name x pos')) pos.line X.env = pure false := by rfl) (hf : X.fn x = true ∨ X.env.scope.names.lookup x = some .local := by first | exact .inl rfl | exact .inr rfl | assumption) : GS X B Γ S (.Assign [.Name x pos'] (.List es lpos) pos) P :=
  gs_setE hN hi hx (ge_mono (ge_lsR (ex := P.ex) (Pa := fun ws S' => ∀ p, B.H p = none → P.N (Γ.set i (.raw (.ref p))) ((p, .ho (.lst ws)) :: S')) h) (fun r S' ⟨p, ws, S1, hp, hN, hr, hS⟩ => by subst hr hS; exact hN p hp) fun _ _ h => h) hs hf
/-- the same state, told otherwise -/
theorem gss_at (h1 : Γ = Γ2) (h2 : S = S2) (k : GSs X B Γ2 S2 rest P) : GSs X B Γ S rest P := h1 ▸ h2 ▸ k
end
/-! ### while; what is told at the ends; tuples -/
section
variable {X : Cx} {B : Bs} {Γ : Gam} {S : Sto} {a b c e it : Expr} {es : List Expr} {d : PyData} {ds : List PyData} {pos lpos : Pos} {P : Po} {x : Str} {px : Pos} {r : Sl} {rest body : List Stmt} {k : Bool} {j : Nat} {i : Int}
abbrev Po.wturn (P : Po) (I : Nat → Gam → Sto → Prop) (m : Nat) : Po := { N := fun Γ' S' => ∃ m', m' < m ∧ I m' Γ' S', R := P.R, bk := P.N, ct := fun Γ' S' => ∃ m', m' < m ∧ I m' Γ' S', ex := P.ex }
theorem gs_while (hp : PassesOwn (model X.prog X.w) X.A X.env X.xe) (I : Nat → Gam → Sto → Prop) (m0 : Nat) (h0 : I m0 Γ S)
    (hb : ∀ m Γ' S', I m Γ' S' → ∃ k, GT X B Γ' S' c k ∧ (k = true → GSs X B Γ' S' body (P.wturn I m)) ∧ (k = false → P.N Γ' S')) : GS X B Γ S (.While c body [] pos) P := by
  have hc : PT X c (fun σ H Q => ∃ Γ' S' k, GT X B Γ' S' c k ∧ rt X.K B Γ' S' k σ H Q) := ⟨fun pins s σ H Q Iv ⟨_, _, _, h, z⟩ => h.run pins s σ H Q Iv z⟩
  have hbody : PSs X body (fun D σ H => ∃ m Γ' S', GSs X B Γ' S' body (P.wturn I m) ∧ rs X.K B Γ' S' (P.wturn I m) D σ H) := ⟨fun pins s σ H D Iv ⟨_, _, _, h, z⟩ => h.run pins s σ H D Iv z⟩
  refine (ps_while hp hc hbody).imp fun D σ H ⟨H0, at0, z⟩ => ⟨fun m σ H => ∃ Γ' S' H0, I m Γ' S' ∧ At X.K B H0 Γ' S' σ H, ⟨m0, Γ, S, H0, h0, at0⟩, fun m σ H ⟨Γ', S', H0, hI, at1⟩ => ?_⟩
  obtain ⟨k, ht, h1, h2⟩ := hb m Γ' S' hI
  refine ⟨Γ', S', k, ht, H0, at1, fun H0' H' at2 _ => ?_⟩
  cases k with
  | true =>
    rw [if_pos rfl]
    have nx : ∀ Γ1 S1 H1 σ1 H1', (∃ m', m' < m ∧ I m' Γ1 S1) → At X.K B H1 Γ1 S1 σ1 H1' → ∃ m', m' < m ∧ ∃ Γ' S' H0, I m' Γ' S' ∧ At X.K B H0 Γ' S' σ1 H1' := fun Γ1 S1 H1 σ1 H1' ⟨m', hm, q⟩ a => ⟨m', hm, Γ1, S1, H1, q, a⟩
    exact ⟨fun σ' H' => ∃ m', m' < m ∧ ∃ Γ' S' H0, I m' Γ' S' ∧ At X.K B H0 Γ' S' σ' H', fun σ' H' q => q, m, Γ', S', h1 rfl, H0', at2, nx, z.rt, z.nx, nx, z.ex⟩
  | false => rw [if_neg Bool.false_ne_true]; exact z.nx Γ' S' H0' σ H' (h2 rfl) at2
/-- what is told, with a part of what is owned -/
theorem gss_post {R' : Sl → Sto → Prop} {ex' : Value → Gam → Sto → Prop} (h : GSs X B Γ S rest { P with R := R', ex := ex' }) (kr : ∀ r S', R' r S' → ∃ S2, Within S2 S' ∧ P.R r S2) (kx : ∀ cls Γ' S', ex' cls Γ' S' → ∃ S2, Within S2 S' ∧ P.ex cls Γ' S2) : GSs X B Γ S rest P :=
  h.imp fun D σ H ⟨H0, at0, z⟩ => ⟨H0, at0, z.nx, fun r Γ' S' v H0' σ' H' q a hv => by
    obtain ⟨S2, w, p⟩ := kr r S' q
    exact z.rt r Γ' S2 v H0' σ' H' p (a.within w) hv, z.bk, z.ct, fun cls Γ' S' H0' σ' H' q a => by
    obtain ⟨S2, w, p⟩ := kx cls Γ' S' q
    exact z.ex cls Γ' S2 H0' σ' H' p (a.within w)⟩
theorem Within.refl {S : Sto} : Within S S := ⟨S, .refl _, .refl _⟩
theorem Within.right {S1 S : Sto} : Within S (S1 ++ S) := ⟨S, .refl _, List.sublist_append_right _ _⟩
theorem Within.left {S1 S : Sto} : Within S1 (S1 ++ S) := ⟨S1, .refl _, List.sublist_append_left _ _⟩
theorem Within.skip {o : Addr × OV} {S1 S : Sto} (h : Within S1 S) : Within S1 (o :: S) := by
  obtain ⟨l, hp, hs⟩ := h
  exact ⟨l, hp, hs.cons _⟩
theorem Within.keep {o : Addr × OV} {S1 S : Sto} (h : Within S1 S) : Within (o :: S1) (o :: S) := by
  obtain ⟨l, hp, hs⟩ := h
  exact ⟨o :: l, hp.cons _, hs.cons_cons _⟩
/-- for x in a list that is owned and stays -/
theorem gs_forO {p : Addr} (hp : PassesOwn (model X.prog X.w) X.A X.env X.xe) (hc : X.calm = true) (he : GR X B Γ S it (.ref p)) (hN : X.N.Nodup) (hj : X.N[j]? = some x) (hx : Loc X.env.scope x) (I : Nat → Gam → Sto → Prop) (h0 : I 0 Γ S)
    (hkp : ∀ i Γ' S', I i Γ' S' → (p, OV.lst ds) ∈ S')
    (hb : ∀ (i : Nat) d Γ' S' G, ds[i]? = some d → I i Γ' S' → GSs X (B.at G) (Γ'.set j (.dat d)) S' body (P.turn I i)) (hd : ∀ Γ' S', I ds.length Γ' S' → P.N Γ' S')
    (hs : ∀ y, foldedSetIterable it X.env y = pure y := by intro _; rfl) (hf : X.fn x = true ∨ X.env.scope.names.lookup x = some .local := by first | exact .inl rfl | exact .inr rfl | assumption) : GS X B Γ S (.For (.Name x px) it body [] pos) P := by
  have hbody : PSs X body (fun D σ H => ∃ (i : Nat) (d : PyData) (Γ' : Gam) (S' : Sto) (G : Hp), ds[i]? = some d ∧ I i Γ' S' ∧ rs X.K (B.at G) (Γ'.set j (.dat d)) S' (P.turn I i) D σ H) := ⟨fun pins s σ H D Iv ⟨i, d, Γ', S', G, h1, h2, z⟩ => (hb i d Γ' S' G h1 h2).run pins s σ H D Iv z⟩
  refine (ps_for hp hc (pi_list he) (pg_name (i := j) hN hj hx hf) hbody hs).imp fun D σ H ⟨H0, at0, z⟩ => ⟨H0, at0, fun v H1 H' at1 e1 hv => ?_⟩
  have hv : (some (some v) : Option (Option V)) = some (some (.ref p)) := hv
  cases hv
  obtain ⟨_, xs, hl, _⟩ := at1.sto.at_ p _ (hkp 0 Γ S h0)
  refine ⟨p, rfl, ⟨xs, .inl (.inl hl)⟩, fun i m σ H => m = ds.length - i ∧ i ≤ ds.length ∧ ∃ Γ' S' H0, I i Γ' S' ∧ At X.K B H0 Γ' S' σ H, ⟨ds.length, by simp, Nat.zero_le _, Γ, S, H1, h0, at1⟩, ?_⟩
  rintro i m σ H ⟨rfl, hi, Γ', S', G, hI, at2⟩
  obtain ⟨_, xs, hl, ha⟩ := at2.sto.at_ p _ (hkp i Γ' S' hI)
  have hq : SqL X.K H p xs := .inl (.inl hl)
  have hln := dps_len ha
  by_cases hlt : i < ds.length
  · have hlx : i < xs.length := by omega
    refine .inr ⟨⟨xs, xs[i], hq, by simp [hlx]⟩, fun σ' H' => i + 1 ≤ ds.length ∧ ∃ Γ' S' H0, I (i + 1) Γ' S' ∧ At X.K B H0 Γ' S' σ' H', fun σ' H' p' => ⟨ds.length - (i + 1), by omega, rfl, p'⟩, fun v H' y => ?_⟩
    obtain ⟨rfl, hu⟩ := y
    have hi2 := hu xs hq
    obtain ⟨d, h1, h2⟩ := dps_getV ha hi2
    exact ⟨i, d, Γ', S', G, h1, hI, G, at2.rebase.set j (s := .dat d) ⟨_, rfl, h2⟩, turn_endz at2.fra z _ fun Γ1 S1 H2 σ2 H3 q a e3 => ⟨hlt, Γ1, S1, H2, q, a⟩⟩
  · have e : i = ds.length := by omega
    subst e
    exact .inl ⟨⟨xs, hq, by omega⟩, z.nx Γ' S' G σ H (hd Γ' S' hI) at2⟩
/-- for x in a list that is data or owned (among F, which stays) -/
theorem gl_for {n : Nat} {F : Sto} (hp : PassesOwn (model X.prog X.w) X.A X.env X.xe) (hc : X.calm = true) (he : PE X it (tVar n)) (hq : Γ[n]? = some r) (hr : LSl F r ds) (hN : X.N.Nodup) (hj : X.N[j]? = some x) (hx : Loc X.env.scope x) (I : Nat → Gam → Sto → Prop) (h0 : I 0 Γ S)
    (hkp : ∀ i Γ' S', I i Γ' S' → ∀ e ∈ F, e ∈ S')
    (hb : ∀ (i : Nat) d Γ' S' G, ds[i]? = some d → I i Γ' S' → GSs X (B.at G) (Γ'.set j (.dat d)) S' body (P.turn I i)) (hd : ∀ Γ' S', I ds.length Γ' S' → P.N Γ' S')
    (hs : ∀ y, foldedSetIterable it X.env y = pure y := by intro _; rfl) (hf : X.fn x = true ∨ X.env.scope.names.lookup x = some .local := by first | exact .inl rfl | exact .inr rfl | assumption) : GS X B Γ S (.For (.Name x px) it body [] pos) P := by
  rcases hr with rfl | ⟨p, rfl, hm⟩
  · exact gs_forL hp hc (gd_var he hq) hN hj hx I h0 hb hd hs hf
  · exact gs_forO hp hc (gr_var he hq) hN hj hx I h0 (fun i Γ' S' q => hkp i Γ' S' q _ hm) hb hd hs hf
theorem dats_of {K : PySem.W.Frag} {H0 : Hp} : ∀ {ds : List PyData} {vs : List V}, ArgsOk K H0 vs (ds.map Sl.dat) → DpAll K H0 vs ds
  | [], _, .nil => .nil
  | d :: ds, _, .cons h t => .cons (SlOk.toDp h) (dats_of t)
/-- a tuple of data, its parts with effects -/
theorem ge_tupD {n : Nat} {Pe : Sl → Sto → Prop} {ex : Value → Gam → Sto → Prop} (h : GEA X B Γ S es (fun as S' => ∃ ds, as = ds.map Sl.dat ∧ ds.length ≤ 100000 ∧ Pe (.dat (.tuple ds)) S')) : GE X B Γ S (.Tuple es n pos) Pe ex :=
  (pe_tup h).imp fun σ H Q ⟨H0, at0, k, _⟩ => ⟨H0, at0, fun as S' vs H1 H' ⟨ds, e, hl, hp⟩ at1 e1 hvs => by
    subst e
    have hvs := dats_of hvs
    exact ⟨by rw [dps_len hvs]; exact Evl.sz_of hl, fun p hp' => k _ S' (.ref p) _ _ hp (at1.ext (Ext.new at1.e2 hp')) (e1.trans (Ex.new (free0 at1.e2 hp'))) ⟨_, rfl, .tup (.inl (.inl upd_same)) (dps_ex (Ex.new (free0 at1.e2 hp')) _ _ hvs)⟩⟩⟩
/-- a tuple whose parts are no data -/
theorem ge_tupR {n : Nat} {Pe : Sl → Sto → Prop} {ex : Value → Gam → Sto → Prop} (h : GEA X B Γ S es (fun as S' => ∃ ws, as = ws.map Sl.raw ∧ ws.length ≤ 100000 ∧ ∀ p, B.H p = none → Pe (.raw (.ref p)) ((p, .ho (.tup ws)) :: S'))) : GE X B Γ S (.Tuple es n pos) Pe ex :=
  (pe_tup h).imp fun σ H Q ⟨H0, at0, k, _⟩ => ⟨H0, at0, fun as S' vs H1 H' ⟨ws, e, hl, hp⟩ at1 e1 hvs => by
    subst e
    have e := raws_of hvs
    subst e
    exact ⟨Evl.sz_of hl, fun q hq => k _ _ (.ref q) H1 _ (hp q (none_B at1.fra hq)) (at1.own (ow := .ho (.tup vs)) (o := .tup vs) hq upd_same) e1 rfl⟩⟩
/-- a part that is an owned list, handed on as data -/
theorem gea_fz {p : Addr} {n : Nat} {Pa : List Sl → Sto → Prop} (he : GR X B Γ S e (.ref p)) (hn : S[n]? = some (p, .lst ds)) (hk : B.H p = none) (ht : GEA X B Γ (S.eraseIdx n) es (fun as S'' => Pa (.dat (.list ds) :: as) S'')) (hs : starEach (e :: es) X.env = (false, eval e X.env) :: starEach es X.env := by rfl) : GEA X B Γ S (e :: es) Pa :=
  gea_cons (ge_freeze he hn hk) (fun r S' ⟨hr, hS⟩ => by subst hr hS; exact ht) hs
theorem gl_dp {K : PySem.W.Frag} {H0 H : Hp} {σ : St} {p : Addr} {n : Nat} (a : At K B H0 Γ S σ H) (hn : S[n]? = some (p, .lst ds)) : Dp K H (.ref p) (.list ds) := by
  obtain ⟨_, vs, h1, h2⟩ := a.sto.at_ p _ (List.mem_of_getElem? hn)
  exact .lst (.inl (.inl h1)) (dps_ex a.e2 _ _ h2)
theorem gd_eqO {d2 : PyData} (hu : X.A.units + 64 < cLine) (ha : GLs X B Γ S a ds) (hb : GD X B Γ S b d2) (h1 : SeqAt.shaped (.list ds) = true) (h2 : SeqAt.shaped d2 = true) : GD X B Γ S (.Compare a [.Eq] [b] pos) (.bool (PyData.eqv (.list ds) d2)) := by
  cases ha with
  | dat h => exact gd_eq hu h hb h1 h2
  | own p n h hn =>
    exact (pe_cmpR (op_eqD hu) h hb (nomark _)).imp fun σ H Q ⟨H0, at0, k⟩ => ⟨H0, at0, fun v H1 H' at1 e1 hv => ⟨H1, at1, fun w H2 H'' at2 e2 hw => by
      have hv : (some (some v) : Option (Option V)) = some (some (.ref p)) := hv
      cases hv
      exact ⟨_, _, gl_dp at2 hn, dp_ex at2.e2 _ _ hw.toDp, h1, h2, k _ H2 H'' at2 (e1.trans e2) ⟨_, rfl, .bl _⟩⟩⟩⟩
theorem gd_neO {d2 : PyData} (hu : X.A.units + 64 < cLine) (ha : GLs X B Γ S a ds) (hb : GD X B Γ S b d2) (h1 : SeqAt.shaped (.list ds) = true) (h2 : SeqAt.shaped d2 = true) : GD X B Γ S (.Compare a [.NotEq] [b] pos) (.bool (!PyData.eqv (.list ds) d2)) := by
  cases ha with
  | dat h => exact gd_ne hu h hb h1 h2
  | own p n h hn =>
    exact (pe_cmpR (op_neD hu) h hb (nomark _)).imp fun σ H Q ⟨H0, at0, k⟩ => ⟨H0, at0, fun v H1 H' at1 e1 hv => ⟨H1, at1, fun w H2 H'' at2 e2 hw => by
      have hv : (some (some v) : Option (Option V)) = some (some (.ref p)) := hv
      cases hv
      exact ⟨_, _, gl_dp at2 hn, dp_ex at2.e2 _ _ hw.toDp, h1, h2, k _ H2 H'' at2 (e1.trans e2) ⟨_, rfl, .bl _⟩⟩⟩⟩
theorem gt_eqO {d2 : PyData} (hu : X.A.units + 64 < cLine) (ha : GLs X B Γ S a ds) (hb : GD X B Γ S b d2) (h1 : SeqAt.shaped (.list ds) = true) (h2 : SeqAt.shaped d2 = true) : GT X B Γ S (.Compare a [.Eq] [b] pos) (PyData.eqv (.list ds) d2) := by
  cases ha with
  | dat h => exact gt_eq hu h hb h1 h2
  | own p n h hn =>
    exact (pt_cmpR (op_eqD hu) h hb (nomark _)).imp fun σ H Q ⟨H0, at0, k⟩ => ⟨H0, at0, fun v H1 H' at1 e1 hv => ⟨H1, at1, fun w H2 H'' at2 e2 hw => by
      have hv : (some (some v) : Option (Option V)) = some (some (.ref p)) := hv
      cases hv
      exact ⟨_, _, gl_dp at2 hn, dp_ex at2.e2 _ _ hw.toDp, h1, h2, _, rfl, k H2 H'' at2 (e1.trans e2)⟩⟩⟩
theorem gt_neO {d2 : PyData} (hu : X.A.units + 64 < cLine) (ha : GLs X B Γ S a ds) (hb : GD X B Γ S b d2) (h1 : SeqAt.shaped (.list ds) = true) (h2 : SeqAt.shaped d2 = true) : GT X B Γ S (.Compare a [.NotEq] [b] pos) (!PyData.eqv (.list ds) d2) := by
  cases ha with
  | dat h => exact gt_ne hu h hb h1 h2
  | own p n h hn =>
    exact (pt_cmpR (op_neD hu) h hb (nomark _)).imp fun σ H Q ⟨H0, at0, k⟩ => ⟨H0, at0, fun v H1 H' at1 e1 hv => ⟨H1, at1, fun w H2 H'' at2 e2 hw => by
      have hv : (some (some v) : Option (Option V)) = some (some (.ref p)) := hv
      cases hv
      exact ⟨_, _, gl_dp at2 hn, dp_ex at2.e2 _ _ hw.toDp, h1, h2, _, rfl, k H2 H'' at2 (e1.trans e2)⟩⟩⟩
theorem gd_rawI (h : GR X B Γ S e (.int i)) : GD X B Γ S e (.int i) := h.imp fun σ H Q ⟨H0, at0, k⟩ => ⟨H0, at0, fun v H1 H' at1 e1 hv => by
  have hv : (some (some v) : Option (Option V)) = some (some (.int i)) := hv
  cases hv
  exact k _ H1 H' at1 e1 ⟨_, rfl, .int _⟩⟩
end
/-! ### what is new; defs that tell what was owned at first -/
section
variable {X : Cx} {B : Bs} {Γ : Gam} {S1 F : Sto} {rest : List Stmt} {P : Po}
theorem gss_new (hk : ∀ q ∈ B.ks, q ∈ keys F) (k : (∀ e ∈ S1, B.H e.1 = none) → GSs X B Γ (S1 ++ F) rest P) : GSs X B Γ (S1 ++ F) rest P := by
  by_cases q : ∀ e ∈ S1, B.H e.1 = none
  · exact k q
  · refine ⟨fun pins s σ H D I ⟨H0, at0, z⟩ => absurd (fun e he => ?_) q⟩
    have nd := at0.sto.nd
    rw [show keys (S1 ++ F) = keys S1 ++ keys F from List.map_append] at nd
    rcases at0.wr e.1 (by rw [show keys (S1 ++ F) = keys S1 ++ keys F from List.map_append]; exact List.mem_append_left _ (List.mem_map.mpr ⟨e, he, rfl⟩)) with h | h
    · exact absurd rfl ((List.nodup_append.mp nd).2.2 e.1 (List.mem_map.mpr ⟨e, he, rfl⟩) e.1 (hk _ h))
    · exact h
end
section
variable {P : Program} {w : World} {K : PySem.W.Frag} {mg : Str → Option Value} {base : Heap}
theorem mut_defK {x qual : Str} {st : Stmt} {f : Addr} {fd : FuncData} {N ps : List Str} {n : Nat} {R : Rq} (F : Fun K x qual st f fd) (Sc : FnScope N ps (defScope st)) (hlen : ∀ as S PR PX, R as S PR PX → as.length = ps.length)
    (hbody : ∀ (cdv : Value) (A : Around) (outer : List Env) (s : Shared) (H : Hp) (E : XK) (H0 Hh : Hp) (as : List Sl) (S : Sto) (PR : Sl → Sto → Prop) (PX : Value → Sto → Prop), Room n (A.deeper (envOfC qual (defScope st) s.heap.objs.size f cdv)) → R as S PR PX →
      GSs (cxOf (L2N.CX P w) P w K mg base N qual (defScope st) f cdv A outer s H E) ⟨H0, Hh, keys S, fun cls d _ H => E cls d H⟩ (gamS N.length as) S (defBody st) { N := fun _ S' => PR (.dat .none) S', R := PR, ex := fun cls _ S' => PX cls S' }) : FnOk P w K mg base (L2N.CX P w) (n + 1) f fd ps (SpM K R) := by
  refine okN F Sc (fun vs H Q E h => ?_) (fun cdv A outer s H vs Q E hr h => ?_)
  · obtain ⟨H0, as, S, PR, PX, _, hR, hv, _⟩ := h
    rw [Paired.length hv]
    exact hlen as S PR PX hR
  · obtain ⟨H0, as, S, PR, PX, e, hR, hv, hS, k, kx⟩ := h
    have hle : ps.length ≤ N.length := by have := congrArg List.length Sc.pre; rw [List.length_take] at this; omega
    refine ⟨_, hbody cdv A outer s H E H0 H as S PR PX hr hR, H0, ⟨Fra.refl e, env_startS hv (by rw [hlen as S PR PX hR]; exact hle), hS, fun p z => .inl z⟩, ?_, ?_, ?_, ?_, ?_⟩
    · intro Γ S' H0' σ H' hd at1
      exact k _ S' .non H0' H' hd at1.fra.toE at1.sto at1.wr ⟨_, rfl, .non⟩
    · intro r Γ S' v H0' σ H' hr at1 hv
      exact k r S' v H0' H' hr at1.fra.toE at1.sto at1.wr hv
    · intro _ _ _ _ _ h _
      exact h.elim
    · intro _ _ _ _ _ h _
      exact h.elim
    · intro cls Γ S' H0' σ H' h at1
      exact kx cls S' H0' H' h at1.fra.toE at1.sto at1.wr
theorem mut_def0K {x qual : Str} {st : Stmt} {f : Addr} {fd : FuncData} {N ps : List Str} {n : Nat} {R : Rq} (F : Fun K x qual st f fd) (Sc : FnScope N ps (defScope st)) (hlen : ∀ as S PR PX, R as S PR PX → as.length = ps.length)
    (hbody : ∀ (cdv : Value) (A : Around) (outer : List Env) (s : Shared) (H : Hp) (E : XK) (B : Bs) (as : List Sl) (S : Sto) (PR : Sl → Sto → Prop) (PX : Value → Sto → Prop), Room n (A.deeper (envOfC qual (defScope st) s.heap.objs.size f cdv)) → B.ks = keys S → R as S PR PX →
      GSs (cxOf CX0 P w K mg base N qual (defScope st) f cdv A outer s H E).nox B (gamS N.length as) S (defBody st) { N := fun _ S' => PR (.dat .none) S', R := PR }) : FnOk P w K mg base CX0 (n + 1) f fd ps (SpM K R) := by
  refine F.ok Sc (fun vs H Q E h => ?_) (fun cdv A outer s H vs Q E hr h => ?_)
  · obtain ⟨H0, as, S, PR, PX, _, hR, hv, _⟩ := h
    rw [Paired.length hv]
    exact hlen as S PR PX hR
  · obtain ⟨H0, as, S, PR, PX, e, hR, hv, hS, k, kx⟩ := h
    have hle : ps.length ≤ N.length := by have := congrArg List.length Sc.pre; rw [List.length_take] at this; omega
    refine ⟨_, hbody cdv A outer s H E ⟨H0, H, keys S, fun _ _ _ _ => False⟩ as S PR PX hr rfl hR, H0, ⟨Fra.refl e, env_startS hv (by rw [hlen as S PR PX hR]; exact hle), hS, fun p z => .inl z⟩, ?_, ?_, ?_, ?_, ?_⟩
    · intro Γ S' H0' σ H' hd at1
      exact k _ S' .non H0' H' hd at1.fra at1.sto at1.wr ⟨_, rfl, .non⟩
    · intro r Γ S' v H0' σ H' hr at1 hv
      exact k r S' v H0' H' hr at1.fra at1.sto at1.wr hv
    · intro _ _ _ _ _ h _
      exact h.elim
    · intro _ _ _ _ _ h _
      exact h.elim
    · intro _ _ _ _ _ _ h _
      exact h.elim
theorem pure_defK {x qual : Str} {st : Stmt} {f : Addr} {fd : FuncData} {N ps : List Str} {n : Nat} {R : List PyData → PyData → Prop} (F : Fun K x qual st f fd) (Sc : FnScope N ps (defScope st)) (hlen : ∀ ds d, R ds d → ds.length = ps.length)
    (hbody : ∀ (cdv : Value) (A : Around) (outer : List Env) (s : Shared) (H : Hp) (E : XK) (B : Bs) (ds : List PyData) (d : PyData), Room n (A.deeper (envOfC qual (defScope st) s.heap.objs.size f cdv)) → B.ks = [] → R ds d →
      GSs (cxOf CX0 P w K mg base N qual (defScope st) f cdv A outer s H E).nox B (gam N.length ds) [] (defBody st) { N := fun _ _ => d = .none, R := fun r _ => r = .dat d }) : FnOk P w K mg base CX0 (n + 1) f fd ps (SpD K R) := by
  refine F.ok Sc (fun vs H Q E h => ?_) (fun cdv A outer s H vs Q E hr h => ?_)
  · obtain ⟨H0, ds, d, _, hR, hv, _⟩ := h
    rw [dps_len hv]
    exact hlen ds d hR
  · obtain ⟨H0, ds, d, e, hR, hv, k⟩ := h
    have hle : ps.length ≤ N.length := by have := congrArg List.length Sc.pre; rw [List.length_take] at this; omega
    refine ⟨_, hbody cdv A outer s H E ⟨H0, H, [], fun _ _ _ _ => False⟩ ds d hr rfl hR, H0, ⟨Fra.refl e, by rw [gam_S]; exact env_startS (args_of hv) (by rw [List.length_map, hlen ds d hR]; exact hle), StoOk.nil, fun p z => nomatch z⟩, ?_, ?_, ?_, ?_, ?_⟩
    · intro Γ S H0' σ H' hd at1
      subst hd
      exact k .non H0' H' at1.fra.toExt .non
    · intro r Γ S v H0' σ H' hr at1 hv
      subst hr
      exact k v H0' H' at1.fra.toExt hv.toDp
    · intro _ _ _ _ _ h _
      exact h.elim
    · intro _ _ _ _ _ h _
      exact h.elim
    · intro _ _ _ _ _ _ h _
      exact h.elim
end
/-! ### lists of slots changed; comprehensions over data; tuples that are no data -/
theorem paired_set {α β : Type} {R : α → β → Prop} {x : α} {y : β} (h : R x y) : ∀ {xs : List α} {ys : List β} (i : Nat), Paired R xs ys → Paired R (xs.set i x) (ys.set i y)
  | _, _, _, .nil => .nil
  | _, _, 0, .cons _ t => .cons h t
  | _, _, i + 1, .cons g t => .cons g (paired_set h i t)
theorem ca_min2 {K : PySem.W.Frag} {i j : Int} : CaD K (fun xs H Q => ∃ i j, xs = [.int i, .int j] ∧ Q (.int (if j < i then j else i)) H) [.int i, .int j] (.int (if j < i then j else i)) := fun H0 H vs e hvs Q k => by
  cases hvs with
  | cons hv ht =>
    cases ht with
    | cons hw hn =>
      cases hn
      cases hv
      cases hw
      exact ⟨i, j, rfl, k _ H0 H (Ext.refl e) (.int _)⟩
theorem ca_max2 {K : PySem.W.Frag} {i j : Int} : CaD K (fun xs H Q => ∃ i j, xs = [.int i, .int j] ∧ Q (.int (if j > i then j else i)) H) [.int i, .int j] (.int (if j > i then j else i)) := fun H0 H vs e hvs Q k => by
  cases hvs with
  | cons hv ht =>
    cases ht with
    | cons hw hn =>
      cases hn
      cases hv
      cases hw
      exact ⟨i, j, rfl, k _ H0 H (Ext.refl e) (.int _)⟩
section
variable {X : Cx} {B : Bs} {Γ : Gam} {S : Sto} {a b e o it elt : Expr} {d : PyData} {ds : List PyData} {ws : List V} {as : List Sl} {pos : Pos} {P : Po} {x f T : Str} {r : Sl} {k : Bool} {j n m : Nat} {i : Int} {p : Addr} {v : V} {px lp p2 : Pos} {scope : Scope}
/-- o[i] = e of a list of slots -/
theorem gs_setS {tpos : Pos} (ho : GR X B Γ S o (.ref p)) (hi : GD X B Γ S b (.int i)) (he : PE X e (rd X.K B Γ S r)) (hn : S[n]? = some (p, .ls as)) (hx : ixN as.length i = some m) (q : P.N Γ (S.set n (p, .ls (as.set m r))))
    (ha : ∀ v, assign (.Subscript o b tpos) X.env v = (do
      let ov ← holding [v] (eval o X.env)
      let iv ← holding [v, ov] (eval b X.env)
      standAt tpos
      holding [v, ov, iv] (setItem ov iv v)
      release [v, ov, iv] []) := by intro _; rfl)
    (hs : swapsWithSole [.Subscript o b tpos] e pos.line X.env = pure false := by rfl) (hw : swappedStores [.Subscript o b tpos] e X.env = pure none := by rfl)
    (h1 : (assignEach [.Subscript o b tpos] X.env).map (·.2) = [assign (.Subscript o b tpos) X.env] := by rfl) : GS X B Γ S (.Assign [.Subscript o b tpos] e pos) P :=
  (ps_asg he (pg_sub ho hi set_list ha) hs hw h1).imp fun D σ H ⟨H0, at0, z⟩ => ⟨H0, at0, fun y H1 H' at1 e1 hy => ⟨H1, at1, fun v H2 H'' at2 e2 hv => ⟨H2, at2, fun w H3 H3' at3 e3 hw => by
    have hv : (some (some v) : Option (Option V)) = some (some (.ref p)) := hv
    cases hv
    have hw := hw.toDp
    cases hw
    obtain ⟨_, vs, h1, h2⟩ := at3.sto.at_ p _ (List.mem_of_getElem? hn)
    refine ⟨p, vs, i, m, rfl, rfl, h1, by rw [Paired.length h2]; exact hx, ?_⟩
    exact z.nx _ _ H3 σ _ q (at3.write hn ⟨_, upd_same, paired_set (R := fun v s => SlOk X.K H3 (some (some v)) s) (hy.ext (e2.trans e3)) m h2⟩)⟩⟩⟩
def teL (K : PySem.W.Frag) (B : Bs) (Γ : Gam) (S : Sto) (ds : List PyData) (j : Nat) (g : Nat → PyData) : TE := fun σ H Q => ∃ (i : Nat) (D : Addr) (acc : List PyData) (d : PyData), ds[i]? = some d ∧ rd K B ((wipeG Γ [j]).set j (.dat d)) ((D, .lst acc) :: S) (.dat (g i)) σ H Q
theorem lcL_go (g : Nat → PyData) (hl : ds.length ≤ 100000) {σ : St} {H : Hp} {Q : VK} (h : rd X.K B Γ S (.dat (.list ((List.range ds.length).map g))) σ H Q) : tLc (iList X.K (rd X.K B Γ S (.dat (.list ds)))) (gName j) tYes (teL X.K B Γ S ds j g) [j] σ H Q := by
  obtain ⟨H0, at0, k⟩ := h
  refine ⟨H0, at0, fun v H1 H' at1 e1 hv => ?_⟩
  have hv := hv.toDp
  cases hv with
  | @lst q vs _ hq ha =>
    have hln := dps_len ha
    refine ⟨q, rfl, ⟨vs, ex_l at1.e2 hq⟩, fun D hD => ?_⟩
    have hB : B.H D = none := none_B at1.fra hD
    refine L2.lc_list (K := X.K) (a := q) (xs := vs) (g := gName j) (tt := tYes) (te := teL X.K B Γ S ds j g) (vs := [j]) (σ := σ) (D := D) (Qd := fun H => Q (.ref D) H) (fun i H => i ≤ vs.length ∧ ∃ H0, At X.K B H0 Γ ((D, .lst ((List.range i).map g)) :: S) σ H ∧ Ex H1 H0) ⟨Nat.zero_le _, H1, at1.own hD ⟨[], upd_same, .nil⟩, Ex.refl _⟩ (fun i H _ pv => ?_) (fun i y H hi pv => ?_) fun H pv => ?_
    · obtain ⟨_, G, at2, e2⟩ := pv
      exact ex_l at2.e2 (ex_l e2 hq)
    · obtain ⟨_, G, at2, e2⟩ := pv
      have hlt : i < vs.length := (List.getElem?_eq_some_iff.mp hi).1
      obtain ⟨d, h1, h2⟩ := dps_getV ha hi
      refine ⟨wipe_set1, ?_⟩
      refine ⟨i, D, _, d, h1, G, (at2.wipe [j]).set j (s := .dat d) ⟨_, rfl, dp_ex e2 _ _ h2⟩, fun v H2 H'' at3 e3 hv => ?_⟩
      obtain ⟨_, acc, h1, h2⟩ := at3.sto.at_ D _ List.mem_cons_self
      refine ⟨acc, h1, ?_, hlt, H2, ?_, e2.trans e3⟩
      · rw [dps_len h2, List.length_map, List.length_range]; exact Evl.sz_lt (by omega)
      · have a4 := at2.frame at3 e3
        have a5 := a4.write (n := 0) (ow := .lst ((List.range i).map g ++ [g i])) (o := .lst (acc ++ [v])) rfl ⟨_, upd_same, dps_app h2 (.cons hv.toDp .nil)⟩
        rw [List.range_succ, List.map_append]
        exact a5
    · obtain ⟨_, G, at2, e2⟩ := pv
      obtain ⟨G', e3, at3, hd⟩ := at2.freeze (n := 0) rfl hB
      rw [hln] at hd
      exact k _ G' H at3 ((e1.trans e2).trans e3) ⟨_, rfl, hd⟩
theorem gd_lcL (g : Nat → PyData) (hc : X.calm = true) (hN : X.N.Nodup) (ho : GD X B Γ S o (.list ds)) (hl : ds.length ≤ 100000) (ok : BlkOk X.N X.env.scope scope [(x, j)])
    (htg : ∀ (s : Shared) (H : Hp) (C : Addr) (cl : List (Str × Addr)) (fp : List Addr), PG (X.blk s H scope (compEnvC scope cl C X.env) fp) (.Name x px) (gName j))
    (hel : ∀ (i : Nat) (D : Addr) (acc : List PyData) (d : PyData), ds[i]? = some d → ∀ (s : Shared) (H : Hp) (C : Addr) (cl : List (Str × Addr)) (fp : List Addr), GD (X.blk s H scope (compEnvC scope cl C X.env) fp) B ((wipeG Γ [j]).set j (.dat d)) ((D, .lst acc) :: S) elt (g i))
    (hfs : ∀ y, foldedSetIterable o X.env y = pure y := by intro _; rfl) : GD X B Γ S (.ListComp elt [⟨.Name x px, o, [], 0⟩] scope lp) (.list ((List.range ds.length).map g)) :=
  (pe_lc (own := [(x, j)]) hc hN (pi_list ho) ok htg (fun _ _ _ _ _ => pts_nil) (te := teL X.K B Γ S ds j g) (fun s H C cl fp => ⟨fun pins s' σ H' Q Iv ⟨i, D, acc, d, h1, z⟩ => (hel i D acc d h1 s H C cl fp).run pins s' σ H' Q Iv z⟩) hfs).imp fun σ H Q h => lcL_go g hl h
/-- y = [elt for x in a list that is data] -/
theorem gs_setLcL {spos py : Pos} {y : Str} (i : Nat) (g : Nat → PyData) (hy : X.N[i]? = some y) (hyl : X.env.scope.names.lookup y = some .local) (hsw : swapsWith (.ListComp elt [⟨.Name x px, o, [], 0⟩] scope lp) (some (.Name y py)) spos.line X.env = pure true) (hc : X.calm = true) (hN : X.N.Nodup) (ho : GD X B Γ S o (.list ds)) (hl : ds.length ≤ 100000) (ok : BlkOk X.N X.env.scope scope [(x, j)])
    (htg : ∀ (s : Shared) (H : Hp) (C : Addr) (cl : List (Str × Addr)) (fp : List Addr), PG (X.blk s H scope (compEnvC scope cl C X.env) fp) (.Name x px) (gName j))
    (hel : ∀ (i : Nat) (D : Addr) (acc : List PyData) (d : PyData), ds[i]? = some d → ∀ (s : Shared) (H : Hp) (C : Addr) (cl : List (Str × Addr)) (fp : List Addr), GD (X.blk s H scope (compEnvC scope cl C X.env) fp) B ((wipeG Γ [j]).set j (.dat d)) ((D, .lst acc) :: S) elt (g i))
    (q : P.N (Γ.set i (.dat (.list ((List.range ds.length).map g)))) S)
    (hfs : ∀ y, foldedSetIterable o X.env y = pure y := by intro _; rfl) : GS X B Γ S (.Assign [.Name y py] (.ListComp elt [⟨.Name x px, o, [], 0⟩] scope lp) spos) P :=
  (ps_setLc (own := [(x, j)]) hc hN hy hyl hsw (pi_list ho) ok htg (fun _ _ _ _ _ => pts_nil) (te := teL X.K B Γ S ds j g) (fun s H C cl fp => ⟨fun pins s' σ H' Q Iv ⟨i, D, acc, d, h1, z⟩ => (hel i D acc d h1 s H C cl fp).run pins s' σ H' Q Iv z⟩) hfs).imp fun D σ H ⟨H0, at0, z⟩ => lcL_go g hl ⟨H0, at0, fun v H0' H' at1 e1 hv => z.nx _ _ H0' _ H' q (at1.set i hv)⟩
/-- o[i] of a tuple that is no data -/
theorem gr_ixT {i : Nat} (ho : GR X B Γ S o (.ref p)) (hi : GD X B Γ S b (.int (i : Int))) (hn : S[n]? = some (p, .ho (.tup ws))) (q : ws[i]? = some v) (hs : PlainIx b := by exact fun _ _ => rfl) : GR X B Γ S (.Subscript o b pos) v := (pe_ix ix_seq ho hi hs).imp fun σ H Q ⟨H0, at0, k⟩ => ⟨H0, at0, fun z H1 H' at1 e1 hv => ⟨H1, at1, fun w H2 H'' at2 e2 hw => by
  have hv : (some (some z) : Option (Option V)) = some (some (.ref p)) := hv
  cases hv
  have hw := hw.toDp
  cases hw
  obtain ⟨_, h1⟩ := at2.sto.at_ p _ (List.mem_of_getElem? hn)
  exact .inr (.inl ⟨p, ws, _, v, rfl, rfl, .inl (.inl h1), atI_V q, k _ H2 H'' at2 (e1.trans e2) rfl⟩)⟩⟩
/-- len of it -/
theorem gd_lenT {nm : Str} (hg : Gl X nm) (hm : X.mg nm = none) (hv : bootBuiltins nm = some (.builtin "len")) (ho : GR X B Γ S o (.ref p)) (hn : S[n]? = some (p, .ho (.tup ws))) (hnn : nm ≠ "__name__" := by decide) (hdb : (nm == ("__debug__" : Str)) = false := by decide)
    (he : starEach [o] X.env = (false, eval o X.env) :: starEach [] X.env := by rfl) (hpl : (backTo pos (starEach [] X.env)).any (·.1) = false := by rfl) : GD X B Γ S (.Call (.Name nm p2) [o] [] pos) (.int (ws.length : Int)) :=
  (pe_callB call_len hg hm hv (pa_cons ho pa_nil he) hnn hdb he hpl).imp fun σ H Q ⟨H0, at0, k⟩ => ⟨H0, at0, fun v H1 H' at1 e1 hv => by
    have hv : (some (some v) : Option (Option V)) = some (some (.ref p)) := hv
    cases hv
    obtain ⟨_, h1⟩ := at1.sto.at_ p _ (List.mem_of_getElem? hn)
    exact ⟨.ref p, ws.length, rfl, .inr ⟨ws, .inl (.inl h1), rfl⟩, k _ H1 H' at1 e1 ⟨_, rfl, .int _⟩⟩⟩
/-- isinstance of it -/
theorem gd_isT {nm : String} (hg : Gl X f) (hm : X.mg f = none) (hv : bootBuiltins f = some (.builtin "isinstance")) (hT : PE X (.Name T p2) (tC (.ty nm))) (ha : GR X B Γ S a (.ref p)) (hnn : S[n]? = some (p, .ho (.tup ws))) (hk : kitB "tuple" nm = some k)
    (hn : f ≠ "__name__" := by decide) (hdb : (f == ("__debug__" : Str)) = false := by decide)
    (he : starEach [a, .Name T p2] X.env = (false, eval a X.env) :: starEach [.Name T p2] X.env := by rfl) (he2 : starEach [.Name T p2] X.env = (false, eval (.Name T p2) X.env) :: starEach [] X.env := by rfl) (hpl : (backTo pos (starEach [.Name T p2] X.env)).any (·.1) = false := by rfl) : GD X B Γ S (.Call (.Name f px) [a, .Name T p2] [] pos) (.bool k) :=
  (pe_callB call_isi hg hm hv (pa_cons ha (pa_cons hT pa_nil he2) he) hn hdb he hpl).imp fun σ H Q ⟨H0, at0, q⟩ => ⟨H0, at0, fun v H1 H' at1 e1 hv => by
    have hv : (some (some v) : Option (Option V)) = some (some (.ref p)) := hv
    cases hv
    obtain ⟨_, h1⟩ := at1.sto.at_ p _ (List.mem_of_getElem? hnn)
    exact ⟨.ref p, .ty nm, .type "tuple", .type nm, k, rfl, .ty nm, .base (.tup h1), kit_ty hk, q _ H1 H' at1 e1 ⟨_, rfl, .bl _⟩⟩⟩
end
section
variable {X : Cx} {B : Bs} {Γ : Gam} {S : Sto} {es : List Expr} {pos pos' lpos : Pos} {P : Po} {x : Str}
/-- x = [e, ..], the elements data or not -/
theorem gs_setLsS {i : Nat} (hN : X.N.Nodup) (hi : X.N[i]? = some x) (hx : Loc X.env.scope x) (h : GEA X B Γ S es (fun as S' => as.length ≤ 100000 ∧ ∀ p, B.H p = none → P.N (Γ.set i (.raw (.ref p))) ((p, .ls as) :: S')))
    (hs : swapsWith (.List es lpos) (some (.Name x pos')) pos.line X.env = pure false := by rfl) (hf : X.fn x = true ∨ X.env.scope.names.lookup x = some .local := by first | exact .inl rfl | exact .inr rfl | assumption) : GS X B Γ S (.Assign [.Name x pos'] (.List es lpos) pos) P :=
  gs_setE hN hi hx (ge_mono (ge_lsS (ex := P.ex) (Pa := fun as S' => ∀ p, B.H p = none → P.N (Γ.set i (.raw (.ref p))) ((p, .ls as) :: S')) h) (fun r S' ⟨p, as, S1, hp, hN, hr, hS⟩ => by subst hr hS; exact hN p hp) fun _ _ h => h) hs hf
end
section
variable {X : Cx} {B : Bs} {Γ : Gam} {S : Sto} {a b c e it : Expr} {es : List Expr} {d : PyData} {ds : List PyData} {pos pos2 pos3 : Pos} {P : Po} {n : Int} {x : Str} {p : Pos} {j : Nat} {body : List Stmt}
/-- for x in range(n), n perhaps below nought -/
theorem gs_forRn (hp : PassesOwn (model X.prog X.w) X.A X.env X.xe) (hc : X.calm = true) (hg : Gl X "range") (hm : X.mg "range" = none) (he : GD X B Γ S e (.int n)) (hn : -2 ^ 62 ≤ n ∧ n < 2 ^ 62) (hN : X.N.Nodup) (hj : X.N[j]? = some x) (hx : Loc X.env.scope x) (I : Nat → Gam → Sto → Prop) (h0 : I 0 Γ S)
    (hb : ∀ (i : Nat) Γ' S' G, (i : Int) < n → I i Γ' S' → GSs X (B.at G) (Γ'.set j (.dat (.int (i : Int)))) S' body (P.turn I i)) (hd : ∀ Γ' S', I n.toNat Γ' S' → P.N Γ' S')
    (hs : starEach [e] X.env = [(false, eval e X.env)] := by rfl) (hf : X.fn x = true ∨ X.env.scope.names.lookup x = some .local := by first | exact .inl rfl | exact .inr rfl | assumption) : GS X B Γ S (.For (.Name x p) (.Call (.Name "range" pos2) [e] [] pos3) body [] pos) P := by
  have hbody : PSs X body (fun D σ H => ∃ (i : Nat) (Γ' : Gam) (S' : Sto) (G : Hp), (i : Int) < n ∧ I i Γ' S' ∧ rs X.K (B.at G) (Γ'.set j (.dat (.int (i : Int)))) S' (P.turn I i) D σ H) := ⟨fun pins s σ H D Iv ⟨i, Γ', S', G, h1, h2, z⟩ => (hb i Γ' S' G h1 h2).run pins s σ H D Iv z⟩
  refine (ps_for hp hc (pi_range1 hg hm (pa_cons he pa_nil (by rw [hs]; rfl)) hs) (pg_name (i := j) hN hj hx hf) hbody).imp fun D σ H ⟨H0, at0, z⟩ => ⟨H0, at0, fun v H1 H' at1 e1 hv => ?_⟩
  have hv := hv.toDp
  cases hv
  refine ⟨n, rfl, hn.1, hn.2, for_range (lo := 0) (n := n.toNat) (g := gName j) (tb := fun D σ H => ∃ (i : Nat) (Γ' : Gam) (S' : Sto) (G : Hp), (i : Int) < n ∧ I i Γ' S' ∧ rs X.K (B.at G) (Γ'.set j (.dat (.int (i : Int)))) S' (P.turn I i) D σ H) (D := D) (fun i σ H => ∃ Γ' S' H0, I i Γ' S' ∧ At X.K B H0 Γ' S' σ H) ⟨Γ, S, H1, h0, at1⟩ (fun i σ H hi pv => ?_) fun σ H pv => ?_⟩
  · obtain ⟨Γ', S', G, hI, at2⟩ := pv
    have e0 : (0 : Int) + (i : Int) = (i : Int) := Int.zero_add _
    show ∃ (i' : Nat) (Γ' : Gam) (S' : Sto) (G : Hp), (i' : Int) < n ∧ I i' Γ' S' ∧ rs X.K (B.at G) (Γ'.set j (.dat (.int (i' : Int)))) S' (P.turn I i') _ (σ.set j (some (.int ((0 : Int) + (i : Int))))) H
    rw [e0]
    exact ⟨i, Γ', S', G, by omega, hI, G, at2.rebase.set j ⟨_, rfl, .int _⟩, turn_endz at2.fra z _ fun Γ1 S1 H2 σ2 H3 q a _ => ⟨Γ1, S1, H2, q, a⟩⟩
  · obtain ⟨Γ', S', G, hI, at2⟩ := pv
    exact z.nx Γ' S' G σ H (hd Γ' S' hI) at2
end
/-! ### a call that might raise, and doesn't -/
section
variable {X : Cx} {B : Bs} {Γ : Gam} {S1 F : Sto} {e : Expr} {es : List Expr} {pos : Pos} {lv : Nat} {x : Str} {p : Pos} {as : List Sl} {f : Addr} {fd : FuncData} {ps : List Str} {R : Rq} {PR : Sl → Sto → Prop} {PX : Value → Sto → Prop} {ex : Value → Gam → Sto → Prop}
theorem passF {P : Program} {w : World} {σ : St} : PassesAt (L2N.CX P w) X σ (fun _ _ _ => False) := by
  intro pins H s e s' _ h
  obtain ⟨_, _, _, _, _, h⟩ := h
  exact h.2.2.2.2.2.2.2.elim
theorem ge_callF (Gf : FnOk X.prog X.w X.K X.mg X.base (L2N.CX X.prog X.w) lv f fd ps (SpM X.K R)) (hr : Room lv X.A) (hg : Gl X x) (hm : X.mg x = some (.ref f)) (hk : PySem.W.keepIn X.K (.ref f) = true) (hb : Binds X.K fd ps [])
    (ha : GAS X B Γ (S1 ++ F) (e :: es) as) (hR : R as S1 PR PX) (hX : ∀ cls S', PX cls S' → False) (hdb : (x == ("__debug__" : Str)) = false := by decide) (he : starEach (e :: es) X.env = (false, eval e X.env) :: starEach es X.env := by rfl) (hpl : (backTo pos (starEach es X.env)).any (·.1) = false := by rfl) :
    GE X B Γ (S1 ++ F) (.Call (.Name x p) (e :: es) [] pos) (PostR PR F) ex := (pe_callS (E := fun _ _ _ _ => False) Gf hr hg hm hk hb (fun _ => passF) ha hdb he hpl).imp fun σ H Q ⟨H0, at0, k, kx⟩ => ⟨H0, at0, fun us H2 H'' at2 e2 hus =>
  spm_of at2 hR hus (fun r S1' v H0' H' p a2 e3 hv => k r _ v H0' H' ⟨S1', p, rfl⟩ a2 (e2.trans e3) hv) fun cls S1' H0' H' p a2 e3 => hX cls S1' p⟩
end
section
variable {X : Cx} {B : Bs} {Γ : Gam} {S : Sto} {a b c e it : Expr} {es : List Expr} {d : PyData} {ds : List PyData} {pos pos2 pos3 : Pos} {P : Po} {n : Int} {x : Str} {p : Pos} {j : Nat} {body : List Stmt}
/-- for x in a tuple that is data -/
theorem gs_forT (hp : PassesOwn (model X.prog X.w) X.A X.env X.xe) (hc : X.calm = true) (he : GD X B Γ S it (.tuple ds)) (hN : X.N.Nodup) (hj : X.N[j]? = some x) (hx : Loc X.env.scope x) (I : Nat → Gam → Sto → Prop) (h0 : I 0 Γ S)
    (hb : ∀ (i : Nat) d Γ' S' G, ds[i]? = some d → I i Γ' S' → GSs X (B.at G) (Γ'.set j (.dat d)) S' body (P.turn I i)) (hd : ∀ Γ' S', I ds.length Γ' S' → P.N Γ' S')
    (hs : ∀ y, foldedSetIterable it X.env y = pure y := by intro _; rfl) (hf : X.fn x = true ∨ X.env.scope.names.lookup x = some .local := by first | exact .inl rfl | exact .inr rfl | assumption) : GS X B Γ S (.For (.Name x p) it body [] pos) P := by
  have hbody : PSs X body (fun D σ H => ∃ (i : Nat) (d : PyData) (Γ' : Gam) (S' : Sto) (G : Hp), ds[i]? = some d ∧ I i Γ' S' ∧ rs X.K (B.at G) (Γ'.set j (.dat d)) S' (P.turn I i) D σ H) := ⟨fun pins s σ H D Iv ⟨i, d, Γ', S', G, h1, h2, z⟩ => (hb i d Γ' S' G h1 h2).run pins s σ H D Iv z⟩
  refine (ps_for hp hc (pi_tup he) (pg_name (i := j) hN hj hx hf) hbody hs).imp fun D σ H ⟨H0, at0, z⟩ => ⟨H0, at0, fun v H1 H' at1 e1 hv => ?_⟩
  have hv := hv.toDp
  cases hv with
  | @tup a xs _ hl ha =>
    refine ⟨a, rfl, ⟨xs, ex_t at1.e2 hl⟩, for_tup (K := X.K) (a := a) (xs := xs) (g := gName j) (tb := fun D σ H => ∃ (i : Nat) (d : PyData) (Γ' : Gam) (S' : Sto) (G : Hp), ds[i]? = some d ∧ I i Γ' S' ∧ rs X.K (B.at G) (Γ'.set j (.dat d)) S' (P.turn I i) D σ H) (D := D) (fun i σ H => ∃ Γ' S' H0, I i Γ' S' ∧ At X.K B H0 Γ' S' σ H ∧ Ex H1 H0) ⟨Γ, S, H1, h0, at1, Ex.refl _⟩ (fun i σ H _ pv => ?_) (fun i y σ H hi pv => ?_) fun σ H pv => ?_⟩
    · obtain ⟨Γ', S', G, hI, at2, e2⟩ := pv
      exact ex_t at2.e2 (ex_t e2 hl)
    · obtain ⟨Γ', S', G, hI, at2, e2⟩ := pv
      obtain ⟨d, h1, h2⟩ := dps_getV ha hi
      exact ⟨i, d, Γ', S', G, h1, hI, G, at2.rebase.set j ⟨_, rfl, dp_ex e2 _ _ h2⟩, turn_endz at2.fra z _ fun Γ1 S1 H2 σ2 H3 q a e3 => ⟨Γ1, S1, H2, q, a, e2.trans e3⟩⟩
    · obtain ⟨Γ', S', G, hI, at2, e2⟩ := pv
      rw [dps_len ha] at hI
      exact z.nx Γ' S' G σ H (hd Γ' S' hI) at2
end
section
variable {X : Cx} {B : Bs} {Γ : Gam} {S : Sto} {a e : Expr} {pos : Pos} {Pe : Sl → Sto → Prop} {Pt : Bool → Sto → Prop} {ex : Value → Gam → Sto → Prop}
/-- a test that is an expression with effects -/
theorem gte_val (h : GE X B Γ S e Pe ex) (hd : ∀ r S', Pe r S' → ∃ k, r = .dat (.bool k) ∧ Pt k S') (he : ∀ whole, isTrue e X.env whole = (do let v ← whole; standAt e.pos; holding [v] (truthy v)) := by intro _; rfl) : GTE X B Γ S e Pt ex :=
  (pt_val h he).imp fun σ H Q ⟨H0, at0, q, qx⟩ => ⟨H0, at0, fun r S' v H0' H' hp at1 e1 hv => by
    obtain ⟨k, hr, hP⟩ := hd r S' hp
    subst hr
    have hv := hv.toDp
    cases hv
    exact ⟨k, rfl, q k S' H0' H' hP at1 e1⟩, qx⟩
theorem gte_not (h : GTE X B Γ S a (fun k S' => Pt (!k) S') ex) : GTE X B Γ S (.UnaryOp .Not a pos) Pt ex := (pt_not h).imp fun σ H Q ⟨H0, at0, q, qx⟩ => ⟨H0, at0, fun b S' H0' H' hp at1 e1 => q (!b) S' H0' H' hp at1 e1, qx⟩
end
/-! ### a tuple frozen; a list taken many times; not in -/
theorem At.freezeTup {K : PySem.W.Frag} {B : Bs} {H0 H : Hp} {Γ : Gam} {S : Sto} {σ : St} {n : Nat} {p : Addr} {vs : List V} {ds : List PyData} (a : At K B H0 Γ S σ H) (hn : S[n]? = some (p, .ho (.tup vs))) (hk : B.H p = none) (hd : DpAll K H0 vs ds) : ∃ H0', Ex H0 H0' ∧ At K B H0' Γ (S.eraseIdx n) σ H ∧ Dp K H0' (.ref p) (.tuple ds) := by
  have hm : (p, OV.ho (.tup vs)) ∈ S := List.mem_of_getElem? hn
  obtain ⟨h0, h1⟩ := a.sto.at_ p _ hm
  have h1 : H p = some (.tup vs) := h1
  have e0 : Ex H0 (upd H0 p (.tup vs)) := Ex.new h0
  refine ⟨upd H0 p (.tup vs), e0, ⟨⟨a.fra.e0.trans e0, a.fra.e1, fun b o e => ?_, fun b e1 e2 => ?_, a.fra.th⟩, a.env.ext e0, ⟨fun q ow hq => ?_, ?_⟩, fun q hq => ?_⟩, .tup (.inl (.inl upd_same)) (dps_ex e0 _ _ hd)⟩
  · by_cases z : b = p
    · subst z; rw [upd_same] at e; cases e; exact h1
    · rw [upd_ne z] at e; exact a.fra.e2 b o e
  · have : b ≠ p := fun z => e2 (by rw [z]; exact hk)
    rw [upd_ne this]; exact a.fra.fr b e1 e2
  · obtain ⟨m, hm'⟩ := List.getElem?_of_mem hq
    obtain ⟨m', hne, hm''⟩ : ∃ m', m' ≠ n ∧ S[m']? = some (q, ow) := by
      rw [List.getElem?_eraseIdx] at hm'
      split at hm'
      · exact ⟨m, by omega, hm'⟩
      · exact ⟨m + 1, by omega, hm'⟩
    obtain ⟨k0, k1⟩ := a.sto.at_ q ow (List.mem_of_getElem? hm'')
    have : q ≠ p := nd_at a.sto.nd hn hm'' hne
    exact ⟨by rw [upd_ne this]; exact k0, OvOk.ext e0 (fun o' e => e) k1⟩
  · have sub : (keys (S.eraseIdx n)).Sublist (keys S) := (List.eraseIdx_sublist S n).map _
    exact a.sto.nd.sublist sub
  · have sub : (keys (S.eraseIdx n)).Sublist (keys S) := (List.eraseIdx_sublist S n).map _
    exact a.wr q (sub.subset hq)
section
variable {X : Cx} {B : Bs} {Γ : Gam} {S : Sto} {a b e : Expr} {d : PyData} {ds es : List PyData} {pos : Pos} {k : Int} {ex : Value → Gam → Sto → Prop} {Pe : Sl → Sto → Prop}
/-- a new tuple of two new lists, handed on as data -/
theorem ge_frz2 (h : GE X B Γ S e (fun r S' => ∃ (t p q : Addr) (xs ys : List PyData), B.H t = none ∧ B.H p = none ∧ B.H q = none ∧ r = .raw (.ref t) ∧ S' = (t, .ho (.tup [.ref p, .ref q])) :: (q, .lst ys) :: (p, .lst xs) :: S ∧ Pe (.dat (.tuple [.list xs, .list ys])) S) ex) : GE X B Γ S e Pe ex :=
  h.imp fun σ H Q ⟨H0, at0, k, kx⟩ => ⟨H0, at0, fun r S' v H1 H' ⟨t, p, q, xs, ys, ht, hp, hq, hr, hS, hP⟩ at1 e1 hv => by
    subst hr hS
    have hv : (some (some v) : Option (Option V)) = some (some (.ref t)) := hv
    cases hv
    obtain ⟨H2, e2, at2, d2⟩ := at1.freeze (n := 2) rfl hp
    obtain ⟨H3, e3, at3, d3⟩ := at2.freeze (n := 1) rfl hq
    obtain ⟨H4, e4, at4, d4⟩ := at3.freezeTup (n := 0) rfl ht (.cons (dp_ex e3 _ _ d2) (.cons d3 .nil))
    exact k _ S _ H4 H' hP at4 (((e1.trans e2).trans e3).trans e4) ⟨_, rfl, d4⟩, kx⟩
theorem gd_notInD (hu : X.A.units + 65 < cLine) (hm : behindInMarks .NotIn b = false) (ha : GD X B Γ S a d) (hb : GD X B Γ S b (.list ds)) (h1 : SeqAt.shaped d = true) (h2 : SeqAt.shaped (.list ds) = true) : GD X B Γ S (.Compare a [.NotIn] [b] pos) (.bool (!ds.any fun z => PyData.eqv z d)) :=
  gd_cmp (op_notInD hu) (fun H0 H v w e hv hw Q k => ⟨d, ds, dp_ex e _ _ hv, dp_ex e _ _ hw, h1, h2, k _ H0 H (Ext.refl e) (.bl _)⟩) hm ha hb
theorem gt_notInD (hu : X.A.units + 65 < cLine) (hm : behindInMarks .NotIn b = false) (ha : GD X B Γ S a d) (hb : GD X B Γ S b (.list ds)) (h1 : SeqAt.shaped d = true) (h2 : SeqAt.shaped (.list ds) = true) : GT X B Γ S (.Compare a [.NotIn] [b] pos) (!ds.any fun z => PyData.eqv z d) :=
  gt_cmp (op_notInD hu) (fun H0 H v w e hv hw Q k => ⟨d, ds, dp_ex e _ _ hv, dp_ex e _ _ hw, h1, h2, k _ H0 H (Ext.refl e) (.bl _)⟩) hm ha hb
def repD (ds : List PyData) (k : Int) : List PyData := (List.replicate k.toNat ds).flatten
theorem dps_rep {K : PySem.W.Frag} {H : Hp} {vs : List V} (h : DpAll K H vs ds) : ∀ n : Nat, DpAll K H (List.replicate n vs).flatten (List.replicate n ds).flatten
  | 0 => .nil
  | n + 1 => by
    rw [List.replicate_succ, List.replicate_succ, List.flatten_cons, List.flatten_cons]
    exact dps_app h (dps_rep h n)
/-- a new list, so many times -/
theorem gd_rep (ha : GF X B Γ S a ds) (hb : ∀ S', GD X B Γ S' b (.int k)) (hk : -(2 ^ 62) ≤ k ∧ k < 2 ^ 62) (hl : ds.length * k.toNat ≤ 100000) : GD X B Γ S (.BinOp a .Mult b pos) (.list (repD ds k)) := by
  have hb' : PE X b (fun σ H Q => ∃ r S', (∃ p, B.H p = none ∧ r = Sl.raw (.ref p) ∧ S' = (p, OV.lst ds) :: S) ∧ rd X.K B Γ S' (.dat (.int k)) σ H Q) := ⟨fun pins s σ H Q I ⟨r, S', _, z⟩ => (hb S').run pins s σ H Q I z⟩
  refine (pe_op op_rep (ha (fun _ _ _ => False)) hb').imp fun σ H Q ⟨H0, at0, q⟩ => ⟨H0, at0, fun r S' v H1 H' hp at1 e1 hv => ⟨r, S', hp, H1, at1, fun w H2 H'' at2 e2 hw => ?_⟩, fun _ _ _ _ z => z.elim⟩
  obtain ⟨p, hpB, hr, hS⟩ := hp
  subst hr hS
  have hv : (some (some v) : Option (Option V)) = some (some (.ref p)) := hv
  cases hv
  have hw := hw.toDp
  cases hw
  obtain ⟨_, vs, h1, h2⟩ := at2.sto.at_ p _ List.mem_cons_self
  refine ⟨p, k, vs, rfl, rfl, h1, by omega, by omega, by rw [dps_len h2]; exact Evl.sz_of hl, fun l hl' => ?_⟩
  have at3 : At X.K B H2 Γ S σ H'' := at2.within (Within.skip .refl)
  exact q _ _ _ (at3.ext (Ext.new at3.e2 hl')) ((e1.trans e2).trans (Ex.new (free0 at3.e2 hl'))) ⟨_, rfl, .lst (.inl (.inl upd_same)) (dps_ex (Ex.new (free0 at3.e2 hl')) _ _ (dps_rep h2 _))⟩
end
section
variable {X : Cx} {B : Bs} {Γ : Gam} {S F : Sto} {e : Expr} {ex : Value → Gam → Sto → Prop} {Pe : Sl → Sto → Prop}
/-- what an expression made is new -/
theorem ge_new (hk : ∀ q ∈ B.ks, q ∈ keys F) (h : GE X B Γ S e Pe ex) : GE X B Γ S e (fun r S' => Pe r S' ∧ ∀ S1, S' = S1 ++ F → ∀ e ∈ S1, B.H e.1 = none) ex := h.imp fun σ H Q ⟨H0, at0, k, kx⟩ => ⟨H0, at0, fun r S' v H1 H' hp at1 e1 hv => k r S' v H1 H' ⟨hp, fun S1 hS e he => by
  subst hS
  have nd := at1.sto.nd
  rw [show keys (S1 ++ F) = keys S1 ++ keys F from List.map_append] at nd
  rcases at1.wr e.1 (by rw [show keys (S1 ++ F) = keys S1 ++ keys F from List.map_append]; exact List.mem_append_left _ (List.mem_map.mpr ⟨e, he, rfl⟩)) with h | h
  · exact absurd rfl ((List.nodup_append.mp nd).2.2 e.1 (List.mem_map.mpr ⟨e, he, rfl⟩) e.1 (hk _ h))
  · exact h⟩ at1 e1 hv, kx⟩
end
/-! ### a comprehension with a test, over a list that is data -/
section
variable {X : Cx} {B : Bs} {Γ : Gam} {S : Sto} {o elt tst : Expr} {ds : List PyData} {x : Str} {px lp : Pos} {j : Nat} {scope : Scope} {P : Po}
def tfL (K : PySem.W.Frag) (B : Bs) (Γ : Gam) (S : Sto) (ds : List PyData) (j : Nat) (kp : Nat → Bool) : TT := fun σ H Q => ∃ (i : Nat) (D : Addr) (acc : List PyData) (d : PyData), ds[i]? = some d ∧ rt K B ((wipeG Γ [j]).set j (.dat d)) ((D, .lst acc) :: S) (kp i) σ H Q
def fltD (n : Nat) (kp : Nat → Bool) (g : Nat → PyData) : List PyData := ((List.range n).filter kp).map g
theorem fltD_yes {n : Nat} {kp : Nat → Bool} {g : Nat → PyData} (h : kp n = true) : fltD (n + 1) kp g = fltD n kp g ++ [g n] := by
  unfold fltD
  rw [List.range_succ, List.filter_append, List.map_append, List.filter_cons, if_pos h]; rfl
theorem fltD_no {n : Nat} {kp : Nat → Bool} {g : Nat → PyData} (h : kp n = false) : fltD (n + 1) kp g = fltD n kp g := by
  unfold fltD
  rw [List.range_succ, List.filter_append, List.map_append, List.filter_cons, if_neg (by rw [h]; decide)]
  exact List.append_nil _
theorem fltD_len (n : Nat) (kp : Nat → Bool) (g : Nat → PyData) : (fltD n kp g).length ≤ n := by
  unfold fltD
  rw [List.length_map]
  exact Nat.le_trans (List.length_filter_le _ _) (by rw [List.length_range]; exact Nat.le_refl _)
theorem lcF_go (kp : Nat → Bool) (g : Nat → PyData) (hl : ds.length ≤ 100000) {σ : St} {H : Hp} {Q : VK} (h : rd X.K B Γ S (.dat (.list (fltD ds.length kp g))) σ H Q) : tLc (iList X.K (rd X.K B Γ S (.dat (.list ds)))) (gName j) (tfL X.K B Γ S ds j kp) (teL X.K B Γ S ds j g) [j] σ H Q := by
  obtain ⟨H0, at0, k⟩ := h
  refine ⟨H0, at0, fun v H1 H' at1 e1 hv => ?_⟩
  have hv := hv.toDp
  cases hv with
  | @lst q vs _ hq ha =>
    have hln := dps_len ha
    refine ⟨q, rfl, ⟨vs, ex_l at1.e2 hq⟩, fun D hD => ?_⟩
    have hB : B.H D = none := none_B at1.fra hD
    refine L2.lc_list (K := X.K) (a := q) (xs := vs) (g := gName j) (tt := tfL X.K B Γ S ds j kp) (te := teL X.K B Γ S ds j g) (vs := [j]) (σ := σ) (D := D) (Qd := fun H => Q (.ref D) H) (fun i H => i ≤ vs.length ∧ ∃ H0, At X.K B H0 Γ ((D, .lst (fltD i kp g)) :: S) σ H ∧ Ex H1 H0) ⟨Nat.zero_le _, H1, at1.own hD ⟨[], upd_same, .nil⟩, Ex.refl _⟩ (fun i H _ pv => ?_) (fun i y H hi pv => ?_) fun H pv => ?_
    · obtain ⟨_, G, at2, e2⟩ := pv
      exact ex_l at2.e2 (ex_l e2 hq)
    · obtain ⟨_, G, at2, e2⟩ := pv
      have hlt : i < vs.length := (List.getElem?_eq_some_iff.mp hi).1
      obtain ⟨d, h1, h2⟩ := dps_getV ha hi
      refine ⟨wipe_set1, ?_⟩
      refine ⟨i, D, _, d, h1, G, (at2.wipe [j]).set j (s := .dat d) ⟨_, rfl, dp_ex e2 _ _ h2⟩, fun H2 H'' at3 e3 => ?_⟩
      cases hk : kp i with
      | false =>
        rw [if_neg Bool.false_ne_true]
        refine ⟨hlt, H2, ?_, e2.trans e3⟩
        rw [fltD_no hk]
        exact at2.frame at3 e3
      | true =>
        rw [if_pos rfl]
        refine ⟨i, D, _, d, h1, H2, at3, fun v H3 H''' at4 e4 hv => ?_⟩
        obtain ⟨_, acc, h5, h6⟩ := at4.sto.at_ D _ List.mem_cons_self
        have hfl := fltD_len i kp g
        refine ⟨acc, h5, ?_, hlt, H3, ?_, (e2.trans e3).trans e4⟩
        · rw [dps_len h6]; exact Evl.sz_lt (by omega)
        · have a4 := at2.frame at4 (e3.trans e4)
          have a5 := a4.write (n := 0) (ow := .lst (fltD i kp g ++ [g i])) (o := .lst (acc ++ [v])) rfl ⟨_, upd_same, dps_app h6 (.cons hv.toDp .nil)⟩
          rw [fltD_yes hk]
          exact a5
    · obtain ⟨_, G, at2, e2⟩ := pv
      obtain ⟨G', e3, at3, hd⟩ := at2.freeze (n := 0) rfl hB
      rw [hln] at hd
      exact k _ G' H at3 ((e1.trans e2).trans e3) ⟨_, rfl, hd⟩
/-- y = [elt for x in a list that is data if test] -/
theorem gs_setLcF {spos py : Pos} {y : Str} (i : Nat) (kp : Nat → Bool) (g : Nat → PyData) (hy : X.N[i]? = some y) (hyl : X.env.scope.names.lookup y = some .local) (hsw : swapsWith (.ListComp elt [⟨.Name x px, o, [tst], 0⟩] scope lp) (some (.Name y py)) spos.line X.env = pure true) (hc : X.calm = true) (hN : X.N.Nodup) (ho : GD X B Γ S o (.list ds)) (hl : ds.length ≤ 100000) (ok : BlkOk X.N X.env.scope scope [(x, j)])
    (htg : ∀ (s : Shared) (H : Hp) (C : Addr) (cl : List (Str × Addr)) (fp : List Addr), PG (X.blk s H scope (compEnvC scope cl C X.env) fp) (.Name x px) (gName j))
    (hts : ∀ (i : Nat) (D : Addr) (acc : List PyData) (d : PyData), ds[i]? = some d → ∀ (s : Shared) (H : Hp) (C : Addr) (cl : List (Str × Addr)) (fp : List Addr), GT (X.blk s H scope (compEnvC scope cl C X.env) fp) B ((wipeG Γ [j]).set j (.dat d)) ((D, .lst acc) :: S) tst (kp i))
    (hel : ∀ (i : Nat) (D : Addr) (acc : List PyData) (d : PyData), ds[i]? = some d → ∀ (s : Shared) (H : Hp) (C : Addr) (cl : List (Str × Addr)) (fp : List Addr), GD (X.blk s H scope (compEnvC scope cl C X.env) fp) B ((wipeG Γ [j]).set j (.dat d)) ((D, .lst acc) :: S) elt (g i))
    (q : P.N (Γ.set i (.dat (.list (fltD ds.length kp g)))) S)
    (hfs : ∀ y, foldedSetIterable o X.env y = pure y := by intro _; rfl) : GS X B Γ S (.Assign [.Name y py] (.ListComp elt [⟨.Name x px, o, [tst], 0⟩] scope lp) spos) P :=
  (ps_setLc (own := [(x, j)]) hc hN hy hyl hsw (pi_list ho) ok htg (fun s H C cl fp => pts_one (t := tfL X.K B Γ S ds j kp) ⟨fun pins s' σ H' Q Iv ⟨i, D, acc, d, h1, z⟩ => (hts i D acc d h1 s H C cl fp).run pins s' σ H' Q Iv z⟩) (te := teL X.K B Γ S ds j g) (fun s H C cl fp => ⟨fun pins s' σ H' Q Iv ⟨i, D, acc, d, h1, z⟩ => (hel i D acc d h1 s H C cl fp).run pins s' σ H' Q Iv z⟩) hfs).imp fun D σ H ⟨H0, at0, z⟩ => lcF_go kp g hl ⟨H0, at0, fun v H0' H' at1 e1 hv => z.nx _ _ H0' _ H' q (at1.set i hv)⟩
end
end G

set_option Elab.async false
set_option linter.all false
set_option maxRecDepth 100000
set_option maxHeartbeats 4000000
namespace My
open PySem PySem.Spec PyProof.Rows L2 G

def top (i : Nat) : Stmt := PySem.Challenge.pw_guardrows_k04_rows_refused.main.body.getD i (.Pass ⟨0, 0, 0, 0⟩)
abbrev s_wall : Stmt := top 0
abbrev s_is_whole : Stmt := top 16
abbrev s_is_step : Stmt := top 17
abbrev s_check_row : Stmt := top 18
abbrev s_Loom___init : Stmt := inClass (top 20) 0
abbrev s_Loom_over : Stmt := inClass (top 20) 1
abbrev s_Loom_waits : Stmt := inClass (top 20) 2
abbrev s_Loom_go : Stmt := inClass (top 20) 3
abbrev s_Loom_twin : Stmt := inClass (top 20) 4
abbrev s_Loom__next_step : Stmt := inClass (top 20) 5
abbrev s_Loom__do_guard : Stmt := inClass (top 20) 6
abbrev s_Loom__do_box : Stmt := inClass (top 20) 7
abbrev s_alone : Stmt := top 22
abbrev s_walked : Stmt := top 23
abbrev s_woven : Stmt := top 24
abbrev s_can_go : Stmt := top 25
abbrev s_finish : Stmt := top 26
abbrev s_strange : Stmt := top 29
abbrev s_check_rows : Stmt := top 30
abbrev s_told : Stmt := top 31
abbrev s_plain_orders : Stmt := top 32
abbrev s_all_orders : Stmt := top 33
abbrev s_l_cell_at : Stmt := top 35
abbrev s_l_put : Stmt := top 36
abbrev s_l_row_by : Stmt := top 37
abbrev s_l_wrong_by : Stmt := top 38
abbrev s_l_due : Stmt := top 39
abbrev s_l_asked : Stmt := top 40
abbrev s_l_names : Stmt := top 41
abbrev s_l_told : Stmt := top 42
abbrev s_l_with_guards : Stmt := top 43
abbrev s_law : Stmt := top 44
structure Txt (K : PySem.W.Frag) (mg : Str → Option Value) where
  f_wall : Addr
  d_wall : FuncData
  F_wall : Fun K "_wall" "_wall" s_wall f_wall d_wall
  m_wall : mg "_wall" = some (.ref f_wall)
  b_wall : Binds K d_wall ["k"] []
  f_is_whole : Addr
  d_is_whole : FuncData
  F_is_whole : Fun K "is_whole" "is_whole" s_is_whole f_is_whole d_is_whole
  m_is_whole : mg "is_whole" = some (.ref f_is_whole)
  b_is_whole : Binds K d_is_whole ["thing"] []
  f_is_step : Addr
  d_is_step : FuncData
  F_is_step : Fun K "is_step" "is_step" s_is_step f_is_step d_is_step
  m_is_step : mg "is_step" = some (.ref f_is_step)
  b_is_step : Binds K d_is_step ["thing"] []
  f_check_row : Addr
  d_check_row : FuncData
  F_check_row : Fun K "check_row" "check_row" s_check_row f_check_row d_check_row
  m_check_row : mg "check_row" = some (.ref f_check_row)
  b_check_row : Binds K d_check_row ["row", "boxes"] []
  f_alone : Addr
  d_alone : FuncData
  F_alone : Fun K "alone" "alone" s_alone f_alone d_alone
  m_alone : mg "alone" = some (.ref f_alone)
  b_alone : Binds K d_alone ["row", "boxes"] []
  f_walked : Addr
  d_walked : FuncData
  F_walked : Fun K "walked" "walked" s_walked f_walked d_walked
  m_walked : mg "walked" = some (.ref f_walked)
  b_walked : Binds K d_walked ["ones", "others", "boxes", "order"] []
  f_woven : Addr
  d_woven : FuncData
  F_woven : Fun K "woven" "woven" s_woven f_woven d_woven
  m_woven : mg "woven" = some (.ref f_woven)
  b_woven : Binds K d_woven ["ones", "others", "boxes", "turns"] []
  f_can_go : Addr
  d_can_go : FuncData
  F_can_go : Fun K "_can_go" "_can_go" s_can_go f_can_go d_can_go
  m_can_go : mg "_can_go" = some (.ref f_can_go)
  b_can_go : Binds K d_can_go ["loom", "hand"] []
  f_finish : Addr
  d_finish : FuncData
  F_finish : Fun K "_finish" "_finish" s_finish f_finish d_finish
  m_finish : mg "_finish" = some (.ref f_finish)
  b_finish : Binds K d_finish ["loom", "order"] []
  f_strange : Addr
  d_strange : FuncData
  F_strange : Fun K "strange" "strange" s_strange f_strange d_strange
  m_strange : mg "strange" = some (.ref f_strange)
  b_strange : Binds K d_strange ["ones", "others", "boxes"] []
  f_check_rows : Addr
  d_check_rows : FuncData
  F_check_rows : Fun K "_check_rows" "_check_rows" s_check_rows f_check_rows d_check_rows
  m_check_rows : mg "_check_rows" = some (.ref f_check_rows)
  b_check_rows : Binds K d_check_rows ["ones", "others", "boxes"] []
  f_told : Addr
  d_told : FuncData
  F_told : Fun K "_told" "_told" s_told f_told d_told
  m_told : mg "_told" = some (.ref f_told)
  b_told : Binds K d_told ["ones", "others", "boxes", "order"] []
  f_plain_orders : Addr
  d_plain_orders : FuncData
  F_plain_orders : Fun K "_plain_orders" "_plain_orders" s_plain_orders f_plain_orders d_plain_orders
  m_plain_orders : mg "_plain_orders" = some (.ref f_plain_orders)
  b_plain_orders : Binds K d_plain_orders ["first", "second"] []
  f_all_orders : Addr
  d_all_orders : FuncData
  F_all_orders : Fun K "_all_orders" "_all_orders" s_all_orders f_all_orders d_all_orders
  m_all_orders : mg "_all_orders" = some (.ref f_all_orders)
  b_all_orders : Binds K d_all_orders ["first", "second"] []
  f_l_cell_at : Addr
  d_l_cell_at : FuncData
  F_l_cell_at : Fun K "_law_cell_at" "_law_cell_at" s_l_cell_at f_l_cell_at d_l_cell_at
  m_l_cell_at : mg "_law_cell_at" = some (.ref f_l_cell_at)
  b_l_cell_at : Binds K d_l_cell_at ["_law_script", "_law_k"] []
  f_l_put : Addr
  d_l_put : FuncData
  F_l_put : Fun K "_law_put" "_law_put" s_l_put f_l_put d_l_put
  m_l_put : mg "_law_put" = some (.ref f_l_put)
  b_l_put : Binds K d_l_put ["_law_row", "_law_at", "_law_thing"] []
  f_l_row_by : Addr
  d_l_row_by : FuncData
  F_l_row_by : Fun K "_law_row_by" "_law_row_by" s_l_row_by f_l_row_by d_l_row_by
  m_l_row_by : mg "_law_row_by" = some (.ref f_l_row_by)
  b_l_row_by : Binds K d_l_row_by ["_law_cell", "_law_many"] []
  f_l_wrong_by : Addr
  d_l_wrong_by : FuncData
  F_l_wrong_by : Fun K "_law_wrong_by" "_law_wrong_by" s_l_wrong_by f_l_wrong_by d_l_wrong_by
  m_l_wrong_by : mg "_law_wrong_by" = some (.ref f_l_wrong_by)
  b_l_wrong_by : Binds K d_l_wrong_by ["_law_cell", "_law_many"] []
  f_l_due : Addr
  d_l_due : FuncData
  F_l_due : Fun K "_law_due" "_law_due" s_l_due f_l_due d_l_due
  m_l_due : mg "_law_due" = some (.ref f_l_due)
  b_l_due : Binds K d_l_due ["_law_row", "_law_many"] []
  f_l_asked : Addr
  d_l_asked : FuncData
  F_l_asked : Fun K "_law_asked" "_law_asked" s_l_asked f_l_asked d_l_asked
  m_l_asked : mg "_law_asked" = some (.ref f_l_asked)
  b_l_asked : Binds K d_l_asked ["_law_which", "_law_ones", "_law_others", "_law_boxes", "_law_order"] []
  f_l_names : Addr
  d_l_names : FuncData
  F_l_names : Fun K "_law_names" "_law_names" s_l_names f_l_names d_l_names
  m_l_names : mg "_law_names" = some (.ref f_l_names)
  b_l_names : Binds K d_l_names ["_law_error"] []
  f_l_told : Addr
  d_l_told : FuncData
  F_l_told : Fun K "_law_told" "_law_told" s_l_told f_l_told d_l_told
  m_l_told : mg "_law_told" = some (.ref f_l_told)
  b_l_told : Binds K d_l_told ["_law_which", "_law_ones", "_law_others", "_law_boxes", "_law_kind", "_law_order"] []
  f_l_with_guards : Addr
  d_l_with_guards : FuncData
  F_l_with_guards : Fun K "_law_with_guards" "_law_with_guards" s_l_with_guards f_l_with_guards d_l_with_guards
  m_l_with_guards : mg "_law_with_guards" = some (.ref f_l_with_guards)
  b_l_with_guards : Binds K d_l_with_guards ["_law_row", "_law_cell"] []
  f_law : Addr
  d_law : FuncData
  F_law : Fun K "law" "law" s_law f_law d_law
  m_law : mg "law" = some (.ref f_law)
  b_law : Binds K d_law ["_law_script"] []
  a_BOX_WORDS : Addr
  m_BOX_WORDS : mg "BOX_WORDS" = some (.ref a_BOX_WORDS)
  c_BOX_WORDS : ∀ H0, Dp K H0 (.ref a_BOX_WORDS) (.tuple [(.str "load"), (.str "plus"), (.str "store")])
  r_BOX_WORDS : RelV (.ref a_BOX_WORDS) (.ref a_BOX_WORDS)
  a_GUARD_WORDS : Addr
  m_GUARD_WORDS : mg "GUARD_WORDS" = some (.ref a_GUARD_WORDS)
  c_GUARD_WORDS : ∀ H0, Dp K H0 (.ref a_GUARD_WORDS) (.tuple [(.str "take"), (.str "free")])
  r_GUARD_WORDS : RelV (.ref a_GUARD_WORDS) (.ref a_GUARD_WORDS)
  a_BARE_WORDS : Addr
  m_BARE_WORDS : mg "BARE_WORDS" = some (.ref a_BARE_WORDS)
  c_BARE_WORDS : ∀ H0, Dp K H0 (.ref a_BARE_WORDS) (.tuple [(.str "twice"), (.str "take"), (.str "free")])
  r_BARE_WORDS : RelV (.ref a_BARE_WORDS) (.ref a_BARE_WORDS)
  t_MOST_STEPS : Tok
  m_MOST_STEPS : mg "MOST_STEPS" = some (.int 60 t_MOST_STEPS)
  c_MOST_STEPS : ∀ H0, Dp K H0 (.int 60) (.int 60)
  r_MOST_STEPS : RelV (.int 60) (.int 60 t_MOST_STEPS)
  t_MOST_SEARCHED : Tok
  m_MOST_SEARCHED : mg "MOST_SEARCHED" = some (.int 5 t_MOST_SEARCHED)
  c_MOST_SEARCHED : ∀ H0, Dp K H0 (.int 5) (.int 5)
  r_MOST_SEARCHED : RelV (.int 5) (.int 5 t_MOST_SEARCHED)
  z_len : mg "len" = none
  z_isinstance : mg "isinstance" = none
  z_int : mg "int" = none
  z_bool : mg "bool" = none
  z_str : mg "str" = none
  z_list : mg "list" = none
  z_tuple : mg "tuple" = none
  z_range : mg "range" = none
  z_enumerate : mg "enumerate" = none
  z_ValueError : mg "ValueError" = none
  C_Loom : Addr
  cl_Loom : Cls K C_Loom
  mg_Loom : mg "Loom" = some (.ref C_Loom)
  no__rows : NoAttr K C_Loom "_rows"
  no_boxes : NoAttr K C_Loom "boxes"
  no_numbers : NoAttr K C_Loom "numbers"
  no_places : NoAttr K C_Loom "places"
  no_holder : NoAttr K C_Loom "holder"
  f_Loom___init : Addr
  d_Loom___init : FuncData
  F_Loom___init : Fun K "__init__" "Loom.__init__" s_Loom___init f_Loom___init d_Loom___init
  b_Loom___init : Binds K d_Loom___init ["self", "ones", "others", "boxes"] []
  M_Loom___init : Mk K C_Loom f_Loom___init
  f_Loom_over : Addr
  d_Loom_over : FuncData
  F_Loom_over : Fun K "over" "Loom.over" s_Loom_over f_Loom_over d_Loom_over
  b_Loom_over : Binds K d_Loom_over ["self", "hand"] []
  M_Loom_over : Meth K C_Loom "over" f_Loom_over
  f_Loom_waits : Addr
  d_Loom_waits : FuncData
  F_Loom_waits : Fun K "waits" "Loom.waits" s_Loom_waits f_Loom_waits d_Loom_waits
  b_Loom_waits : Binds K d_Loom_waits ["self", "hand"] []
  M_Loom_waits : Meth K C_Loom "waits" f_Loom_waits
  f_Loom_go : Addr
  d_Loom_go : FuncData
  F_Loom_go : Fun K "go" "Loom.go" s_Loom_go f_Loom_go d_Loom_go
  b_Loom_go : Binds K d_Loom_go ["self", "hand"] []
  M_Loom_go : Meth K C_Loom "go" f_Loom_go
  f_Loom_twin : Addr
  d_Loom_twin : FuncData
  F_Loom_twin : Fun K "twin" "Loom.twin" s_Loom_twin f_Loom_twin d_Loom_twin
  b_Loom_twin : Binds K d_Loom_twin ["self"] []
  M_Loom_twin : Meth K C_Loom "twin" f_Loom_twin
  f_Loom__next_step : Addr
  d_Loom__next_step : FuncData
  F_Loom__next_step : Fun K "_next_step" "Loom._next_step" s_Loom__next_step f_Loom__next_step d_Loom__next_step
  b_Loom__next_step : Binds K d_Loom__next_step ["self", "hand"] []
  M_Loom__next_step : Meth K C_Loom "_next_step" f_Loom__next_step
  f_Loom__do_guard : Addr
  d_Loom__do_guard : FuncData
  F_Loom__do_guard : Fun K "_do_guard" "Loom._do_guard" s_Loom__do_guard f_Loom__do_guard d_Loom__do_guard
  b_Loom__do_guard : Binds K d_Loom__do_guard ["self", "hand", "word"] []
  M_Loom__do_guard : Meth K C_Loom "_do_guard" f_Loom__do_guard
  f_Loom__do_box : Addr
  d_Loom__do_box : FuncData
  F_Loom__do_box : Fun K "_do_box" "Loom._do_box" s_Loom__do_box f_Loom__do_box d_Loom__do_box
  b_Loom__do_box : Binds K d_Loom__do_box ["self", "hand", "word", "box"] []
  M_Loom__do_box : Meth K C_Loom "_do_box" f_Loom__do_box
  C_NoTurn : Addr
  g_NoTurn : mg "NoTurn" = some (.ref C_NoTurn)
  x_NoTurn : PySem.W.excIn K C_NoTurn [.type "ValueError", .type "Exception", .type "BaseException", .type "object"] "ValueError.__new__" = true
  k_NoTurn : PySem.W.keepIn K (.ref C_NoTurn) = true
  s_NoTurn : PySem.W.subIn K (.ref C_NoTurn) (.type "BaseException") = some true
  t_NoTurn : PySem.W.typeIn K (.ref C_NoTurn) = some (.type "type")
  C_Waits : Addr
  g_Waits : mg "Waits" = some (.ref C_Waits)
  x_Waits : PySem.W.excIn K C_Waits [.type "ValueError", .type "Exception", .type "BaseException", .type "object"] "ValueError.__new__" = true
  k_Waits : PySem.W.keepIn K (.ref C_Waits) = true
  s_Waits : PySem.W.subIn K (.ref C_Waits) (.type "BaseException") = some true
  t_Waits : PySem.W.typeIn K (.ref C_Waits) = some (.type "type")
  C_Again : Addr
  g_Again : mg "Again" = some (.ref C_Again)
  x_Again : PySem.W.excIn K C_Again [.type "ValueError", .type "Exception", .type "BaseException", .type "object"] "ValueError.__new__" = true
  k_Again : PySem.W.keepIn K (.ref C_Again) = true
  s_Again : PySem.W.subIn K (.ref C_Again) (.type "BaseException") = some true
  t_Again : PySem.W.typeIn K (.ref C_Again) = some (.type "type")
  C_NotHeld : Addr
  g_NotHeld : mg "NotHeld" = some (.ref C_NotHeld)
  x_NotHeld : PySem.W.excIn K C_NotHeld [.type "ValueError", .type "Exception", .type "BaseException", .type "object"] "ValueError.__new__" = true
  k_NotHeld : PySem.W.keepIn K (.ref C_NotHeld) = true
  s_NotHeld : PySem.W.subIn K (.ref C_NotHeld) (.type "BaseException") = some true
  t_NotHeld : PySem.W.typeIn K (.ref C_NotHeld) = some (.type "type")
  C_Stuck : Addr
  g_Stuck : mg "Stuck" = some (.ref C_Stuck)
  x_Stuck : PySem.W.excIn K C_Stuck [.type "ValueError", .type "Exception", .type "BaseException", .type "object"] "ValueError.__new__" = true
  k_Stuck : PySem.W.keepIn K (.ref C_Stuck) = true
  s_Stuck : PySem.W.subIn K (.ref C_Stuck) (.type "BaseException") = some true
  t_Stuck : PySem.W.typeIn K (.ref C_Stuck) = some (.type "type")
  C_TooMany : Addr
  g_TooMany : mg "TooMany" = some (.ref C_TooMany)
  x_TooMany : PySem.W.excIn K C_TooMany [.type "ValueError", .type "Exception", .type "BaseException", .type "object"] "ValueError.__new__" = true
  k_TooMany : PySem.W.keepIn K (.ref C_TooMany) = true
  s_TooMany : PySem.W.subIn K (.ref C_TooMany) (.type "BaseException") = some true
  t_TooMany : PySem.W.typeIn K (.ref C_TooMany) = some (.type "type")
  C_BadStep : Addr
  g_BadStep : mg "BadStep" = some (.ref C_BadStep)
  x_BadStep : PySem.W.excIn K C_BadStep [.type "ValueError", .type "Exception", .type "BaseException", .type "object"] "ValueError.__new__" = true
  k_BadStep : PySem.W.keepIn K (.ref C_BadStep) = true
  s_BadStep : PySem.W.subIn K (.ref C_BadStep) (.type "BaseException") = some true
  t_BadStep : PySem.W.typeIn K (.ref C_BadStep) = some (.type "type")
  C_BadBox : Addr
  g_BadBox : mg "BadBox" = some (.ref C_BadBox)
  x_BadBox : PySem.W.excIn K C_BadBox [.type "ValueError", .type "Exception", .type "BaseException", .type "object"] "ValueError.__new__" = true
  k_BadBox : PySem.W.keepIn K (.ref C_BadBox) = true
  s_BadBox : PySem.W.subIn K (.ref C_BadBox) (.type "BaseException") = some true
  t_BadBox : PySem.W.typeIn K (.ref C_BadBox) = some (.type "type")
  C_WeaveError : Addr
  g_WeaveError : mg "WeaveError" = some (.ref C_WeaveError)
  ec_NoTurn : ExcC K C_NoTurn
  kv_NoTurn : PySem.W.kitOne K (.ref C_NoTurn) (.type "ValueError") = some true
  ki_NoTurn_TooMany : PySem.W.kitOne K (.ref C_NoTurn) (.ref C_TooMany) = some false
  ki_NoTurn_BadStep : PySem.W.kitOne K (.ref C_NoTurn) (.ref C_BadStep) = some false
  ki_NoTurn_BadBox : PySem.W.kitOne K (.ref C_NoTurn) (.ref C_BadBox) = some false
  ki_NoTurn_Again : PySem.W.kitOne K (.ref C_NoTurn) (.ref C_Again) = some false
  ki_NoTurn_NotHeld : PySem.W.kitOne K (.ref C_NoTurn) (.ref C_NotHeld) = some false
  ki_NoTurn_NoTurn : PySem.W.kitOne K (.ref C_NoTurn) (.ref C_NoTurn) = some true
  ki_NoTurn_Waits : PySem.W.kitOne K (.ref C_NoTurn) (.ref C_Waits) = some false
  ki_NoTurn_Stuck : PySem.W.kitOne K (.ref C_NoTurn) (.ref C_Stuck) = some false
  ex_NoTurn_NoTurn : PySem.W.exmOne K (.ref C_NoTurn) (.ref C_NoTurn) = some true
  ex_NoTurn_Waits : PySem.W.exmOne K (.ref C_NoTurn) (.ref C_Waits) = some false
  ex_NoTurn_Again : PySem.W.exmOne K (.ref C_NoTurn) (.ref C_Again) = some false
  ex_NoTurn_NotHeld : PySem.W.exmOne K (.ref C_NoTurn) (.ref C_NotHeld) = some false
  ex_NoTurn_Stuck : PySem.W.exmOne K (.ref C_NoTurn) (.ref C_Stuck) = some false
  ex_NoTurn_TooMany : PySem.W.exmOne K (.ref C_NoTurn) (.ref C_TooMany) = some false
  ex_NoTurn_BadStep : PySem.W.exmOne K (.ref C_NoTurn) (.ref C_BadStep) = some false
  ex_NoTurn_BadBox : PySem.W.exmOne K (.ref C_NoTurn) (.ref C_BadBox) = some false
  ex_NoTurn_WeaveError : PySem.W.exmOne K (.ref C_NoTurn) (.ref C_WeaveError) = some true
  ec_Waits : ExcC K C_Waits
  kv_Waits : PySem.W.kitOne K (.ref C_Waits) (.type "ValueError") = some true
  ki_Waits_TooMany : PySem.W.kitOne K (.ref C_Waits) (.ref C_TooMany) = some false
  ki_Waits_BadStep : PySem.W.kitOne K (.ref C_Waits) (.ref C_BadStep) = some false
  ki_Waits_BadBox : PySem.W.kitOne K (.ref C_Waits) (.ref C_BadBox) = some false
  ki_Waits_Again : PySem.W.kitOne K (.ref C_Waits) (.ref C_Again) = some false
  ki_Waits_NotHeld : PySem.W.kitOne K (.ref C_Waits) (.ref C_NotHeld) = some false
  ki_Waits_NoTurn : PySem.W.kitOne K (.ref C_Waits) (.ref C_NoTurn) = some false
  ki_Waits_Waits : PySem.W.kitOne K (.ref C_Waits) (.ref C_Waits) = some true
  ki_Waits_Stuck : PySem.W.kitOne K (.ref C_Waits) (.ref C_Stuck) = some false
  ex_Waits_NoTurn : PySem.W.exmOne K (.ref C_Waits) (.ref C_NoTurn) = some false
  ex_Waits_Waits : PySem.W.exmOne K (.ref C_Waits) (.ref C_Waits) = some true
  ex_Waits_Again : PySem.W.exmOne K (.ref C_Waits) (.ref C_Again) = some false
  ex_Waits_NotHeld : PySem.W.exmOne K (.ref C_Waits) (.ref C_NotHeld) = some false
  ex_Waits_Stuck : PySem.W.exmOne K (.ref C_Waits) (.ref C_Stuck) = some false
  ex_Waits_TooMany : PySem.W.exmOne K (.ref C_Waits) (.ref C_TooMany) = some false
  ex_Waits_BadStep : PySem.W.exmOne K (.ref C_Waits) (.ref C_BadStep) = some false
  ex_Waits_BadBox : PySem.W.exmOne K (.ref C_Waits) (.ref C_BadBox) = some false
  ex_Waits_WeaveError : PySem.W.exmOne K (.ref C_Waits) (.ref C_WeaveError) = some true
  ec_Again : ExcC K C_Again
  kv_Again : PySem.W.kitOne K (.ref C_Again) (.type "ValueError") = some true
  ki_Again_TooMany : PySem.W.kitOne K (.ref C_Again) (.ref C_TooMany) = some false
  ki_Again_BadStep : PySem.W.kitOne K (.ref C_Again) (.ref C_BadStep) = some false
  ki_Again_BadBox : PySem.W.kitOne K (.ref C_Again) (.ref C_BadBox) = some false
  ki_Again_Again : PySem.W.kitOne K (.ref C_Again) (.ref C_Again) = some true
  ki_Again_NotHeld : PySem.W.kitOne K (.ref C_Again) (.ref C_NotHeld) = some false
  ki_Again_NoTurn : PySem.W.kitOne K (.ref C_Again) (.ref C_NoTurn) = some false
  ki_Again_Waits : PySem.W.kitOne K (.ref C_Again) (.ref C_Waits) = some false
  ki_Again_Stuck : PySem.W.kitOne K (.ref C_Again) (.ref C_Stuck) = some false
  ex_Again_NoTurn : PySem.W.exmOne K (.ref C_Again) (.ref C_NoTurn) = some false
  ex_Again_Waits : PySem.W.exmOne K (.ref C_Again) (.ref C_Waits) = some false
  ex_Again_Again : PySem.W.exmOne K (.ref C_Again) (.ref C_Again) = some true
  ex_Again_NotHeld : PySem.W.exmOne K (.ref C_Again) (.ref C_NotHeld) = some false
  ex_Again_Stuck : PySem.W.exmOne K (.ref C_Again) (.ref C_Stuck) = some false
  ex_Again_TooMany : PySem.W.exmOne K (.ref C_Again) (.ref C_TooMany) = some false
  ex_Again_BadStep : PySem.W.exmOne K (.ref C_Again) (.ref C_BadStep) = some false
  ex_Again_BadBox : PySem.W.exmOne K (.ref C_Again) (.ref C_BadBox) = some false
  ex_Again_WeaveError : PySem.W.exmOne K (.ref C_Again) (.ref C_WeaveError) = some true
  ec_NotHeld : ExcC K C_NotHeld
  kv_NotHeld : PySem.W.kitOne K (.ref C_NotHeld) (.type "ValueError") = some true
  ki_NotHeld_TooMany : PySem.W.kitOne K (.ref C_NotHeld) (.ref C_TooMany) = some false
  ki_NotHeld_BadStep : PySem.W.kitOne K (.ref C_NotHeld) (.ref C_BadStep) = some false
  ki_NotHeld_BadBox : PySem.W.kitOne K (.ref C_NotHeld) (.ref C_BadBox) = some false
  ki_NotHeld_Again : PySem.W.kitOne K (.ref C_NotHeld) (.ref C_Again) = some false
  ki_NotHeld_NotHeld : PySem.W.kitOne K (.ref C_NotHeld) (.ref C_NotHeld) = some true
  ki_NotHeld_NoTurn : PySem.W.kitOne K (.ref C_NotHeld) (.ref C_NoTurn) = some false
  ki_NotHeld_Waits : PySem.W.kitOne K (.ref C_NotHeld) (.ref C_Waits) = some false
  ki_NotHeld_Stuck : PySem.W.kitOne K (.ref C_NotHeld) (.ref C_Stuck) = some false
  ex_NotHeld_NoTurn : PySem.W.exmOne K (.ref C_NotHeld) (.ref C_NoTurn) = some false
  ex_NotHeld_Waits : PySem.W.exmOne K (.ref C_NotHeld) (.ref C_Waits) = some false
  ex_NotHeld_Again : PySem.W.exmOne K (.ref C_NotHeld) (.ref C_Again) = some false
  ex_NotHeld_NotHeld : PySem.W.exmOne K (.ref C_NotHeld) (.ref C_NotHeld) = some true
  ex_NotHeld_Stuck : PySem.W.exmOne K (.ref C_NotHeld) (.ref C_Stuck) = some false
  ex_NotHeld_TooMany : PySem.W.exmOne K (.ref C_NotHeld) (.ref C_TooMany) = some false
  ex_NotHeld_BadStep : PySem.W.exmOne K (.ref C_NotHeld) (.ref C_BadStep) = some false
  ex_NotHeld_BadBox : PySem.W.exmOne K (.ref C_NotHeld) (.ref C_BadBox) = some false
  ex_NotHeld_WeaveError : PySem.W.exmOne K (.ref C_NotHeld) (.ref C_WeaveError) = some true
  ec_Stuck : ExcC K C_Stuck
  kv_Stuck : PySem.W.kitOne K (.ref C_Stuck) (.type "ValueError") = some true
  ki_Stuck_TooMany : PySem.W.kitOne K (.ref C_Stuck) (.ref C_TooMany) = some false
  ki_Stuck_BadStep : PySem.W.kitOne K (.ref C_Stuck) (.ref C_BadStep) = some false
  ki_Stuck_BadBox : PySem.W.kitOne K (.ref C_Stuck) (.ref C_BadBox) = some false
  ki_Stuck_Again : PySem.W.kitOne K (.ref C_Stuck) (.ref C_Again) = some false
  ki_Stuck_NotHeld : PySem.W.kitOne K (.ref C_Stuck) (.ref C_NotHeld) = some false
  ki_Stuck_NoTurn : PySem.W.kitOne K (.ref C_Stuck) (.ref C_NoTurn) = some false
  ki_Stuck_Waits : PySem.W.kitOne K (.ref C_Stuck) (.ref C_Waits) = some false
  ki_Stuck_Stuck : PySem.W.kitOne K (.ref C_Stuck) (.ref C_Stuck) = some true
  ex_Stuck_NoTurn : PySem.W.exmOne K (.ref C_Stuck) (.ref C_NoTurn) = some false
  ex_Stuck_Waits : PySem.W.exmOne K (.ref C_Stuck) (.ref C_Waits) = some false
  ex_Stuck_Again : PySem.W.exmOne K (.ref C_Stuck) (.ref C_Again) = some false
  ex_Stuck_NotHeld : PySem.W.exmOne K (.ref C_Stuck) (.ref C_NotHeld) = some false
  ex_Stuck_Stuck : PySem.W.exmOne K (.ref C_Stuck) (.ref C_Stuck) = some true
  ex_Stuck_TooMany : PySem.W.exmOne K (.ref C_Stuck) (.ref C_TooMany) = some false
  ex_Stuck_BadStep : PySem.W.exmOne K (.ref C_Stuck) (.ref C_BadStep) = some false
  ex_Stuck_BadBox : PySem.W.exmOne K (.ref C_Stuck) (.ref C_BadBox) = some false
  ex_Stuck_WeaveError : PySem.W.exmOne K (.ref C_Stuck) (.ref C_WeaveError) = some true
  ec_TooMany : ExcC K C_TooMany
  kv_TooMany : PySem.W.kitOne K (.ref C_TooMany) (.type "ValueError") = some true
  ki_TooMany_TooMany : PySem.W.kitOne K (.ref C_TooMany) (.ref C_TooMany) = some true
  ki_TooMany_BadStep : PySem.W.kitOne K (.ref C_TooMany) (.ref C_BadStep) = some false
  ki_TooMany_BadBox : PySem.W.kitOne K (.ref C_TooMany) (.ref C_BadBox) = some false
  ki_TooMany_Again : PySem.W.kitOne K (.ref C_TooMany) (.ref C_Again) = some false
  ki_TooMany_NotHeld : PySem.W.kitOne K (.ref C_TooMany) (.ref C_NotHeld) = some false
  ki_TooMany_NoTurn : PySem.W.kitOne K (.ref C_TooMany) (.ref C_NoTurn) = some false
  ki_TooMany_Waits : PySem.W.kitOne K (.ref C_TooMany) (.ref C_Waits) = some false
  ki_TooMany_Stuck : PySem.W.kitOne K (.ref C_TooMany) (.ref C_Stuck) = some false
  ex_TooMany_NoTurn : PySem.W.exmOne K (.ref C_TooMany) (.ref C_NoTurn) = some false
  ex_TooMany_Waits : PySem.W.exmOne K (.ref C_TooMany) (.ref C_Waits) = some false
  ex_TooMany_Again : PySem.W.exmOne K (.ref C_TooMany) (.ref C_Again) = some false
  ex_TooMany_NotHeld : PySem.W.exmOne K (.ref C_TooMany) (.ref C_NotHeld) = some false
  ex_TooMany_Stuck : PySem.W.exmOne K (.ref C_TooMany) (.ref C_Stuck) = some false
  ex_TooMany_TooMany : PySem.W.exmOne K (.ref C_TooMany) (.ref C_TooMany) = some true
  ex_TooMany_BadStep : PySem.W.exmOne K (.ref C_TooMany) (.ref C_BadStep) = some false
  ex_TooMany_BadBox : PySem.W.exmOne K (.ref C_TooMany) (.ref C_BadBox) = some false
  ex_TooMany_WeaveError : PySem.W.exmOne K (.ref C_TooMany) (.ref C_WeaveError) = some true
  ec_BadStep : ExcC K C_BadStep
  kv_BadStep : PySem.W.kitOne K (.ref C_BadStep) (.type "ValueError") = some true
  ki_BadStep_TooMany : PySem.W.kitOne K (.ref C_BadStep) (.ref C_TooMany) = some false
  ki_BadStep_BadStep : PySem.W.kitOne K (.ref C_BadStep) (.ref C_BadStep) = some true
  ki_BadStep_BadBox : PySem.W.kitOne K (.ref C_BadStep) (.ref C_BadBox) = some false
  ki_BadStep_Again : PySem.W.kitOne K (.ref C_BadStep) (.ref C_Again) = some false
  ki_BadStep_NotHeld : PySem.W.kitOne K (.ref C_BadStep) (.ref C_NotHeld) = some false
  ki_BadStep_NoTurn : PySem.W.kitOne K (.ref C_BadStep) (.ref C_NoTurn) = some false
  ki_BadStep_Waits : PySem.W.kitOne K (.ref C_BadStep) (.ref C_Waits) = some false
  ki_BadStep_Stuck : PySem.W.kitOne K (.ref C_BadStep) (.ref C_Stuck) = some false
  ex_BadStep_NoTurn : PySem.W.exmOne K (.ref C_BadStep) (.ref C_NoTurn) = some false
  ex_BadStep_Waits : PySem.W.exmOne K (.ref C_BadStep) (.ref C_Waits) = some false
  ex_BadStep_Again : PySem.W.exmOne K (.ref C_BadStep) (.ref C_Again) = some false
  ex_BadStep_NotHeld : PySem.W.exmOne K (.ref C_BadStep) (.ref C_NotHeld) = some false
  ex_BadStep_Stuck : PySem.W.exmOne K (.ref C_BadStep) (.ref C_Stuck) = some false
  ex_BadStep_TooMany : PySem.W.exmOne K (.ref C_BadStep) (.ref C_TooMany) = some false
  ex_BadStep_BadStep : PySem.W.exmOne K (.ref C_BadStep) (.ref C_BadStep) = some true
  ex_BadStep_BadBox : PySem.W.exmOne K (.ref C_BadStep) (.ref C_BadBox) = some false
  ex_BadStep_WeaveError : PySem.W.exmOne K (.ref C_BadStep) (.ref C_WeaveError) = some true
  ec_BadBox : ExcC K C_BadBox
  kv_BadBox : PySem.W.kitOne K (.ref C_BadBox) (.type "ValueError") = some true
  ki_BadBox_TooMany : PySem.W.kitOne K (.ref C_BadBox) (.ref C_TooMany) = some false
  ki_BadBox_BadStep : PySem.W.kitOne K (.ref C_BadBox) (.ref C_BadStep) = some false
  ki_BadBox_BadBox : PySem.W.kitOne K (.ref C_BadBox) (.ref C_BadBox) = some true
  ki_BadBox_Again : PySem.W.kitOne K (.ref C_BadBox) (.ref C_Again) = some false
  ki_BadBox_NotHeld : PySem.W.kitOne K (.ref C_BadBox) (.ref C_NotHeld) = some false
  ki_BadBox_NoTurn : PySem.W.kitOne K (.ref C_BadBox) (.ref C_NoTurn) = some false
  ki_BadBox_Waits : PySem.W.kitOne K (.ref C_BadBox) (.ref C_Waits) = some false
  ki_BadBox_Stuck : PySem.W.kitOne K (.ref C_BadBox) (.ref C_Stuck) = some false
  ex_BadBox_NoTurn : PySem.W.exmOne K (.ref C_BadBox) (.ref C_NoTurn) = some false
  ex_BadBox_Waits : PySem.W.exmOne K (.ref C_BadBox) (.ref C_Waits) = some false
  ex_BadBox_Again : PySem.W.exmOne K (.ref C_BadBox) (.ref C_Again) = some false
  ex_BadBox_NotHeld : PySem.W.exmOne K (.ref C_BadBox) (.ref C_NotHeld) = some false
  ex_BadBox_Stuck : PySem.W.exmOne K (.ref C_BadBox) (.ref C_Stuck) = some false
  ex_BadBox_TooMany : PySem.W.exmOne K (.ref C_BadBox) (.ref C_TooMany) = some false
  ex_BadBox_BadStep : PySem.W.exmOne K (.ref C_BadBox) (.ref C_BadStep) = some false
  ex_BadBox_BadBox : PySem.W.exmOne K (.ref C_BadBox) (.ref C_BadBox) = some true
  ex_BadBox_WeaveError : PySem.W.exmOne K (.ref C_BadBox) (.ref C_WeaveError) = some true

def cell (ns : List Int) (k : Int) : Int := ns.getD k.toNat 0
theorem cell_at {ns : List Int} {k : Int} (h0 : 0 ≤ k) (h : decide (k < (ns.map PyData.int).length) = true) : atI (ns.map PyData.int) k = some (.int (cell ns k)) := by
  have h := of_decide_eq_true h
  rw [List.length_map] at h
  obtain ⟨j, rfl⟩ : ∃ j : Nat, k = (j : Int) := ⟨k.toNat, by omega⟩
  have hj : j < ns.length := by omega
  exact atI_nat (xs := ns.map PyData.int) (j := j) (v := .int (cell ns j)) (by
    unfold cell
    rw [List.getElem?_map, Int.toNat_natCast, List.getD_eq_getElem?_getD, List.getElem?_eq_getElem hj]; rfl)
theorem cell_no {ns : List Int} {k : Int} (h0 : 0 ≤ k) (h : decide (k < (ns.map PyData.int).length) = false) : cell ns k = 0 := by
  have h := of_decide_eq_false h
  rw [List.length_map] at h
  unfold cell
  rw [List.getD_eq_getElem?_getD, List.getElem?_eq_none_iff.mpr (by omega)]; rfl
def R_l_cell_at (ds : List PyData) (d : PyData) : Prop := ∃ (ns : List Int) (k : Int), ds = [.list (ns.map .int), .int k] ∧ 0 ≤ k ∧ d = .int (cell ns k)
/-- a number of which a product by a number of 200 bits is no matter -/
def Small (c : Int) : Prop := c.natAbs.log2 ≤ 1048590
def AllSmall (ns : List Int) : Prop := ∀ z ∈ ns, z.natAbs.log2 ≤ 1048576
theorem log2_le {a b : Nat} (h : a ≤ b) : a.log2 ≤ b.log2 := by
  by_cases ha : a = 0
  · subst ha; rw [show Nat.log2 0 = 0 from rfl]; exact Nat.zero_le _
  · exact (Nat.le_log2 (by omega)).mpr (Nat.le_trans (Nat.log2_self_le ha) h)
theorem bits_log {z : Int} (h : Builtin.Int.intBits z ≤ 1048576) : z.natAbs.log2 ≤ 1048576 := by
  unfold Builtin.Int.intBits at h
  split at h
  · rename_i e
    have e := eq_of_beq e
    subst e
    decide
  · omega
theorem cell_log {ns : List Int} (h : AllSmall ns) (k : Int) : (cell ns k).natAbs.log2 ≤ 1048576 := by
  unfold cell
  rw [List.getD_eq_getElem?_getD]
  cases e : ns[k.toNat]? with
  | none => exact Nat.zero_le _
  | some z => exact h z (List.mem_of_getElem? e)
theorem cell_small {ns : List Int} (h : AllSmall ns) (k : Int) : Small (cell ns k) := Nat.le_trans (cell_log h k) (by decide)
theorem log2_lt {a k : Nat} (h0 : 0 < k) (h : a < 2 ^ k) : a.log2 < k := by
  by_cases ha : a = 0
  · subst ha; exact h0
  · exact (Nat.log2_lt ha).mpr h
theorem mul_ok {i j : Int} (h : i.natAbs.log2 ≤ 1048590) (h2 : j.natAbs.log2 ≤ 1048590) : IntMulOk i j := by
  have b : ∀ x : Int, Builtin.Int.intBits x ≤ x.natAbs.log2 + 1 := fun x => by
    unfold Builtin.Int.intBits
    split <;> omega
  have h1 := b i
  have h2 := b j
  have e : bitsLine = 134217728 := by decide
  unfold IntMulOk
  intro z
  rw [Bool.and_eq_true] at z
  have z2 := z.2
  unfold Builtin.Int.intTooBig at z2
  have z3 := of_decide_eq_true z2
  rw [e] at z3
  omega
theorem small_of {i : Int} {k : Nat} (h0 : 0 < k) (hk : k ≤ 1048590) (h : i.natAbs < 2 ^ k) : i.natAbs.log2 ≤ 1048590 := by
  have := log2_lt h0 h
  omega
def P59 : Int := 100000000000000000000000000000000000000000000000000000000007
def P60 : Int := 1000000000000000000000000000000000000000000000000000000000000
def num (c : Int) : Int := if c % 3 = 1 then c * P59 % P60 * (1 - 2 * (c / 3 % 2)) else c / 3 % 41 - 20
def R_l_number_by (ds : List PyData) (d : PyData) : Prop := ∃ (c : Int), ds = [.int c] ∧ Small c ∧ d = .int (num c)


/-- the steps -/
inductive Stp where
  | load (b : Int) | plus (b : Int) | store (b : Int) | add (n : Int) | twice | take | free
  deriving DecidableEq
inductive Kd where
  | load | plus | store | add | twice | take | free
  deriving DecidableEq
def Kd.word : Kd → Str
  | .load => "load"
  | .plus => "plus"
  | .store => "store"
  | .add => "add"
  | .twice => "twice"
  | .take => "take"
  | .free => "free"
def Kd.isBox : Kd → Bool
  | .load => true
  | .plus => true
  | .store => true
  | _ => false
def Kd.isGuard : Kd → Bool
  | .take => true
  | .free => true
  | _ => false
theorem kd_box (k : Kd) : inD (.str k.word) [.str "load", .str "plus", .str "store"] = k.isBox := by cases k <;> decide +kernel
theorem kd_guard (k : Kd) : inD (.str k.word) [.str "take", .str "free"] = k.isGuard := by cases k <;> decide +kernel
theorem kd_bare (k : Kd) : inD (.str k.word) [.str "twice", .str "take", .str "free"] = decide (k = .twice ∨ k = .take ∨ k = .free) := by cases k <;> decide +kernel
theorem kd_eq (k l : Kd) : PyData.eqv (.str k.word) (.str l.word) = decide (k = l) := by cases k <;> cases l <;> decide +kernel
theorem kd_shaped (k : Kd) : SeqAt.shaped (.str k.word) = true := by cases k <;> exact shaped_str (by decide +kernel)
def Stp.kd : Stp → Kd
  | .load _ => .load
  | .plus _ => .plus
  | .store _ => .store
  | .add _ => .add
  | .twice => .twice
  | .take => .take
  | .free => .free
def Stp.args : Stp → List PyData
  | .load b => [.int b]
  | .plus b => [.int b]
  | .store b => [.int b]
  | .add n => [.int n]
  | _ => []
def Stp.toD (s : Stp) : PyData := .tuple (.str s.kd.word :: s.args)
/-- the box, the number (nought where there is none) -/
def Stp.b : Stp → Int
  | .load b => b
  | .plus b => b
  | .store b => b
  | .add n => n
  | _ => 0
theorem ixk {s : Stp} (h : s.kd.isBox = true) : atI (.str s.kd.word :: s.args) 1 = some (.int s.b) := by
  cases s <;> first | rfl | exact absurd h Bool.false_ne_true
theorem ixb {s : Stp} (h : inD (.str s.kd.word) [.str "load", .str "plus", .str "store"] = true) : atI (.str s.kd.word :: s.args) 1 = some (.int s.b) := ixk (by rw [← kd_box]; exact h)
theorem kd_store (k : Kd) : PyData.eqv (.str k.word) (.str "store") = decide (k = .store) := by cases k <;> decide +kernel
def apart (s t : Stp) : Bool :=
  if (s.kd.isGuard && t.kd.isGuard) = true then false
  else if (s.kd.isBox && (t.kd.isBox && decide (s.b = t.b))) = true then !decide (s.kd = .store) && !decide (t.kd = .store)
  else true
theorem apart_comm (s t : Stp) : apart s t = apart t s := by
  have e1 : (t.kd.isGuard && s.kd.isGuard) = (s.kd.isGuard && t.kd.isGuard) := Bool.and_comm _ _
  have e2 : (t.kd.isBox && (s.kd.isBox && decide (t.b = s.b))) = (s.kd.isBox && (t.kd.isBox && decide (s.b = t.b))) := by
    rw [show decide (t.b = s.b) = decide (s.b = t.b) from decide_eq_decide.mpr eq_comm]
    cases s.kd.isBox <;> cases t.kd.isBox <;> rfl
  unfold apart
  rw [e1, e2, Bool.and_comm (!decide (t.kd = .store))]
theorem seven (c : Int) : c % 7 = 0 ∨ c % 7 = 1 ∨ c % 7 = 2 ∨ c % 7 = 3 ∨ c % 7 = 4 ∨ c % 7 = 5 ∨ c % 7 = 6 := by omega
def pick (c b n : Int) : Stp := if c % 7 = 0 then .load b else if c % 7 = 1 then .plus b else if c % 7 = 2 then .store b else if c % 7 = 3 then .add n else if c % 7 = 4 then .twice else if c % 7 = 5 then .take else .free


def isWholeD : PyData → Bool
  | .int _ => true
  | _ => false
def one1 (rest : List PyData) : Bool := match rest with
  | [b] => isWholeD b
  | _ => false
def isStepD : PyData → Bool
  | .tuple (.str w :: rest) => if inD (.str w) [.str "twice", .str "take", .str "free"] = true then rest.isEmpty else if (inD (.str w) [.str "load", .str "plus", .str "store"] || PyData.eqv (.str w) (.str "add")) = true then one1 rest else false
  | _ => false
def OkD (d : PyData) : Prop := ∀ w rest, d = .tuple (.str w :: rest) → PyData.strOk w = true
def R_is_whole (ds : List PyData) (d : PyData) : Prop := ∃ d0, ds = [d0] ∧ d = .bool (isWholeD d0)
def R_is_step (ds : List PyData) (d : PyData) : Prop := ∃ d0, ds = [d0] ∧ OkD d0 ∧ d = .bool (isStepD d0)


/-! ### the loom: the mirror -/
structure LSt where
  r0 : List Stp
  r1 : List Stp
  bx : List Int
  n0 : Int
  n1 : Int
  p0 : Nat
  p1 : Nat
  h : Option Bool
def hI (b : Bool) : Int := if b then 1 else 0
def LSt.row (s : LSt) (b : Bool) : List Stp := if b then s.r1 else s.r0
def LSt.num (s : LSt) (b : Bool) : Int := if b then s.n1 else s.n0
def LSt.plc (s : LSt) (b : Bool) : Nat := if b then s.p1 else s.p0
def LSt.setN (s : LSt) (b : Bool) (z : Int) : LSt := if b then { s with n1 := z } else { s with n0 := z }
def LSt.setP (s : LSt) (b : Bool) (z : Nat) : LSt := if b then { s with p1 := z } else { s with p0 := z }
def LSt.over (s : LSt) (b : Bool) : Bool := decide (s.plc b = (s.row b).length)
def LSt.next (s : LSt) (b : Bool) : Stp := (s.row b).getD (s.plc b) .twice
def LSt.waits (s : LSt) (b : Bool) : Bool := !s.over b && decide (s.h = some (!b)) && decide ((s.next b).kd = .take)
inductive Er where
  | noTurn | waits | again | notHeld | stuck
  deriving DecidableEq
/-- what the step does: the guard, a box, the number -/
def LSt.eff (s : LSt) (b : Bool) : Stp → LSt
  | .load x => s.setN b (s.bx.getD x.toNat 0)
  | .plus x => s.setN b (s.num b + s.bx.getD x.toNat 0)
  | .store x => { s with bx := s.bx.set x.toNat (s.num b) }
  | .add n => s.setN b (s.num b + n)
  | .twice => s.setN b (s.num b * 2)
  | .take => { s with h := some b }
  | .free => { s with h := none }
def LSt.done (s : LSt) (b : Bool) : LSt := (s.eff b (s.next b)).setP b (s.plc b + 1)
def LSt.err (s : LSt) (b : Bool) : Option Er :=
  if s.over b then some .noTurn else if s.waits b then some .waits
  else if (s.next b).kd = .take ∧ s.h = some b then some .again
  else if (s.next b).kd = .free ∧ s.h ≠ some b then some .notHeld else none
/-- a row that is good over so many boxes -/
def GoodS (n : Nat) (s : Stp) : Prop := s.kd.isBox = true → 0 ≤ s.b ∧ s.b < (n : Int)
def GoodR (n : Nat) (r : List Stp) : Prop := r.length ≤ 60 ∧ ∀ s ∈ r, GoodS n s
structure Wf (s : LSt) : Prop where
  g0 : GoodR s.bx.length s.r0
  g1 : GoodR s.bx.length s.r1
  l0 : s.p0 ≤ s.r0.length
  l1 : s.p1 ≤ s.r1.length
/-- where its objects lie -/
structure LA where
  p : Addr
  b : Addr
  n : Addr
  q : Addr
def LN : List Str := ["_rows", "boxes", "numbers", "places", "holder"]
def rowD (r : List Stp) : PyData := .list (r.map Stp.toD)
def rowsD (s : LSt) : PyData := .list [rowD s.r0, rowD s.r1]
def holdD : Option Bool → PyData
  | none => .none
  | some b => .int (hI b)
def flds (L : LA) (s : LSt) : List (Str × Sl) := [("_rows", .dat (rowsD s)), ("boxes", .raw (.ref L.b)), ("numbers", .raw (.ref L.n)), ("places", .raw (.ref L.q)), ("holder", .dat (holdD s.h))]
def loomS (C : Addr) (L : LA) (s : LSt) : Sto := [(L.q, .lst [.int (s.p0 : Int), .int (s.p1 : Int)]), (L.n, .lst [.int s.n0, .int s.n1]), (L.b, .lst (s.bx.map .int)), (L.p, .obj C (flds L s))]
theorem next_lt {s : LSt} {b : Bool} (w : Wf s) (h : s.over b = false) : s.plc b < (s.row b).length := by
  have h := of_decide_eq_false h
  cases b
  · have := w.l0; simp only [LSt.plc, LSt.row] at h ⊢; simp at h ⊢; omega
  · have := w.l1; simp only [LSt.plc, LSt.row] at h ⊢; simp at h ⊢; omega
theorem next_at {s : LSt} {b : Bool} (w : Wf s) (h : s.over b = false) : ((s.row b).map Stp.toD)[s.plc b]? = some (s.next b).toD := by
  have hl := next_lt w h
  unfold LSt.next
  rw [List.getElem?_map, List.getElem?_eq_getElem hl, List.getD_eq_getElem?_getD, List.getElem?_eq_getElem hl]
  rfl
theorem next_good {s : LSt} {b : Bool} (w : Wf s) (h : s.over b = false) : GoodS s.bx.length (s.next b) := by
  have hl := next_lt w h
  have hm : s.next b ∈ s.row b := by
    unfold LSt.next
    rw [List.getD_eq_getElem?_getD, List.getElem?_eq_getElem hl]
    exact List.getElem_mem hl
  cases b
  · exact w.g0.2 _ hm
  · exact w.g1.2 _ hm
theorem kd_take (k : Kd) : PyData.eqv (.str k.word) (.str "take") = decide (k = .take) := by cases k <;> decide +kernel
theorem kd_load (k : Kd) : PyData.eqv (.str k.word) (.str "load") = decide (k = .load) := by cases k <;> decide +kernel
theorem kd_plus (k : Kd) : PyData.eqv (.str k.word) (.str "plus") = decide (k = .plus) := by cases k <;> decide +kernel
theorem kd_add (k : Kd) : PyData.eqv (.str k.word) (.str "add") = decide (k = .add) := by cases k <;> decide +kernel
theorem hold_eq (h : Option Bool) (b : Bool) : PyData.eqv (holdD h) (.int (hI b)) = decide (h = some b) := by
  cases h with
  | none => cases b <;> simp [holdD, PyData.eqv]
  | some a => cases a <;> cases b <;> simp [holdD, hI, PyData.eqv]
theorem hold_sh (h : Option Bool) : SeqAt.shaped (holdD h) = true := by
  cases h with
  | none => exact shaped_none
  | some a => exact shaped_int _
def LSt.guard (s : LSt) (b t : Bool) : Option LSt := if t then (if s.h = some b then none else some { s with h := some b }) else (if s.h = some b then some { s with h := none } else none)
theorem box_at {bx : List Int} {x : Int} (h0 : 0 ≤ x) (h1 : x < (bx.length : Int)) : atI (bx.map PyData.int) x = some (.int (bx.getD x.toNat 0)) := by
  obtain ⟨j, rfl⟩ : ∃ j : Nat, x = (j : Int) := ⟨x.toNat, by omega⟩
  have hj : j < bx.length := by omega
  exact atI_nat (by rw [List.getElem?_map, Int.toNat_natCast, List.getD_eq_getElem?_getD, List.getElem?_eq_getElem hj]; rfl)
theorem box_ix {bx : List Int} {x : Int} (h0 : 0 ≤ x) (h1 : x < (bx.length : Int)) : ixN (bx.map PyData.int).length x = some x.toNat := by
  unfold ixN
  rw [List.length_map, if_pos h0, if_pos h1]
theorem set_ints (bx : List Int) (k : Nat) (z : Int) : (bx.map PyData.int).set k (.int z) = (bx.set k z).map PyData.int := by rw [List.map_set]
/-- numbers of which a double is no matter -/
def SmallL (s : LSt) : Prop := s.n0.natAbs.log2 ≤ 1048590 ∧ s.n1.natAbs.log2 ≤ 1048590
theorem two_ok {z : Int} (h : z.natAbs.log2 ≤ 1048590) : IntMulOk z 2 := mul_ok h (by decide)
theorem eff_plc (s : LSt) (b c : Bool) (t : Stp) : (s.eff b t).plc c = s.plc c := by cases t <;> cases b <;> cases c <;> rfl
theorem eff_p0 (s : LSt) (b : Bool) (t : Stp) : (s.eff b t).p0 = s.p0 := eff_plc s b false t
theorem eff_p1 (s : LSt) (b : Bool) (t : Stp) : (s.eff b t).p1 = s.p1 := eff_plc s b true t
theorem eff_r0 (s : LSt) (b : Bool) (t : Stp) : (s.eff b t).r0 = s.r0 := by cases t <;> cases b <;> rfl
theorem eff_r1 (s : LSt) (b : Bool) (t : Stp) : (s.eff b t).r1 = s.r1 := by cases t <;> cases b <;> rfl
/-- a method that changes nothing -/
abbrev same (S : Sto) (d : PyData) : Sl → Sto → Prop := fun r S' => r = .dat d ∧ S' = S
abbrev noX : Value → Sto → Prop := fun _ _ => False

theorem stp_okD (s : Stp) : OkD s.toD := by
  intro w r e
  cases e
  cases s.kd <;> decide +kernel
theorem stp_isD (s : Stp) : isStepD s.toD = true := by cases s <;> rfl
theorem good_box {n : Nat} {s : Stp} (g : GoodS n s) (hh : inD (.str s.kd.word) [.str "load", .str "plus", .str "store"] = true) : decide (0 ≤ s.b) = true ∧ decide (s.b < (n : Int)) = true := by
  obtain ⟨h1, h2⟩ := g (by rw [← kd_box]; exact hh)
  exact ⟨decide_eq_true h1, decide_eq_true h2⟩


/-! ### the law's helpers: mirrors -/
theorem small_le {c d : Int} (h : Small c) (hd : d.natAbs ≤ c.natAbs) : Small d := Nat.le_trans (log2_le hd) h
def R_l_whole (ds : List PyData) (d : PyData) : Prop := ∃ d0, ds = [d0] ∧ d = .bool (isWholeD d0)
/-- how it stands, as the law keeps it -/
def standD (s : LSt) : PyData := .list [.list (s.bx.map .int), .list [.int s.n0, .int s.n1], .list [.int (s.p0 : Int), .int (s.p1 : Int)], holdD s.h, rowsD s]
def wordE : Option Er → Str
  | none => ""
  | some .noTurn => "no turn"
  | some .waits => "waits"
  | some .again => "again"
  | some .notHeld => "not held"
  | some .stuck => "stuck"
theorem isN_hold (h : Option Bool) : isN (holdD h) = h.isNone := by cases h <;> rfl
theorem kd_free (k : Kd) : PyData.eqv (.str k.word) (.str "free") = decide (k = .free) := by cases k <;> decide +kernel
theorem over_eqv (s : LSt) (b : Bool) : s.over b = PyData.eqv (.int (s.plc b : Int)) (.int (((s.row b).map Stp.toD).length : Int)) := by
  rw [eqv_int, List.length_map]
  exact decide_eq_decide.mpr ⟨fun z => by omega, fun z => by omega⟩
theorem word_next {s : LSt} {b : Bool} (ho : s.over b = false) : wordE (s.err b) = if (decide ((s.next b).kd = .take) && !s.h.isNone) = true then (if s.h = some b then ("again" : Str) else ("waits" : Str)) else if (decide ((s.next b).kd = .free) && (s.h.isNone || !decide (s.h = some b))) = true then ("not held" : Str) else ("" : Str) := by
  unfold LSt.err LSt.waits
  rw [ho]
  generalize (s.next b).kd = k
  rcases s.h with _ | a
  · cases k <;> cases b <;> rfl
  · cases k <;> cases a <;> cases b <;> rfl
theorem row_at (s : LSt) (b : Bool) : atI [rowD s.r0, rowD s.r1] (hI b) = some (.list ((s.row b).map Stp.toD)) := by cases b <;> rfl
theorem plc_at (s : LSt) (b : Bool) : atI [PyData.int (s.p0 : Int), .int (s.p1 : Int)] (hI b) = some (.int (s.plc b : Int)) := by cases b <;> rfl
theorem num_at (s : LSt) (b : Bool) : atI [PyData.int s.n0, .int s.n1] (hI b) = some (.int (s.num b)) := by cases b <;> rfl
theorem wa_at (h : Option Bool) (b : Bool) : atI [PyData.str "waits", .str "again"] (if PyData.eqv (holdD h) (.int (hI b)) = true then 1 else 0) = some (.str (if h = some b then ("again" : Str) else ("waits" : Str))) := by
  rw [hold_eq]
  by_cases e : h = some b <;> simp only [e, decide_true, decide_false, if_true, if_false, ite_true, ite_false, Bool.false_eq_true] <;> rfl
def R_l_ints (as : List Sl) (S : Sto) (PR : Sl → Sto → Prop) (PX : Value → Sto → Prop) : Prop := ∃ (r : Sl) (xs : List Int), as = [r, .dat (.list (xs.map .int))] ∧ LSl S r (xs.map .int) ∧ xs.length ≤ 100 ∧ PR = same S (.bool true) ∧ PX = noX
theorem word_waits (s : LSt) (b : Bool) : PyData.eqv (.str (wordE (s.err b))) (.str "waits") = s.waits b := by
  have h : ∀ e : Option Er, PyData.eqv (.str (wordE e)) (.str "waits") = decide (e = some .waits) := by
    intro e
    rcases e with _ | e
    · decide +kernel
    · cases e <;> decide +kernel
  rw [h]
  unfold LSt.err
  cases ho : s.over b
  · cases hw : s.waits b
    · simp only [Bool.false_eq_true, if_false]
      split
      · rfl
      · split <;> rfl
    · rfl
  · have : s.waits b = false := by unfold LSt.waits; rw [ho]; rfl
    rw [this]; rfl
theorem word_sh (e : Option Er) : SeqAt.shaped (.str (wordE e)) = true := by
  rcases e with _ | e
  · exact shaped_str (by decide +kernel)
  · cases e <;> exact shaped_str (by decide +kernel)
theorem hold_whole {h : Option Bool} : (!isN (holdD h) && (!isWholeD (holdD h) || !PyData.eqv (holdD h) (holdD h))) = false := by
  rcases h with _ | a
  · rfl
  · cases a <;> simp [holdD, isN, isWholeD, eqv_int]
section
variable {K : PySem.W.Frag} {mg : Str → Option Value}
def R_l_stands (T : Txt K mg) : Rq := fun as S PR PX => ∃ (L : LA) (st : LSt), Wf st ∧ st.bx.length ≤ 100 ∧ as = [.raw (.ref L.p), .dat (standD st)] ∧ S = loomS T.C_Loom L st ∧ PR = same (loomS T.C_Loom L st) (.bool true) ∧ PX = noX
end


section
variable {K : PySem.W.Frag} {mg : Str → Option Value}
def R_Loom_over (T : Txt K mg) : Rq := fun as S PR PX => ∃ (L : LA) (st : LSt) (b : Bool), as = [.raw (.ref L.p), .dat (.int (hI b))] ∧ S = loomS T.C_Loom L st ∧ PR = same (loomS T.C_Loom L st) (.bool (st.over b)) ∧ PX = noX
def R_Loom_waits (T : Txt K mg) : Rq := fun as S PR PX => ∃ (L : LA) (st : LSt) (b : Bool), Wf st ∧ as = [.raw (.ref L.p), .dat (.int (hI b))] ∧ S = loomS T.C_Loom L st ∧ PR = same (loomS T.C_Loom L st) (.bool (st.waits b)) ∧ PX = noX
def T_ec (T : Txt K mg) : Er → Addr
  | .noTurn => T.C_NoTurn
  | .waits => T.C_Waits
  | .again => T.C_Again
  | .notHeld => T.C_NotHeld
  | .stuck => T.C_Stuck
def R_Loom__do_guard (T : Txt K mg) : Rq := fun as S PR PX => ∃ (L : LA) (st : LSt) (b t : Bool), as = [.raw (.ref L.p), .dat (.int (hI b)), .dat (.str (if t then Kd.take.word else Kd.free.word))] ∧ S = loomS T.C_Loom L st ∧
  PR = (fun r S' => ∃ st', st.guard b t = some st' ∧ r = .dat .none ∧ S' = loomS T.C_Loom L st') ∧ PX = (fun cls S' => st.guard b t = none ∧ cls = .ref (T_ec T (if t then .again else .notHeld)) ∧ S' = loomS T.C_Loom L st)
def R_Loom__do_box (T : Txt K mg) : Rq := fun as S PR PX => ∃ (L : LA) (st : LSt) (b : Bool) (s : Stp), s.kd.isBox = true ∧ GoodS st.bx.length s ∧ as = [.raw (.ref L.p), .dat (.int (hI b)), .dat (.str s.kd.word), .dat (.int s.b)] ∧ S = loomS T.C_Loom L st ∧
  PR = same (loomS T.C_Loom L (st.eff b s)) .none ∧ PX = noX
def R_Loom_go (T : Txt K mg) : Rq := fun as S PR PX => ∃ (L : LA) (st : LSt) (b : Bool), Wf st ∧ SmallL st ∧ as = [.raw (.ref L.p), .dat (.int (hI b))] ∧ S = loomS T.C_Loom L st ∧
  PR = (fun r S' => st.err b = none ∧ r = .dat .none ∧ S' = loomS T.C_Loom L (st.done b)) ∧ PX = (fun cls S' => ∃ e, st.err b = some e ∧ cls = .ref (T_ec T e) ∧ S' = loomS T.C_Loom L st)
def R_Loom___init (T : Txt K mg) : Rq := fun as S PR PX => ∃ (p : Addr) (r0 r1 rb : Sl) (s0 s1 : List Stp) (bx : List Int) (F : Sto), as = [.raw (.ref p), r0, r1, rb] ∧ S = (p, .obj T.C_Loom []) :: F ∧ LSl F r0 (s0.map Stp.toD) ∧ LSl F r1 (s1.map Stp.toD) ∧ LSl F rb (bx.map .int) ∧ GoodR bx.length s0 ∧ GoodR bx.length s1 ∧
  PR = (fun r S' => r = .dat .none ∧ ∃ L : LA, L.p = p ∧ S' = loomS T.C_Loom L ⟨s0, s1, bx, 0, 0, 0, 0, none⟩ ++ F) ∧ PX = noX
def R_Loom_twin (T : Txt K mg) : Rq := fun as S PR PX => ∃ (L : LA) (st : LSt), Wf st ∧ as = [.raw (.ref L.p)] ∧ S = loomS T.C_Loom L st ∧ PR = (fun r S' => ∃ L2 : LA, r = .raw (.ref L2.p) ∧ S' = loomS T.C_Loom L2 st ++ loomS T.C_Loom L st) ∧ PX = noX
def R_check_row (as : List Sl) (S : Sto) (PR : Sl → Sto → Prop) (PX : Value → Sto → Prop) : Prop := ∃ (r0 rb : Sl) (row : List Stp) (bx : List Int), as = [r0, rb] ∧ LSl S r0 (row.map Stp.toD) ∧ LSl S rb (bx.map .int) ∧ GoodR bx.length row ∧ PR = same S .none ∧ PX = noX
def R_Loom__next_step (T : Txt K mg) : Rq := fun as S PR PX => ∃ (L : LA) (st : LSt) (b : Bool), Wf st ∧ st.over b = false ∧ as = [.raw (.ref L.p), .dat (.int (hI b))] ∧ S = loomS T.C_Loom L st ∧ PR = same (loomS T.C_Loom L st) (st.next b).toD ∧ PX = noX
end

section
variable {P : Program} {w : World} {K : PySem.W.Frag} {mg : Str → Option Value} {base : Heap}

theorem sc_Loom_over : FnScope ["self", "hand"] ["self", "hand"] (defScope s_Loom_over) := ⟨rfl, rfl, rfl, by decide +kernel, rfl, by decide +kernel, by decide +kernel⟩
theorem ok_Loom_over (T : Txt K mg) : FnOk P w K mg base CX0 1 T.f_Loom_over T.d_Loom_over ["self", "hand"] (SpM K (R_Loom_over T)) := by
  refine mut_def0 T.F_Loom_over sc_Loom_over (fun as S PR PX h => ?_) (fun cdv A outer s H E B as S PR PX hr h => ?_)
  · obtain ⟨L, st, b, rfl, rfl, rfl, rfl⟩ := h; rfl
  · obtain ⟨L, st, b, rfl, rfl, rfl, rfl⟩ := h
    cases b
    all_goals (
      refine gss_ret (r := .dat _) (gd_eq hr.units (gd_ixO (n := 0) (ge_fld (j := 3) (names := LN) (gr_var (pv 0) rfl) (n := 3) rfl T.cl_Loom T.no_places rfl (by decide +kernel) rfl (fun z => nomatch z)) (gd_var (pv 1) rfl) rfl (by (first | exact q | assumption | exact ixh | exact ixb (by assumption) | exact rfl | (simp only [*]; exact rfl)))) (gd_callB call_len (ca_len (by first | exact .inl rfl | exact .inr rfl)) rfl T.z_len (by decide +kernel) (ga_cons (gd_ix (by first | exact od_ixT (by (first | exact q | assumption | exact ixh | exact ixb (by assumption) | exact rfl | (simp only [*]; exact rfl))) | exact od_ixL (by (first | exact q | assumption | exact ixh | exact ixb (by assumption) | exact rfl | (simp only [*]; exact rfl)))) (ge_fld (j := 0) (names := LN) (gr_var (pv 0) rfl) (n := 3) rfl T.cl_Loom T.no__rows rfl (by decide +kernel) rfl (fun z => nomatch z)) (gd_var (pv 1) rfl)) ga_nil)) (by (first | exact ckw_sh _ | exact sh | exact kd_shaped _ | exact shaped_int _ | exact shaped_bool _ | exact shaped_none | assumption | exact shaped_ints _ | exact shaped_str (by decide +kernel) | exact rfl | decide +kernel)) (by (first | exact ckw_sh _ | exact sh | exact kd_shaped _ | exact shaped_int _ | exact shaped_bool _ | exact shaped_none | assumption | exact shaped_ints _ | exact shaped_str (by decide +kernel) | exact rfl | decide +kernel))) ?_
      refine ⟨congrArg (fun z => Sl.dat (.bool z)) ?_, rfl⟩
      rw [eqv_int, List.length_map]
      exact decide_eq_decide.mpr ⟨fun z => by simp only [LSt.plc, LSt.row]; simp; omega, fun z => by simp only [LSt.plc, LSt.row] at z; simp at z; omega⟩)
theorem sc_Loom__next_step : FnScope ["self", "hand"] ["self", "hand"] (defScope s_Loom__next_step) := ⟨rfl, rfl, rfl, by decide +kernel, rfl, by decide +kernel, by decide +kernel⟩
theorem ok_Loom__next_step (T : Txt K mg) : FnOk P w K mg base CX0 1 T.f_Loom__next_step T.d_Loom__next_step ["self", "hand"] (SpM K (R_Loom__next_step T)) := by
  refine mut_def0 T.F_Loom__next_step sc_Loom__next_step (fun as S PR PX h => ?_) (fun cdv A outer s H E B as S PR PX hr h => ?_)
  · obtain ⟨L, st, b, hw, ho, rfl, rfl, rfl, rfl⟩ := h; rfl
  · obtain ⟨L, st, b, hw, ho, rfl, rfl, rfl, rfl⟩ := h
    have q := next_at hw ho
    cases b
    all_goals (
      have q2 := atI_nat q
      refine gss_ret (r := .dat _) (gd_ixL (gd_ix (by first | exact od_ixT (by (first | exact q | assumption | exact ixh | exact ixb (by assumption) | exact rfl | (simp only [*]; exact rfl))) | exact od_ixL (by (first | exact q | assumption | exact ixh | exact ixb (by assumption) | exact rfl | (simp only [*]; exact rfl)))) (ge_fld (j := 0) (names := LN) (gr_var (pv 0) rfl) (n := 3) rfl T.cl_Loom T.no__rows rfl (by decide +kernel) rfl (fun z => nomatch z)) (gd_var (pv 1) rfl)) (gd_ixO (n := 0) (ge_fld (j := 3) (names := LN) (gr_var (pv 0) rfl) (n := 3) rfl T.cl_Loom T.no_places rfl (by decide +kernel) rfl (fun z => nomatch z)) (gd_var (pv 1) rfl) rfl (by (first | exact q | assumption | exact ixh | exact ixb (by assumption) | exact rfl | (simp only [*]; exact rfl)))) (by (first | exact q | assumption | exact ixh | exact ixb (by assumption) | exact rfl | (simp only [*]; exact rfl)))) ⟨rfl, rfl⟩)
theorem sc_Loom_waits : FnScope ["self", "hand"] ["self", "hand"] (defScope s_Loom_waits) := ⟨rfl, rfl, rfl, by decide +kernel, rfl, by decide +kernel, by decide +kernel⟩
theorem ok_Loom_waits (T : Txt K mg) : FnOk P w K mg base CX0 2 T.f_Loom_waits T.d_Loom_waits ["self", "hand"] (SpM K (R_Loom_waits T)) := by
  refine mut_def0 T.F_Loom_waits sc_Loom_waits (fun as S PR PX h => ?_) (fun cdv A outer s H E B as S PR PX hr h => ?_)
  · obtain ⟨L, st, b, hw, rfl, rfl, rfl, rfl⟩ := h; rfl
  · obtain ⟨L, st, b, hw, rfl, rfl, rfl, rfl⟩ := h
    have sh := hold_sh st.h
    have e1 : (1 : Int) - hI b = hI (!b) := by cases b <;> rfl
    refine gss_if (gt_of (gw_or (gt_val (gd_methP (S1 := loomS T.C_Loom L st) (F := []) (names := LN) (n := 3) (gr_var (pv 0) rfl) rfl T.cl_Loom T.M_Loom_over rfl (by decide +kernel) (ok_Loom_over T) (hr.mono (by decide)) T.b_Loom_over (gas_cons (gd_var (pv 1) rfl) gas_nil) ⟨_, _, _, rfl, rfl, rfl, rfl⟩)) (fun hh => by first | exact gw_dead (absurd hh (by (first | decide +kernel | (simp only [List.length_cons, List.length_nil, eqv_int]; decide) | (simp only [List.length_cons, List.length_nil, eqv_int, decide_eq_true_eq, decide_eq_false_iff_not]; omega)))) | exact (gw_or1 (gt_ne hr.units (ge_fld (j := 4) (names := LN) (gr_var (pv 0) rfl) (n := 3) rfl T.cl_Loom T.no_holder rfl (by decide +kernel) rfl (fun z => nomatch z)) (gd_sub gd_int (gd_var (pv 1) rfl)) (by (first | exact ckw_sh _ | exact sh | exact kd_shaped _ | exact shaped_int _ | exact shaped_bool _ | exact shaped_none | assumption | exact shaped_ints _ | exact shaped_str (by decide +kernel) | exact rfl | decide +kernel)) (by (first | exact ckw_sh _ | exact sh | exact kd_shaped _ | exact shaped_int _ | exact shaped_bool _ | exact shaped_none | assumption | exact shaped_ints _ | exact shaped_str (by decide +kernel) | exact rfl | decide +kernel))))))) (fun h1 => ?_) (fun h1 => ?_)
    · refine gss_ret (r := .dat _) gd_bl ?_
      rw [e1, hold_eq] at h1
      refine ⟨congrArg (fun z => Sl.dat (.bool z)) ?_, rfl⟩
      unfold LSt.waits
      cases hq : st.over b
      · rw [hq, Bool.false_or] at h1
        have h1 : decide (st.h = some (!b)) = false := by simpa using h1
        rw [h1]; rfl
      · rfl
    · refine gss_nil ?_
      rw [e1, hold_eq] at h1
      have h2 : st.over b = false ∧ decide (st.h = some (!b)) = true := by
        cases hq : st.over b
        · rw [hq, Bool.false_or] at h1; exact ⟨rfl, by simpa using h1⟩
        · rw [hq, Bool.true_or] at h1; cases h1
      have h3 := h2.1
      have w1 := kd_shaped (st.next b).kd
      refine gss_ret (r := .dat _) (gd_eq hr.units (gd_ix (by first | exact od_ixT (by (first | exact q | assumption | exact ixh | exact ixb (by assumption) | exact rfl | (simp only [*]; exact rfl))) | exact od_ixL (by (first | exact q | assumption | exact ixh | exact ixb (by assumption) | exact rfl | (simp only [*]; exact rfl)))) (gd_methP (S1 := loomS T.C_Loom L st) (F := []) (names := LN) (n := 3) (gr_var (pv 0) rfl) rfl T.cl_Loom T.M_Loom__next_step rfl (by decide +kernel) (ok_Loom__next_step T) (hr.mono (by decide)) T.b_Loom__next_step (gas_cons (gd_var (pv 1) rfl) gas_nil) ⟨_, _, _, by assumption, by first | assumption | exact (or_not hh).1, rfl, rfl, rfl, rfl⟩) gd_int) gd_str (by (first | exact ckw_sh _ | exact sh | exact kd_shaped _ | exact shaped_int _ | exact shaped_bool _ | exact shaped_none | assumption | exact shaped_ints _ | exact shaped_str (by decide +kernel) | exact rfl | decide +kernel)) (by (first | exact ckw_sh _ | exact sh | exact kd_shaped _ | exact shaped_int _ | exact shaped_bool _ | exact shaped_none | assumption | exact shaped_ints _ | exact shaped_str (by decide +kernel) | exact rfl | decide +kernel))) ?_
      refine ⟨congrArg (fun z => Sl.dat (.bool z)) ?_, rfl⟩
      rw [kd_take]
      unfold LSt.waits
      rw [h2.1, h2.2]; rfl
theorem sc_Loom__do_guard : FnScope ["self", "hand", "word"] ["self", "hand", "word"] (defScope s_Loom__do_guard) := ⟨rfl, rfl, rfl, by decide +kernel, rfl, by decide +kernel, by decide +kernel⟩
theorem ok_Loom__do_guard (T : Txt K mg) : FnOk P w K mg base (L2N.CX P w) 1 T.f_Loom__do_guard T.d_Loom__do_guard ["self", "hand", "word"] (SpM K (R_Loom__do_guard T)) := by
  refine mut_def T.F_Loom__do_guard sc_Loom__do_guard (fun as S PR PX h => ?_) (fun cdv A outer s H E H0 Hh ks as S PR PX hr h => ?_)
  · obtain ⟨L, st, b, t, rfl, rfl, rfl, rfl⟩ := h; rfl
  · obtain ⟨L, st, b, t, rfl, rfl, rfl, rfl⟩ := h
    have sh := hold_sh st.h
    cases t
    · refine gss_if (gt_eq hr.units (gd_var (pv 2) rfl) gd_str (by (first | exact ckw_sh _ | exact sh | exact kd_shaped _ | exact shaped_int _ | exact shaped_bool _ | exact shaped_none | assumption | exact shaped_ints _ | exact shaped_str (by decide +kernel) | exact rfl | decide +kernel)) (by (first | exact ckw_sh _ | exact sh | exact kd_shaped _ | exact shaped_int _ | exact shaped_bool _ | exact shaped_none | assumption | exact shaped_ints _ | exact shaped_str (by decide +kernel) | exact rfl | decide +kernel))) (fun h1 => ?_) (fun h1 => ?_)
      · exact absurd h1 (by decide +kernel)
      · refine gss_if (gt_ne hr.units (ge_fld (j := 4) (names := LN) (gr_var (pv 0) rfl) (n := 3) rfl T.cl_Loom T.no_holder rfl (by decide +kernel) rfl (fun z => nomatch z)) (gd_var (pv 1) rfl) (by (first | exact ckw_sh _ | exact sh | exact kd_shaped _ | exact shaped_int _ | exact shaped_bool _ | exact shaped_none | assumption | exact shaped_ints _ | exact shaped_str (by decide +kernel) | exact rfl | decide +kernel)) (by (first | exact ckw_sh _ | exact sh | exact kd_shaped _ | exact shaped_int _ | exact shaped_bool _ | exact shaped_none | assumption | exact shaped_ints _ | exact shaped_str (by decide +kernel) | exact rfl | decide +kernel))) (fun h2 => ?_) (fun h2 => ?_)
        · rw [hold_eq] at h2
          cases b
          all_goals exact ret_all (gs_raise rfl (L2N.takes_of rfl rfl rfl rfl) PySem.F.excBase_ValueError T.x_NotHeld T.g_NotHeld T.k_NotHeld (raises_own T.s_NotHeld T.t_NotHeld) rfl (ge_join (.cons gd_str (.cons (gd_fmt (gd_var (pv 1) rfl) (by decide)) (.cons gd_str .nil))) ⟨by decide +kernel, by decide +kernel, by decide +kernel, trivial⟩) ⟨by simp_all [LSt.guard], rfl, rfl⟩)
        · rw [hold_eq] at h2
          refine gss_nil (gss_one (gs_fld (j := 4) (names := LN) (n := 3) (r := .dat _) (gr_var (pv 0) rfl) gd_non rfl T.cl_Loom T.no_holder rfl (by decide +kernel) (by show 5 < 1000; decide) ?_))
          exact gss_nil ⟨{ st with h := none }, by simp_all [LSt.guard], rfl, rfl⟩
    · refine gss_if (gt_eq hr.units (gd_var (pv 2) rfl) gd_str (by (first | exact ckw_sh _ | exact sh | exact kd_shaped _ | exact shaped_int _ | exact shaped_bool _ | exact shaped_none | assumption | exact shaped_ints _ | exact shaped_str (by decide +kernel) | exact rfl | decide +kernel)) (by (first | exact ckw_sh _ | exact sh | exact kd_shaped _ | exact shaped_int _ | exact shaped_bool _ | exact shaped_none | assumption | exact shaped_ints _ | exact shaped_str (by decide +kernel) | exact rfl | decide +kernel))) (fun h1 => ?_) (fun h1 => ?_)
      · refine gss_if (gt_eq hr.units (ge_fld (j := 4) (names := LN) (gr_var (pv 0) rfl) (n := 3) rfl T.cl_Loom T.no_holder rfl (by decide +kernel) rfl (fun z => nomatch z)) (gd_var (pv 1) rfl) (by (first | exact ckw_sh _ | exact sh | exact kd_shaped _ | exact shaped_int _ | exact shaped_bool _ | exact shaped_none | assumption | exact shaped_ints _ | exact shaped_str (by decide +kernel) | exact rfl | decide +kernel)) (by (first | exact ckw_sh _ | exact sh | exact kd_shaped _ | exact shaped_int _ | exact shaped_bool _ | exact shaped_none | assumption | exact shaped_ints _ | exact shaped_str (by decide +kernel) | exact rfl | decide +kernel))) (fun h2 => ?_) (fun h2 => ?_)
        · rw [hold_eq] at h2
          cases b
          all_goals exact ret_all (gs_raise rfl (L2N.takes_of rfl rfl rfl rfl) PySem.F.excBase_ValueError T.x_Again T.g_Again T.k_Again (raises_own T.s_Again T.t_Again) rfl (ge_join (.cons gd_str (.cons (gd_fmt (gd_var (pv 1) rfl) (by decide)) (.cons gd_str .nil))) ⟨by decide +kernel, by decide +kernel, by decide +kernel, trivial⟩) ⟨by simp_all [LSt.guard], rfl, rfl⟩)
        · rw [hold_eq] at h2
          refine gss_nil (gss_one (gs_fld (j := 4) (names := LN) (n := 3) (r := .dat _) (gr_var (pv 0) rfl) (gd_var (pv 1) rfl) rfl T.cl_Loom T.no_holder rfl (by decide +kernel) (by show 5 < 1000; decide) ?_))
          exact gss_nil ⟨{ st with h := some b }, by simp_all [LSt.guard], rfl, rfl⟩
      · exact absurd h1 (by decide +kernel)
theorem sc_Loom__do_box : FnScope ["self", "hand", "word", "box"] ["self", "hand", "word", "box"] (defScope s_Loom__do_box) := ⟨rfl, rfl, rfl, by decide +kernel, rfl, by decide +kernel, by decide +kernel⟩
theorem ok_Loom__do_box (T : Txt K mg) : FnOk P w K mg base CX0 1 T.f_Loom__do_box T.d_Loom__do_box ["self", "hand", "word", "box"] (SpM K (R_Loom__do_box T)) := by
  refine mut_def0 T.F_Loom__do_box sc_Loom__do_box (fun as S PR PX h => ?_) (fun cdv A outer s H E B as S PR PX hr h => ?_)
  · obtain ⟨L, st, b, s, hb, hg, rfl, rfl, rfl, rfl⟩ := h; rfl
  · obtain ⟨L, st, b, s, hb, hg, rfl, rfl, rfl, rfl⟩ := h
    have g := hg hb
    cases s with
    | add _ => exact absurd hb Bool.false_ne_true
    | twice => exact absurd hb (by decide)
    | take => exact absurd hb (by decide)
    | free => exact absurd hb (by decide)
    | load x =>
      have w1 : SeqAt.shaped (.str (Stp.load x).kd.word) = true := kd_shaped _
      have g : 0 ≤ x ∧ x < (st.bx.length : Int) := g
      have q := box_at g.1 g.2
      refine gss_if (gt_eq hr.units (gd_var (pv 2) rfl) gd_str (by (first | exact ckw_sh _ | exact sh | exact kd_shaped _ | exact shaped_int _ | exact shaped_bool _ | exact shaped_none | assumption | exact shaped_ints _ | exact shaped_str (by decide +kernel) | exact rfl | decide +kernel)) (by (first | exact ckw_sh _ | exact sh | exact kd_shaped _ | exact shaped_int _ | exact shaped_bool _ | exact shaped_none | assumption | exact shaped_ints _ | exact shaped_str (by decide +kernel) | exact rfl | decide +kernel))) (fun h1 => ?_) (fun h1 => by simp [kd_load, Stp.kd] at h1)
      cases b
      all_goals exact gss_one (gs_setO (n := 1) (ge_fld (j := 2) (names := LN) (gr_var (pv 0) rfl) (n := 3) rfl T.cl_Loom T.no_numbers rfl (by decide +kernel) rfl (fun z => nomatch z)) (gd_var (pv 1) rfl) (gd_ixO (n := 2) (ge_fld (j := 1) (names := LN) (gr_var (pv 0) rfl) (n := 3) rfl T.cl_Loom T.no_boxes rfl (by decide +kernel) rfl (fun z => nomatch z)) (gd_var (pv 3) rfl) rfl (by (first | exact q | assumption | exact ixh | exact ixb (by assumption) | exact rfl | (simp only [*]; exact rfl)))) rfl rfl (gss_nil ⟨rfl, rfl⟩))
    | plus x =>
      have w1 : SeqAt.shaped (.str (Stp.plus x).kd.word) = true := kd_shaped _
      have g : 0 ≤ x ∧ x < (st.bx.length : Int) := g
      have q := box_at g.1 g.2
      refine gss_if (gt_eq hr.units (gd_var (pv 2) rfl) gd_str (by (first | exact ckw_sh _ | exact sh | exact kd_shaped _ | exact shaped_int _ | exact shaped_bool _ | exact shaped_none | assumption | exact shaped_ints _ | exact shaped_str (by decide +kernel) | exact rfl | decide +kernel)) (by (first | exact ckw_sh _ | exact sh | exact kd_shaped _ | exact shaped_int _ | exact shaped_bool _ | exact shaped_none | assumption | exact shaped_ints _ | exact shaped_str (by decide +kernel) | exact rfl | decide +kernel))) (fun h1 => by simp [kd_load, Stp.kd] at h1) (fun h1 => ?_)
      refine gss_if (gt_eq hr.units (gd_var (pv 2) rfl) gd_str (by (first | exact ckw_sh _ | exact sh | exact kd_shaped _ | exact shaped_int _ | exact shaped_bool _ | exact shaped_none | assumption | exact shaped_ints _ | exact shaped_str (by decide +kernel) | exact rfl | decide +kernel)) (by (first | exact ckw_sh _ | exact sh | exact kd_shaped _ | exact shaped_int _ | exact shaped_bool _ | exact shaped_none | assumption | exact shaped_ints _ | exact shaped_str (by decide +kernel) | exact rfl | decide +kernel))) (fun h2 => ?_) (fun h2 => by simp [kd_plus, Stp.kd] at h2)
      cases b
      · exact gss_one (gs_augO (n := 1) (m := 0) (C := fun _ _ => True) (f := fun i j => i + j) ip_addT (ge_fld (j := 2) (names := LN) (gr_var (pv 0) rfl) (n := 3) rfl T.cl_Loom T.no_numbers rfl (by decide +kernel) rfl (fun z => nomatch z)) (gd_var (pv 1) rfl) (gd_ixO (n := 2) (ge_fld (j := 1) (names := LN) (gr_var (pv 0) rfl) (n := 3) rfl T.cl_Loom T.no_boxes rfl (by decide +kernel) rfl (fun z => nomatch z)) (gd_var (pv 3) rfl) rfl (by (first | exact q | assumption | exact ixh | exact ixb (by assumption) | exact rfl | (simp only [*]; exact rfl)))) rfl rfl trivial (gss_nil (gss_nil ⟨rfl, rfl⟩)))
      · exact gss_one (gs_augO (n := 1) (m := 1) (C := fun _ _ => True) (f := fun i j => i + j) ip_addT (ge_fld (j := 2) (names := LN) (gr_var (pv 0) rfl) (n := 3) rfl T.cl_Loom T.no_numbers rfl (by decide +kernel) rfl (fun z => nomatch z)) (gd_var (pv 1) rfl) (gd_ixO (n := 2) (ge_fld (j := 1) (names := LN) (gr_var (pv 0) rfl) (n := 3) rfl T.cl_Loom T.no_boxes rfl (by decide +kernel) rfl (fun z => nomatch z)) (gd_var (pv 3) rfl) rfl (by (first | exact q | assumption | exact ixh | exact ixb (by assumption) | exact rfl | (simp only [*]; exact rfl)))) rfl rfl trivial (gss_nil (gss_nil ⟨rfl, rfl⟩)))
    | store x =>
      have w1 : SeqAt.shaped (.str (Stp.store x).kd.word) = true := kd_shaped _
      have g : 0 ≤ x ∧ x < (st.bx.length : Int) := g
      refine gss_if (gt_eq hr.units (gd_var (pv 2) rfl) gd_str (by (first | exact ckw_sh _ | exact sh | exact kd_shaped _ | exact shaped_int _ | exact shaped_bool _ | exact shaped_none | assumption | exact shaped_ints _ | exact shaped_str (by decide +kernel) | exact rfl | decide +kernel)) (by (first | exact ckw_sh _ | exact sh | exact kd_shaped _ | exact shaped_int _ | exact shaped_bool _ | exact shaped_none | assumption | exact shaped_ints _ | exact shaped_str (by decide +kernel) | exact rfl | decide +kernel))) (fun h1 => by simp [kd_load, Stp.kd] at h1) (fun h1 => ?_)
      refine gss_if (gt_eq hr.units (gd_var (pv 2) rfl) gd_str (by (first | exact ckw_sh _ | exact sh | exact kd_shaped _ | exact shaped_int _ | exact shaped_bool _ | exact shaped_none | assumption | exact shaped_ints _ | exact shaped_str (by decide +kernel) | exact rfl | decide +kernel)) (by (first | exact ckw_sh _ | exact sh | exact kd_shaped _ | exact shaped_int _ | exact shaped_bool _ | exact shaped_none | assumption | exact shaped_ints _ | exact shaped_str (by decide +kernel) | exact rfl | decide +kernel))) (fun h2 => by simp [kd_plus, Stp.kd] at h2) (fun h2 => ?_)
      cases b
      all_goals exact gss_one (gs_setO (n := 2) (ge_fld (j := 1) (names := LN) (gr_var (pv 0) rfl) (n := 3) rfl T.cl_Loom T.no_boxes rfl (by decide +kernel) rfl (fun z => nomatch z)) (gd_var (pv 3) rfl) (gd_ixO (n := 1) (ge_fld (j := 2) (names := LN) (gr_var (pv 0) rfl) (n := 3) rfl T.cl_Loom T.no_numbers rfl (by decide +kernel) rfl (fun z => nomatch z)) (gd_var (pv 1) rfl) rfl (by (first | exact q | assumption | exact ixh | exact ixb (by assumption) | exact rfl | (simp only [*]; exact rfl)))) rfl (box_ix g.1 g.2) (gss_nil (gss_nil ⟨rfl, by rw [set_ints]; rfl⟩)))
theorem sc_Loom_go : FnScope ["self", "hand", "step", "word"] ["self", "hand"] (defScope s_Loom_go) := ⟨rfl, rfl, rfl, by decide +kernel, rfl, by decide +kernel, by decide +kernel⟩
theorem ok_Loom_go (T : Txt K mg) : FnOk P w K mg base (L2N.CX P w) 3 T.f_Loom_go T.d_Loom_go ["self", "hand"] (SpM K (R_Loom_go T)) := by
  refine mut_def T.F_Loom_go sc_Loom_go (fun as S PR PX h => ?_) (fun cdv A outer s H E H0 Hh ks as S PR PX hr h => ?_)
  · obtain ⟨L, st, b, hw, hsm, rfl, rfl, rfl, rfl⟩ := h; rfl
  · obtain ⟨L, st, b, hw, hsm, rfl, rfl, rfl, rfl⟩ := h
    refine gss_if (gt_val (gd_methP (S1 := loomS T.C_Loom L st) (F := []) (names := LN) (n := 3) (gr_var (pv 0) rfl) rfl T.cl_Loom T.M_Loom_over rfl (by decide +kernel) (ok_Loom_over T) (hr.mono (by decide)) T.b_Loom_over (gas_cons (gd_var (pv 1) rfl) gas_nil) ⟨_, _, _, rfl, rfl, rfl, rfl⟩)) (fun ho => ?_) (fun ho => ?_)
    · have he : st.err b = some .noTurn := by unfold LSt.err; rw [ho]; rfl
      cases b
      all_goals exact ret_all (gs_raise rfl (L2N.takes_of rfl rfl rfl rfl) PySem.F.excBase_ValueError T.x_NoTurn T.g_NoTurn T.k_NoTurn (raises_own T.s_NoTurn T.t_NoTurn) rfl (ge_join (.cons gd_str (.cons (gd_fmt (gd_var (pv 1) rfl) (by decide)) (.cons gd_str .nil))) ⟨by decide +kernel, by decide +kernel, by decide +kernel, trivial⟩) ⟨_, he, rfl, rfl⟩)
    refine gss_nil ?_
    refine gss_if (gt_val (gd_methP (S1 := loomS T.C_Loom L st) (F := []) (names := LN) (n := 3) (gr_var (pv 0) rfl) rfl T.cl_Loom T.M_Loom_waits rfl (by decide +kernel) (ok_Loom_waits T) (hr.mono (by decide)) T.b_Loom_waits (gas_cons (gd_var (pv 1) rfl) gas_nil) ⟨_, _, _, by assumption, rfl, rfl, rfl, rfl⟩)) (fun hwt => ?_) (fun hwt => ?_)
    · have he : st.err b = some .waits := by unfold LSt.err; rw [ho, hwt]; rfl
      cases b
      all_goals exact ret_all (gs_raise rfl (L2N.takes_of rfl rfl rfl rfl) PySem.F.excBase_ValueError T.x_Waits T.g_Waits T.k_Waits (raises_own T.s_Waits T.t_Waits) rfl (ge_join (.cons gd_str (.cons (gd_fmt (gd_var (pv 1) rfl) (by decide)) (.cons gd_str .nil))) ⟨by decide +kernel, by decide +kernel, by decide +kernel, trivial⟩) ⟨_, he, rfl, rfl⟩)
    refine gss_nil ?_
    have gd := next_good hw ho
    refine gss_set (i := 2) sc_Loom_go.nd rfl (.inl rfl) (r := .dat _) (gd_methP (S1 := loomS T.C_Loom L st) (F := []) (names := LN) (n := 3) (gr_var (pv 0) rfl) rfl T.cl_Loom T.M_Loom__next_step rfl (by decide +kernel) (ok_Loom__next_step T) (hr.mono (by decide)) T.b_Loom__next_step (gas_cons (gd_var (pv 1) rfl) gas_nil) ⟨_, _, _, by assumption, by first | assumption | exact (or_not hh).1, rfl, rfl, rfl, rfl⟩) ?_
    refine gss_set (i := 3) sc_Loom_go.nd rfl (.inl rfl) (r := .dat _) (gd_ixT (gd_var (pv 2) rfl) gd_int (by (first | exact q | assumption | exact ixh | exact ixb (by assumption) | exact rfl | (simp only [*]; exact rfl)))) ?_
    obtain ⟨s, hs⟩ : ∃ s, st.next b = s := ⟨_, rfl⟩
    rw [hs] at gd
    rw [hs]
    refine gss_keep (fun S' => st.err b = none ∧ S' = loomS T.C_Loom L (st.eff b s)) ?_ ?_
    · have ws := kd_shaped s.kd
      cases s with
      | take =>
        refine gs_if (gt_in rfl (gd_var (pv 3) rfl) (gd_con (pe_glob rfl T.m_GUARD_WORDS T.r_GUARD_WORDS) T.c_GUARD_WORDS) (by (first | exact rfl | decide)) (by (first | exact rfl | decide))) (fun h1 => ?_) (fun h1 => by simp [kd_guard, Kd.isGuard, Stp.kd] at h1)
        refine gss_one (gs_exprE (ge_mono (ge_meth (S1 := loomS T.C_Loom L st) (F := []) (names := LN) (n := 3) (gr_var (pv 0) rfl) rfl T.cl_Loom T.M_Loom__do_guard rfl (by decide +kernel) (ok_Loom__do_guard T) (hr.mono (by decide)) T.b_Loom__do_guard (fun σ => L2N.passAt (L2N.takes_of rfl rfl rfl rfl) σ) (gas_cons (r := .dat _) (gd_var (pv 1) rfl) (gas_cons (r := .dat _) (gd_var (pv 3) rfl) gas_nil)) ⟨L, st, b, true, rfl, rfl, rfl, rfl⟩) (fun r S' h => ?_) (fun c S' h => ?_)))
        · obtain ⟨S1, ⟨st', h1, _, rfl⟩, rfl⟩ := h
          have hne : st.h ≠ some b := fun z => by simp [LSt.guard, z] at h1
          simp only [LSt.guard, if_neg hne] at h1
          cases h1
          exact ⟨rfl, by unfold LSt.err; rw [ho, hwt, hs]; simp_all [Stp.kd], rfl⟩
        · obtain ⟨S1, ⟨h1, rfl, rfl⟩, rfl⟩ := h
          have hb : st.h = some b := by
            by_cases z : st.h = some b
            · exact z
            · simp [LSt.guard, z] at h1
          exact ⟨.again, by unfold LSt.err; rw [ho, hwt, hs]; simp_all [Stp.kd], rfl, rfl⟩
      | free =>
        refine gs_if (gt_in rfl (gd_var (pv 3) rfl) (gd_con (pe_glob rfl T.m_GUARD_WORDS T.r_GUARD_WORDS) T.c_GUARD_WORDS) (by (first | exact rfl | decide)) (by (first | exact rfl | decide))) (fun h1 => ?_) (fun h1 => by simp [kd_guard, Kd.isGuard, Stp.kd] at h1)
        refine gss_one (gs_exprE (ge_mono (ge_meth (S1 := loomS T.C_Loom L st) (F := []) (names := LN) (n := 3) (gr_var (pv 0) rfl) rfl T.cl_Loom T.M_Loom__do_guard rfl (by decide +kernel) (ok_Loom__do_guard T) (hr.mono (by decide)) T.b_Loom__do_guard (fun σ => L2N.passAt (L2N.takes_of rfl rfl rfl rfl) σ) (gas_cons (r := .dat _) (gd_var (pv 1) rfl) (gas_cons (r := .dat _) (gd_var (pv 3) rfl) gas_nil)) ⟨L, st, b, false, rfl, rfl, rfl, rfl⟩) (fun r S' h => ?_) (fun c S' h => ?_)))
        · obtain ⟨S1, ⟨st', h1, _, rfl⟩, rfl⟩ := h
          have hb : st.h = some b := by
            by_cases z : st.h = some b
            · exact z
            · simp [LSt.guard, z] at h1
          simp only [LSt.guard, if_pos hb] at h1
          cases h1
          exact ⟨rfl, by unfold LSt.err; rw [ho, hwt, hs]; simp_all [Stp.kd], rfl⟩
        · obtain ⟨S1, ⟨h1, rfl, rfl⟩, rfl⟩ := h
          have hb : ¬ st.h = some b := fun z => by simp [LSt.guard, z] at h1
          exact ⟨.notHeld, by unfold LSt.err; rw [ho, hwt, hs]; simp_all [Stp.kd], rfl, rfl⟩
      | load x =>
        refine gs_if (gt_in rfl (gd_var (pv 3) rfl) (gd_con (pe_glob rfl T.m_GUARD_WORDS T.r_GUARD_WORDS) T.c_GUARD_WORDS) (by (first | exact rfl | decide)) (by (first | exact rfl | decide))) (fun h1 => by simp [kd_guard, Kd.isGuard, Stp.kd] at h1) (fun h1 => ?_)
        refine gss_one (gs_if (gt_in rfl (gd_var (pv 3) rfl) (gd_con (pe_glob rfl T.m_BOX_WORDS T.r_BOX_WORDS) T.c_BOX_WORDS) (by (first | exact rfl | decide)) (by (first | exact rfl | decide))) (fun h2 => ?_) (fun h2 => by simp [kd_box, Kd.isBox, Stp.kd] at h2))
        refine gss_one (gs_exprE (ge_mono (ge_meth (S1 := loomS T.C_Loom L st) (F := []) (names := LN) (n := 3) (gr_var (pv 0) rfl) rfl T.cl_Loom T.M_Loom__do_box rfl (by decide +kernel) (ok_Loom__do_box T) (hr.mono (by decide)) T.b_Loom__do_box (fun _ _ _ _ _ _ _ h => h.elim) (gas_cons (r := .dat _) (gd_var (pv 1) rfl) (gas_cons (r := .dat _) (gd_var (pv 3) rfl) (gas_cons (r := .dat _) (gd_ixT (gd_var (pv 2) rfl) gd_int (by (first | exact q | assumption | exact ixh | exact ixb (by assumption) | exact rfl | (simp only [*]; exact rfl)))) gas_nil))) ⟨L, st, b, .load x, rfl, gd, rfl, rfl, rfl, rfl⟩) (fun r S' h => ?_) (fun c S' h => ?_)))
        · obtain ⟨S1, ⟨_, rfl⟩, rfl⟩ := h
          exact ⟨rfl, by unfold LSt.err; rw [ho, hwt, hs]; simp_all [Stp.kd], rfl⟩
        · obtain ⟨S1, h1, _⟩ := h
          exact h1.elim
      | plus x =>
        refine gs_if (gt_in rfl (gd_var (pv 3) rfl) (gd_con (pe_glob rfl T.m_GUARD_WORDS T.r_GUARD_WORDS) T.c_GUARD_WORDS) (by (first | exact rfl | decide)) (by (first | exact rfl | decide))) (fun h1 => by simp [kd_guard, Kd.isGuard, Stp.kd] at h1) (fun h1 => ?_)
        refine gss_one (gs_if (gt_in rfl (gd_var (pv 3) rfl) (gd_con (pe_glob rfl T.m_BOX_WORDS T.r_BOX_WORDS) T.c_BOX_WORDS) (by (first | exact rfl | decide)) (by (first | exact rfl | decide))) (fun h2 => ?_) (fun h2 => by simp [kd_box, Kd.isBox, Stp.kd] at h2))
        refine gss_one (gs_exprE (ge_mono (ge_meth (S1 := loomS T.C_Loom L st) (F := []) (names := LN) (n := 3) (gr_var (pv 0) rfl) rfl T.cl_Loom T.M_Loom__do_box rfl (by decide +kernel) (ok_Loom__do_box T) (hr.mono (by decide)) T.b_Loom__do_box (fun _ _ _ _ _ _ _ h => h.elim) (gas_cons (r := .dat _) (gd_var (pv 1) rfl) (gas_cons (r := .dat _) (gd_var (pv 3) rfl) (gas_cons (r := .dat _) (gd_ixT (gd_var (pv 2) rfl) gd_int (by (first | exact q | assumption | exact ixh | exact ixb (by assumption) | exact rfl | (simp only [*]; exact rfl)))) gas_nil))) ⟨L, st, b, .plus x, rfl, gd, rfl, rfl, rfl, rfl⟩) (fun r S' h => ?_) (fun c S' h => ?_)))
        · obtain ⟨S1, ⟨_, rfl⟩, rfl⟩ := h
          exact ⟨rfl, by unfold LSt.err; rw [ho, hwt, hs]; simp_all [Stp.kd], rfl⟩
        · obtain ⟨S1, h1, _⟩ := h
          exact h1.elim
      | store x =>
        refine gs_if (gt_in rfl (gd_var (pv 3) rfl) (gd_con (pe_glob rfl T.m_GUARD_WORDS T.r_GUARD_WORDS) T.c_GUARD_WORDS) (by (first | exact rfl | decide)) (by (first | exact rfl | decide))) (fun h1 => by simp [kd_guard, Kd.isGuard, Stp.kd] at h1) (fun h1 => ?_)
        refine gss_one (gs_if (gt_in rfl (gd_var (pv 3) rfl) (gd_con (pe_glob rfl T.m_BOX_WORDS T.r_BOX_WORDS) T.c_BOX_WORDS) (by (first | exact rfl | decide)) (by (first | exact rfl | decide))) (fun h2 => ?_) (fun h2 => by simp [kd_box, Kd.isBox, Stp.kd] at h2))
        refine gss_one (gs_exprE (ge_mono (ge_meth (S1 := loomS T.C_Loom L st) (F := []) (names := LN) (n := 3) (gr_var (pv 0) rfl) rfl T.cl_Loom T.M_Loom__do_box rfl (by decide +kernel) (ok_Loom__do_box T) (hr.mono (by decide)) T.b_Loom__do_box (fun _ _ _ _ _ _ _ h => h.elim) (gas_cons (r := .dat _) (gd_var (pv 1) rfl) (gas_cons (r := .dat _) (gd_var (pv 3) rfl) (gas_cons (r := .dat _) (gd_ixT (gd_var (pv 2) rfl) gd_int (by (first | exact q | assumption | exact ixh | exact ixb (by assumption) | exact rfl | (simp only [*]; exact rfl)))) gas_nil))) ⟨L, st, b, .store x, rfl, gd, rfl, rfl, rfl, rfl⟩) (fun r S' h => ?_) (fun c S' h => ?_)))
        · obtain ⟨S1, ⟨_, rfl⟩, rfl⟩ := h
          exact ⟨rfl, by unfold LSt.err; rw [ho, hwt, hs]; simp_all [Stp.kd], rfl⟩
        · obtain ⟨S1, h1, _⟩ := h
          exact h1.elim
      | add n =>
        refine gs_if (gt_in rfl (gd_var (pv 3) rfl) (gd_con (pe_glob rfl T.m_GUARD_WORDS T.r_GUARD_WORDS) T.c_GUARD_WORDS) (by (first | exact rfl | decide)) (by (first | exact rfl | decide))) (fun h1 => by simp [kd_guard, Kd.isGuard, Stp.kd] at h1) (fun h1 => ?_)
        refine gss_one (gs_if (gt_in rfl (gd_var (pv 3) rfl) (gd_con (pe_glob rfl T.m_BOX_WORDS T.r_BOX_WORDS) T.c_BOX_WORDS) (by (first | exact rfl | decide)) (by (first | exact rfl | decide))) (fun h2 => by simp [kd_box, Kd.isBox, Stp.kd] at h2) (fun h2 => ?_))
        refine gss_one (gs_if (gt_eq hr.units (gd_var (pv 3) rfl) gd_str (by (first | exact ckw_sh _ | exact sh | exact kd_shaped _ | exact shaped_int _ | exact shaped_bool _ | exact shaped_none | assumption | exact shaped_ints _ | exact shaped_str (by decide +kernel) | exact rfl | decide +kernel)) (by (first | exact ckw_sh _ | exact sh | exact kd_shaped _ | exact shaped_int _ | exact shaped_bool _ | exact shaped_none | assumption | exact shaped_ints _ | exact shaped_str (by decide +kernel) | exact rfl | decide +kernel))) (fun h3 => ?_) (fun h3 => by simp [kd_add, Stp.kd] at h3))
        cases b
        · exact gss_one (gs_augO (n := 1) (m := 0) (C := fun _ _ => True) (f := fun i j => i + j) ip_addT (ge_fld (j := 2) (names := LN) (gr_var (pv 0) rfl) (n := 3) rfl T.cl_Loom T.no_numbers rfl (by decide +kernel) rfl (fun z => nomatch z)) (gd_var (pv 1) rfl) (gd_ixT (gd_var (pv 2) rfl) gd_int (by (first | exact q | assumption | exact ixh | exact ixb (by assumption) | exact rfl | (simp only [*]; exact rfl)))) rfl rfl trivial ⟨rfl, by unfold LSt.err; rw [ho, hwt, hs]; simp_all [Stp.kd], rfl⟩)
        · exact gss_one (gs_augO (n := 1) (m := 1) (C := fun _ _ => True) (f := fun i j => i + j) ip_addT (ge_fld (j := 2) (names := LN) (gr_var (pv 0) rfl) (n := 3) rfl T.cl_Loom T.no_numbers rfl (by decide +kernel) rfl (fun z => nomatch z)) (gd_var (pv 1) rfl) (gd_ixT (gd_var (pv 2) rfl) gd_int (by (first | exact q | assumption | exact ixh | exact ixb (by assumption) | exact rfl | (simp only [*]; exact rfl)))) rfl rfl trivial ⟨rfl, by unfold LSt.err; rw [ho, hwt, hs]; simp_all [Stp.kd], rfl⟩)
      | twice =>
        refine gs_if (gt_in rfl (gd_var (pv 3) rfl) (gd_con (pe_glob rfl T.m_GUARD_WORDS T.r_GUARD_WORDS) T.c_GUARD_WORDS) (by (first | exact rfl | decide)) (by (first | exact rfl | decide))) (fun h1 => by simp [kd_guard, Kd.isGuard, Stp.kd] at h1) (fun h1 => ?_)
        refine gss_one (gs_if (gt_in rfl (gd_var (pv 3) rfl) (gd_con (pe_glob rfl T.m_BOX_WORDS T.r_BOX_WORDS) T.c_BOX_WORDS) (by (first | exact rfl | decide)) (by (first | exact rfl | decide))) (fun h2 => by simp [kd_box, Kd.isBox, Stp.kd] at h2) (fun h2 => ?_))
        refine gss_one (gs_if (gt_eq hr.units (gd_var (pv 3) rfl) gd_str (by (first | exact ckw_sh _ | exact sh | exact kd_shaped _ | exact shaped_int _ | exact shaped_bool _ | exact shaped_none | assumption | exact shaped_ints _ | exact shaped_str (by decide +kernel) | exact rfl | decide +kernel)) (by (first | exact ckw_sh _ | exact sh | exact kd_shaped _ | exact shaped_int _ | exact shaped_bool _ | exact shaped_none | assumption | exact shaped_ints _ | exact shaped_str (by decide +kernel) | exact rfl | decide +kernel))) (fun h3 => by simp [kd_add, Stp.kd] at h3) (fun h3 => ?_))
        cases b
        · exact gss_one (gs_augO (n := 1) (m := 0) (C := IntMulOk) (f := fun i j => i * j) ip_mulT (ge_fld (j := 2) (names := LN) (gr_var (pv 0) rfl) (n := 3) rfl T.cl_Loom T.no_numbers rfl (by decide +kernel) rfl (fun z => nomatch z)) (gd_var (pv 1) rfl) gd_int rfl rfl (two_ok hsm.1) ⟨rfl, by unfold LSt.err; rw [ho, hwt, hs]; simp_all [Stp.kd], rfl⟩)
        · exact gss_one (gs_augO (n := 1) (m := 1) (C := IntMulOk) (f := fun i j => i * j) ip_mulT (ge_fld (j := 2) (names := LN) (gr_var (pv 0) rfl) (n := 3) rfl T.cl_Loom T.no_numbers rfl (by decide +kernel) rfl (fun z => nomatch z)) (gd_var (pv 1) rfl) gd_int rfl rfl (two_ok hsm.2) ⟨rfl, by unfold LSt.err; rw [ho, hwt, hs]; simp_all [Stp.kd], rfl⟩)
    · rintro S' ⟨he, rfl⟩
      have hd : st.done b = (st.eff b s).setP b (st.plc b + 1) := by unfold LSt.done; rw [hs]
      have z0 := eff_p0 st b s
      have z1 := eff_p1 st b s
      cases b
      · refine gss_one (gs_augO (n := 0) (m := 0) (C := fun _ _ => True) (f := fun i j => i + j) ip_addT (ge_fld (j := 3) (names := LN) (gr_var (pv 0) rfl) (n := 3) rfl T.cl_Loom T.no_places rfl (by decide +kernel) rfl (fun z => nomatch z)) (gd_var (pv 1) rfl) gd_int rfl rfl trivial ⟨he, rfl, ?_⟩)
        rw [hd]
        simp only [loomS, LSt.setP, LSt.plc, z0, z1]; first | rfl | done
      · refine gss_one (gs_augO (n := 0) (m := 1) (C := fun _ _ => True) (f := fun i j => i + j) ip_addT (ge_fld (j := 3) (names := LN) (gr_var (pv 0) rfl) (n := 3) rfl T.cl_Loom T.no_places rfl (by decide +kernel) rfl (fun z => nomatch z)) (gd_var (pv 1) rfl) gd_int rfl rfl trivial ⟨he, rfl, ?_⟩)
        rw [hd]
        simp only [loomS, LSt.setP, LSt.plc, z0, z1]; first | rfl | done
theorem sc_is_whole : FnScope ["thing"] ["thing"] (defScope s_is_whole) := ⟨rfl, rfl, rfl, by decide +kernel, rfl, by decide +kernel, by decide +kernel⟩
theorem ok_is_whole (T : Txt K mg) : FnOk P w K mg base CX0 1 T.f_is_whole T.d_is_whole ["thing"] (SpD K R_is_whole) := by
  refine pure_def T.F_is_whole sc_is_whole (fun ds d h => ?_) (fun cdv A outer s H E B ds d hr h => ?_)
  · obtain ⟨d0, rfl, rfl⟩ := h; rfl
  · obtain ⟨d0, rfl, rfl⟩ := h
    cases d0
    all_goals (
      refine gss_ret (r := .dat _) (gd_and (gd_isi (n := "int") rfl T.z_isinstance (by decide +kernel) (pe_bltn rfl T.z_int (by decide +kernel) rfl) (gd_var (pv 0) rfl) (by first | exact kit_tuple_int | exact kit_list_int | exact kit_int_int | exact kit_bool_int | exact kit_str_int | exact kit_NoneType_int | exact kit_dict_int)) (fun hh => by first | exact gd_dead (absurd hh (by (first | decide +kernel | (simp only [List.length_cons, List.length_nil, eqv_int]; decide) | (simp only [List.length_cons, List.length_nil, eqv_int, decide_eq_true_eq, decide_eq_false_iff_not]; omega)))) | exact (gd_one (gd_not (gd_isi (n := "bool") rfl T.z_isinstance (by decide +kernel) (pe_bltn rfl T.z_bool (by decide +kernel) rfl) (gd_var (pv 0) rfl) (by first | exact kit_tuple_bool | exact kit_list_bool | exact kit_int_bool | exact kit_bool_bool | exact kit_str_bool | exact kit_NoneType_bool | exact kit_dict_bool)))))) ?_
      (first | exact rfl | (simp only [*]; done) | (simp only [*]; exact rfl))
      )
theorem sc_is_step : FnScope ["thing", "word"] ["thing"] (defScope s_is_step) := ⟨rfl, rfl, rfl, by decide +kernel, rfl, by decide +kernel, by decide +kernel⟩
theorem ok_is_step (T : Txt K mg) : FnOk P w K mg base CX0 2 T.f_is_step T.d_is_step ["thing"] (SpD K R_is_step) := by
  refine pure_def T.F_is_step sc_is_step (fun ds d h => ?_) (fun cdv A outer s H E B ds d hr h => ?_)
  · obtain ⟨d0, rfl, hok, rfl⟩ := h; rfl
  · obtain ⟨d0, rfl, hok, rfl⟩ := h
    rcases d0 with _ | _ | _ | _ | _ | xs | _
    rotate_left 5
    rcases xs with _ | ⟨a, r⟩
    rotate_left 1
    rcases a with _ | _ | _ | w | _ | _ | _
    rotate_left 3
    have ws := shaped_str (hok w r rfl)
    rcases r with _ | ⟨b, _ | ⟨b', r⟩⟩
    all_goals (
      refine gss_if (gt_of (gw_or (gt_not (gt_val (gd_isi (n := "tuple") rfl T.z_isinstance (by decide +kernel) (pe_bltn rfl T.z_tuple (by decide +kernel) rfl) (gd_var (pv 0) rfl) (by first | exact kit_tuple_tuple | exact kit_list_tuple | exact kit_int_tuple | exact kit_bool_tuple | exact kit_str_tuple | exact kit_NoneType_tuple | exact kit_dict_tuple)))) (fun hh => by first | exact gw_dead (absurd hh (by (first | decide +kernel | (simp only [List.length_cons, List.length_nil, eqv_int]; decide) | (simp only [List.length_cons, List.length_nil, eqv_int, decide_eq_true_eq, decide_eq_false_iff_not]; omega)))) | exact (gw_or1 (gt_eq hr.units (gd_callB call_len (ca_len (by first | exact .inl rfl | exact .inr rfl)) rfl T.z_len (by decide +kernel) (ga_cons (gd_var (pv 0) rfl) ga_nil)) gd_int (by (first | exact ckw_sh _ | exact sh | exact kd_shaped _ | exact shaped_int _ | exact shaped_bool _ | exact shaped_none | assumption | exact shaped_ints _ | exact shaped_str (by decide +kernel) | exact rfl | decide +kernel)) (by (first | exact ckw_sh _ | exact sh | exact kd_shaped _ | exact shaped_int _ | exact shaped_bool _ | exact shaped_none | assumption | exact shaped_ints _ | exact shaped_str (by decide +kernel) | exact rfl | decide +kernel))))))) (fun h1 => ?_) (fun h1 => ?_)
      · (try (exact absurd h1 (by (first | decide +kernel | (simp only [List.length_cons, List.length_nil, eqv_int]; decide) | (simp only [List.length_cons, List.length_nil, eqv_int, decide_eq_true_eq, decide_eq_false_iff_not]; omega)))))
        all_goals (
          refine gss_ret (r := .dat _) gd_bl ?_
          show Sl.dat _ = Sl.dat _
          first | rfl | (simp only [isStepD, one1, inD, List.isEmpty]; simp_all [isStepD, one1, inD, PyData.eqv]; done) | (simp_all [isStepD, one1, inD, PyData.eqv]; try omega)
        )
      · (try (exact absurd h1 (by (first | decide +kernel | (simp only [List.length_cons, List.length_nil, eqv_int]; decide) | (simp only [List.length_cons, List.length_nil, eqv_int, decide_eq_true_eq, decide_eq_false_iff_not]; omega)))))
        all_goals (
          refine gss_nil ?_
          refine gss_set (i := 1) sc_is_step.nd rfl (by first | exact .inl rfl | exact .inr rfl) (r := .dat _) (gd_ixT (gd_var (pv 0) rfl) gd_int (by (first | exact q | assumption | exact ixh | exact ixb (by assumption) | exact rfl | (simp only [*]; exact rfl)))) ?_
          refine gss_if (gt_not (gt_val (gd_isi (n := "str") rfl T.z_isinstance (by decide +kernel) (pe_bltn rfl T.z_str (by decide +kernel) rfl) (gd_var (pv 1) rfl) (by first | exact kit_tuple_str | exact kit_list_str | exact kit_int_str | exact kit_bool_str | exact kit_str_str | exact kit_NoneType_str | exact kit_dict_str)))) (fun h2 => ?_) (fun h2 => ?_)
          · (try (exact absurd h2 (by (first | decide +kernel | (simp only [List.length_cons, List.length_nil, eqv_int]; decide) | (simp only [List.length_cons, List.length_nil, eqv_int, decide_eq_true_eq, decide_eq_false_iff_not]; omega)))))
            all_goals (
              refine gss_ret (r := .dat _) gd_bl ?_
              show Sl.dat _ = Sl.dat _
              first | rfl | (simp only [isStepD, one1, inD, List.isEmpty]; simp_all [isStepD, one1, inD, PyData.eqv]; done) | (simp_all [isStepD, one1, inD, PyData.eqv]; try omega)
            )
          · (try (exact absurd h2 (by (first | decide +kernel | (simp only [List.length_cons, List.length_nil, eqv_int]; decide) | (simp only [List.length_cons, List.length_nil, eqv_int, decide_eq_true_eq, decide_eq_false_iff_not]; omega)))))
            all_goals (
              refine gss_nil ?_
              refine gss_if (gt_in rfl (gd_var (pv 1) rfl) (gd_con (pe_glob rfl T.m_BARE_WORDS T.r_BARE_WORDS) T.c_BARE_WORDS) (by (first | exact rfl | decide)) (by (first | exact rfl | decide))) (fun h3 => ?_) (fun h3 => ?_)
              · (try (exact absurd h3 (by (first | decide +kernel | (simp only [List.length_cons, List.length_nil, eqv_int]; decide) | (simp only [List.length_cons, List.length_nil, eqv_int, decide_eq_true_eq, decide_eq_false_iff_not]; omega)))))
                all_goals (
                  refine gss_ret (r := .dat _) (gd_eq hr.units (gd_callB call_len (ca_len (by first | exact .inl rfl | exact .inr rfl)) rfl T.z_len (by decide +kernel) (ga_cons (gd_var (pv 0) rfl) ga_nil)) gd_int (by (first | exact ckw_sh _ | exact sh | exact kd_shaped _ | exact shaped_int _ | exact shaped_bool _ | exact shaped_none | assumption | exact shaped_ints _ | exact shaped_str (by decide +kernel) | exact rfl | decide +kernel)) (by (first | exact ckw_sh _ | exact sh | exact kd_shaped _ | exact shaped_int _ | exact shaped_bool _ | exact shaped_none | assumption | exact shaped_ints _ | exact shaped_str (by decide +kernel) | exact rfl | decide +kernel))) ?_
                  show Sl.dat _ = Sl.dat _
                  first | rfl | (simp only [isStepD, one1, inD, List.isEmpty]; simp_all [isStepD, one1, inD, PyData.eqv]; done) | (simp_all [isStepD, one1, inD, PyData.eqv]; try omega)
                )
              · (try (exact absurd h3 (by (first | decide +kernel | (simp only [List.length_cons, List.length_nil, eqv_int]; decide) | (simp only [List.length_cons, List.length_nil, eqv_int, decide_eq_true_eq, decide_eq_false_iff_not]; omega)))))
                all_goals (
                  refine gss_nil ?_
                  refine gss_if (gt_of (gw_or (gt_in rfl (gd_var (pv 1) rfl) (gd_con (pe_glob rfl T.m_BOX_WORDS T.r_BOX_WORDS) T.c_BOX_WORDS) (by (first | exact rfl | decide)) (by (first | exact rfl | decide))) (fun hh => by first | exact gw_dead (absurd hh (by (first | decide +kernel | (simp only [List.length_cons, List.length_nil, eqv_int]; decide) | (simp only [List.length_cons, List.length_nil, eqv_int, decide_eq_true_eq, decide_eq_false_iff_not]; omega)))) | exact (gw_or1 (gt_eq hr.units (gd_var (pv 1) rfl) gd_str (by (first | exact ckw_sh _ | exact sh | exact kd_shaped _ | exact shaped_int _ | exact shaped_bool _ | exact shaped_none | assumption | exact shaped_ints _ | exact shaped_str (by decide +kernel) | exact rfl | decide +kernel)) (by (first | exact ckw_sh _ | exact sh | exact kd_shaped _ | exact shaped_int _ | exact shaped_bool _ | exact shaped_none | assumption | exact shaped_ints _ | exact shaped_str (by decide +kernel) | exact rfl | decide +kernel))))))) (fun h4 => ?_) (fun h4 => ?_)
                  · (try (exact absurd h4 (by (first | decide +kernel | (simp only [List.length_cons, List.length_nil, eqv_int]; decide) | (simp only [List.length_cons, List.length_nil, eqv_int, decide_eq_true_eq, decide_eq_false_iff_not]; omega)))))
                    all_goals (
                      refine gss_ret (r := .dat _) (gd_and (gd_eq hr.units (gd_callB call_len (ca_len (by first | exact .inl rfl | exact .inr rfl)) rfl T.z_len (by decide +kernel) (ga_cons (gd_var (pv 0) rfl) ga_nil)) gd_int (by (first | exact ckw_sh _ | exact sh | exact kd_shaped _ | exact shaped_int _ | exact shaped_bool _ | exact shaped_none | assumption | exact shaped_ints _ | exact shaped_str (by decide +kernel) | exact rfl | decide +kernel)) (by (first | exact ckw_sh _ | exact sh | exact kd_shaped _ | exact shaped_int _ | exact shaped_bool _ | exact shaped_none | assumption | exact shaped_ints _ | exact shaped_str (by decide +kernel) | exact rfl | decide +kernel))) (fun hh => by first | exact gd_dead (absurd hh (by (first | decide +kernel | (simp only [List.length_cons, List.length_nil, eqv_int]; decide) | (simp only [List.length_cons, List.length_nil, eqv_int, decide_eq_true_eq, decide_eq_false_iff_not]; omega)))) | exact (gd_one (gd_call (ok_is_whole T) (hr.mono (by decide)) rfl T.m_is_whole T.F_is_whole.kp T.b_is_whole pass0 (ga_cons (gd_ixT (gd_var (pv 0) rfl) gd_int (by (first | exact q | assumption | exact ixh | exact ixb (by assumption) | exact rfl | (simp only [*]; exact rfl)))) ga_nil) (by (exact ⟨_, rfl, rfl⟩)))))) ?_
                      show Sl.dat _ = Sl.dat _
                      first | rfl | (simp only [isStepD, one1, inD, List.isEmpty]; simp_all [isStepD, one1, inD, PyData.eqv]; done) | (simp_all [isStepD, one1, inD, PyData.eqv]; try omega)
                    )
                  · (try (exact absurd h4 (by (first | decide +kernel | (simp only [List.length_cons, List.length_nil, eqv_int]; decide) | (simp only [List.length_cons, List.length_nil, eqv_int, decide_eq_true_eq, decide_eq_false_iff_not]; omega)))))
                    all_goals (
                      refine gss_nil ?_
                      refine gss_ret (r := .dat _) gd_bl ?_
                      show Sl.dat _ = Sl.dat _
                      first | rfl | (simp only [isStepD, one1, inD, List.isEmpty]; simp_all [isStepD, one1, inD, PyData.eqv]; done) | (simp_all [isStepD, one1, inD, PyData.eqv]; try omega)
                    )
                )
            )
        )
      )
theorem sc_check_row : FnScope ["row", "boxes", "at", "step"] ["row", "boxes"] (defScope s_check_row) := ⟨rfl, rfl, rfl, by decide +kernel, rfl, by decide +kernel, by decide +kernel⟩
theorem ok_check_row (T : Txt K mg) : FnOk P w K mg base CX0 3 T.f_check_row T.d_check_row ["row", "boxes"] (SpM K R_check_row) := by
  refine mut_def0 T.F_check_row sc_check_row (fun as S PR PX h => ?_) (fun cdv A outer s H E B as S PR PX hr h => ?_)
  · obtain ⟨r0, rb, row, bx, rfl, h0, hb, hg, rfl, rfl⟩ := h; rfl
  · obtain ⟨r0, rb, row, bx, rfl, h0, hb, hg, rfl, rfl⟩ := h
    refine gss_if (gt_gt (gl_len rfl T.z_len (by decide +kernel) (gls_var (pv 0) rfl h0)) (gd_con (pe_glob rfl T.m_MOST_STEPS T.r_MOST_STEPS) T.c_MOST_STEPS)) (fun h1 => absurd h1 (by have := hg.1; rw [List.length_map, decide_eq_true_eq]; omega)) (fun h1 => gss_nil ?_)
    refine gss_one (gl_forE .never rfl rfl T.z_enumerate (gls_var (pv 0) rfl h0) sc_check_row.nd (j := 2) rfl (by first | exact .inl rfl | exact .inr rfl) (k := 3) rfl (by first | exact .inl rfl | exact .inr rfl) (fun _ Γ' S' => S' = S ∧ ∃ x y, Γ' = [r0, rb, x, y]) ⟨rfl, _, _, rfl⟩ (fun _ _ _ q => q.1) ?_ ?_)
    · rintro i d Γ' S' G hd ⟨rfl, x, y, rfl⟩
      obtain ⟨s, hs, rfl⟩ : ∃ s ∈ row, d = s.toD := by
        rw [List.getElem?_map] at hd
        cases q : row[i]? with
        | none => rw [q] at hd; cases hd
        | some s => rw [q] at hd; cases hd; exact ⟨s, List.mem_of_getElem? q, rfl⟩
      have gs := hg.2 s hs
      refine gss_if (gt_not (gt_val (gd_call (ok_is_step T) (hr.mono (by decide)) rfl T.m_is_step T.F_is_step.kp T.b_is_step pass0 (ga_cons (gd_var (pv 3) rfl) ga_nil) (by (first | exact ⟨_, rfl, hok, rfl⟩ | exact ⟨_, rfl, stp_okD _, rfl⟩))))) (fun h2 => absurd h2 (by rw [stp_isD]; decide)) (fun h2 => gss_nil ?_)
      refine gss_one (gs_if (gt_of (gw_and (gt_in rfl (gd_ixT (gd_var (pv 3) rfl) gd_int (by (first | exact q | assumption | exact ixh | exact ixb (by assumption) | exact rfl | (simp only [*]; exact rfl)))) (gd_con (pe_glob rfl T.m_BOX_WORDS T.r_BOX_WORDS) T.c_BOX_WORDS) (by (first | exact rfl | decide)) (by (first | exact rfl | decide))) (fun hh => by first | exact gw_dead (absurd hh (by (first | decide +kernel | (simp only [List.length_cons, List.length_nil, eqv_int]; decide) | (simp only [List.length_cons, List.length_nil, eqv_int, decide_eq_true_eq, decide_eq_false_iff_not]; omega)))) | exact (gw_and1 (gt_not (gt_chain_le_lt gd_int (gd_ixT (gd_var (pv 3) rfl) gd_int (by (first | exact q | assumption | exact ixh | exact ixb (by assumption) | exact rfl | (simp only [*]; exact rfl)))) (fun _ => (gl_len rfl T.z_len (by decide +kernel) (gls_var (pv 1) rfl hb))))))))) (fun h3 => ?_) (fun h3 => gss_nil ⟨rfl, _, _, rfl⟩))
      exfalso
      cases hk : inD (.str s.kd.word) [.str "load", .str "plus", .str "store"] with
      | false => simp [hk] at h3
      | true =>
        obtain ⟨g1, g2⟩ := good_box gs hk
        simp [hk, List.length_map] at h3
        have g1 := of_decide_eq_true g1
        have g2 := of_decide_eq_true g2
        omega
    · rintro Γ' S' ⟨rfl, _⟩
      exact ⟨rfl, rfl⟩
theorem sc_Loom___init : FnScope ["self", "ones", "others", "boxes"] ["self", "ones", "others", "boxes"] (defScope s_Loom___init) := ⟨rfl, rfl, rfl, by decide +kernel, rfl, by decide +kernel, by decide +kernel⟩
theorem ok_Loom___init (T : Txt K mg) : FnOk P w K mg base CX0 4 T.f_Loom___init T.d_Loom___init ["self", "ones", "others", "boxes"] (SpM K (R_Loom___init T)) := by
  refine mut_def0 T.F_Loom___init sc_Loom___init (fun as S PR PX h => ?_) (fun cdv A outer s H E B as S PR PX hr h => ?_)
  · obtain ⟨p, r0, r1, rb, s0, s1, bx, F, rfl, rfl, h0, h1, hb, g0, g1, rfl, rfl⟩ := h; rfl
  · obtain ⟨p, r0, r1, rb, s0, s1, bx, F, rfl, rfl, h0, h1, hb, g0, g1, rfl, rfl⟩ := h
    refine gss_then ?_
    refine gs_exprE (ge_of (gd_callP0 (ok_check_row T) (hr.mono (by decide)) rfl T.m_check_row T.F_check_row.kp T.b_check_row (gas_cons (ge_var (pv 1) rfl h0.ne) (gas_cons (ge_var (pv 3) rfl hb.ne) gas_nil)) ⟨_, _, _, _, rfl, h0.cons, hb.cons, g0, rfl, rfl⟩) ?_)
    refine gss_then ?_
    refine gs_exprE (ge_of (gd_callP0 (ok_check_row T) (hr.mono (by decide)) rfl T.m_check_row T.F_check_row.kp T.b_check_row (gas_cons (ge_var (pv 2) rfl h1.ne) (gas_cons (ge_var (pv 3) rfl hb.ne) gas_nil)) ⟨_, _, _, _, rfl, h1.cons, hb.cons, g1, rfl, rfl⟩) ?_)
    refine gss_then ?_
    refine (gs_fldNew (n := 0) (names := []) (r := .dat _) (gr_var (pv 0) rfl) (gd_lst (ga_cons (gl_listD rfl T.z_list (by decide +kernel) (gls_var (pv 1) rfl h0.cons)) (ga_cons (gl_listD rfl T.z_list (by decide +kernel) (gls_var (pv 2) rfl h1.cons)) ga_nil)) (by show 2 ≤ 100000; decide)) rfl T.cl_Loom T.no__rows rfl rfl (by show 0 < 1000; decide) ?_)
    refine gss_then ?_
    refine gs_fldF (j := none) (n := 0) (names := ["_rows"]) (gf_list rfl T.z_list (by decide +kernel) (gls_var (pv 3) rfl hb.cons)) (fun _ => gr_var (pv 0) rfl) rfl T.cl_Loom T.no_boxes rfl (by decide +kernel) (by show 1 < 1000; decide) fun b _ => ?_
    refine gss_then ?_
    refine gs_fldF (j := none) (n := 1) (names := ["_rows", "boxes"]) (gf_lst (ga_cons gd_int (ga_cons gd_int ga_nil)) (by show 2 ≤ 100000; decide)) (fun _ => gr_var (pv 0) rfl) rfl T.cl_Loom T.no_numbers rfl (by decide +kernel) (by show 2 < 1000; decide) fun n _ => ?_
    refine gss_then ?_
    refine gs_fldF (j := none) (n := 2) (names := ["_rows", "boxes", "numbers"]) (gf_lst (ga_cons gd_int (ga_cons gd_int ga_nil)) (by show 2 ≤ 100000; decide)) (fun _ => gr_var (pv 0) rfl) rfl T.cl_Loom T.no_places rfl (by decide +kernel) (by show 3 < 1000; decide) fun q _ => ?_
    refine gss_one ?_
    refine (gs_fldNew (n := 3) (names := ["_rows", "boxes", "numbers", "places"]) (r := .dat _) (gr_var (pv 0) rfl) gd_non rfl T.cl_Loom T.no_holder rfl (by decide +kernel) (by show 4 < 1000; decide) ?_)
    exact ⟨rfl, ⟨p, b, n, q⟩, rfl, rfl⟩

/-! ### the law's own body: mirrors -/
theorem canLay_all : ∀ {ds : List PyData}, (∀ d ∈ ds, d.canLay0 = true) → PyData.canLayAll0 ds = true
  | [], _ => by simp [PyData.canLayAll0]
  | d :: ds, h => by simp [PyData.canLayAll0, h d List.mem_cons_self, canLay_all (ds := ds) fun e he => h e (List.mem_cons_of_mem _ he)]
theorem depth_all {n : Nat} : ∀ {ds : List PyData}, (∀ d ∈ ds, d.depth ≤ n) → PyData.depthAll ds ≤ n
  | [], _ => by simp [PyData.depthAll]
  | d :: ds, h => by
    have h1 := h d List.mem_cons_self
    have h2 := depth_all (ds := ds) fun e he => h e (List.mem_cons_of_mem _ he)
    simp [PyData.depthAll]; omega
theorem kd_canLay (k : Kd) : (PyData.str k.word).canLay0 = true := by cases k <;> decide +kernel
theorem stp_canLay (s : Stp) : s.toD.canLay0 = true := by
  have h := kd_canLay s.kd
  simp only [PyData.canLay0] at h
  cases s <;> simp [Stp.toD, Stp.args, PyData.canLay0, PyData.canLayAll0, h]
theorem stp_depth (s : Stp) : s.toD.depth ≤ 1 := by
  cases s <;> simp [Stp.toD, Stp.args, PyData.depth, PyData.depthAll]
theorem rowD_canLay (r : List Stp) : (rowD r).canLay0 = true := by
  unfold rowD
  simp only [PyData.canLay0]
  exact canLay_all fun d hd => by obtain ⟨s, _, rfl⟩ := List.mem_map.mp hd; exact stp_canLay s
theorem rowD_depth (r : List Stp) : (rowD r).depth ≤ 2 := by
  unfold rowD
  have := depth_all (n := 1) (ds := r.map Stp.toD) fun d hd => by obtain ⟨s, _, rfl⟩ := List.mem_map.mp hd; exact stp_depth s
  simp only [PyData.depth]; omega
theorem hand_shaped (a b : List Stp) (bx : List Int) : SeqAt.shaped (.list [rowD a, rowD b, .list (bx.map .int)]) = true := by
  have h1 := rowD_depth a
  have h2 := rowD_depth b
  unfold SeqAt.shaped
  rw [Bool.and_eq_true]
  refine ⟨by simp [PyData.canLay0, PyData.canLayAll0, rowD_canLay, canLay_ints], decide_eq_true ?_⟩
  simp only [PyData.depth, PyData.depthAll, depth_ints]
  omega
theorem shaped_refl {d : PyData} (h : SeqAt.shaped d = true) : PyData.eqv d d = true := by
  unfold SeqAt.shaped at h
  rw [Bool.and_eq_true] at h
  exact SeqAt.eqv_refl d h.1
theorem num_lt (z : Int) : (num z).natAbs < 2 ^ 200 := by
  unfold num
  split
  · have h1 := Int.emod_nonneg (z * P59) (show P60 ≠ 0 by decide)
    have h2 := Int.emod_lt_of_pos (z * P59) (show 0 < P60 by decide)
    have h3 : (z * P59 % P60).natAbs < P60.natAbs := by omega
    rcases (show 1 - 2 * (z / 3 % 2) = 1 ∨ 1 - 2 * (z / 3 % 2) = -1 by omega) with e | e <;> rw [e]
    · rw [Int.mul_one]; exact Nat.lt_trans h3 (by decide)
    · rw [Int.mul_neg, Int.mul_one, Int.natAbs_neg]; exact Nat.lt_trans h3 (by decide)
  · exact Nat.lt_trans (show (z / 3 % 41 - 20).natAbs < 64 by omega) (by decide)
/-- how far the numbers go -/
structure Bnd (k : Nat) (s : LSt) : Prop where
  n0 : s.n0.natAbs < 2 ^ k
  n1 : s.n1.natAbs < 2 ^ k
  bx : ∀ x ∈ s.bx, x.natAbs < 2 ^ k
  a0 : ∀ t ∈ s.r0, t.kd = .add → t.b.natAbs < 2 ^ 200
  a1 : ∀ t ∈ s.r1, t.kd = .add → t.b.natAbs < 2 ^ 200
theorem pow_up {k l x : Nat} (h : x < 2 ^ k) (hl : k ≤ l) : x < 2 ^ l := Nat.lt_of_lt_of_le h (Nat.pow_le_pow_right (by decide) hl)
theorem Bnd.up {k l : Nat} {s : LSt} (h : Bnd k s) (hl : k ≤ l) : Bnd l s := ⟨pow_up h.n0 hl, pow_up h.n1 hl, fun x hx => pow_up (h.bx x hx) hl, h.a0, h.a1⟩
theorem Bnd.setN {k : Nat} {s : LSt} {b : Bool} {z : Int} (h : Bnd k s) (hz : z.natAbs < 2 ^ k) : Bnd k (s.setN b z) := by
  cases b
  · exact ⟨hz, h.n1, h.bx, h.a0, h.a1⟩
  · exact ⟨h.n0, hz, h.bx, h.a0, h.a1⟩
theorem Bnd.setP {k : Nat} {s : LSt} {b : Bool} {p : Nat} (h : Bnd k s) : Bnd k (s.setP b p) := by
  cases b <;> exact ⟨h.n0, h.n1, h.bx, h.a0, h.a1⟩
theorem Bnd.num {k : Nat} {s : LSt} (b : Bool) (h : Bnd k s) : (s.num b).natAbs < 2 ^ k := by
  cases b
  · exact h.n0
  · exact h.n1
theorem Bnd.box {k : Nat} {s : LSt} (i : Nat) (h : Bnd k s) : (s.bx.getD i 0).natAbs < 2 ^ k := by
  rw [List.getD_eq_getElem?_getD]
  cases e : s.bx[i]? with
  | none => exact Nat.pos_of_ne_zero (by exact Nat.ne_of_gt (Nat.pow_pos (by decide)))
  | some x => exact h.bx x (List.mem_of_getElem? e)
theorem over_of {s : LSt} {b : Bool} (he : s.err b = none) : s.over b = false := by
  unfold LSt.err at he
  cases h : s.over b with
  | false => rfl
  | true => rw [h] at he; cases he
theorem next_mem {s : LSt} {b : Bool} (w : Wf s) (h : s.over b = false) : s.next b ∈ s.row b := by
  have hl := next_lt w h
  unfold LSt.next
  rw [List.getD_eq_getElem?_getD, List.getElem?_eq_getElem hl]
  exact List.getElem_mem hl
theorem Bnd.done {k : Nat} {s : LSt} {b : Bool} (h : Bnd k s) (hk : 200 ≤ k) (w : Wf s) (he : s.err b = none) : Bnd (k + 1) (s.done b) := by
  have hm := next_mem w (over_of he)
  have hu := h.up (Nat.le_succ k)
  have e2 : (2 : Nat) ^ (k + 1) = 2 ^ k * 2 := Nat.pow_succ 2 k
  have hn := h.num b
  have ha : (s.next b).kd = .add → (s.next b).b.natAbs < 2 ^ k := fun q => by
    cases b
    · exact pow_up (h.a0 _ hm q) hk
    · exact pow_up (h.a1 _ hm q) hk
  unfold LSt.done
  refine Bnd.setP ?_
  generalize s.next b = t at ha
  have up : ∀ x : Int, x.natAbs < 2 ^ k → x.natAbs < 2 ^ (k + 1) := fun x hx => by omega
  have add : ∀ x y : Int, x.natAbs < 2 ^ k → y.natAbs < 2 ^ k → (x + y).natAbs < 2 ^ (k + 1) := fun x y hx hy => by omega
  cases t with
  | load x => exact hu.setN (up _ (h.box _))
  | plus x => exact hu.setN (add _ _ hn (h.box _))
  | store x => exact ⟨hu.n0, hu.n1, fun y hy => (List.mem_or_eq_of_mem_set hy).elim (hu.bx y) fun e => by rw [e]; exact up _ hn, hu.a0, hu.a1⟩
  | add n => exact hu.setN (add _ _ hn (ha rfl))
  | twice => exact hu.setN (by rw [show s.num b * 2 = s.num b + s.num b by omega]; exact add _ _ hn hn)
  | take => exact ⟨hu.n0, hu.n1, hu.bx, hu.a0, hu.a1⟩
  | free => exact ⟨hu.n0, hu.n1, hu.bx, hu.a0, hu.a1⟩
theorem Bnd.small {k : Nat} {s : LSt} (h : Bnd k s) (hk : k ≤ 1048590) (h0 : 0 < k) : SmallL s := ⟨small_of h0 hk h.n0, small_of h0 hk h.n1⟩
theorem eff_bl (s : LSt) (b : Bool) (t : Stp) : (s.eff b t).bx.length = s.bx.length := by cases t <;> cases b <;> simp [LSt.eff, LSt.setN]
theorem done_bl (s : LSt) (b : Bool) : (s.done b).bx.length = s.bx.length := by
  unfold LSt.done
  rw [show ((s.eff b (s.next b)).setP b (s.plc b + 1)).bx = (s.eff b (s.next b)).bx by cases b <;> rfl, eff_bl]
theorem Wf.done {s : LSt} {b : Bool} (w : Wf s) (he : s.err b = none) : Wf (s.done b) := by
  have hl := next_lt w (over_of he)
  have hb := done_bl s b
  have r0 : (s.done b).r0 = s.r0 := by unfold LSt.done; rw [← eff_r0 s b (s.next b)]; cases b <;> rfl
  have r1 : (s.done b).r1 = s.r1 := by unfold LSt.done; rw [← eff_r1 s b (s.next b)]; cases b <;> rfl
  have z0 := eff_p0 s b (s.next b)
  have z1 := eff_p1 s b (s.next b)
  refine ⟨by rw [hb, r0]; exact w.g0, by rw [hb, r1]; exact w.g1, ?_, ?_⟩
  · rw [r0]
    cases b
    · exact hl
    · show (s.eff true (s.next true)).p0 ≤ _
      rw [z0]; exact w.l0
  · rw [r1]
    cases b
    · show (s.eff false (s.next false)).p1 ≤ _
      rw [z1]; exact w.l1
    · exact hl
/-- the step, where it is not refused -/
def LSt.go (s : LSt) (b : Bool) : LSt := if s.err b = none then s.done b else s
theorem Wf.go {s : LSt} {b : Bool} (w : Wf s) : Wf (s.go b) := by
  unfold LSt.go
  split
  · exact w.done (by assumption)
  · exact w
theorem go_bl (s : LSt) (b : Bool) : (s.go b).bx.length = s.bx.length := by
  unfold LSt.go
  split
  · exact done_bl s b
  · rfl
theorem Bnd.go {k : Nat} {s : LSt} {b : Bool} (h : Bnd k s) (hk : 200 ≤ k) (w : Wf s) : Bnd (k + 1) (s.go b) := by
  unfold LSt.go
  split
  · exact h.done hk w (by assumption)
  · exact h.up (Nat.le_succ k)
theorem word_none (e : Option Er) : PyData.eqv (.str (wordE e)) (.str "") = e.isNone := by
  rcases e with _ | e
  · decide +kernel
  · cases e <;> decide +kernel
theorem cut_int {ns : List Int} {l u : Option Int} {i : Nat} {d : PyData} (h : (G.cutD (ns.map PyData.int) l u)[i]? = some d) : ∃ z, d = .int z := by
  have hm := List.mem_of_getElem? h
  have hm := List.mem_of_mem_drop (List.mem_of_mem_take hm)
  obtain ⟨z, _, rfl⟩ := List.mem_map.mp hm
  exact ⟨z, rfl⟩
theorem cut_len {ns : List Int} {l u : Option Int} : (G.cutD (ns.map PyData.int) l u).length ≤ ns.length := by
  unfold G.cutD
  rw [List.length_take, List.length_drop, List.length_map]; omega
theorem hand_of (z : Int) : ∃ b, z % 2 = hI b := by
  rcases (show z % 2 = 0 ∨ z % 2 = 1 by omega) with e | e
  · exact ⟨false, e⟩
  · exact ⟨true, e⟩
theorem all_true (n : Nat) : ((List.replicate n true).all id) = true := by
  induction n with
  | zero => rfl
  | succ n ih => rw [List.replicate_succ, List.all_cons, ih]; rfl

/-! ### rows that are done: mirrors -/
abbrev startL (r0 r1 : List Stp) (bx : List Int) : LSt := ⟨r0, r1, bx, 0, 0, 0, 0, none⟩
def LSt.err1 (s : LSt) (t : Stp) : Option Er := if t.kd = .take ∧ s.h = some false then some .again else if t.kd = .free ∧ s.h ≠ some false then some .notHeld else none
def LSt.do1 (s : LSt) (t : Stp) : LSt := (s.eff false t).setP false (s.p0 + 1)
/-- one row alone -/
def solo : LSt → List Stp → Option Er × LSt
  | s, [] => (none, s)
  | s, t :: r => match s.err1 t with
    | some e => (some e, s)
    | none => solo (s.do1 t) r
/-- two rows by an order -/
def walk : LSt → List Bool → Option Er × LSt
  | s, [] => (none, s)
  | s, b :: r => match s.err b with
    | some e => (some e, s)
    | none => walk (s.done b) r
theorem walk_ok {s : LSt} {b : Bool} {r : List Bool} (h : s.err b = none) : walk s (b :: r) = walk (s.done b) r := by
  rw [walk, h]
theorem walk_err {s : LSt} {b : Bool} {r : List Bool} {e : Er} (h : s.err b = some e) : walk s (b :: r) = (some e, s) := by
  rw [walk, h]
theorem solo_ok {s : LSt} {t : Stp} {r : List Stp} (h : s.err1 t = none) : solo s (t :: r) = solo (s.do1 t) r := by
  rw [solo, h]
theorem solo_err {s : LSt} {t : Stp} {r : List Stp} {e : Er} (h : s.err1 t = some e) : solo s (t :: r) = (some e, s) := by
  rw [solo, h]
theorem err_solo {s : LSt} (ho : s.over false = false) (hh : s.h ≠ some true) : s.err false = s.err1 (s.next false) := by
  unfold LSt.err LSt.err1
  have hwt : s.waits false = false := by
    unfold LSt.waits
    rw [show (!false) = true from rfl, decide_eq_false hh, Bool.and_false, Bool.false_and]
  rw [ho, hwt]
  rfl
theorem done_solo (s : LSt) : s.done false = s.do1 (s.next false) := rfl
theorem eff_h (s : LSt) (t : Stp) (hh : s.h ≠ some true) : (s.eff false t).h ≠ some true := by
  cases t <;> first | exact hh | exact (fun z => nomatch z) | (intro z; cases z)
theorem done_h {s : LSt} (hh : s.h ≠ some true) : (s.done false).h ≠ some true := eff_h s _ hh
theorem done_r0 (s : LSt) (b : Bool) : (s.done b).r0 = s.r0 := by
  have := eff_r0 s b (s.next b)
  unfold LSt.done
  cases b <;> exact this
theorem done_r1 (s : LSt) (b : Bool) : (s.done b).r1 = s.r1 := by
  have := eff_r1 s b (s.next b)
  unfold LSt.done
  cases b <;> exact this
theorem done_p0 (s : LSt) : (s.done false).p0 = s.p0 + 1 := rfl
theorem drop_next {s : LSt} (w : Wf s) (ho : s.over false = false) : s.r0.drop s.p0 = s.next false :: s.r0.drop (s.p0 + 1) := by
  have hl : s.p0 < s.r0.length := next_lt w ho
  have e : s.next false = s.r0[s.p0] := by
    show s.r0.getD s.p0 .twice = _
    rw [List.getD_eq_getElem?_getD, List.getElem?_eq_getElem hl]; rfl
  rw [e]
  exact List.drop_eq_getElem_cons hl
theorem drop_over {s : LSt} (ho : s.over false = true) : s.r0.drop s.p0 = [] := by
  have ho : s.p0 = s.r0.length := of_decide_eq_true ho
  rw [ho, List.drop_length]
theorem wf_start {r0 r1 : List Stp} {bx : List Int} (h0 : GoodR bx.length r0) (h1 : GoodR bx.length r1) : Wf (startL r0 r1 bx) := ⟨h0, h1, Nat.zero_le _, Nat.zero_le _⟩
theorem good_nil (n : Nat) : GoodR n [] := ⟨Nat.zero_le _, fun s h => nomatch h⟩
def handsD (o : List Bool) : List PyData := o.map fun b => .int (hI b)
theorem hands_at {o : List Bool} {i : Nat} {d : PyData} (h : (handsD o)[i]? = some d) : ∃ b, o[i]? = some b ∧ d = .int (hI b) := by
  unfold handsD at h
  rw [List.getElem?_map] at h
  cases q : o[i]? with
  | none => rw [q] at h; cases h
  | some b => rw [q] at h; cases h; exact ⟨b, rfl, rfl⟩
theorem drop_at {α : Type} {o : List α} {i : Nat} {b : α} (h : o[i]? = some b) : o.drop i = b :: o.drop (i + 1) := by
  obtain ⟨hl, rfl⟩ := List.getElem?_eq_some_iff.mp h
  exact List.drop_eq_getElem_cons hl


section
variable {K : PySem.W.Frag} {mg : Str → Option Value}
def R_alone (T : Txt K mg) : Rq := fun as S PR PX => ∃ (r0 rb : Sl) (row : List Stp) (bx : List Int), as = [r0, rb] ∧ LSl S r0 (row.map Stp.toD) ∧ LSl S rb (bx.map .int) ∧ GoodR bx.length row ∧ Bnd 200 (startL row [] bx) ∧
  PR = (fun r S' => (solo (startL row [] bx) row).1 = none ∧ r = .dat (.tuple [.list ((solo (startL row [] bx) row).2.bx.map .int), .int (solo (startL row [] bx) row).2.n0]) ∧ S' = S) ∧
  PX = (fun cls S' => ∃ e, (solo (startL row [] bx) row).1 = some e ∧ cls = .ref (T_ec T e) ∧ S' = S)
end

theorem sc_alone : FnScope ["row", "boxes", "loom"] ["row", "boxes"] (defScope s_alone) := ⟨rfl, rfl, rfl, by decide +kernel, rfl, by decide +kernel, by decide +kernel⟩
theorem ok_alone (T : Txt K mg) : FnOk P w K mg base (L2N.CX P w) 6 T.f_alone T.d_alone ["row", "boxes"] (SpM K (R_alone T)) := by
  refine mut_defK T.F_alone sc_alone (fun as S PR PX h => ?_) (fun cdv A outer s H E H0 Hh as S PR PX hr h => ?_)
  · obtain ⟨r0, rb, row, bx, rfl, h0, hb, hg, hB, rfl, rfl⟩ := h; rfl
  · obtain ⟨r0, rb, row, bx, rfl, h0, hb, hg, hB, rfl, rfl⟩ := h
    refine gss_at rfl (List.append_nil S).symm ?_
    refine gss_then ?_
    refine gs_setE (i := 2) sc_alone.nd rfl (by first | exact .inl rfl | exact .inr rfl) (ge_makeQ (E := E) (S1 := S) (F := []) (PRx := fun y S' => ∃ L' : LA, L'.p = y ∧ S' = loomS T.C_Loom L' (startL row [] bx) ++ S) (PXx := fun _ => noX) T.M_Loom___init (ok_Loom___init T) (hr.mono (by decide)) rfl T.mg_Loom T.b_Loom___init pass0 (fun cls σ H h => h) (gas_cons (ge_var (pv 0) rfl h0.ne) (gas_cons (r := .dat (.list [])) (gd_lst ga_nil (by decide)) (gas_cons (ge_var (pv 1) rfl hb.ne) gas_nil))) (fun y => ⟨y, _, _, _, row, [], bx, _, rfl, rfl, h0, .inl rfl, hb, hg, good_nil _, rfl, rfl⟩) (fun y S1' hy hp => ?_) fun _ _ _ h => h.elim)
    obtain ⟨L, rfl, rfl⟩ := hp
    refine gss_at rfl (List.append_nil _) ?_
    refine gss_post (R' := fun r S' => (solo (startL row [] bx) row).1 = none ∧ r = .dat (.tuple [.list ((solo (startL row [] bx) row).2.bx.map .int), .int (solo (startL row [] bx) row).2.n0]) ∧ Within S S') (ex' := fun cls Γ' S' => ∃ e, (solo (startL row [] bx) row).1 = some e ∧ cls = .ref (T_ec T e) ∧ Within S S') ?_ (fun r S' ⟨h1, h2, h3⟩ => ⟨S, h3, h1, h2, rfl⟩) (fun cls Γ' S' ⟨e, h1, h2, h3⟩ => ⟨S, h3, e, h1, h2, rfl⟩)
    refine gss_cons (M := fun Γ' S' => ∃ st, (none, st) = solo (startL row [] bx) row ∧ Γ' = [r0, rb, .raw (.ref L.p)] ∧ S' = loomS T.C_Loom L st ++ S) (gs_while .leaving (fun m Γ' S' => ∃ st, m = st.r0.length - st.p0 ∧ Wf st ∧ st.r0 = row ∧ st.h ≠ some true ∧ Bnd (200 + st.p0) st ∧ solo st (st.r0.drop st.p0) = solo (startL row [] bx) row ∧ Γ' = [r0, rb, .raw (.ref L.p)] ∧ S' = loomS T.C_Loom L st ++ S) _ ⟨_, rfl, wf_start hg (good_nil _), rfl, (fun z => nomatch z), hB, rfl, rfl, rfl⟩ ?_) ?_
    · rintro m Γ' S' ⟨st, rfl, hw, hrow, hh, hBd, hs, rfl, rfl⟩
      have hp0 := hw.l0
      have h60 := hw.g0.1
      have hsm : SmallL st := hBd.small (by omega) (by omega)
      refine ⟨_, (gt_not (gt_val (gd_methP (S1 := loomS T.C_Loom L st) (F := S) (names := LN) (n := 3) (gr_var (pv 2) rfl) rfl T.cl_Loom T.M_Loom_over rfl (by decide +kernel) (ok_Loom_over T) (hr.mono (by decide)) T.b_Loom_over (gas_cons (r := .dat _) gd_int gas_nil) ⟨_, _, false, rfl, rfl, rfl, rfl⟩))), fun ho => ?_, fun ho => ?_⟩
      · have ho : st.over false = false := by cases q : st.over false <;> simp_all
        have hdr := drop_next hw ho
        rw [hdr] at hs
        refine gss_one (gs_exprE (ge_mono (ge_meth (S1 := loomS T.C_Loom L st) (F := S) (names := LN) (n := 3) (gr_var (pv 2) rfl) rfl T.cl_Loom T.M_Loom_go rfl (by decide +kernel) (ok_Loom_go T) (hr.mono (by decide)) T.b_Loom_go (fun σ => L2N.passAt (L2N.takes_of rfl rfl rfl rfl) σ) (gas_cons (r := .dat _) gd_int gas_nil) ⟨L, st, false, hw, hsm, rfl, rfl, rfl, rfl⟩) (fun r S' h => ?_) (fun c S' h => ?_)))
        · obtain ⟨S1', ⟨he, _, rfl⟩, rfl⟩ := h
          have hlt := next_lt hw ho
          have hB2 := hBd.done (by omega) hw he
          rw [solo_ok ((err_solo ho hh).symm.trans he)] at hs
          refine ⟨(st.done false).r0.length - (st.done false).p0, ?_, st.done false, rfl, hw.done he, by rw [done_r0]; exact hrow, done_h hh, hB2, ?_, rfl, rfl⟩
          · rw [done_r0, done_p0]
            have hlt : st.p0 < st.r0.length := hlt
            omega
          · rw [done_r0, done_p0, done_solo]; exact hs
        · obtain ⟨S1', ⟨e, he, rfl, rfl⟩, rfl⟩ := h
          rw [solo_err ((err_solo ho hh).symm.trans he)] at hs
          exact ⟨e, by rw [← hs], rfl, .right⟩
      · have ho : st.over false = true := by cases q : st.over false <;> simp_all
        rw [drop_over ho] at hs
        exact ⟨st, hs, rfl, rfl⟩
    rintro Γ' S' ⟨st, hs, rfl, rfl⟩
    refine gss_new (fun q h => h) fun hnew => ?_
    rw [← hs]
    refine gss_one (gs_retE (ge_tupD (gea_fz (n := 2) (ge_fld (j := 1) (names := LN) (gr_var (pv 2) rfl) (n := 3) rfl T.cl_Loom T.no_boxes rfl (by decide +kernel) rfl (fun z => nomatch z)) rfl (hnew (L.b, .lst (st.bx.map .int)) (by simp [loomS])) (gea_v (r := .dat _) (gd_ixO (n := 1) (ge_fld (j := 2) (names := LN) (gr_var (pv 2) rfl) (n := 2) rfl T.cl_Loom T.no_numbers rfl (by decide +kernel) rfl (fun z => nomatch z)) gd_int rfl rfl) (gea_nil ⟨[.list (st.bx.map .int), .int st.n0], rfl, (by decide : 2 ≤ 100000), rfl, rfl, ?_⟩)))))
    exact .skip (.skip (.skip .refl))

section
variable {K : PySem.W.Frag} {mg : Str → Option Value}
def R_walked (T : Txt K mg) : Rq := fun as S PR PX => ∃ (r0 r1 rb ro : Sl) (row row1 : List Stp) (bx : List Int) (o : List Bool), as = [r0, r1, rb, ro] ∧ LSl S r0 (row.map Stp.toD) ∧ LSl S r1 (row1.map Stp.toD) ∧ LSl S rb (bx.map .int) ∧ LSl S ro (handsD o) ∧ GoodR bx.length row ∧ GoodR bx.length row1 ∧ Bnd 200 (startL row row1 bx) ∧ o.length ≤ 1000 ∧
  PR = (fun r S' => (walk (startL row row1 bx) o).1 = none ∧ ∃ t b n : Addr, r = .raw (.ref t) ∧ S' = (t, .ho (.tup [.ref b, .ref n])) :: (n, .lst [.int (walk (startL row row1 bx) o).2.n0, .int (walk (startL row row1 bx) o).2.n1]) :: (b, .lst ((walk (startL row row1 bx) o).2.bx.map .int)) :: S) ∧
  PX = (fun cls S' => ∃ e, (walk (startL row row1 bx) o).1 = some e ∧ cls = .ref (T_ec T e) ∧ S' = S)
end

theorem sc_walked : FnScope ["ones", "others", "boxes", "order", "loom", "hand"] ["ones", "others", "boxes", "order"] (defScope s_walked) := ⟨rfl, rfl, rfl, by decide +kernel, rfl, by decide +kernel, by decide +kernel⟩
theorem ok_walked (T : Txt K mg) : FnOk P w K mg base (L2N.CX P w) 6 T.f_walked T.d_walked ["ones", "others", "boxes", "order"] (SpM K (R_walked T)) := by
  refine mut_defK T.F_walked sc_walked (fun as S PR PX h => ?_) (fun cdv A outer s H E H0 Hh as S PR PX hr h => ?_)
  · obtain ⟨r0, r1, rb, ro, row, row1, bx, o, rfl, h0, h1, hb, ho, hg, hg1, hB, hol, rfl, rfl⟩ := h; rfl
  · obtain ⟨r0, r1, rb, ro, row, row1, bx, o, rfl, h0, h1, hb, ho, hg, hg1, hB, hol, rfl, rfl⟩ := h
    refine gss_at rfl (List.append_nil S).symm ?_
    refine gss_then ?_
    refine gs_setE (i := 4) sc_walked.nd rfl (by first | exact .inl rfl | exact .inr rfl) (ge_makeQ (E := E) (S1 := S) (F := []) (PRx := fun y S' => ∃ L' : LA, L'.p = y ∧ S' = loomS T.C_Loom L' (startL row row1 bx) ++ S) (PXx := fun _ => noX) T.M_Loom___init (ok_Loom___init T) (hr.mono (by decide)) rfl T.mg_Loom T.b_Loom___init pass0 (fun cls σ H h => h) (gas_cons (ge_var (pv 0) rfl h0.ne) (gas_cons (ge_var (pv 1) rfl h1.ne) (gas_cons (ge_var (pv 2) rfl hb.ne) gas_nil))) (fun y => ⟨y, _, _, _, row, row1, bx, _, rfl, rfl, h0, h1, hb, hg, hg1, rfl, rfl⟩) (fun y S1' hy hp => ?_) fun _ _ _ h => h.elim)
    obtain ⟨L, rfl, rfl⟩ := hp
    refine gss_at rfl (List.append_nil _) ?_
    refine gss_post (R' := fun r S' => (walk (startL row row1 bx) o).1 = none ∧ ∃ t b n : Addr, r = .raw (.ref t) ∧ Within ((t, .ho (.tup [.ref b, .ref n])) :: (n, .lst [.int (walk (startL row row1 bx) o).2.n0, .int (walk (startL row row1 bx) o).2.n1]) :: (b, .lst ((walk (startL row row1 bx) o).2.bx.map .int)) :: S) S') (ex' := fun cls Γ' S' => ∃ e, (walk (startL row row1 bx) o).1 = some e ∧ cls = .ref (T_ec T e) ∧ Within S S') ?_ (fun r S' ⟨h1, t, b, n, h2, h3⟩ => ⟨_, h3, h1, t, b, n, h2, rfl⟩) (fun cls Γ' S' ⟨e, h1, h2, h3⟩ => ⟨S, h3, e, h1, h2, rfl⟩)
    refine gss_cons (M := fun Γ' S' => ∃ st x, (none, st) = walk (startL row row1 bx) o ∧ Γ' = [r0, r1, rb, ro, .raw (.ref L.p), x] ∧ S' = loomS T.C_Loom L st ++ S) (gl_for .leaving rfl (pv 3) rfl ho sc_walked.nd (j := 5) rfl (by first | exact .inl rfl | exact .inr rfl) (fun i Γ' S' => ∃ st x, Wf st ∧ Bnd (200 + i) st ∧ walk st (o.drop i) = walk (startL row row1 bx) o ∧ Γ' = [r0, r1, rb, ro, .raw (.ref L.p), x] ∧ S' = loomS T.C_Loom L st ++ S) ⟨_, _, wf_start hg hg1, hB, rfl, rfl, rfl⟩ ?_ ?_ ?_) ?_
    · rintro i Γ' S' ⟨st, x, _, _, _, rfl, rfl⟩ e he
      exact List.mem_append_right _ he
    · rintro i d Γ' S' G hd ⟨st, x, hw, hBd, hs, rfl, rfl⟩
      obtain ⟨b, hbo, rfl⟩ := hands_at hd
      have hi : i < o.length := (List.getElem?_eq_some_iff.mp hbo).1
      have hsm : SmallL st := hBd.small (by omega) (by omega)
      rw [drop_at hbo] at hs
      refine gss_one (gs_exprE (ge_mono (ge_meth (S1 := loomS T.C_Loom L st) (F := S) (names := LN) (n := 3) (gr_var (pv 4) rfl) rfl T.cl_Loom T.M_Loom_go rfl (by decide +kernel) (ok_Loom_go T) (hr.mono (by decide)) T.b_Loom_go (fun σ => L2N.passAt (L2N.takes_of rfl rfl rfl rfl) σ) (gas_cons (r := .dat _) (gd_var (pv 5) rfl) gas_nil) ⟨L, st, b, hw, hsm, rfl, rfl, rfl, rfl⟩) (fun r S' h => ?_) (fun c S' h => ?_)))
      · obtain ⟨S1', ⟨he, _, rfl⟩, rfl⟩ := h
        rw [walk_ok he] at hs
        exact ⟨st.done b, _, hw.done he, hBd.done (by omega) hw he, hs, rfl, rfl⟩
      · obtain ⟨S1', ⟨e, he, rfl, rfl⟩, rfl⟩ := h
        rw [walk_err he] at hs
        exact ⟨e, by rw [← hs], rfl, .right⟩
    · rintro Γ' S' ⟨st, x, _, _, hs, rfl, rfl⟩
      rw [show (handsD o).length = o.length from List.length_map _, List.drop_length] at hs
      exact ⟨st, x, hs, rfl, rfl⟩
    rintro Γ' S' ⟨st, x, hs, rfl, rfl⟩
    rw [← hs]
    refine gss_one (gs_retE (ge_tupR (gea_v (r := .raw _) (ge_fld (j := 1) (names := LN) (gr_var (pv 4) rfl) (n := 3) rfl T.cl_Loom T.no_boxes rfl (by decide +kernel) rfl (fun z => nomatch z)) (gea_v (r := .raw _) (ge_fld (j := 2) (names := LN) (gr_var (pv 4) rfl) (n := 3) rfl T.cl_Loom T.no_numbers rfl (by decide +kernel) rfl (fun z => nomatch z)) (gea_nil ⟨[.ref L.b, .ref L.n], rfl, (by decide : 2 ≤ 100000), fun t ht => ⟨rfl, t, L.b, L.n, rfl, ?_⟩⟩)))))
    exact .keep (.skip (.keep (.keep (.skip .refl))))

/-! ### rows that are done by turns: mirrors -/
def LSt.can (s : LSt) (b : Bool) : Bool := !s.over b && !s.waits b
theorem can_err {s : LSt} {b : Bool} (h : s.can b = true) : s.err b = none ∨ s.err b = some .again ∨ s.err b = some .notHeld := by
  unfold LSt.can at h
  unfold LSt.err
  rw [Bool.and_eq_true] at h
  rw [if_neg (by simpa using h.1), if_neg (by simpa using h.2)]
  split
  · exact .inr (.inl rfl)
  · split
    · exact .inr (.inr rfl)
    · exact .inl rfl
theorem can_not {s : LSt} {b : Bool} (h : s.can b = false) : s.err b = some .noTurn ∨ s.err b = some .waits := by
  unfold LSt.can at h
  unfold LSt.err
  cases ho : s.over b with
  | true => exact .inl (by rw [if_pos rfl])
  | false =>
    cases hw : s.waits b with
    | true => exact .inr (by rw [if_neg Bool.false_ne_true, if_pos rfl])
    | false => rw [ho, hw] at h; exact absurd h (by decide)
theorem can_of {s : LSt} {b : Bool} {e : Option Er} (h : s.err b = e) (he : e ≠ some .noTurn ∧ e ≠ some .waits) : s.can b = true := by
  cases q : s.can b with
  | true => rfl
  | false => rcases can_not q with h1 | h1 <;> rw [h1] at h <;> subst h <;> simp at he
theorem can_no {s : LSt} {b : Bool} {e : Option Er} (h : s.err b = e) (he : e = some .noTurn ∨ e = some .waits) : s.can b = false := by
  cases q : s.can b with
  | false => rfl
  | true =>
    subst h
    rcases can_err q with h1 | h1 | h1 <;> rw [h1] at he <;> simp at he
theorem can_over {s : LSt} {b : Bool} (h : s.can b = true) : s.over b = false := by
  unfold LSt.can at h
  rw [Bool.and_eq_true] at h
  simpa using h.1
def LSt.rem (s : LSt) : Nat := (s.r0.length - s.p0) + (s.r1.length - s.p1)
theorem done_ps {s : LSt} {b : Bool} : (s.done b).p0 + (s.done b).p1 = s.p0 + s.p1 + 1 := by
  have z0 := eff_p0 s b (s.next b)
  have z1 := eff_p1 s b (s.next b)
  unfold LSt.done
  cases b
  · show s.p0 + 1 + (s.eff false (s.next false)).p1 = _
    rw [z1]; omega
  · show (s.eff true (s.next true)).p0 + (s.p1 + 1) = _
    rw [z0]; omega
theorem done_rem {s : LSt} {b : Bool} (w : Wf s) (ho : s.over b = false) : (s.done b).rem + 1 = s.rem := by
  have hl := next_lt w ho
  have h0 := w.l0
  have h1 := w.l1
  have z0 := eff_p0 s b (s.next b)
  have z1 := eff_p1 s b (s.next b)
  unfold LSt.rem
  rw [done_r0, done_r1]
  cases b
  · have hl : s.p0 < s.r0.length := hl
    have e0 : (s.done false).p0 = s.p0 + 1 := rfl
    have e1 : (s.done false).p1 = s.p1 := z1
    rw [e0, e1]; omega
  · have hl : s.p1 < s.r1.length := hl
    have e0 : (s.done true).p0 = s.p0 := z0
    have e1 : (s.done true).p1 = s.p1 + 1 := rfl
    rw [e0, e1]; omega
inductive Wv where
  | ok (s : LSt) (o : List Bool)
  | er (e : Er)
def turnsR : LSt → List Bool → List Bool → Option Er × LSt × List Bool
  | s, o, [] => (none, s, o)
  | s, o, b :: r => if s.can b = true then (match s.err b with
      | none => turnsR (s.done b) (o ++ [b]) r
      | some e => (some e, s, o)) else turnsR s o r
theorem turns_ok {s : LSt} {o r : List Bool} {b : Bool} (he : s.err b = none) : turnsR s o (b :: r) = turnsR (s.done b) (o ++ [b]) r := by
  rw [turnsR, if_pos (can_of he (by simp)), he]
theorem turns_er {s : LSt} {o r : List Bool} {b : Bool} {e : Er} (hc : s.can b = true) (he : s.err b = some e) : turnsR s o (b :: r) = (some e, s, o) := by
  rw [turnsR, if_pos hc, he]
theorem turns_no {s : LSt} {o r : List Bool} {b : Bool} (hc : s.can b = false) : turnsR s o (b :: r) = turnsR s o r := by
  rw [turnsR, if_neg (by rw [hc]; decide)]
def far : Nat → LSt → Bool → List Bool → Option Er × LSt × List Bool
  | 0, s, _, o => (none, s, o)
  | n + 1, s, b, o => if s.can b = true then (match s.err b with
      | none => far n (s.done b) b (o ++ [b])
      | some e => (some e, s, o)) else (none, s, o)
theorem far_ok {n : Nat} {s : LSt} {o : List Bool} {b : Bool} (he : s.err b = none) : far (n + 1) s b o = far n (s.done b) b (o ++ [b]) := by
  rw [far, if_pos (can_of he (by simp)), he]
theorem far_er {n : Nat} {s : LSt} {o : List Bool} {b : Bool} {e : Er} (hc : s.can b = true) (he : s.err b = some e) : far (n + 1) s b o = (some e, s, o) := by
  rw [far, if_pos hc, he]
theorem far_no {n : Nat} {s : LSt} {o : List Bool} {b : Bool} (hc : s.can b = false) : far n s b o = (none, s, o) := by
  cases n with
  | zero => rfl
  | succ n => rw [far, if_neg (by rw [hc]; decide)]
def outc (s : LSt) (o : List Bool) : Wv := if (s.over false && s.over true) = true then .ok s o else .er .stuck
def fin : Nat → LSt → Bool → List Bool → Wv
  | 0, s, _, o => outc s o
  | k + 1, s, b, o => match far (s.rem + 1) s b o with
    | (some e, _, _) => .er e
    | (none, s', o') => fin k s' (!b) o'
theorem fin_er {k : Nat} {s s' : LSt} {b : Bool} {o o' : List Bool} {e : Er} (h : far (s.rem + 1) s b o = (some e, s', o')) : fin (k + 1) s b o = .er e := by
  rw [fin, h]
theorem fin_go {k : Nat} {s s' : LSt} {b : Bool} {o o' : List Bool} (h : far (s.rem + 1) s b o = (none, s', o')) : fin (k + 1) s b o = fin k s' (!b) o' := by
  rw [fin, h]
theorem fin_stop : ∀ {k : Nat} {s : LSt} {b : Bool} {o : List Bool}, s.can false = false → s.can true = false → fin k s b o = outc s o
  | 0, _, _, _, _, _ => rfl
  | k + 1, s, b, o, h0, h1 => by
    rw [fin_go (far_no (by cases b <;> assumption))]
    exact fin_stop h0 h1
def bnd (s : LSt) (b : Bool) : Nat := 2 * s.rem + (if s.can b = true then 0 else 1)
theorem over_no {s : LSt} {b : Bool} (h : s.over b = true) : s.can b = false := by
  unfold LSt.can; rw [h]; rfl
theorem rem_pos {s : LSt} {b : Bool} (w : Wf s) (h : s.can b = true) : 0 < s.rem := by
  have := done_rem w (can_over h)
  omega
theorem withinQ {o : Addr × OV} {S1 S : Sto} : Within S (S1 ++ o :: S) := ⟨S, .refl _, (List.sublist_cons_self o S).trans (List.sublist_append_right S1 (o :: S))⟩
def weaveR (s : LSt) (ts : List Bool) : Wv := match turnsR s [] ts with
  | (some e, _, _) => .er e
  | (none, s', o) => fin (3 + 2 * s.r0.length + 2 * s.r1.length) s' false o


section
variable {K : PySem.W.Frag} {mg : Str → Option Value}
def R_can_go (T : Txt K mg) : Rq := fun as S PR PX => ∃ (L : LA) (st : LSt) (b : Bool), as = [.raw (.ref L.p), .dat (.int (hI b))] ∧ S = loomS T.C_Loom L st ∧ Wf st ∧ PR = same (loomS T.C_Loom L st) (.bool (st.can b)) ∧ PX = noX
def R_finish (T : Txt K mg) : Rq := fun as S PR PX => ∃ (L : LA) (p : Addr) (st : LSt) (o : List Bool) (k : Nat), as = [.raw (.ref L.p), .raw (.ref p)] ∧ S = loomS T.C_Loom L st ++ [(p, .lst (handsD o))] ∧ Wf st ∧ Bnd (200 + (st.p0 + st.p1)) st ∧ o.length ≤ st.p0 + st.p1 ∧ bnd st false ≤ k ∧
  PR = (fun r S' => ∃ s o', fin k st false o = .ok s o' ∧ r = .dat .none ∧ S' = loomS T.C_Loom L s ++ [(p, .lst (handsD o'))]) ∧
  PX = (fun cls S' => ∃ e, fin k st false o = .er e ∧ cls = .ref (T_ec T e))
def R_woven (T : Txt K mg) : Rq := fun as S PR PX => ∃ (r0 r1 rb rt : Sl) (row row1 : List Stp) (bx : List Int) (ts : List Bool), as = [r0, r1, rb, rt] ∧ LSl S r0 (row.map Stp.toD) ∧ LSl S r1 (row1.map Stp.toD) ∧ LSl S rb (bx.map .int) ∧ LSl S rt (handsD ts) ∧ GoodR bx.length row ∧ GoodR bx.length row1 ∧ Bnd 200 (startL row row1 bx) ∧
  PR = (fun r S' => ∃ s o, weaveR (startL row row1 bx) ts = .ok s o ∧ ∃ t b n q : Addr, r = .raw (.ref t) ∧ S' = (t, .ho (.tup [.ref b, .ref n, .ref q])) :: (n, .lst [.int s.n0, .int s.n1]) :: (b, .lst (s.bx.map .int)) :: (q, .lst (handsD o)) :: S) ∧
  PX = (fun cls S' => ∃ e, weaveR (startL row row1 bx) ts = .er e ∧ cls = .ref (T_ec T e) ∧ S' = S)
end

theorem sc_can_go : FnScope ["loom", "hand"] ["loom", "hand"] (defScope s_can_go) := ⟨rfl, rfl, rfl, by decide +kernel, rfl, by decide +kernel, by decide +kernel⟩
theorem ok_can_go (T : Txt K mg) : FnOk P w K mg base CX0 4 T.f_can_go T.d_can_go ["loom", "hand"] (SpM K (R_can_go T)) := by
  refine mut_def0K T.F_can_go sc_can_go (fun as S PR PX h => ?_) (fun cdv A outer s H E B as S PR PX hr hks h => ?_)
  · obtain ⟨L, st, b, rfl, rfl, hw, rfl, rfl⟩ := h; rfl
  · obtain ⟨L, st, b, rfl, rfl, hw, rfl, rfl⟩ := h
    exact gss_ret (r := .dat _) (gd_and (gd_not (gd_methP (S1 := loomS T.C_Loom L st) (F := []) (names := LN) (n := 3) (gr_var (pv 0) rfl) rfl T.cl_Loom T.M_Loom_over rfl (by decide +kernel) (ok_Loom_over T) (hr.mono (by decide)) T.b_Loom_over (gas_cons (r := .dat _) (gd_var (pv 1) rfl) gas_nil) ⟨_, _, b, rfl, rfl, rfl, rfl⟩)) (fun _ => gd_one (gd_not (gd_methP (S1 := loomS T.C_Loom L st) (F := []) (names := LN) (n := 3) (gr_var (pv 0) rfl) rfl T.cl_Loom T.M_Loom_waits rfl (by decide +kernel) (ok_Loom_waits T) (hr.mono (by decide)) T.b_Loom_waits (gas_cons (r := .dat _) (gd_var (pv 1) rfl) gas_nil) ⟨_, _, b, hw, rfl, rfl, rfl, rfl⟩)))) ⟨rfl, rfl⟩
theorem sc_finish : FnScope ["loom", "order", "hand"] ["loom", "order"] (defScope s_finish) := ⟨rfl, rfl, rfl, by decide +kernel, rfl, by decide +kernel, by decide +kernel⟩
theorem ok_finish (T : Txt K mg) : FnOk P w K mg base (L2N.CX P w) 5 T.f_finish T.d_finish ["loom", "order"] (SpM K (R_finish T)) := by
  refine mut_defK T.F_finish sc_finish (fun as S PR PX h => ?_) (fun cdv A outer s H E H0 Hh as S PR PX hr h => ?_)
  · obtain ⟨L, p, st0, o0, k0, rfl, rfl, hw0, hB0, hol0, hk0, rfl, rfl⟩ := h; rfl
  · obtain ⟨L, p, st0, o0, k0, rfl, rfl, hw0, hB0, hol0, hk0, rfl, rfl⟩ := h
    refine gss_set (i := 2) sc_finish.nd rfl (by first | exact .inl rfl | exact .inr rfl) (r := .dat (.int (hI false))) gd_int ?_
    refine gss_one (gs_while .leaving (fun m Γ' S' => ∃ st b o k, m = bnd st b ∧ Wf st ∧ Bnd (200 + (st.p0 + st.p1)) st ∧ o.length ≤ st.p0 + st.p1 ∧ bnd st b ≤ k ∧ fin k st b o = fin k0 st0 false o0 ∧ Γ' = [.raw (.ref L.p), .raw (.ref p), .dat (.int (hI b))] ∧ S' = loomS T.C_Loom L st ++ [(p, .lst (handsD o))]) _ ⟨st0, false, o0, k0, rfl, hw0, hB0, hol0, hk0, rfl, rfl, rfl⟩ ?_)
    rintro m Γ' S' ⟨st, b, o, k, rfl, hw, hBd, hol, hk, hf, rfl, rfl⟩
    have hl0 := hw.l0
    have hl1 := hw.l1
    have hg0 := hw.g0.1
    have hg1 := hw.g1.1
    refine ⟨_, (gt_not (gt_of (gw_and (gt_val (gd_methP (S1 := loomS T.C_Loom L st) (F := [(p, .lst (handsD o))]) (names := LN) (n := 3) (gr_var (pv 0) rfl) rfl T.cl_Loom T.M_Loom_over rfl (by decide +kernel) (ok_Loom_over T) (hr.mono (by decide)) T.b_Loom_over (gas_cons (r := .dat _) gd_int gas_nil) ⟨_, _, false, rfl, rfl, rfl, rfl⟩)) (fun _ => gw_and1 (gt_val (gd_methP (S1 := loomS T.C_Loom L st) (F := [(p, .lst (handsD o))]) (names := LN) (n := 3) (gr_var (pv 0) rfl) rfl T.cl_Loom T.M_Loom_over rfl (by decide +kernel) (ok_Loom_over T) (hr.mono (by decide)) T.b_Loom_over (gas_cons (r := .dat _) gd_int gas_nil) ⟨_, _, true, rfl, rfl, rfl, rfl⟩)))))), fun ho => ?_, fun ho => ?_⟩
    · refine gss_if (gt_of (gw_and (gt_not (gt_val (gd_callP (S1 := loomS T.C_Loom L st) (F := [(p, .lst (handsD o))]) (ok_can_go T) (hr.mono (by decide)) rfl T.m_can_go T.F_can_go.kp T.b_can_go (gas_cons (r := .raw _) (gr_var (pv 0) rfl) (gas_cons (r := .dat _) gd_int gas_nil)) ⟨L, st, false, rfl, rfl, hw, rfl, rfl⟩))) (fun _ => gw_and1 (gt_not (gt_val (gd_callP (S1 := loomS T.C_Loom L st) (F := [(p, .lst (handsD o))]) (ok_can_go T) (hr.mono (by decide)) rfl T.m_can_go T.F_can_go.kp T.b_can_go (gas_cons (r := .raw _) (gr_var (pv 0) rfl) (gas_cons (r := .dat _) gd_int gas_nil)) ⟨L, st, true, rfl, rfl, hw, rfl, rfl⟩)))))) (fun hc => ?_) (fun hc => gss_nil ?_)
      · rw [Bool.and_eq_true] at hc
        have c0 : st.can false = false := by simpa using hc.1
        have c1 : st.can true = false := by simpa using hc.2
        refine ret_all (gs_raise rfl (L2N.takes_of rfl rfl rfl rfl) PySem.F.excBase_ValueError T.x_Stuck T.g_Stuck T.k_Stuck (raises_own T.s_Stuck T.t_Stuck) rfl gd_str ⟨.stuck, ?_, rfl⟩)
        rw [← hf, fin_stop c0 c1]
        unfold outc
        rw [if_neg (fun z => by rw [z] at ho; exact absurd ho (by decide))]
      · have hcan : st.can false = true ∨ st.can true = true := by
          cases q0 : st.can false <;> cases q1 : st.can true <;> simp_all
        have hk1 : 1 ≤ k := by
          have : 0 < st.rem := hcan.elim (rem_pos hw) (rem_pos hw)
          unfold bnd at hk
          omega
        obtain ⟨k', rfl⟩ : ∃ k', k = k' + 1 := ⟨k - 1, by omega⟩
        refine gss_cons (M := fun Γ' S' => ∃ s2 o2, far (st.rem + 1) st b o = (none, s2, o2) ∧ s2.can b = false ∧ Wf s2 ∧ Bnd (200 + (s2.p0 + s2.p1)) s2 ∧ o2.length ≤ s2.p0 + s2.p1 ∧ (s2 = st ∨ s2.rem < st.rem) ∧ Γ' = [.raw (.ref L.p), .raw (.ref p), .dat (.int (hI b))] ∧ S' = loomS T.C_Loom L s2 ++ [(p, .lst (handsD o2))]) (gs_while .leaving (fun m Γ' S' => ∃ s2 o2 n, m = s2.rem ∧ far n s2 b o2 = far (st.rem + 1) st b o ∧ s2.rem + 1 ≤ n ∧ Wf s2 ∧ Bnd (200 + (s2.p0 + s2.p1)) s2 ∧ o2.length ≤ s2.p0 + s2.p1 ∧ (s2 = st ∨ s2.rem < st.rem) ∧ Γ' = [.raw (.ref L.p), .raw (.ref p), .dat (.int (hI b))] ∧ S' = loomS T.C_Loom L s2 ++ [(p, .lst (handsD o2))]) _ ⟨st, o, _, rfl, rfl, Nat.le_refl _, hw, hBd, hol, .inl rfl, rfl, rfl⟩ ?_) ?_
        · rintro m Γ' S' ⟨s2, o2, n, rfl, hfar, hn, hw2, hB2, hol2, hs2, rfl, rfl⟩
          have hl0 := hw2.l0
          have hl1 := hw2.l1
          have hg0 := hw2.g0.1
          have hg1 := hw2.g1.1
          have hsm : SmallL s2 := hB2.small (by omega) (by omega)
          refine ⟨_, (gt_val (gd_callP (S1 := loomS T.C_Loom L s2) (F := [(p, .lst (handsD o2))]) (ok_can_go T) (hr.mono (by decide)) rfl T.m_can_go T.F_can_go.kp T.b_can_go (gas_cons (r := .raw _) (gr_var (pv 0) rfl) (gas_cons (r := .dat _) (gd_var (pv 2) rfl) gas_nil)) ⟨L, s2, b, rfl, rfl, hw2, rfl, rfl⟩)), fun hc => ?_, fun hc => ?_⟩
          · obtain ⟨n', rfl⟩ : ∃ n', n = n' + 1 := ⟨n - 1, by omega⟩
            refine gss_then ?_
            refine gs_exprE (ge_mono (ge_meth (S1 := loomS T.C_Loom L s2) (F := [(p, .lst (handsD o2))]) (names := LN) (n := 3) (gr_var (pv 0) rfl) rfl T.cl_Loom T.M_Loom_go rfl (by decide +kernel) (ok_Loom_go T) (hr.mono (by decide)) T.b_Loom_go (fun σ => L2N.passAt (L2N.takes_of rfl rfl rfl rfl) σ) (gas_cons (r := .dat _) (gd_var (pv 2) rfl) gas_nil) ⟨L, s2, b, hw2, hsm, rfl, rfl, rfl, rfl⟩) (fun r S' h => ?_) (fun c S' h => ?_))
            · obtain ⟨S1', ⟨he, _, rfl⟩, rfl⟩ := h
              have hr2 := done_rem hw2 (can_over hc)
              refine gss_one (gs_appO (n := 4) (gr_var (pv 1) rfl) (gd_var (pv 2) rfl) rfl (by rw [show (handsD o2).length = o2.length from List.length_map _]; omega) ?_)
              refine ⟨(s2.done b).rem, by omega, s2.done b, o2 ++ [b], n', rfl, (far_ok he).symm.trans hfar, by omega, hw2.done he, by rw [done_ps]; exact hB2.done (by omega) hw2 he, by rw [List.length_append, done_ps]; exact Nat.succ_le_succ hol2, .inr ?_, rfl, ?_⟩
              · rcases hs2 with e | e
                · rw [← e]; omega
                · omega
              · unfold handsD; rw [List.map_append]; rfl
            · obtain ⟨S1', ⟨e, he, rfl, rfl⟩, rfl⟩ := h
              exact ⟨e, by rw [← hf]; exact fin_er (hfar.symm.trans (far_er hc he)), rfl⟩
          · exact ⟨s2, o2, hfar.symm.trans (far_no hc), hc, hw2, hB2, hol2, hs2, rfl, rfl⟩
        · rintro Γ' S' ⟨s2, o2, hfar, hc2, hw2, hB2, hol2, hs2, rfl, rfl⟩
          rw [fin_go hfar] at hf
          have hb2 : bnd s2 (!b) < bnd st b := by
            have h1 : bnd s2 (!b) ≤ 2 * s2.rem + 1 := by unfold bnd; split <;> omega
            rcases hs2 with rfl | hlt
            · have e1 : bnd s2 b = 2 * s2.rem + 1 := by unfold bnd; rw [if_neg (by rw [hc2]; decide)]
              have hcb : s2.can (!b) = true := by cases b <;> simp_all
              have e2 : bnd s2 (!b) = 2 * s2.rem := by unfold bnd; rw [if_pos hcb]; rfl
              omega
            · have h2 : 2 * st.rem ≤ bnd st b := by unfold bnd; omega
              omega
          refine gss_set (i := 2) sc_finish.nd rfl (by first | exact .inl rfl | exact .inr rfl) (r := .dat (.int (hI (!b)))) (gd_cast (gd_sub gd_int (gd_var (pv 2) rfl)) (by cases b <;> rfl)) (gss_nil ?_)
          exact ⟨bnd s2 (!b), hb2, s2, !b, o2, k', rfl, hw2, hB2, hol2, by omega, hf, rfl, rfl⟩
    · have ho : (st.over false && st.over true) = true := by simpa using ho
      have ho2 := ho
      rw [Bool.and_eq_true] at ho2
      refine ⟨st, o, ?_, rfl, rfl⟩
      rw [← hf, fin_stop (over_no ho2.1) (over_no ho2.2)]
      unfold outc
      rw [if_pos ho]
theorem sc_woven : FnScope ["ones", "others", "boxes", "turns", "loom", "order", "hand"] ["ones", "others", "boxes", "turns"] (defScope s_woven) := ⟨rfl, rfl, rfl, by decide +kernel, rfl, by decide +kernel, by decide +kernel⟩
theorem ok_woven (T : Txt K mg) : FnOk P w K mg base (L2N.CX P w) 6 T.f_woven T.d_woven ["ones", "others", "boxes", "turns"] (SpM K (R_woven T)) := by
  refine mut_defK T.F_woven sc_woven (fun as S PR PX h => ?_) (fun cdv A outer s H E H0 Hh as S PR PX hr h => ?_)
  · obtain ⟨r0, r1, rb, ro, row, row1, bx, ts, rfl, h0, h1, hb, ho, hg, hg1, hB, rfl, rfl⟩ := h; rfl
  · obtain ⟨r0, r1, rb, ro, row, row1, bx, ts, rfl, h0, h1, hb, ho, hg, hg1, hB, rfl, rfl⟩ := h
    refine gss_at rfl (List.append_nil S).symm ?_
    refine gss_then ?_
    refine gs_setE (i := 4) sc_woven.nd rfl (by first | exact .inl rfl | exact .inr rfl) (ge_makeQ (E := E) (S1 := S) (F := []) (PRx := fun y S' => ∃ L' : LA, L'.p = y ∧ S' = loomS T.C_Loom L' (startL row row1 bx) ++ S) (PXx := fun _ => noX) T.M_Loom___init (ok_Loom___init T) (hr.mono (by decide)) rfl T.mg_Loom T.b_Loom___init pass0 (fun cls σ H h => h) (gas_cons (ge_var (pv 0) rfl h0.ne) (gas_cons (ge_var (pv 1) rfl h1.ne) (gas_cons (ge_var (pv 2) rfl hb.ne) gas_nil))) (fun y => ⟨y, _, _, _, row, row1, bx, _, rfl, rfl, h0, h1, hb, hg, hg1, rfl, rfl⟩) (fun y S1' hy hp => ?_) fun _ _ _ h => h.elim)
    obtain ⟨L, rfl, rfl⟩ := hp
    refine gss_at rfl (List.append_nil _) ?_
    refine gss_then ?_
    refine gs_setF (i := 5) (gf_lst ga_nil (by show 0 ≤ 100000; decide)) sc_woven.nd rfl (by first | exact .inl rfl | exact .inr rfl) fun q hq => ?_
    refine gss_within (S2 := loomS T.C_Loom L (startL row row1 bx) ++ (q, .lst (handsD [])) :: S) (.of_perm List.perm_middle.symm) ?_
    refine gss_post (R' := fun r S' => ∃ s o, weaveR (startL row row1 bx) ts = .ok s o ∧ ∃ t b n q : Addr, r = .raw (.ref t) ∧ Within ((t, .ho (.tup [.ref b, .ref n, .ref q])) :: (n, .lst [.int s.n0, .int s.n1]) :: (b, .lst (s.bx.map .int)) :: (q, .lst (handsD o)) :: S) S') (ex' := fun cls Γ' S' => ∃ e, weaveR (startL row row1 bx) ts = .er e ∧ cls = .ref (T_ec T e) ∧ Within S S') ?_ (fun r S' ⟨s, o, h1, t, b, n, q, h2, h3⟩ => ⟨_, h3, s, o, h1, t, b, n, q, h2, rfl⟩) (fun cls Γ' S' ⟨e, h1, h2, h3⟩ => ⟨S, h3, e, h1, h2, rfl⟩)
    refine gss_cons (M := fun Γ' S' => ∃ st o x, turnsR (startL row row1 bx) [] ts = (none, st, o) ∧ Wf st ∧ st.r0 = row ∧ st.r1 = row1 ∧ Bnd (200 + (st.p0 + st.p1)) st ∧ o.length ≤ st.p0 + st.p1 ∧ Γ' = [r0, r1, rb, ro, .raw (.ref L.p), .raw (.ref q), x] ∧ S' = loomS T.C_Loom L st ++ ((q, .lst (handsD o)) :: S)) (gl_for .leaving rfl (pv 3) rfl ho sc_woven.nd (j := 6) rfl (by first | exact .inl rfl | exact .inr rfl) (fun i Γ' S' => ∃ st o x, turnsR st o (ts.drop i) = turnsR (startL row row1 bx) [] ts ∧ Wf st ∧ st.r0 = row ∧ st.r1 = row1 ∧ Bnd (200 + (st.p0 + st.p1)) st ∧ o.length ≤ st.p0 + st.p1 ∧ Γ' = [r0, r1, rb, ro, .raw (.ref L.p), .raw (.ref q), x] ∧ S' = loomS T.C_Loom L st ++ ((q, .lst (handsD o)) :: S)) ⟨_, [], _, rfl, wf_start hg hg1, rfl, rfl, hB, Nat.le_refl _, rfl, rfl⟩ ?_ ?_ ?_) ?_
    · rintro i Γ' S' ⟨st, o, x, _, _, _, _, _, _, rfl, rfl⟩ e he
      exact List.mem_append_right _ (List.mem_cons_of_mem _ he)
    · rintro i d Γ' S' G hd ⟨st, o, x, hs, hw, hr0, hr1, hBd, hol, rfl, rfl⟩
      obtain ⟨b, hbo, rfl⟩ := hands_at hd
      rw [drop_at hbo] at hs
      have hl0 := hw.l0
      have hl1 := hw.l1
      have hg0 := hw.g0.1
      have hg1 := hw.g1.1
      have hsm : SmallL st := hBd.small (by omega) (by omega)
      refine gss_one (gs_if (gt_val (gd_callP (S1 := loomS T.C_Loom L st) (F := ((q, .lst (handsD o)) :: S)) (ok_can_go T) (hr.mono (by decide)) rfl T.m_can_go T.F_can_go.kp T.b_can_go (gas_cons (r := .raw _) (gr_var (pv 4) rfl) (gas_cons (r := .dat _) (gd_var (pv 6) rfl) gas_nil)) ⟨L, st, b, rfl, rfl, hw, rfl, rfl⟩)) (fun hc => ?_) (fun hc => gss_nil ⟨st, o, _, (turns_no hc).symm.trans hs, hw, hr0, hr1, hBd, hol, rfl, rfl⟩))
      refine gss_then ?_
      refine gs_exprE (ge_mono (ge_meth (S1 := loomS T.C_Loom L st) (F := ((q, .lst (handsD o)) :: S)) (names := LN) (n := 3) (gr_var (pv 4) rfl) rfl T.cl_Loom T.M_Loom_go rfl (by decide +kernel) (ok_Loom_go T) (hr.mono (by decide)) T.b_Loom_go (fun σ => L2N.passAt (L2N.takes_of rfl rfl rfl rfl) σ) (gas_cons (r := .dat _) (gd_var (pv 6) rfl) gas_nil) ⟨L, st, b, hw, hsm, rfl, rfl, rfl, rfl⟩) (fun r S' h => ?_) (fun c S' h => ?_))
      · obtain ⟨S1', ⟨he, _, rfl⟩, rfl⟩ := h
        refine gss_one (gs_appO (n := 4) (gr_var (pv 5) rfl) (gd_var (pv 6) rfl) rfl (by rw [show (handsD o).length = o.length from List.length_map _]; omega) ?_)
        refine ⟨st.done b, o ++ [b], _, (turns_ok he).symm.trans hs, hw.done he, by rw [done_r0]; exact hr0, by rw [done_r1]; exact hr1, by rw [done_ps]; exact hBd.done (by omega) hw he, by rw [List.length_append, done_ps]; exact Nat.succ_le_succ hol, rfl, ?_⟩
        unfold handsD; rw [List.map_append]; rfl
      · obtain ⟨S1', ⟨e, he, rfl, rfl⟩, rfl⟩ := h
        rw [turns_er hc he] at hs
        exact ⟨e, by unfold weaveR; rw [← hs], rfl, withinQ⟩
    · rintro Γ' S' ⟨st, o, x, hs, hw, hr0, hr1, hBd, hol, rfl, rfl⟩
      rw [show (handsD ts).length = ts.length from List.length_map _, List.drop_length] at hs
      exact ⟨st, o, x, hs.symm, hw, hr0, hr1, hBd, hol, rfl, rfl⟩
    rintro Γ' S' ⟨st, o, x, hs, hw, hr0, hr1, hBd, hol, rfl, rfl⟩
    have hkb : bnd st false ≤ 3 + 2 * row.length + 2 * row1.length := by
      unfold bnd LSt.rem
      rw [hr0, hr1]
      split <;> omega
    have hwv : weaveR (startL row row1 bx) ts = fin (3 + 2 * row.length + 2 * row1.length) st false o := by
      unfold weaveR
      rw [hs]
    refine gss_at rfl (show _ = (loomS T.C_Loom L st ++ [(q, .lst (handsD o))]) ++ S by rw [List.append_assoc]; rfl) ?_
    refine gss_then ?_
    refine gs_exprE (ge_mono (ge_call (S1 := loomS T.C_Loom L st ++ [(q, OV.lst (handsD o))]) (F := S) (ok_finish T) (hr.mono (by decide)) rfl T.m_finish T.F_finish.kp T.b_finish (fun σ => L2N.passAt (L2N.takes_of rfl rfl rfl rfl) σ) (gas_cons (r := .raw _) (gr_var (pv 4) rfl) (gas_cons (r := .raw _) (gr_var (pv 5) rfl) gas_nil)) ⟨L, q, st, o, 3 + 2 * row.length + 2 * row1.length, rfl, rfl, hw, hBd, hol, hkb, rfl, rfl⟩) (fun r S' h => ?_) (fun c S' h => ?_))
    · obtain ⟨S1', ⟨s, o', hok, _, rfl⟩, rfl⟩ := h
      refine gss_at rfl (show _ = loomS T.C_Loom L s ++ (q, .lst (handsD o')) :: S by rw [List.append_assoc]; rfl) ?_
      refine gss_one (gs_retE (ge_tupR (gea_v (r := .raw _) (ge_fld (j := 1) (names := LN) (gr_var (pv 4) rfl) (n := 3) rfl T.cl_Loom T.no_boxes rfl (by decide +kernel) rfl (fun z => nomatch z)) (gea_v (r := .raw _) (ge_fld (j := 2) (names := LN) (gr_var (pv 4) rfl) (n := 3) rfl T.cl_Loom T.no_numbers rfl (by decide +kernel) rfl (fun z => nomatch z)) (gea_v (r := .raw _) (gr_var (pv 5) rfl) (gea_nil ⟨[.ref L.b, .ref L.n, .ref q], rfl, (by decide : 3 ≤ 100000), fun t ht => ⟨s, o', hwv.trans hok, t, L.b, L.n, q, rfl, ?_⟩⟩))))))
      exact .keep (.skip (.keep (.keep (.skip .refl))))
    · obtain ⟨S1', ⟨e, he, rfl⟩, rfl⟩ := h
      exact ⟨e, hwv.trans he, rfl, .right⟩
/-- what a step adds is small -/
def AddS (t : Stp) : Prop := t.kd = .add → t.b.natAbs < 2 ^ 200
theorem solo_er : ∀ (r : List Stp) (s : LSt) (e : Er), (solo s r).1 = some e → e = .again ∨ e = .notHeld
  | [], _, _, h => by cases h
  | t :: r, s, e, h => by
    cases q : s.err1 t with
    | none => rw [solo_ok q] at h; exact solo_er r _ e h
    | some e' =>
      rw [solo_err q] at h
      cases h
      unfold LSt.err1 at q
      split at q
      · cases q; exact .inl rfl
      · split at q
        · cases q; exact .inr rfl
        · cases q
theorem walk_snoc : ∀ (o : List Bool) (s : LSt) (b : Bool), walk s (o ++ [b]) = match walk s o with
    | (none, s') => (match s'.err b with | none => (none, s'.done b) | some e => (some e, s'))
    | x => x
  | [], s, b => by
    show walk s [b] = match s.err b with | none => (none, s.done b) | some e => (some e, s)
    rw [walk]
    cases s.err b <;> rfl
  | a :: o, s, b => by
    show walk s (a :: (o ++ [b])) = _
    cases h : s.err a with
    | none => rw [walk_ok h, walk_ok h]; exact walk_snoc o _ b
    | some e => rw [walk_err h, walk_err h]
theorem snoc_ok {o : List Bool} {s s' : LSt} {b : Bool} (h : walk s o = (none, s')) (he : s'.err b = none) : walk s (o ++ [b]) = (none, s'.done b) := by
  rw [walk_snoc, h]
  simp only [he]
theorem snoc_err {o : List Bool} {s s' : LSt} {b : Bool} {e : Er} (h : walk s o = (none, s')) (he : s'.err b = some e) : walk s (o ++ [b]) = (some e, s') := by
  rw [walk_snoc, h]
  simp only [he]
theorem map_getD {α β : Type} (f : α → β) (a : α) (zs : List α) : (List.range zs.length).map (fun i => f (zs.getD i a)) = zs.map f := by
  refine List.ext_getElem (by rw [List.length_map, List.length_map, List.length_range]) fun i h1 h2 => ?_
  rw [List.getElem_map, List.getElem_map, List.getElem_range, List.getD_eq_getElem?_getD, List.getElem?_eq_getElem (by rw [List.length_map] at h2; exact h2)]
  rfl
theorem hands_snoc (o : List Bool) (b : Bool) : handsD o ++ [.int (hI b)] = handsD (o ++ [b]) := by unfold handsD; rw [List.map_append]; rfl
theorem hands_len (o : List Bool) : (handsD o).length = o.length := List.length_map _
theorem hands_shaped (o : List Bool) : SeqAt.shaped (.list (handsD o)) = true := by
  have e : handsD o = (o.map hI).map PyData.int := by unfold handsD; rw [List.map_map]; rfl
  rw [e]; exact shaped_ints _
theorem row_shaped (r : List Stp) : SeqAt.shaped (.list (r.map Stp.toD)) = true := by
  unfold SeqAt.shaped
  rw [Bool.and_eq_true]
  have h1 := rowD_canLay r
  have h2 := rowD_depth r
  exact ⟨h1, decide_eq_true (Nat.le_trans h2 (by decide))⟩
theorem neg_hand (b : Bool) : (1 : Int) - hI b = hI (!b) := by cases b <;> rfl
/-! ### point 9: two steps exchanged -/
theorem getD_ne {bx : List Int} {i j : Nat} {v : Int} (h : i ≠ j) : (bx.set i v).getD j 0 = bx.getD j 0 := by
  rw [List.getD_eq_getElem?_getD, List.getD_eq_getElem?_getD, List.getElem?_set_ne h]
theorem store_ne {n : Nat} {t u : Stp} (gt : GoodS n t) (gu : GoodS n u) (ht : t.kd.isBox = true) (hu : u.kd.isBox = true) (hs : t.kd = .store ∨ u.kd = .store) (ha : apart t u = true) : t.b.toNat ≠ u.b.toNat := by
  have g1 := (gt ht).1
  have g2 := (gu hu).1
  have hne : t.b ≠ u.b := fun e => by
    unfold apart at ha
    split at ha
    · cases ha
    · rw [if_pos (by rw [ht, hu, e]; simp)] at ha
      rcases hs with h | h <;> rw [h] at ha <;> simp at ha
  omega
theorem eff_comm {n : Nat} (s : LSt) (x : Bool) (t u : Stp) (gt : GoodS n t) (gu : GoodS n u) (ha : apart t u = true) : ((s.eff x t).eff (!x) u) = ((s.eff (!x) u).eff x t) := by
  rcases s with ⟨r0, r1, bx, n0, n1, p0, p1, h⟩
  have key := fun h1 h2 h3 => store_ne gt gu h1 h2 h3 ha
  cases t with
  | load a => cases u with
    | store b =>
      have hk : a.toNat ≠ b.toNat := key rfl rfl (.inr rfl)
      cases x <;> simp only [LSt.eff, LSt.setN, LSt.num, Bool.not_false, Bool.not_true, if_true, if_false, ite_true, ite_false, Bool.false_eq_true, getD_ne hk.symm]
    | _ => cases x <;> rfl
  | plus a => cases u with
    | store b =>
      have hk : a.toNat ≠ b.toNat := key rfl rfl (.inr rfl)
      cases x <;> simp only [LSt.eff, LSt.setN, LSt.num, Bool.not_false, Bool.not_true, if_true, if_false, ite_true, ite_false, Bool.false_eq_true, getD_ne hk.symm]
    | _ => cases x <;> rfl
  | store a => cases u with
    | store b =>
      have hk : a.toNat ≠ b.toNat := key rfl rfl (.inr rfl)
      cases x <;> simp only [LSt.eff, LSt.setN, LSt.num, Bool.not_false, Bool.not_true, if_true, if_false, ite_true, ite_false, Bool.false_eq_true, List.set_comm _ _ hk]
    | load b =>
      have hk : a.toNat ≠ b.toNat := key rfl rfl (.inl rfl)
      cases x <;> simp only [LSt.eff, LSt.setN, LSt.num, Bool.not_false, Bool.not_true, if_true, if_false, ite_true, ite_false, Bool.false_eq_true, getD_ne hk]
    | plus b =>
      have hk : a.toNat ≠ b.toNat := key rfl rfl (.inl rfl)
      cases x <;> simp only [LSt.eff, LSt.setN, LSt.num, Bool.not_false, Bool.not_true, if_true, if_false, ite_true, ite_false, Bool.false_eq_true, getD_ne hk]
    | _ => cases x <;> rfl
  | add a => cases u <;> (cases x <;> rfl)
  | twice => cases u <;> (cases x <;> rfl)
  | take => cases u <;> first | (cases x <;> rfl) | exact absurd ha (by decide)
  | free => cases u <;> first | (cases x <;> rfl) | exact absurd ha (by decide)
theorem setP_eff (s : LSt) (x y : Bool) (p : Nat) (t : Stp) : (s.setP x p).eff y t = (s.eff y t).setP x p := by cases t <;> cases x <;> cases y <;> rfl
theorem setP_comm (s : LSt) (x : Bool) (p q : Nat) : (s.setP x p).setP (!x) q = (s.setP (!x) q).setP x p := by cases x <;> rfl
theorem done_plc (s : LSt) (x : Bool) : (s.done x).plc (!x) = s.plc (!x) := by
  have := eff_plc s x (!x) (s.next x)
  unfold LSt.done
  cases x <;> exact this
theorem done_row (s : LSt) (x b : Bool) : (s.done x).row b = s.row b := by
  unfold LSt.row
  rw [done_r0, done_r1]
theorem done_next (s : LSt) (x : Bool) : (s.done x).next (!x) = s.next (!x) := by
  unfold LSt.next
  rw [done_row, done_plc]
theorem done_over (s : LSt) (x : Bool) : (s.done x).over (!x) = s.over (!x) := by
  unfold LSt.over
  rw [done_row, done_plc]
theorem eff_hold (s : LSt) (x : Bool) (t : Stp) (h : t.kd.isGuard = false) : (s.eff x t).h = s.h := by cases t <;> first | (cases x <;> rfl) | exact absurd h (by decide)
theorem done_hold (s : LSt) (x : Bool) (h : (s.next x).kd.isGuard = false) : (s.done x).h = s.h := by
  unfold LSt.done
  have := eff_hold s x _ h
  cases x <;> exact this
theorem err_same {s1 s2 : LSt} {b : Bool} (ho : s1.over b = s2.over b) (hn : s1.next b = s2.next b) (hh : (s2.next b).kd.isGuard = true → s1.h = s2.h) : s1.err b = s2.err b := by
  unfold LSt.err LSt.waits
  rw [ho, hn]
  cases hg : (s2.next b).kd.isGuard with
  | true => rw [hh hg]
  | false =>
    have h1 : (s2.next b).kd ≠ .take := fun z => by rw [z] at hg; cases hg
    have h2 : (s2.next b).kd ≠ .free := fun z => by rw [z] at hg; cases hg
    simp [h1, h2]
theorem apart_guard {t u : Stp} (ha : apart t u = true) (hu : u.kd.isGuard = true) : t.kd.isGuard = false := by
  unfold apart at ha
  rw [hu, Bool.and_true] at ha
  cases h : t.kd.isGuard with
  | false => rfl
  | true => rw [h] at ha; cases ha
/-- point 9: two neighbours that are apart, exchanged -/
theorem exch {s : LSt} {x : Bool} (w : Wf s) (hx : s.err x = none) (hy : (s.done x).err (!x) = none) (ha : apart (s.next x) (s.next (!x)) = true) : s.err (!x) = none ∧ (s.done (!x)).err x = none ∧ (s.done (!x)).done x = (s.done x).done (!x) := by
  have ox := over_of hx
  have oy : s.over (!x) = false := by rw [← done_over]; exact over_of hy
  have gx := next_good w ox
  have gy := next_good w oy
  have e1 : s.err (!x) = none := by
    rw [← hy]
    exact (err_same (done_over s x) (done_next s x) fun hg => done_hold s x (apart_guard ha hg)).symm
  have hxx : (!(!x)) = x := Bool.not_not x
  have e2 : (s.done (!x)).err x = none := by
    have := err_same (s1 := s.done (!x)) (s2 := s) (b := !(!x)) (done_over s (!x)) (done_next s (!x)) (fun hg => done_hold s (!x) (apart_guard (by rw [apart_comm]; exact ha) (by rw [hxx] at hg; exact hg)))
    rw [hxx] at this
    rw [this]; exact hx
  refine ⟨e1, e2, ?_⟩
  have n1 : (s.done (!x)).next x = s.next x := by have := done_next s (!x); rw [hxx] at this; exact this
  have p1 : (s.done (!x)).plc x = s.plc x := by have := done_plc s (!x); rw [hxx] at this; exact this
  show ((s.done (!x)).eff x ((s.done (!x)).next x)).setP x ((s.done (!x)).plc x + 1) = ((s.done x).eff (!x) ((s.done x).next (!x))).setP (!x) ((s.done x).plc (!x) + 1)
  rw [n1, p1, done_next, done_plc]
  show ((((s.eff (!x) (s.next (!x))).setP (!x) (s.plc (!x) + 1)).eff x (s.next x)).setP x (s.plc x + 1)) = ((((s.eff x (s.next x)).setP x (s.plc x + 1)).eff (!x) (s.next (!x))).setP (!x) (s.plc (!x) + 1))
  rw [setP_eff, setP_eff, eff_comm s x _ _ gx gy ha]
  have := setP_comm ((s.eff (!x) (s.next (!x))).eff x (s.next x)) x (s.plc x + 1) (s.plc (!x) + 1)
  exact this.symm

theorem walk_cons {s s' : LSt} {b : Bool} {r : List Bool} (h : walk s (b :: r) = (none, s')) : s.err b = none ∧ walk (s.done b) r = (none, s') := by
  cases he : s.err b with
  | none => rw [walk_ok he] at h; exact ⟨rfl, h⟩
  | some e => rw [walk_err he] at h; cases h
def Alt : Bool → List Stp → Prop
  | _, [] => True
  | b, t :: r => (t.kd = .take → b = false) ∧ (t.kd = .free → b = true) ∧ Alt (if t.kd.isGuard = true then decide (t.kd = .take) else b) r
def GI (s : LSt) : Prop := ∀ b : Bool, Alt (decide (s.h = some b)) ((s.row b).drop (s.plc b))
def LSt.lcan (s : LSt) (b : Bool) : Bool := !s.over b && (!decide ((s.next b).kd = .take) || s.h.isNone)
theorem drop_nextB {s : LSt} {b : Bool} (w : Wf s) (ho : s.over b = false) : (s.row b).drop (s.plc b) = s.next b :: (s.row b).drop (s.plc b + 1) := by
  have hl := next_lt w ho
  have e : s.next b = (s.row b)[s.plc b] := by
    unfold LSt.next
    rw [List.getD_eq_getElem?_getD, List.getElem?_eq_getElem hl]; rfl
  rw [e]
  exact List.drop_eq_getElem_cons hl
theorem gi_err {s : LSt} {b : Bool} (w : Wf s) (g : GI s) (hc : s.lcan b = true) : s.err b = none := by
  unfold LSt.lcan at hc
  rw [Bool.and_eq_true] at hc
  have ho : s.over b = false := by simpa using hc.1
  have hg := g b
  rw [drop_nextB w ho] at hg
  obtain ⟨h1, h2, _⟩ := hg
  unfold LSt.err LSt.waits
  rw [ho]
  cases hk : (s.next b).kd <;> simp_all
theorem done_gi {s : LSt} {b : Bool} (w : Wf s) (g : GI s) (he : s.err b = none) : GI (s.done b) := by
  have ho := over_of he
  have hgb := g b
  rw [drop_nextB w ho] at hgb
  obtain ⟨h1, h2, h3⟩ := hgb
  have hpl : (s.done b).plc b = s.plc b + 1 := by unfold LSt.done; cases b <;> rfl
  have hh : (s.done b).h = (s.eff b (s.next b)).h := by unfold LSt.done; cases b <;> rfl
  have hnw : (s.next b).kd = .take → s.h = none := fun hk => by
    have h1 := h1 hk
    unfold LSt.err LSt.waits at he
    rw [ho] at he
    rcases hs : s.h with _ | a
    · rfl
    · rw [hs, hk] at he
      rw [hs] at h1
      cases a <;> cases b <;> simp at he h1
  have hfr : (s.next b).kd = .free → s.h = some b := fun hk => by
    have := h2 hk
    exact of_decide_eq_true this
  intro b'
  rw [done_row]
  by_cases hb : b' = b
  · subst hb
    rw [hpl, hh]
    have e : decide ((s.eff b' (s.next b')).h = some b') = (if (s.next b').kd.isGuard = true then decide ((s.next b').kd = .take) else decide (s.h = some b')) := by
      cases hn : s.next b' with
      | take => simp [LSt.eff, Stp.kd, Kd.isGuard]
      | free => simp [LSt.eff, Stp.kd, Kd.isGuard]
      | _ => cases b' <;> rfl
    rw [e]; exact h3
  · have hb : b' = !b := by cases b <;> cases b' <;> simp_all
    subst hb
    rw [done_plc, hh]
    have e : decide ((s.eff b (s.next b)).h = some (!b)) = decide (s.h = some (!b)) := by
      cases hn : s.next b with
      | take =>
        rw [hnw (by rw [hn]; rfl)]
        cases b <;> rfl
      | free =>
        rw [hfr (by rw [hn]; rfl)]
        cases b <;> rfl
      | _ => cases b <;> rfl
    rw [e]; exact g (!b)
theorem gi_start {r0 r1 : List Stp} {bx : List Int} (h0 : Alt false r0) (h1 : Alt false r1) : GI (startL r0 r1 bx) := fun b => by
  cases b
  · exact h0
  · exact h1


/-! ### the search: mirrors -/
def ordO (a b : Nat) : List Bool := List.replicate a false ++ List.replicate b true
def ordR (a b : Nat) : List Bool := List.replicate b true ++ List.replicate a false
def allO : Nat → Nat → List (List Bool)
  | 0, b => [ordO 0 b]
  | a + 1, 0 => [ordO (a + 1) 0]
  | a + 1, b + 1 => (allO a (b + 1)).map (false :: ·) ++ (allO (a + 1) b).map (true :: ·)
termination_by a b => a + b
def ordsD (os : List (List Bool)) : List PyData := os.map fun o => .list (handsD o)
theorem rep_hand (b : Bool) (n : Nat) : repD [.int (hI b)] (n : Int) = handsD (List.replicate n b) := by
  unfold repD handsD
  rw [Int.toNat_natCast]
  induction n with
  | zero => rfl
  | succ n ih => rw [List.replicate_succ, List.replicate_succ, List.flatten_cons, List.map_cons, ih]; rfl
theorem all_len : ∀ (m a b : Nat), a + b ≤ m → (allO a b).length ≤ 2 ^ m
  | m, 0, b, _ => by rw [allO]; exact Nat.one_le_two_pow
  | m, a + 1, 0, _ => by rw [allO]; exact Nat.one_le_two_pow
  | m + 1, a + 1, b + 1, h => by
    rw [allO, List.length_append, List.length_map, List.length_map, Nat.pow_succ]
    have h1 := all_len m a (b + 1) (by omega)
    have h2 := all_len m (a + 1) b (by omega)
    omega
  | 0, a + 1, b + 1, h => absurd h (by omega)
theorem all_count : ∀ (m a b : Nat), a + b ≤ m → ∀ o ∈ allO a b, o.count false = a ∧ o.count true = b
  | m, 0, b, _, o, ho => by
    rw [allO, List.mem_singleton] at ho
    subst ho
    unfold ordO
    rw [List.count_append, List.count_append]
    simp [List.count_replicate]
  | m, a + 1, 0, _, o, ho => by
    rw [allO, List.mem_singleton] at ho
    subst ho
    unfold ordO
    rw [List.count_append, List.count_append]
    simp [List.count_replicate]
  | m + 1, a + 1, b + 1, h, o, ho => by
    rw [allO, List.mem_append] at ho
    rcases ho with ho | ho
    · obtain ⟨r, hr, rfl⟩ := List.mem_map.mp ho
      obtain ⟨h1, h2⟩ := all_count m a (b + 1) (by omega) r hr
      exact ⟨by rw [List.count_cons_self, h1], by rw [List.count_cons_of_ne (by simp), h2]⟩
    · obtain ⟨r, hr, rfl⟩ := List.mem_map.mp ho
      obtain ⟨h1, h2⟩ := all_count m (a + 1) b (by omega) r hr
      exact ⟨by rw [List.count_cons_of_ne (by simp), h1], by rw [List.count_cons_self, h2]⟩
  | 0, a + 1, b + 1, h, _, _ => absurd h (by omega)
theorem count_rep : ∀ {o : List Bool} {b : Bool}, o.count (!b) = 0 → o = List.replicate (o.count b) b
  | [], _, _ => rfl
  | x :: r, b, h => by
    by_cases hx : x = b
    · subst hx
      rw [List.count_cons_of_ne (by cases x <;> simp)] at h
      rw [List.count_cons_self, List.replicate_succ, ← count_rep h]
    · have hx : x = !b := by cases b <;> cases x <;> first | rfl | exact absurd rfl hx
      subst hx
      rw [List.count_cons_self] at h
      omega
/-- every order of so many steps is among them -/
theorem all_mem : ∀ (o : List Bool), o ∈ allO (o.count false) (o.count true)
  | [] => by show [] ∈ allO 0 0; rw [allO]; exact List.mem_singleton.mpr rfl
  | false :: r => by
    have ih := all_mem r
    rw [List.count_cons_self, List.count_cons_of_ne (by simp)]
    cases hb : r.count true with
    | zero =>
      rw [allO, List.mem_singleton]
      have := count_rep (o := r) (b := false) hb
      unfold ordO
      rw [List.replicate_zero, List.append_nil, List.replicate_succ, ← this]
    | succ b =>
      rw [hb] at ih
      rw [allO, List.mem_append]
      exact .inl (List.mem_map.mpr ⟨r, ih, rfl⟩)
  | true :: r => by
    have ih := all_mem r
    rw [List.count_cons_of_ne (by simp), List.count_cons_self]
    cases hb : r.count false with
    | zero =>
      rw [allO, List.mem_singleton]
      have := count_rep (o := r) (b := true) hb
      unfold ordO
      rw [List.replicate_zero, List.nil_append, List.replicate_succ, ← this]
    | succ a =>
      rw [hb] at ih
      rw [allO, List.mem_append]
      exact .inr (List.mem_map.mpr ⟨r, ih, rfl⟩)
/-- what an order tells -/
def toldO (x : Option Er × LSt) : PyData := match x.1 with
  | none => .tuple [.list (x.2.bx.map .int), .list [.int x.2.n0, .int x.2.n1]]
  | some _ => .none
def R_plain_orders (ds : List PyData) (d : PyData) : Prop := ∃ a b : Nat, a ≤ 60 ∧ b ≤ 60 ∧ ds = [.int (a : Int), .int (b : Int)] ∧ d = .list [.list (handsD (ordO a b)), .list (handsD (ordR a b))]
def R_all_orders (m : Nat) (ds : List PyData) (d : PyData) : Prop := ∃ a b : Nat, a + b ≤ m ∧ ds = [.int (a : Int), .int (b : Int)] ∧ d = .list (ordsD (allO a b))
theorem solo_alt : ∀ (r : List Stp) (s : LSt), s.h ≠ some true → (solo s r).1 = none → Alt (decide (s.h = some false)) r
  | [], _, _, _ => trivial
  | t :: r, s, hh, h => by
    cases he : s.err1 t with
    | some e => rw [solo_err he] at h; cases h
    | none =>
      rw [solo_ok he] at h
      have hd : (s.do1 t).h = (s.eff false t).h := by unfold LSt.do1; rfl
      have ih := solo_alt r (s.do1 t) (by rw [hd]; exact eff_h s t hh) h
      rw [hd] at ih
      unfold LSt.err1 at he
      refine ⟨fun hk => ?_, fun hk => ?_, ?_⟩
      · by_cases hs : s.h = some false
        · rw [if_pos ⟨hk, hs⟩] at he; cases he
        · exact decide_eq_false hs
      · by_cases hs : s.h = some false
        · exact decide_eq_true hs
        · rw [if_neg (fun z => hs z.2), if_pos ⟨hk, hs⟩] at he; cases he
      · have e : decide ((s.eff false t).h = some false) = (if t.kd.isGuard = true then decide (t.kd = .take) else decide (s.h = some false)) := by
          cases t with
          | take => simp [LSt.eff, Stp.kd, Kd.isGuard]
          | free => simp [LSt.eff, Stp.kd, Kd.isGuard]
          | _ => rfl
        rw [← e]; exact ih
theorem gi_waits {s : LSt} {b : Bool} {e : Er} (w : Wf s) (g : GI s) (ho : s.over b = false) (he : s.err b = some e) : e = .waits := by
  have hg := g b
  rw [drop_nextB w ho] at hg
  obtain ⟨h1, h2, _⟩ := hg
  unfold LSt.err at he
  rw [ho, if_neg Bool.false_ne_true] at he
  split at he
  · cases he; rfl
  · split at he
    · rename_i q
      have := h1 q.1
      rw [decide_eq_true q.2] at this; cases this
    · split at he
      · rename_i q
        have := of_decide_eq_true (h2 q.1)
        exact absurd this q.2
      · cases he
theorem walk_waits : ∀ (o : List Bool) (s : LSt), Wf s → GI s → (∀ b, s.plc b + o.count b ≤ (s.row b).length) → ∀ e, (walk s o).1 = some e → e = .waits
  | [], _, _, _, _, _, h => by cases h
  | x :: r, s, w, g, hc, e, h => by
    have hcx := hc x
    rw [List.count_cons_self] at hcx
    have ho : s.over x = false := decide_eq_false (by omega)
    cases he : s.err x with
    | some e' => rw [walk_err he] at h; cases h; exact gi_waits w g ho he
    | none =>
      rw [walk_ok he] at h
      refine walk_waits r (s.done x) (w.done he) (done_gi w g he) (fun b => ?_) e h
      rw [done_row]
      have := hc b
      by_cases hx : x = b
      · subst hx
        have hp : (s.done x).plc x = s.plc x + 1 := by unfold LSt.done; cases x <;> rfl
        rw [List.count_cons_self] at this
        rw [hp]; omega
      · have hx : b = !x := by cases b <;> cases x <;> first | rfl | exact absurd rfl hx
        subst hx
        rw [List.count_cons_of_ne (by cases x <;> simp)] at this
        rw [done_plc]; exact this


section
variable {K : PySem.W.Frag} {mg : Str → Option Value}
def R_told (as : List Sl) (S : Sto) (PR : Sl → Sto → Prop) (PX : Value → Sto → Prop) : Prop := ∃ (r0 r1 rb : Sl) (row row1 : List Stp) (bx : List Int) (o : List Bool), as = [r0, r1, rb, .dat (.list (handsD o))] ∧ LSl S r0 (row.map Stp.toD) ∧ LSl S r1 (row1.map Stp.toD) ∧ LSl S rb (bx.map .int) ∧ GoodR bx.length row ∧ GoodR bx.length row1 ∧ Bnd 200 (startL row row1 bx) ∧ o.length ≤ 1000 ∧
  (∀ e, (walk (startL row row1 bx) o).1 = some e → e = .waits) ∧ PR = same S (toldO (walk (startL row row1 bx) o)) ∧ PX = noX
def chkX (T : Txt K mg) (row row1 : List Stp) (bx : List Int) (cls : Value) : Prop := ((5 < row.length ∨ 5 < row1.length) ∧ cls = .ref T.C_TooMany) ∨ (row.length ≤ 5 ∧ row1.length ≤ 5 ∧ ∃ e, ((solo (startL row [] bx) row).1 = some e ∨ ((solo (startL row [] bx) row).1 = none ∧ (solo (startL row1 [] bx) row1).1 = some e)) ∧ cls = .ref (T_ec T e))
def chkN (row row1 : List Stp) (bx : List Int) : Prop := row.length ≤ 5 ∧ row1.length ≤ 5 ∧ (solo (startL row [] bx) row).1 = none ∧ (solo (startL row1 [] bx) row1).1 = none
def R_check_rows (T : Txt K mg) : Rq := fun as S PR PX => ∃ (r0 r1 rb : Sl) (row row1 : List Stp) (bx : List Int), as = [r0, r1, rb] ∧ LSl S r0 (row.map Stp.toD) ∧ LSl S r1 (row1.map Stp.toD) ∧ LSl S rb (bx.map .int) ∧ GoodR bx.length row ∧ GoodR bx.length row1 ∧ Bnd 200 (startL row row1 bx) ∧
  PR = (fun r S' => chkN row row1 bx ∧ r = .dat .none ∧ S' = S) ∧ PX = (fun cls S' => chkX T row row1 bx cls ∧ S' = S)
def tl (row row1 : List Stp) (bx : List Int) (o : List Bool) : PyData := toldO (walk (startL row row1 bx) o)
def plainT (row row1 : List Stp) (bx : List Int) : List PyData := [tl row row1 bx (ordO row.length row1.length), tl row row1 bx (ordR row.length row1.length)]
def odd (row row1 : List Stp) (bx : List Int) (o : List Bool) : Prop := tl row row1 bx o ≠ .none ∧ (plainT row row1 bx).any (fun z => PyData.eqv z (tl row row1 bx o)) = false
def R_strange (T : Txt K mg) : Rq := fun as S PR PX => ∃ (r0 r1 rb : Sl) (row row1 : List Stp) (bx : List Int), as = [r0, r1, rb] ∧ LSl S r0 (row.map Stp.toD) ∧ LSl S r1 (row1.map Stp.toD) ∧ LSl S rb (bx.map .int) ∧ GoodR bx.length row ∧ GoodR bx.length row1 ∧ Bnd 200 (startL row row1 bx) ∧
  PR = (fun r S' => chkN row row1 bx ∧ S' = S ∧ ((∃ o ∈ allO row.length row1.length, r = .dat (.list (handsD o)) ∧ odd row row1 bx o) ∨ (r = .dat .none ∧ ∀ o ∈ allO row.length row1.length, ¬ odd row row1 bx o))) ∧ PX = (fun cls S' => chkX T row row1 bx cls ∧ S' = S)
end

theorem sc_plain_orders : FnScope ["first", "second"] ["first", "second"] (defScope s_plain_orders) := ⟨rfl, rfl, rfl, by decide +kernel, rfl, by decide +kernel, by decide +kernel⟩
theorem ok_plain_orders (T : Txt K mg) : FnOk P w K mg base CX0 1 T.f_plain_orders T.d_plain_orders ["first", "second"] (SpD K R_plain_orders) := by
  refine pure_def T.F_plain_orders sc_plain_orders (fun ds d h => ?_) (fun cdv A outer s H E B ds d hr h => ?_)
  · obtain ⟨a, b, ha, hb, rfl, rfl⟩ := h; rfl
  · obtain ⟨a, b, ha, hb, rfl, rfl⟩ := h
    refine gss_ret (r := .dat _) (gd_lst (ga_cons (gd_cat (gd_cast (gd_rep (gf_lst (ga_cons (gd_int (i := hI false)) ga_nil) (by show 1 ≤ 100000; decide)) (fun _ => gd_var (pv 0) rfl) ⟨by omega, by omega⟩ (by show 1 * _ ≤ 100000; omega)) (congrArg PyData.list (rep_hand false _))) (gd_cast (gd_rep (gf_lst (ga_cons (gd_int (i := hI true)) ga_nil) (by show 1 ≤ 100000; decide)) (fun _ => gd_var (pv 1) rfl) ⟨by omega, by omega⟩ (by show 1 * _ ≤ 100000; omega)) (congrArg PyData.list (rep_hand true _))) (by rw [hands_len, hands_len, List.length_replicate, List.length_replicate]; omega)) (ga_cons (gd_cat (gd_cast (gd_rep (gf_lst (ga_cons (gd_int (i := hI true)) ga_nil) (by show 1 ≤ 100000; decide)) (fun _ => gd_var (pv 1) rfl) ⟨by omega, by omega⟩ (by show 1 * _ ≤ 100000; omega)) (congrArg PyData.list (rep_hand true _))) (gd_cast (gd_rep (gf_lst (ga_cons (gd_int (i := hI false)) ga_nil) (by show 1 ≤ 100000; decide)) (fun _ => gd_var (pv 0) rfl) ⟨by omega, by omega⟩ (by show 1 * _ ≤ 100000; omega)) (congrArg PyData.list (rep_hand false _))) (by rw [hands_len, hands_len, List.length_replicate, List.length_replicate]; omega)) ga_nil)) (by show 2 ≤ 100000; decide)) ?_
    show Sl.dat _ = Sl.dat _
    unfold ordO ordR handsD
    rw [List.map_append, List.map_append]
theorem ords_at {os : List (List Bool)} {i : Nat} {d : PyData} (h : (ordsD os)[i]? = some d) : ∃ r, os.getD i [] = r ∧ r ∈ os ∧ d = .list (handsD r) := by
  unfold ordsD at h
  rw [List.getElem?_map] at h
  cases q : os[i]? with
  | none => rw [q] at h; cases h
  | some r => rw [q] at h; cases h; exact ⟨r, by rw [List.getD_eq_getElem?_getD, q]; rfl, List.mem_of_getElem? q, rfl⟩
theorem ords_len (os : List (List Bool)) : (ordsD os).length = os.length := List.length_map _
theorem all_rlen (m a b : Nat) (h : a + b ≤ m) : ∀ r ∈ allO a b, r.length ≤ m := fun r hr => by
  obtain ⟨h1, h2⟩ := all_count m a b h r hr
  have : ∀ o : List Bool, o.length = o.count false + o.count true := by
    intro o
    induction o with
    | nil => rfl
    | cons x o ih => cases x <;> simp [List.count_cons, ih] <;> omega
  rw [this r]; omega
theorem ords_map (os : List (List Bool)) (b : Bool) : (List.range (ordsD os).length).map (fun i => PyData.list (handsD (b :: os.getD i []))) = ordsD (os.map (b :: ·)) := by
  rw [ords_len, map_getD (fun r => PyData.list (handsD (b :: r))) [] os]
  unfold ordsD
  rw [List.map_map]; rfl
theorem sc_all_orders : FnScope ["first", "second", "begun", "rest"] ["first", "second"] (defScope s_all_orders) := ⟨rfl, rfl, rfl, by decide +kernel, rfl, by decide +kernel, by decide +kernel⟩
theorem ok_all_orders (T : Txt K mg) : ∀ m : Nat, m ≤ 10 → FnOk P w K mg base CX0 (m + 1) T.f_all_orders T.d_all_orders ["first", "second"] (SpD K (R_all_orders m)) := by
  intro m
  induction m with
  | zero =>
    intro _
    refine pure_def T.F_all_orders sc_all_orders (fun ds d h => ?_) (fun cdv A outer s H E B ds d hr h => ?_)
    · obtain ⟨a, b, hab, rfl, rfl⟩ := h; rfl
    · obtain ⟨a, b, hab, rfl, rfl⟩ := h
      obtain ⟨rfl, rfl⟩ : a = 0 ∧ b = 0 := by omega
      have ha : (0 : Nat) ≤ 60 := by omega
      refine gss_if (gt_of (gw_or (gt_eq hr.units (gd_var (pv 0) rfl) gd_int (shaped_int _) (shaped_int _)) (fun _ => gw_or1 (gt_eq hr.units (gd_var (pv 1) rfl) gd_int (shaped_int _) (shaped_int _))))) (fun _ => ?_) (fun hh => absurd hh (by simp [eqv_int]))
      refine gss_ret (r := .dat _) (gd_lst (ga_cons (gd_cat (gd_cast (gd_rep (gf_lst (ga_cons (gd_int (i := hI false)) ga_nil) (by show 1 ≤ 100000; decide)) (fun _ => gd_var (pv 0) rfl) ⟨by omega, by omega⟩ (by show 1 * _ ≤ 100000; omega)) (congrArg PyData.list (rep_hand false _))) (gd_cast (gd_rep (gf_lst (ga_cons (gd_int (i := hI true)) ga_nil) (by show 1 ≤ 100000; decide)) (fun _ => gd_var (pv 1) rfl) ⟨by omega, by omega⟩ (by show 1 * _ ≤ 100000; omega)) (congrArg PyData.list (rep_hand true _))) (by rw [hands_len, hands_len, List.length_replicate, List.length_replicate]; omega)) ga_nil) (by show 1 ≤ 100000; decide)) ?_
      show Sl.dat _ = Sl.dat _
      rw [allO]; rfl
  | succ m ih =>
    intro hm
    have h2m : 2 ^ m ≤ 1024 := Nat.pow_le_pow_right (by decide : 0 < 2) (show m ≤ 10 by omega)
    refine pure_def T.F_all_orders sc_all_orders (fun ds d h => ?_) (fun cdv A outer s H E B ds d hr h => ?_)
    · obtain ⟨a, b, hab, rfl, rfl⟩ := h; rfl
    · obtain ⟨a, b, hab, rfl, rfl⟩ := h
      by_cases h0 : a = 0 ∨ b = 0
      · refine gss_if (gt_of (gw_or (gt_eq hr.units (gd_var (pv 0) rfl) gd_int (shaped_int _) (shaped_int _)) (fun _ => gw_or1 (gt_eq hr.units (gd_var (pv 1) rfl) gd_int (shaped_int _) (shaped_int _))))) (fun _ => ?_) (fun hh => absurd hh (by rw [eqv_int, eqv_int]; rcases h0 with h | h <;> simp [h]))
        refine gss_ret (r := .dat _) (gd_lst (ga_cons (gd_cat (gd_cast (gd_rep (gf_lst (ga_cons (gd_int (i := hI false)) ga_nil) (by show 1 ≤ 100000; decide)) (fun _ => gd_var (pv 0) rfl) ⟨by omega, by omega⟩ (by show 1 * _ ≤ 100000; omega)) (congrArg PyData.list (rep_hand false _))) (gd_cast (gd_rep (gf_lst (ga_cons (gd_int (i := hI true)) ga_nil) (by show 1 ≤ 100000; decide)) (fun _ => gd_var (pv 1) rfl) ⟨by omega, by omega⟩ (by show 1 * _ ≤ 100000; omega)) (congrArg PyData.list (rep_hand true _))) (by rw [hands_len, hands_len, List.length_replicate, List.length_replicate]; omega)) ga_nil) (by show 1 ≤ 100000; decide)) ?_
        show Sl.dat _ = Sl.dat _
        have e : allO a b = [ordO a b] := by
          rcases h0 with h | h
          · subst h; rw [allO]
          · subst h
            cases a with
            | zero => rw [allO]
            | succ a => rw [allO]
        rw [e]
        unfold ordsD ordO handsD
        rw [List.map_cons, List.map_append]; rfl
      · obtain ⟨a, rfl⟩ : ∃ k, a = k + 1 := ⟨a - 1, by omega⟩
        obtain ⟨b, rfl⟩ : ∃ k, b = k + 1 := ⟨b - 1, by omega⟩
        refine gss_if (gt_of (gw_or (gt_eq hr.units (gd_var (pv 0) rfl) gd_int (shaped_int _) (shaped_int _)) (fun _ => gw_or1 (gt_eq hr.units (gd_var (pv 1) rfl) gd_int (shaped_int _) (shaped_int _))))) (fun hh => absurd hh (by rw [eqv_int, eqv_int]; simp; omega)) (fun _ => gss_nil ?_)
        refine gss_then ?_
        refine gs_setLcL (j := 3) 2 (fun i : Nat => .list (handsD (false :: (allO a (b + 1)).getD i []))) rfl rfl (sw_true rfl rfl rfl (by decide +kernel)) rfl sc_all_orders.nd (gd_call (ih (by omega)) hr rfl T.m_all_orders T.F_all_orders.kp T.b_all_orders pass0 (ga_cons (gd_cast (gd_sub (gd_var (pv 0) rfl) gd_int) (by show PyData.int (((a + 1 : Nat) : Int) - 1) = .int (a : Int); congr 1; omega)) (ga_cons (gd_var (pv 1) rfl) ga_nil)) ⟨a, (b + 1), by omega, rfl, rfl⟩) (by rw [ords_len]; have := all_len m a (b + 1) (by omega); omega) (blkOk_by (own := [("rest", 3)]) (N := ["first", "second", "begun", "rest"]) (sc := defScope s_all_orders) (by decide +kernel)) (fun _ _ _ _ _ => pg_name (i := 3) sc_all_orders.nd rfl (Or.inl rfl)) (fun i D acc d hd _ _ _ _ _ => by
        obtain ⟨r, hr0, hr2, rfl⟩ := ords_at hd
        rw [hr0]
        have hl := all_rlen m _ _ (by omega) r hr2
        exact (gd_cat (gd_lst (ga_cons (gd_int (i := hI false)) ga_nil) (by show 1 ≤ 100000; decide)) (gd_var (pv 3) rfl) (by rw [List.length_map]; show 1 + _ ≤ 100000; omega))) (q := ?_)
        rw [ords_map]
        refine gss_ret (r := .dat _) (gd_cat (gd_var (pv 2) rfl) (gd_lcL (j := 3) (fun i : Nat => .list (handsD (true :: (allO (a + 1) b).getD i []))) rfl sc_all_orders.nd (gd_call (ih (by omega)) hr rfl T.m_all_orders T.F_all_orders.kp T.b_all_orders pass0 (ga_cons (gd_var (pv 0) rfl) (ga_cons (gd_cast (gd_sub (gd_var (pv 1) rfl) gd_int) (by show PyData.int (((b + 1 : Nat) : Int) - 1) = .int (b : Int); congr 1; omega)) ga_nil)) ⟨(a + 1), b, by omega, rfl, rfl⟩) (by rw [ords_len]; have := all_len m (a + 1) b (by omega); omega) (blkOk_by (own := [("rest", 3)]) (N := ["first", "second", "begun", "rest"]) (sc := defScope s_all_orders) (by decide +kernel)) (fun _ _ _ _ _ => pg_name (i := 3) sc_all_orders.nd rfl (Or.inl rfl)) (fun i D acc d hd _ _ _ _ _ => by
        obtain ⟨r, hr0, hr2, rfl⟩ := ords_at hd
        rw [hr0]
        have hl := all_rlen m _ _ (by omega) r hr2
        exact (gd_cat (gd_lst (ga_cons (gd_int (i := hI true)) ga_nil) (by show 1 ≤ 100000; decide)) (gd_var (pv 3) rfl) (by rw [List.length_map]; show 1 + _ ≤ 100000; omega)))) ?_) ?_
        · rw [ords_len, List.length_map, List.length_map, List.length_range, ords_len]
          have h1 := all_len m a (b + 1) (by omega)
          have h2 := all_len m (a + 1) b (by omega)
          omega
        · show Sl.dat _ = Sl.dat _
          rw [ords_map, allO]
          unfold ordsD
          rw [List.map_append]
theorem sc_told : FnScope ["ones", "others", "boxes", "order"] ["ones", "others", "boxes", "order"] (defScope s_told) := ⟨rfl, rfl, rfl, by decide +kernel, rfl, by decide +kernel, by decide +kernel⟩
theorem ok_told (T : Txt K mg) : FnOk P w K mg base CX0 7 T.f_told T.d_told ["ones", "others", "boxes", "order"] (SpM K R_told) := by
  refine mut_def0K T.F_told sc_told (fun as S PR PX h => ?_) (fun cdv A outer s H E B as S PR PX hr hks h => ?_)
  · obtain ⟨r0, r1, rb, row, row1, bx, o, rfl, h0, h1, hb, hg, hg1, hB, hol, hwt, rfl, rfl⟩ := h; rfl
  · obtain ⟨r0, r1, rb, row, row1, bx, o, rfl, h0, h1, hb, hg, hg1, hB, hol, hwt, rfl, rfl⟩ := h
    refine gss_one (gs_tryM (l := [(.ref T.C_Waits, (fun Γ' S' => (∃ e, (walk (startL row row1 bx) o).1 = some e) ∧ Γ' = [r0, r1, rb, .dat (.list (handsD o))] ∧ S' = S))]) rfl rfl (fun cls Γ' S' => cls = .ref T.C_Waits ∧ (∃ e, (walk (startL row row1 bx) o).1 = some e) ∧ Γ' = [r0, r1, rb, .dat (.list (handsD o))] ∧ S' = S) (fun W pn xe tkW hpo => ?_) ?_ ?_)
    · refine gss_at rfl (List.append_nil S).symm (gss_one (gs_retE (ge_frz2 (ge_mono (ge_new (F := S) (fun q hq => by rw [show (B.E0 W).ks = B.ks from rfl, hks] at hq; exact hq) (ge_call (S1 := S) (F := []) (ok_walked T) (hr.mono (by decide)) rfl T.m_walked T.F_walked.kp T.b_walked (fun σ => L2N.passAt tkW σ) (gas_cons (ge_var (pv 0) rfl h0.ne) (gas_cons (ge_var (pv 1) rfl h1.ne) (gas_cons (ge_var (pv 2) rfl hb.ne) (gas_cons (r := .dat _) (gd_var (pv 3) rfl) gas_nil)))) ⟨_, _, _, _, row, row1, bx, o, rfl, h0, h1, hb, .inl rfl, hg, hg1, hB, hol, rfl, rfl⟩)) (fun r S' h => ?_) (fun cls S' h => ?_)))))
      · obtain ⟨⟨S1', ⟨hno, t, b, n, rfl, rfl⟩, rfl⟩, hnew⟩ := h
        have hn := hnew [(t, .ho (.tup [.ref b, .ref n])), (n, .lst [.int (walk (startL row row1 bx) o).2.n0, .int (walk (startL row row1 bx) o).2.n1]), (b, .lst ((walk (startL row row1 bx) o).2.bx.map .int))] (List.append_nil _)
        refine ⟨t, b, n, (walk (startL row row1 bx) o).2.bx.map .int, [.int (walk (startL row row1 bx) o).2.n0, .int (walk (startL row row1 bx) o).2.n1], hn _ List.mem_cons_self, hn _ (List.mem_cons_of_mem _ (List.mem_cons_of_mem _ List.mem_cons_self)), hn _ (List.mem_cons_of_mem _ List.mem_cons_self), rfl, ?_, ?_⟩
        · rw [List.append_nil, List.append_nil]
        · refine ⟨?_, List.append_nil _⟩
          unfold toldO
          rw [hno]
      · obtain ⟨S1', ⟨e, her, rfl, rfl⟩, rfl⟩ := h
        have := hwt e her
        subst this
        exact ⟨rfl, ⟨_, her⟩, rfl, List.append_nil _⟩
    · rintro cls Γ' S' ⟨rfl, he, rfl, rfl⟩
      exact ⟨true, T.ex_Waits_Waits, fun _ => ⟨he, rfl, rfl⟩, fun h => (nomatch h)⟩
    · exact (.cons ⟨rfl, by decide, .inl T.g_Waits⟩ (fun a oe pn Γ' S' ⟨⟨e, he⟩, h1, h2⟩ => by subst h1 h2; exact gss_ret (r := .dat _) gd_non ⟨by unfold toldO; rw [he], rfl⟩) .nil)
theorem sc_check_rows : FnScope ["ones", "others", "boxes"] ["ones", "others", "boxes"] (defScope s_check_rows) := ⟨rfl, rfl, rfl, by decide +kernel, rfl, by decide +kernel, by decide +kernel⟩
theorem ok_check_rows (T : Txt K mg) : FnOk P w K mg base (L2N.CX P w) 7 T.f_check_rows T.d_check_rows ["ones", "others", "boxes"] (SpM K (R_check_rows T)) := by
  refine mut_defK T.F_check_rows sc_check_rows (fun as S PR PX h => ?_) (fun cdv A outer s H E H0 Hh as S PR PX hr h => ?_)
  · obtain ⟨r0, r1, rb, row, row1, bx, rfl, h0, h1, hb, hg0, hg1, hB, rfl, rfl⟩ := h; rfl
  · obtain ⟨r0, r1, rb, row, row1, bx, rfl, h0, h1, hb, hg0, hg1, hB, rfl, rfl⟩ := h
    have hB1 : Bnd 200 (startL row [] bx) := ⟨hB.n0, hB.n1, hB.bx, hB.a0, fun t h => nomatch h⟩
    have hB2 : Bnd 200 (startL row1 [] bx) := ⟨hB.n0, hB.n1, hB.bx, hB.a1, fun t h => nomatch h⟩
    refine gss_then ?_
    refine gs_exprE (ge_of (gd_callP0 (ok_check_row T) (hr.mono (by decide)) rfl T.m_check_row T.F_check_row.kp T.b_check_row (gas_cons (ge_var (pv 0) rfl h0.ne) (gas_cons (ge_var (pv 2) rfl hb.ne) gas_nil)) ⟨_, _, _, _, rfl, h0, hb, hg0, rfl, rfl⟩) ?_)
    refine gss_then ?_
    refine gs_exprE (ge_of (gd_callP0 (ok_check_row T) (hr.mono (by decide)) rfl T.m_check_row T.F_check_row.kp T.b_check_row (gas_cons (ge_var (pv 1) rfl h1.ne) (gas_cons (ge_var (pv 2) rfl hb.ne) gas_nil)) ⟨_, _, _, _, rfl, h1, hb, hg1, rfl, rfl⟩) ?_)
    refine gss_if (gt_of (gw_or (gt_gt (gl_len rfl T.z_len (by decide +kernel) (gls_var (pv 0) rfl h0)) (gd_con (pe_glob rfl T.m_MOST_SEARCHED T.r_MOST_SEARCHED) T.c_MOST_SEARCHED)) (fun hh => by first | exact gw_dead (absurd hh (by (first | decide +kernel | (simp only [List.length_cons, List.length_nil, eqv_int]; decide) | (simp only [List.length_cons, List.length_nil, eqv_int, decide_eq_true_eq, decide_eq_false_iff_not]; omega)))) | exact (gw_or1 (gt_gt (gl_len rfl T.z_len (by decide +kernel) (gls_var (pv 1) rfl h1)) (gd_con (pe_glob rfl T.m_MOST_SEARCHED T.r_MOST_SEARCHED) T.c_MOST_SEARCHED)))))) (fun hl => ?_) (fun hl => gss_nil ?_)
    · refine ret_all (gs_raise rfl (L2N.takes_of rfl rfl rfl rfl) PySem.F.excBase_ValueError T.x_TooMany T.g_TooMany T.k_TooMany (raises_own T.s_TooMany T.t_TooMany) rfl (ge_join (.cons gd_str (.cons (gd_fmt (gd_con (pe_glob rfl T.m_MOST_SEARCHED T.r_MOST_SEARCHED) T.c_MOST_SEARCHED) (by decide)) (.cons gd_str .nil))) ⟨by decide +kernel, by decide +kernel, by decide +kernel, trivial⟩) ⟨.inl ⟨?_, rfl⟩, rfl⟩)
      rw [Bool.or_eq_true, decide_eq_true_eq, decide_eq_true_eq, List.length_map, List.length_map] at hl
      omega
    rw [Bool.or_eq_false_iff, decide_eq_false_iff_not, decide_eq_false_iff_not, List.length_map, List.length_map] at hl
    have l0 : row.length ≤ 5 := by omega
    have l1 : row1.length ≤ 5 := by omega
    refine gss_at rfl (List.append_nil S).symm ?_
    refine gss_then ?_
    refine gs_exprE (ge_mono (ge_call (S1 := S) (F := []) (ok_alone T) (hr.mono (by decide)) rfl T.m_alone T.F_alone.kp T.b_alone (fun σ => L2N.passAt (L2N.takes_of rfl rfl rfl rfl) σ) (gas_cons (ge_var (pv 0) rfl h0.ne) (gas_cons (ge_var (pv 2) rfl hb.ne) gas_nil)) ⟨_, _, row, bx, rfl, h0, hb, hg0, hB1, rfl, rfl⟩) (fun r S' h => ?_) (fun c S' h => ?_))
    · obtain ⟨S1', ⟨hn0, rfl, rfl⟩, rfl⟩ := h
      refine gss_then ?_
      refine gs_exprE (ge_mono (ge_call (S1 := S1') (F := []) (ok_alone T) (hr.mono (by decide)) rfl T.m_alone T.F_alone.kp T.b_alone (fun σ => L2N.passAt (L2N.takes_of rfl rfl rfl rfl) σ) (gas_cons (ge_var (pv 1) rfl h1.ne) (gas_cons (ge_var (pv 2) rfl hb.ne) gas_nil)) ⟨_, _, row1, bx, rfl, h1, hb, hg1, hB2, rfl, rfl⟩) (fun r S' h => ?_) (fun c S' h => ?_))
      · obtain ⟨S2', ⟨hn1, rfl, rfl⟩, rfl⟩ := h
        exact gss_nil ⟨⟨l0, l1, hn0, hn1⟩, rfl, List.append_nil _⟩
      · obtain ⟨S2', ⟨e, he, rfl, rfl⟩, rfl⟩ := h
        exact ⟨.inr ⟨l0, l1, e, .inr ⟨hn0, he⟩, rfl⟩, List.append_nil _⟩
    · obtain ⟨S1', ⟨e, he, rfl, rfl⟩, rfl⟩ := h
      exact ⟨.inr ⟨l0, l1, e, .inl he, rfl⟩, List.append_nil _⟩

theorem room65 {k : Nat} {A : Around} (hr : Room k A) : A.units + 65 < cLine := by
  have := hr.un
  omega
theorem told_shaped (x : Option Er × LSt) : SeqAt.shaped (toldO x) = true := by
  unfold toldO
  split
  · unfold SeqAt.shaped
    rw [Bool.and_eq_true]
    refine ⟨by simp [PyData.canLay0, PyData.canLayAll0, canLay_ints], decide_eq_true ?_⟩
    simp only [PyData.depth, PyData.depthAll, depth_ints]
    decide
  · exact shaped_none
theorem told_two (x y : Option Er × LSt) : SeqAt.shaped (.list [toldO x, toldO y]) = true := by
  have d : ∀ z : Option Er × LSt, (toldO z).depth ≤ 2 := fun z => by
    unfold toldO
    split
    · simp only [PyData.depth, PyData.depthAll, depth_ints]; decide
    · simp [PyData.depth]
  have h1 := told_shaped x
  have h2 := told_shaped y
  have d1 := d x
  have d2 := d y
  unfold SeqAt.shaped at h1 h2 ⊢
  rw [Bool.and_eq_true] at h1 h2 ⊢
  refine ⟨by simp [PyData.canLay0, PyData.canLayAll0, h1.1, h2.1], decide_eq_true ?_⟩
  simp only [PyData.depth, PyData.depthAll]
  omega
theorem chk_waits {row row1 : List Stp} {bx : List Int} {o : List Bool} (h0 : GoodR bx.length row) (h1 : GoodR bx.length row1) (hc : chkN row row1 bx) (c0 : o.count false = row.length) (c1 : o.count true = row1.length) : ∀ e, (walk (startL row row1 bx) o).1 = some e → e = .waits := by
  refine walk_waits o _ (wf_start h0 h1) (gi_start ?_ ?_) (fun b => ?_)
  · exact solo_alt row (startL row [] bx) (fun z => nomatch z) hc.2.2.1
  · exact solo_alt row1 (startL row1 [] bx) (fun z => nomatch z) hc.2.2.2
  · cases b
    · show 0 + o.count false ≤ row.length
      omega
    · show 0 + o.count true ≤ row1.length
      omega
theorem ordO_count (a b : Nat) : (ordO a b).count false = a ∧ (ordO a b).count true = b := by
  unfold ordO
  rw [List.count_append, List.count_append]
  simp [List.count_replicate]
theorem ordR_count (a b : Nat) : (ordR a b).count false = a ∧ (ordR a b).count true = b := by
  unfold ordR
  rw [List.count_append, List.count_append]
  simp [List.count_replicate]

theorem ord_len {o : List Bool} {a b : Nat} (h : o.count false = a ∧ o.count true = b) : o.length = a + b := by
  have : ∀ o : List Bool, o.length = o.count false + o.count true := by
    intro o
    induction o with
    | nil => rfl
    | cons x o ih => cases x <;> simp [List.count_cons, ih] <;> omega
  rw [this o, h.1, h.2]
theorem isN_told {x : PyData} : isN x = false ↔ x ≠ .none := by cases x <;> simp [isN]
theorem sc_strange : FnScope ["ones", "others", "boxes", "plain", "order", "told"] ["ones", "others", "boxes"] (defScope s_strange) := ⟨rfl, rfl, rfl, by decide +kernel, rfl, by decide +kernel, by decide +kernel⟩
theorem ok_strange (T : Txt K mg) : FnOk P w K mg base (L2N.CX P w) 12 T.f_strange T.d_strange ["ones", "others", "boxes"] (SpM K (R_strange T)) := by
  refine mut_defK T.F_strange sc_strange (fun as S PR PX h => ?_) (fun cdv A outer s H E H0 Hh as S PR PX hr h => ?_)
  · obtain ⟨r0, r1, rb, row, row1, bx, rfl, h0, h1, hb, hg0, hg1, hB, rfl, rfl⟩ := h; rfl
  · obtain ⟨r0, r1, rb, row, row1, bx, rfl, h0, h1, hb, hg0, hg1, hB, rfl, rfl⟩ := h
    refine gss_at rfl (List.append_nil S).symm ?_
    refine gss_then ?_
    refine gs_exprE (ge_mono (ge_call (S1 := S) (F := []) (ok_check_rows T) (hr.mono (by decide)) rfl T.m_check_rows T.F_check_rows.kp T.b_check_rows (fun σ => L2N.passAt (L2N.takes_of rfl rfl rfl rfl) σ) (gas_cons (ge_var (pv 0) rfl h0.ne) (gas_cons (ge_var (pv 1) rfl h1.ne) (gas_cons (ge_var (pv 2) rfl hb.ne) gas_nil))) ⟨_, _, _, row, row1, bx, rfl, h0, h1, hb, hg0, hg1, hB, rfl, rfl⟩) (fun r S' h => ?_) (fun c S' h => ?_))
    rotate_left 1
    · obtain ⟨S1', ⟨h, rfl⟩, rfl⟩ := h
      exact ⟨h, List.append_nil _⟩
    obtain ⟨S1', ⟨hc, rfl, hS1⟩, rfl⟩ := h
    refine gss_at rfl (show S1' ++ [] = S by rw [hS1, List.append_nil]) ?_
    have hl0 := hc.1
    have hl1 := hc.2.1
    refine gss_then ?_
    refine gs_setLcL (j := 4) 3 (ds := [.list (handsD (ordO row.length row1.length)), .list (handsD (ordR row.length row1.length))]) (fun i : Nat => tl row row1 bx (if i = 0 then ordO row.length row1.length else ordR row.length row1.length)) rfl rfl (sw_true rfl rfl rfl (by decide +kernel)) rfl sc_strange.nd (gd_call (ok_plain_orders T) (hr.mono (by decide)) rfl T.m_plain_orders T.F_plain_orders.kp T.b_plain_orders pass0 (ga_cons (gd_cast (d1 := .int (row.length : Int)) (gl_len rfl T.z_len (by decide +kernel) (gls_var (pv 0) rfl h0)) (by rw [List.length_map])) (ga_cons (gd_cast (d1 := .int (row1.length : Int)) (gl_len rfl T.z_len (by decide +kernel) (gls_var (pv 1) rfl h1)) (by rw [List.length_map])) ga_nil)) ⟨row.length, row1.length, by omega, by omega, rfl, rfl⟩) (by show 2 ≤ 100000; decide) (blkOk_by (own := [("order", 4)]) (N := ["ones", "others", "boxes", "plain", "order", "told"]) (sc := defScope s_strange) (by decide +kernel)) (fun _ _ _ _ _ => pg_name (i := 4) sc_strange.nd rfl (Or.inl rfl)) (fun i D acc d hd _ _ _ _ _ => by
      have hi : i < 2 := (List.getElem?_eq_some_iff.mp hd).1
      rcases (show i = 0 ∨ i = 1 by omega) with rfl | rfl
      · obtain rfl : PyData.list (handsD (ordO row.length row1.length)) = d := Option.some.inj hd
        exact (gd_callP0 (ok_told T) (hr.mono (by decide)) rfl T.m_told T.F_told.kp T.b_told (gas_cons (ge_var (pv 0) rfl h0.ne) (gas_cons (ge_var (pv 1) rfl h1.ne) (gas_cons (ge_var (pv 2) rfl hb.ne) (gas_cons (r := .dat _) (gd_var (pv 4) rfl) gas_nil)))) ⟨_, _, _, row, row1, bx, ordO row.length row1.length, rfl, h0.cons, h1.cons, hb.cons, hg0, hg1, hB, (by have := ord_len (ordO_count row.length row1.length); omega), (chk_waits hg0 hg1 hc (ordO_count _ _).1 (ordO_count _ _).2), rfl, rfl⟩)
      · obtain rfl : PyData.list (handsD (ordR row.length row1.length)) = d := Option.some.inj hd
        exact (gd_callP0 (ok_told T) (hr.mono (by decide)) rfl T.m_told T.F_told.kp T.b_told (gas_cons (ge_var (pv 0) rfl h0.ne) (gas_cons (ge_var (pv 1) rfl h1.ne) (gas_cons (ge_var (pv 2) rfl hb.ne) (gas_cons (r := .dat _) (gd_var (pv 4) rfl) gas_nil)))) ⟨_, _, _, row, row1, bx, ordR row.length row1.length, rfl, h0.cons, h1.cons, hb.cons, hg0, hg1, hB, (by have := ord_len (ordR_count row.length row1.length); omega), (chk_waits hg0 hg1 hc (ordR_count _ _).1 (ordR_count _ _).2), rfl, rfl⟩)) (q := ?_)
    refine gss_at (Γ2 := [r0, r1, rb, .dat (.list (plainT row row1 bx)), .un, .un]) (S2 := S) rfl rfl ?_
    refine gss_cons (M := fun Γ' S' => ∃ y4 y5, (∀ o ∈ allO row.length row1.length, ¬ odd row row1 bx o) ∧ Γ' = [r0, r1, rb, .dat (.list (plainT row row1 bx)), y4, y5] ∧ S' = S) (gs_forL (ds := ordsD (allO row.length row1.length)) .leaving rfl (gd_call (ok_all_orders T 10 (by decide)) (hr.mono (by decide)) rfl T.m_all_orders T.F_all_orders.kp T.b_all_orders pass0 (ga_cons (gd_cast (d1 := .int (row.length : Int)) (gl_len rfl T.z_len (by decide +kernel) (gls_var (pv 0) rfl h0)) (by rw [List.length_map])) (ga_cons (gd_cast (d1 := .int (row1.length : Int)) (gl_len rfl T.z_len (by decide +kernel) (gls_var (pv 1) rfl h1)) (by rw [List.length_map])) ga_nil)) ⟨row.length, row1.length, by omega, rfl, rfl⟩) sc_strange.nd (j := 4) rfl (by first | exact .inl rfl | exact .inr rfl) (fun i Γ' S' => ∃ y4 y5, (∀ o ∈ (allO row.length row1.length).take i, ¬ odd row row1 bx o) ∧ Γ' = [r0, r1, rb, .dat (.list (plainT row row1 bx)), y4, y5] ∧ S' = S) ⟨_, _, (fun o ho => by rw [List.take_zero] at ho; cases ho), rfl, rfl⟩ ?_ ?_) ?_
    · rintro i d Γ' S' G hd ⟨y4, y5, hno, rfl, rfl⟩
      obtain ⟨o, hoi, hom, rfl⟩ := ords_at hd
      have hc2 := all_count 10 row.length row1.length (by omega) o hom
      refine gss_set (i := 5) sc_strange.nd rfl (by first | exact .inl rfl | exact .inr rfl) (r := .dat (tl row row1 bx o)) (gd_callP0 (ok_told T) (hr.mono (by decide)) rfl T.m_told T.F_told.kp T.b_told (gas_cons (ge_var (pv 0) rfl h0.ne) (gas_cons (ge_var (pv 1) rfl h1.ne) (gas_cons (ge_var (pv 2) rfl hb.ne) (gas_cons (r := .dat _) (gd_var (pv 4) rfl) gas_nil)))) ⟨_, _, _, row, row1, bx, o, rfl, h0, h1, hb, hg0, hg1, hB, (by have := ord_len hc2; omega), (chk_waits hg0 hg1 hc hc2.1 hc2.2), rfl, rfl⟩) ?_
      refine gss_one (gs_if (gt_of (gw_and (gt_notN (gd_var (pv 5) rfl)) (fun _ => gw_and1 (gt_notInD (room65 hr) rfl (gd_var (pv 5) rfl) (gd_var (pv 3) rfl) (told_shaped _) (told_two _ _))))) (fun hh => ?_) (fun hh => gss_nil ?_))
      · rw [Bool.and_eq_true] at hh
        refine gss_one (gs_ret (r := .dat _) (gd_var (pv 4) rfl) ⟨hc, rfl, .inl ⟨o, hom, rfl, isN_told.mp (by simpa using hh.1), by simpa using hh.2⟩⟩)
      · refine ⟨_, _, fun o' ho' => ?_, rfl, rfl⟩
        have hi : i < (allO row.length row1.length).length := by have := (List.getElem?_eq_some_iff.mp hd).1; rwa [ords_len] at this
        rw [List.take_succ, List.getElem?_eq_getElem hi] at ho'
        rcases List.mem_append.mp ho' with h | h
        · exact hno o' h
        · have e : o' = o := by
            rw [← hoi, List.getD_eq_getElem?_getD, List.getElem?_eq_getElem hi]
            simpa using h
          subst e
          rintro ⟨h1, h2⟩
          have h2 : ((plainT row row1 bx).any fun z => PyData.eqv z (tl row row1 bx o')) = false := h2
          rw [isN_told.mpr h1, h2] at hh
          exact absurd hh (by decide)
    · rintro Γ' S' ⟨y4, y5, hno, rfl, rfl⟩
      rw [ords_len, List.take_length] at hno
      exact ⟨y4, y5, hno, rfl, rfl⟩
    rintro Γ' S' ⟨y4, y5, hno, rfl, rfl⟩
    exact gss_ret (r := .dat _) gd_non ⟨hc, rfl, .inr ⟨rfl, hno⟩⟩
end

/-! ### rows that are wrong -/
inductive Ck where
  | tooMany | badStep | badBox
  deriving DecidableEq
def Ck.word : Ck → Str
  | .tooMany => "too many"
  | .badStep => "no step"
  | .badBox => "no box"
def ckW : Option Ck → Str
  | none => ""
  | some e => e.word
def bads : List PyData := [.tuple [.str "swap", .int 0], .tuple [.str "load"], .tuple [.str "add", .str "1"], .tuple [.str "take", .int 0], .none, .str "free", .list [.str "twice"], .tuple [.str "add", .bool true]]
/-- what a row of the law holds: a step, whole numbers small, never a twice; or what is no step -/
def Rd (d : PyData) : Prop := (∃ t : Stp, d = t.toD ∧ t.kd ≠ .twice ∧ (t.kd = .add → t.b.natAbs < 2 ^ 200)) ∨ d ∈ bads
theorem bads_no {d : PyData} (h : d ∈ bads) : isStepD d = false ∧ OkD d := by
  simp only [bads, List.mem_cons, List.not_mem_nil, or_false] at h
  have k1 : PyData.strOk "swap" = true ∧ PyData.strOk "load" = true ∧ PyData.strOk "add" = true ∧ PyData.strOk "take" = true := by decide +kernel
  obtain ⟨k1, k2, k3, k4⟩ := k1
  rcases h with rfl | rfl | rfl | rfl | rfl | rfl | rfl | rfl
  all_goals refine ⟨by decide +kernel, ?_⟩
  all_goals (intro z r e; first | (cases e; assumption) | cases e)
theorem rd_ok {d : PyData} (h : Rd d) : OkD d := by
  rcases h with ⟨t, rfl, _⟩ | h
  · exact stp_okD t
  · exact (bads_no h).2
theorem rd_step {d : PyData} (h : Rd d) (hs : isStepD d = true) : ∃ t : Stp, d = t.toD ∧ t.kd ≠ .twice ∧ (t.kd = .add → t.b.natAbs < 2 ^ 200) := by
  rcases h with h | h
  · exact h
  · rw [(bads_no h).1] at hs; cases hs
def boxOut (n : Nat) : PyData → Bool
  | .tuple [.str w, .int b] => inD (.str w) [.str "load", .str "plus", .str "store"] && !(decide (0 ≤ b) && decide (b < (n : Int)))
  | _ => false
def chkD (n : Nat) (d : PyData) : Option Ck := if isStepD d = true then (if boxOut n d = true then some .badBox else none) else some .badStep
def firstC (n : Nat) : List PyData → Option Ck
  | [] => none
  | d :: r => match chkD n d with
    | some e => some e
    | none => firstC n r
def chk (n : Nat) (ds : List PyData) : Option Ck := if 60 < ds.length then some .tooMany else firstC n ds
theorem boxOut_stp (n : Nat) (t : Stp) : boxOut n t.toD = (t.kd.isBox && !(decide (0 ≤ t.b) && decide (t.b < (n : Int)))) := by
  cases t <;> first | rfl | (show (inD _ _ && _) = _; rw [kd_box]; rfl) | (show (inD (.str (Kd.word .add)) _ && _) = _; rw [kd_box]; rfl)
theorem first_good {n : Nat} : ∀ {ds : List PyData}, (∀ d ∈ ds, Rd d) → firstC n ds = none → ∃ row : List Stp, ds = row.map Stp.toD ∧ (∀ t ∈ row, GoodS n t) ∧ ∀ t ∈ row, t.kd = .add → t.b.natAbs < 2 ^ 200
  | [], _, _ => ⟨[], rfl, fun t h => (nomatch h), fun t h => (nomatch h)⟩
  | d :: r, h, hc => by
    rw [firstC] at hc
    cases hd : chkD n d with
    | some e => rw [hd] at hc; cases hc
    | none =>
      rw [hd] at hc
      obtain ⟨row, e, h1, h2⟩ := first_good (fun x hx => h x (List.mem_cons_of_mem _ hx)) hc
      unfold chkD at hd
      split at hd
      · rename_i hs
        split at hd
        · cases hd
        · rename_i hb
          obtain ⟨t, rfl, _, ha⟩ := rd_step (h d List.mem_cons_self) hs
          refine ⟨t :: row, by rw [e]; rfl, fun u hu => ?_, fun u hu => ?_⟩
          · rcases List.mem_cons.mp hu with rfl | hu
            · intro hk
              rw [boxOut_stp, hk, Bool.true_and] at hb
              have hb : (decide (0 ≤ u.b) && decide (u.b < (n : Int))) = true := by simpa using hb
              rw [Bool.and_eq_true] at hb
              exact ⟨of_decide_eq_true hb.1, of_decide_eq_true hb.2⟩
            · exact h1 u hu
          · rcases List.mem_cons.mp hu with rfl | hu
            · exact ha
            · exact h2 u hu
      · cases hd
theorem chk_good {n : Nat} {ds : List PyData} (h : ∀ d ∈ ds, Rd d) (hc : chk n ds = none) : ∃ row : List Stp, ds = row.map Stp.toD ∧ GoodR n row ∧ ∀ t ∈ row, t.kd = .add → t.b.natAbs < 2 ^ 200 := by
  unfold chk at hc
  split at hc
  · cases hc
  · rename_i hl
    obtain ⟨row, e, h1, h2⟩ := first_good h hc
    refine ⟨row, e, ⟨?_, h1⟩, h2⟩
    rw [e, List.length_map] at hl
    omega
theorem chk_nil (n : Nat) : chk n [] = none := rfl
section
variable {K : PySem.W.Frag} {mg : Str → Option Value}
def T_ck (T : Txt K mg) : Ck → Addr
  | .tooMany => T.C_TooMany
  | .badStep => T.C_BadStep
  | .badBox => T.C_BadBox
/-- of two rows: what is wrong first -/
def chk2 (n : Nat) (d0 d1 : List PyData) (e : Ck) : Prop := chk n d0 = some e ∨ (chk n d0 = none ∧ chk n d1 = some e)
def R_check_bad (T : Txt K mg) : Rq := fun as S PR PX => ∃ (r0 rb : Sl) (ds : List PyData) (bx : List Int) (e : Ck), as = [r0, rb] ∧ LSl S r0 ds ∧ LSl S rb (bx.map .int) ∧ (∀ d ∈ ds, Rd d) ∧ ds.length ≤ 1000 ∧ chk bx.length ds = some e ∧
  PR = (fun _ _ => False) ∧ PX = (fun cls S' => cls = .ref (T_ck T e) ∧ S' = S)
def R_init_bad (T : Txt K mg) : Rq := fun as S PR PX => ∃ (p : Addr) (r0 r1 rb : Sl) (d0 d1 : List PyData) (bx : List Int) (F : Sto) (e : Ck), as = [.raw (.ref p), r0, r1, rb] ∧ S = (p, .obj T.C_Loom []) :: F ∧ LSl F r0 d0 ∧ LSl F r1 d1 ∧ LSl F rb (bx.map .int) ∧ (∀ d ∈ d0, Rd d) ∧ (∀ d ∈ d1, Rd d) ∧ d0.length ≤ 1000 ∧ d1.length ≤ 1000 ∧ chk2 bx.length d0 d1 e ∧
  PR = (fun r _ => r = .dat .none ∧ False) ∧ PX = (fun cls S' => cls = .ref (T_ck T e) ∧ S' = F)
def R_alone_bad (T : Txt K mg) : Rq := fun as S PR PX => ∃ (r0 rb : Sl) (d0 : List PyData) (bx : List Int) (e : Ck), as = [r0, rb] ∧ LSl S r0 d0 ∧ LSl S rb (bx.map .int) ∧ (∀ d ∈ d0, Rd d) ∧ d0.length ≤ 1000 ∧ chk bx.length d0 = some e ∧
  PR = (fun _ _ => False) ∧ PX = (fun cls S' => cls = .ref (T_ck T e) ∧ S' = S)
def R_rows_bad (T : Txt K mg) : Rq := fun as S PR PX => ∃ (r0 r1 rb : Sl) (d0 d1 : List PyData) (bx : List Int) (e : Ck), as = [r0, r1, rb] ∧ LSl S r0 d0 ∧ LSl S r1 d1 ∧ LSl S rb (bx.map .int) ∧ (∀ d ∈ d0, Rd d) ∧ (∀ d ∈ d1, Rd d) ∧ d0.length ≤ 1000 ∧ d1.length ≤ 1000 ∧ chk2 bx.length d0 d1 e ∧
  PR = (fun _ _ => False) ∧ PX = (fun cls S' => cls = .ref (T_ck T e) ∧ S' = S)
def R_order_bad (T : Txt K mg) : Rq := fun as S PR PX => ∃ (r0 r1 rb ro : Sl) (d0 d1 : List PyData) (bx : List Int) (e : Ck), as = [r0, r1, rb, ro] ∧ LSl S r0 d0 ∧ LSl S r1 d1 ∧ LSl S rb (bx.map .int) ∧ (∀ d ∈ d0, Rd d) ∧ (∀ d ∈ d1, Rd d) ∧ d0.length ≤ 1000 ∧ d1.length ≤ 1000 ∧ chk2 bx.length d0 d1 e ∧
  PR = (fun _ _ => False) ∧ PX = (fun cls S' => cls = .ref (T_ck T e) ∧ S' = S)
end
theorem first_drop {n i : Nat} {ds : List PyData} {d : PyData} (h : ds[i]? = some d) : firstC n (ds.drop i) = (match chkD n d with | some e => some e | none => firstC n (ds.drop (i + 1))) := by
  rw [drop_at h, firstC]
theorem by61 {p : Nat → Prop} {i : Nat} (h : ∀ j, j < 61 → p j) (hi : i < 61) : p i := h i hi
theorem ix_log {i : Nat} (h : i < 61) : (i : Int).natAbs.log2 < 1920 := by
  have : ((i : Int).natAbs).log2 < 10 := log2_lt (by decide) (by omega)
  omega

section
variable {P : Program} {w : World} {K : PySem.W.Frag} {mg : Str → Option Value} {base : Heap}
theorem ok_check_bad (T : Txt K mg) : FnOk P w K mg base (L2N.CX P w) 3 T.f_check_row T.d_check_row ["row", "boxes"] (SpM K (R_check_bad T)) := by
  refine mut_def T.F_check_row sc_check_row (fun as S PR PX h => ?_) (fun cdv A outer s H E H0 Hh ks as S PR PX hr h => ?_)
  · obtain ⟨r0, rb, ds, bx, e, rfl, h0, hb, hrd, hdl, hc, rfl, rfl⟩ := h; rfl
  · obtain ⟨r0, rb, ds, bx, e, rfl, h0, hb, hrd, hdl, hc, rfl, rfl⟩ := h
    refine gss_if (gt_gt (gl_len rfl T.z_len (by decide +kernel) (gls_var (pv 0) rfl h0)) (gd_con (pe_glob rfl T.m_MOST_STEPS T.r_MOST_STEPS) T.c_MOST_STEPS)) (fun h1 => ?_) (fun h1 => gss_nil ?_)
    · have h1 : 60 < ds.length := by have := of_decide_eq_true h1; omega
      have he : e = .tooMany := by unfold chk at hc; rw [if_pos h1] at hc; cases hc; rfl
      subst he
      exact ret_all (gs_raise rfl (L2N.takes_of rfl rfl rfl rfl) PySem.F.excBase_ValueError T.x_TooMany T.g_TooMany T.k_TooMany (raises_own T.s_TooMany T.t_TooMany) rfl (ge_join (.cons gd_str (.cons (gd_fmt (gd_con (pe_glob rfl T.m_MOST_STEPS T.r_MOST_STEPS) T.c_MOST_STEPS) (by decide)) (.cons gd_str .nil))) ⟨by decide +kernel, by decide +kernel, by decide +kernel, trivial⟩) ⟨rfl, rfl⟩)
    have h1 : ¬ 60 < ds.length := by have := of_decide_eq_false h1; omega
    have hc : firstC bx.length ds = some e := by unfold chk at hc; rw [if_neg h1] at hc; exact hc
    refine gss_one (gl_forE .leaving rfl rfl T.z_enumerate (gls_var (pv 0) rfl h0) sc_check_row.nd (j := 2) rfl (by first | exact .inl rfl | exact .inr rfl) (k := 3) rfl (by first | exact .inl rfl | exact .inr rfl) (fun i Γ' S' => S' = S ∧ firstC bx.length (ds.drop i) = some e ∧ ∃ x y, Γ' = [r0, rb, x, y]) ⟨rfl, hc, _, _, rfl⟩ (fun _ _ _ q => q.1) ?_ ?_)
    · rintro i d Γ' S' G hd ⟨rfl, hf, x, y, rfl⟩
      have hdm := List.mem_of_getElem? hd
      have hi : i < 61 := by have := (List.getElem?_eq_some_iff.mp hd).1; omega
      have hok := rd_ok (hrd d hdm)
      rw [first_drop hd] at hf
      refine gss_if (gt_not (gt_val (gd_call (ok_is_step T) (hr.mono (by decide)) rfl T.m_is_step T.F_is_step.kp T.b_is_step pass0 (ga_cons (gd_var (pv 3) rfl) ga_nil) (by (first | exact ⟨_, rfl, hok, rfl⟩ | exact ⟨_, rfl, stp_okD _, rfl⟩))))) (fun h2 => ?_) (fun h2 => gss_nil ?_)
      · have h2 : isStepD d = false := by simpa using h2
        have he : e = .badStep := by
          unfold chkD at hf
          rw [if_neg (by rw [h2]; decide)] at hf
          cases hf; rfl
        subst he
        exact ret_all (gs_raise rfl (L2N.takes_of rfl rfl rfl rfl) PySem.F.excBase_ValueError T.x_BadStep T.g_BadStep T.k_BadStep (raises_own T.s_BadStep T.t_BadStep) rfl (ge_join (.cons gd_str (.cons (gd_fmt (gd_var (pv 2) rfl) (ix_log hi)) (.cons gd_str .nil))) ⟨by decide +kernel, by61 (p := fun i => (Str.empty ++ Str.ofString "number " ++ Str.ofString (toString (i : Int))).length ≤ sizeLine) (by decide +kernel) hi, by61 (p := fun i => (Str.empty ++ Str.ofString "number " ++ Str.ofString (toString (i : Int)) ++ Str.ofString " of the row is no step").length ≤ sizeLine) (by decide +kernel) hi, trivial⟩) ⟨rfl, rfl⟩)
      have h2 : isStepD d = true := by simpa using h2
      obtain ⟨t, rfl, _, _⟩ := rd_step (hrd d hdm) h2
      have hcd : chkD bx.length t.toD = if (t.kd.isBox && !(decide (0 ≤ t.b) && decide (t.b < (bx.length : Int)))) = true then some .badBox else none := by
        unfold chkD
        rw [if_pos h2, boxOut_stp]
      rw [hcd] at hf
      refine gss_one (gs_if (gt_of (gw_and (gt_in rfl (gd_ixT (gd_var (pv 3) rfl) gd_int (by (first | exact q | assumption | exact ixh | exact ixb (by assumption) | exact rfl | (simp only [*]; exact rfl)))) (gd_con (pe_glob rfl T.m_BOX_WORDS T.r_BOX_WORDS) T.c_BOX_WORDS) (by (first | exact rfl | decide)) (by (first | exact rfl | decide))) (fun hh => by first | exact gw_dead (absurd hh (by (first | decide +kernel | (simp only [List.length_cons, List.length_nil, eqv_int]; decide) | (simp only [List.length_cons, List.length_nil, eqv_int, decide_eq_true_eq, decide_eq_false_iff_not]; omega)))) | exact (gw_and1 (gt_not (gt_chain_le_lt gd_int (gd_ixT (gd_var (pv 3) rfl) gd_int (by (first | exact q | assumption | exact ixh | exact ixb (by assumption) | exact rfl | (simp only [*]; exact rfl)))) (fun _ => (gl_len rfl T.z_len (by decide +kernel) (gls_var (pv 1) rfl hb))))))))) (fun h3 => ?_) (fun h3 => gss_nil ⟨rfl, ?_, _, _, rfl⟩))
      · rw [kd_box, List.length_map] at h3
        rw [if_pos h3] at hf
        have he : e = .badBox := by cases hf; rfl
        subst he
        exact gss_one (gs_raise rfl (L2N.takes_of rfl rfl rfl rfl) PySem.F.excBase_ValueError T.x_BadBox T.g_BadBox T.k_BadBox (raises_own T.s_BadBox T.t_BadBox) rfl (ge_join (.cons gd_str (.cons (gd_fmt (gd_var (pv 2) rfl) (ix_log hi)) (.cons gd_str .nil))) ⟨by decide +kernel, by61 (p := fun i => (Str.empty ++ Str.ofString "step " ++ Str.ofString (toString (i : Int))).length ≤ sizeLine) (by decide +kernel) hi, by61 (p := fun i => (Str.empty ++ Str.ofString "step " ++ Str.ofString (toString (i : Int)) ++ Str.ofString " is of a box that is not there").length ≤ sizeLine) (by decide +kernel) hi, trivial⟩) ⟨rfl, rfl⟩)
      · rw [kd_box, List.length_map] at h3
        rw [if_neg (by rw [h3]; decide)] at hf
        exact hf
    · rintro Γ' S' ⟨rfl, hf, _⟩
      rw [List.drop_length] at hf
      cases hf
theorem ok_init_bad (T : Txt K mg) : FnOk P w K mg base (L2N.CX P w) 4 T.f_Loom___init T.d_Loom___init ["self", "ones", "others", "boxes"] (SpM K (R_init_bad T)) := by
  refine mut_def T.F_Loom___init sc_Loom___init (fun as S PR PX h => ?_) (fun cdv A outer s H E H0 Hh ks as S PR PX hr h => ?_)
  · obtain ⟨p, r0, r1, rb, d0, d1, bx, F, e, rfl, rfl, h0, h1, hb, hr0, hr1, hl0, hl1, hc, rfl, rfl⟩ := h; rfl
  · obtain ⟨p, r0, r1, rb, d0, d1, bx, F, e, rfl, rfl, h0, h1, hb, hr0, hr1, hl0, hl1, hc, rfl, rfl⟩ := h
    refine gss_post (R' := fun _ _ => False) (ex' := fun cls _ S' => cls = .ref (T_ck T e) ∧ S' = (p, .obj T.C_Loom []) :: F) ?_ (fun r S' h => h.elim) (fun cls Γ' S' h => ⟨F, by rw [h.2]; exact .skip .refl, h.1, rfl⟩)
    rcases hc with hc | ⟨hc0, hc⟩
    · refine gss_at rfl (List.append_nil _).symm (gss_then ?_)
      refine gs_exprE (ge_mono (ge_call (S1 := (p, .obj T.C_Loom []) :: F) (F := []) (ok_check_bad T) (hr.mono (by decide)) rfl T.m_check_row T.F_check_row.kp T.b_check_row (fun σ => L2N.passAt (L2N.takes_of rfl rfl rfl rfl) σ) (gas_cons (ge_var (pv 1) rfl h0.ne) (gas_cons (ge_var (pv 3) rfl hb.ne) gas_nil)) ⟨_, _, _, bx, e, rfl, h0.cons, hb.cons, hr0, hl0, hc, rfl, rfl⟩) (fun r S' h => ?_) (fun c S' h => ?_))
      · obtain ⟨S1', h, _⟩ := h
        exact h.elim
      · obtain ⟨S1', ⟨rfl, rfl⟩, rfl⟩ := h
        exact ⟨rfl, List.append_nil _⟩
    · obtain ⟨row, rfl, g0, _⟩ := chk_good hr0 hc0
      refine gss_then ?_
      refine gs_exprE (ge_of (gd_callP0 (ok_check_row T) (hr.mono (by decide)) rfl T.m_check_row T.F_check_row.kp T.b_check_row (gas_cons (ge_var (pv 1) rfl h0.ne) (gas_cons (ge_var (pv 3) rfl hb.ne) gas_nil)) ⟨_, _, _, _, rfl, h0.cons, hb.cons, g0, rfl, rfl⟩) ?_)
      refine gss_at rfl (List.append_nil _).symm (gss_then ?_)
      refine gs_exprE (ge_mono (ge_call (S1 := (p, .obj T.C_Loom []) :: F) (F := []) (ok_check_bad T) (hr.mono (by decide)) rfl T.m_check_row T.F_check_row.kp T.b_check_row (fun σ => L2N.passAt (L2N.takes_of rfl rfl rfl rfl) σ) (gas_cons (ge_var (pv 2) rfl h1.ne) (gas_cons (ge_var (pv 3) rfl hb.ne) gas_nil)) ⟨_, _, _, bx, e, rfl, h1.cons, hb.cons, hr1, hl1, hc, rfl, rfl⟩) (fun r S' h => ?_) (fun c S' h => ?_))
      · obtain ⟨S1', h, _⟩ := h
        exact h.elim
      · obtain ⟨S1', ⟨rfl, rfl⟩, rfl⟩ := h
        exact ⟨rfl, List.append_nil _⟩
theorem ok_alone_bad (T : Txt K mg) : FnOk P w K mg base (L2N.CX P w) 6 T.f_alone T.d_alone ["row", "boxes"] (SpM K (R_alone_bad T)) := by
  refine mut_defK T.F_alone sc_alone (fun as S PR PX h => ?_) (fun cdv A outer s H E H0 Hh as S PR PX hr h => ?_)
  · obtain ⟨r0, rb, d0, bx, e, rfl, h0, hb, hr0, hl0, hc, rfl, rfl⟩ := h; rfl
  · obtain ⟨r0, rb, d0, bx, e, rfl, h0, hb, hr0, hl0, hc, rfl, rfl⟩ := h
    refine gss_at rfl (List.append_nil S).symm ?_
    refine gss_then ?_
    refine gs_setE (i := 2) sc_alone.nd rfl (by first | exact .inl rfl | exact .inr rfl) (ge_makeQ (E := E) (S1 := S) (F := []) (PRx := fun _ _ => False) (PXx := fun y cls S' => cls = .ref (T_ck T e) ∧ S' = S) T.M_Loom___init (ok_init_bad T) (hr.mono (by decide)) rfl T.mg_Loom T.b_Loom___init (L2N.passes_call (L2N.takes_of rfl rfl rfl rfl) (fun _ _ _ _ h => h)) (fun cls σ H h => h) (gas_cons (ge_var (pv 0) rfl h0.ne) (gas_cons (gd_lst ga_nil (by decide)) (gas_cons (ge_var (pv 1) rfl hb.ne) gas_nil))) (fun y => ⟨y, _, _, _, d0, [], bx, _, e, rfl, rfl, h0, .inl rfl, hb, hr0, (fun d h => nomatch h), hl0, Nat.zero_le _, .inl hc, rfl, rfl⟩) (fun y S1' hy hp => hp.elim) fun y cls S1' h => ?_)
    obtain ⟨rfl, rfl⟩ := h
    exact ⟨rfl, List.append_nil _⟩
theorem ok_walked_bad (T : Txt K mg) : FnOk P w K mg base (L2N.CX P w) 6 T.f_walked T.d_walked ["ones", "others", "boxes", "order"] (SpM K (R_order_bad T)) := by
  refine mut_defK T.F_walked sc_walked (fun as S PR PX h => ?_) (fun cdv A outer s H E H0 Hh as S PR PX hr h => ?_)
  · obtain ⟨r0, r1, rb, ro, d0, d1, bx, e, rfl, h0, h1, hb, hr0, hr1, hl0, hl1, hc, rfl, rfl⟩ := h; rfl
  · obtain ⟨r0, r1, rb, ro, d0, d1, bx, e, rfl, h0, h1, hb, hr0, hr1, hl0, hl1, hc, rfl, rfl⟩ := h
    refine gss_at rfl (List.append_nil S).symm ?_
    refine gss_then ?_
    refine gs_setE (i := 4) sc_walked.nd rfl (by first | exact .inl rfl | exact .inr rfl) (ge_makeQ (E := E) (S1 := S) (F := []) (PRx := fun _ _ => False) (PXx := fun y cls S' => cls = .ref (T_ck T e) ∧ S' = S) T.M_Loom___init (ok_init_bad T) (hr.mono (by decide)) rfl T.mg_Loom T.b_Loom___init (L2N.passes_call (L2N.takes_of rfl rfl rfl rfl) (fun _ _ _ _ h => h)) (fun cls σ H h => h) (gas_cons (ge_var (pv 0) rfl h0.ne) (gas_cons (ge_var (pv 1) rfl h1.ne) (gas_cons (ge_var (pv 2) rfl hb.ne) gas_nil))) (fun y => ⟨y, _, _, _, d0, d1, bx, _, e, rfl, rfl, h0, h1, hb, hr0, hr1, hl0, hl1, hc, rfl, rfl⟩) (fun y S1' hy hp => hp.elim) fun y cls S1' h => ?_)
    obtain ⟨rfl, rfl⟩ := h
    exact ⟨rfl, List.append_nil _⟩
theorem ok_woven_bad (T : Txt K mg) : FnOk P w K mg base (L2N.CX P w) 6 T.f_woven T.d_woven ["ones", "others", "boxes", "turns"] (SpM K (R_order_bad T)) := by
  refine mut_defK T.F_woven sc_woven (fun as S PR PX h => ?_) (fun cdv A outer s H E H0 Hh as S PR PX hr h => ?_)
  · obtain ⟨r0, r1, rb, ro, d0, d1, bx, e, rfl, h0, h1, hb, hr0, hr1, hl0, hl1, hc, rfl, rfl⟩ := h; rfl
  · obtain ⟨r0, r1, rb, ro, d0, d1, bx, e, rfl, h0, h1, hb, hr0, hr1, hl0, hl1, hc, rfl, rfl⟩ := h
    refine gss_at rfl (List.append_nil S).symm ?_
    refine gss_then ?_
    refine gs_setE (i := 4) sc_woven.nd rfl (by first | exact .inl rfl | exact .inr rfl) (ge_makeQ (E := E) (S1 := S) (F := []) (PRx := fun _ _ => False) (PXx := fun y cls S' => cls = .ref (T_ck T e) ∧ S' = S) T.M_Loom___init (ok_init_bad T) (hr.mono (by decide)) rfl T.mg_Loom T.b_Loom___init (L2N.passes_call (L2N.takes_of rfl rfl rfl rfl) (fun _ _ _ _ h => h)) (fun cls σ H h => h) (gas_cons (ge_var (pv 0) rfl h0.ne) (gas_cons (ge_var (pv 1) rfl h1.ne) (gas_cons (ge_var (pv 2) rfl hb.ne) gas_nil))) (fun y => ⟨y, _, _, _, d0, d1, bx, _, e, rfl, rfl, h0, h1, hb, hr0, hr1, hl0, hl1, hc, rfl, rfl⟩) (fun y S1' hy hp => hp.elim) fun y cls S1' h => ?_)
    obtain ⟨rfl, rfl⟩ := h
    exact ⟨rfl, List.append_nil _⟩
theorem ok_check_rows_bad (T : Txt K mg) : FnOk P w K mg base (L2N.CX P w) 7 T.f_check_rows T.d_check_rows ["ones", "others", "boxes"] (SpM K (R_rows_bad T)) := by
  refine mut_defK T.F_check_rows sc_check_rows (fun as S PR PX h => ?_) (fun cdv A outer s H E H0 Hh as S PR PX hr h => ?_)
  · obtain ⟨r0, r1, rb, d0, d1, bx, e, rfl, h0, h1, hb, hr0, hr1, hl0, hl1, hc, rfl, rfl⟩ := h; rfl
  · obtain ⟨r0, r1, rb, d0, d1, bx, e, rfl, h0, h1, hb, hr0, hr1, hl0, hl1, hc, rfl, rfl⟩ := h
    rcases hc with hc | ⟨hc0, hc⟩
    · refine gss_at rfl (List.append_nil S).symm (gss_then ?_)
      refine gs_exprE (ge_mono (ge_call (S1 := S) (F := []) (ok_check_bad T) (hr.mono (by decide)) rfl T.m_check_row T.F_check_row.kp T.b_check_row (fun σ => L2N.passAt (L2N.takes_of rfl rfl rfl rfl) σ) (gas_cons (ge_var (pv 0) rfl h0.ne) (gas_cons (ge_var (pv 2) rfl hb.ne) gas_nil)) ⟨_, _, _, bx, e, rfl, h0, hb, hr0, hl0, hc, rfl, rfl⟩) (fun r S' h => ?_) (fun c S' h => ?_))
      · obtain ⟨S1', h, _⟩ := h
        exact h.elim
      · obtain ⟨S1', ⟨rfl, rfl⟩, rfl⟩ := h
        exact ⟨rfl, List.append_nil _⟩
    · obtain ⟨row, rfl, g0, _⟩ := chk_good hr0 hc0
      refine gss_then ?_
      refine gs_exprE (ge_of (gd_callP0 (ok_check_row T) (hr.mono (by decide)) rfl T.m_check_row T.F_check_row.kp T.b_check_row (gas_cons (ge_var (pv 0) rfl h0.ne) (gas_cons (ge_var (pv 2) rfl hb.ne) gas_nil)) ⟨_, _, _, _, rfl, h0, hb, g0, rfl, rfl⟩) ?_)
      refine gss_at rfl (List.append_nil S).symm (gss_then ?_)
      refine gs_exprE (ge_mono (ge_call (S1 := S) (F := []) (ok_check_bad T) (hr.mono (by decide)) rfl T.m_check_row T.F_check_row.kp T.b_check_row (fun σ => L2N.passAt (L2N.takes_of rfl rfl rfl rfl) σ) (gas_cons (ge_var (pv 1) rfl h1.ne) (gas_cons (ge_var (pv 2) rfl hb.ne) gas_nil)) ⟨_, _, _, bx, e, rfl, h1, hb, hr1, hl1, hc, rfl, rfl⟩) (fun r S' h => ?_) (fun c S' h => ?_))
      · obtain ⟨S1', h, _⟩ := h
        exact h.elim
      · obtain ⟨S1', ⟨rfl, rfl⟩, rfl⟩ := h
        exact ⟨rfl, List.append_nil _⟩
theorem ok_strange_bad (T : Txt K mg) : FnOk P w K mg base (L2N.CX P w) 12 T.f_strange T.d_strange ["ones", "others", "boxes"] (SpM K (R_rows_bad T)) := by
  refine mut_defK T.F_strange sc_strange (fun as S PR PX h => ?_) (fun cdv A outer s H E H0 Hh as S PR PX hr h => ?_)
  · obtain ⟨r0, r1, rb, d0, d1, bx, e, rfl, h0, h1, hb, hr0, hr1, hl0, hl1, hc, rfl, rfl⟩ := h; rfl
  · obtain ⟨r0, r1, rb, d0, d1, bx, e, rfl, h0, h1, hb, hr0, hr1, hl0, hl1, hc, rfl, rfl⟩ := h
    refine gss_at rfl (List.append_nil S).symm (gss_then ?_)
    refine gs_exprE (ge_mono (ge_call (S1 := S) (F := []) (ok_check_rows_bad T) (hr.mono (by decide)) rfl T.m_check_rows T.F_check_rows.kp T.b_check_rows (fun σ => L2N.passAt (L2N.takes_of rfl rfl rfl rfl) σ) (gas_cons (ge_var (pv 0) rfl h0.ne) (gas_cons (ge_var (pv 1) rfl h1.ne) (gas_cons (ge_var (pv 2) rfl hb.ne) gas_nil))) ⟨_, _, _, d0, d1, bx, e, rfl, h0, h1, hb, hr0, hr1, hl0, hl1, hc, rfl, rfl⟩) (fun r S' h => ?_) (fun c S' h => ?_))
    · obtain ⟨S1', h, _⟩ := h
      exact h.elim
    · obtain ⟨S1', ⟨rfl, rfl⟩, rfl⟩ := h
      exact ⟨rfl, List.append_nil _⟩
end

/-! ### rows without the guard -/
def NGd (d : PyData) : Prop := ∀ t : Stp, d = t.toD → t.kd.isGuard = false
def NG (row : List Stp) : Prop := ∀ t ∈ row, t.kd.isGuard = false
theorem ng_of {row : List Stp} (h : ∀ d ∈ row.map Stp.toD, NGd d) : NG row := fun t ht => h _ (List.mem_map.mpr ⟨t, ht, rfl⟩) t rfl
theorem solo_ng : ∀ (r : List Stp) (s : LSt), NG r → (solo s r).1 = none
  | [], _, _ => rfl
  | t :: r, s, h => by
    have hk := h t List.mem_cons_self
    have he : s.err1 t = none := by
      unfold LSt.err1
      have h1 : t.kd ≠ .take := fun z => by rw [z] at hk; cases hk
      have h2 : t.kd ≠ .free := fun z => by rw [z] at hk; cases hk
      rw [if_neg (fun z => h1 z.1), if_neg (fun z => h2 z.1)]
    rw [solo_ok he]
    exact solo_ng r _ fun u hu => h u (List.mem_cons_of_mem _ hu)
structure NGs (s : LSt) : Prop where
  h : s.h = none
  r : ∀ b, NG (s.row b)
theorem ng_next {s : LSt} {b : Bool} (w : Wf s) (g : NGs s) (ho : s.over b = false) : (s.next b).kd.isGuard = false := g.r b _ (next_mem w ho)
theorem ng_err {s : LSt} {b : Bool} (w : Wf s) (g : NGs s) (ho : s.over b = false) : s.err b = none := by
  have hk := ng_next w g ho
  have h1 : (s.next b).kd ≠ .take := fun z => by rw [z] at hk; cases hk
  have h2 : (s.next b).kd ≠ .free := fun z => by rw [z] at hk; cases hk
  unfold LSt.err LSt.waits
  rw [ho]
  simp [h1, h2]
theorem ng_can {s : LSt} {b : Bool} (g : NGs s) : s.can b = !s.over b := by
  unfold LSt.can LSt.waits
  rw [g.h]
  cases s.over b <;> simp
theorem ng_done {s : LSt} {b : Bool} (w : Wf s) (g : NGs s) (ho : s.over b = false) : NGs (s.done b) := ⟨by rw [done_hold s b (ng_next w g ho)]; exact g.h, fun c => by rw [done_row]; exact g.r c⟩
theorem far_ng : ∀ (n : Nat) (s : LSt) (b : Bool) (o : List Bool), Wf s → NGs s → s.rem + 1 ≤ n → ∃ s' o', far n s b o = (none, s', o') ∧ Wf s' ∧ NGs s' ∧ s'.over b = true ∧ s'.over (!b) = s.over (!b)
  | 0, _, _, _, _, _, h => absurd h (by omega)
  | n + 1, s, b, o, w, g, hn => by
    cases ho : s.over b with
    | true => exact ⟨s, o, far_no (by rw [ng_can g, ho]; rfl), w, g, ho, rfl⟩
    | false =>
      have he := ng_err w g ho
      have hr := done_rem w ho
      obtain ⟨s', o', h1, h2, h3, h4, h5⟩ := far_ng n (s.done b) b (o ++ [b]) (w.done he) (ng_done w g ho) (by omega)
      exact ⟨s', o', (far_ok he).trans h1, h2, h3, h4, by rw [h5, done_over]⟩
theorem weave_ng {s : LSt} (w : Wf s) (g : NGs s) : ∃ s' o', weaveR s [] = .ok s' o' := by
  obtain ⟨k, hk⟩ : ∃ k, 3 + 2 * s.r0.length + 2 * s.r1.length = k + 2 := ⟨1 + 2 * s.r0.length + 2 * s.r1.length, by omega⟩
  have e : weaveR s [] = fin (k + 2) s false [] := by
    rw [← hk]; rfl
  obtain ⟨s1, o1, h1, w1, g1, v1, _⟩ := far_ng (s.rem + 1) s false [] w g (Nat.le_refl _)
  obtain ⟨s2, o2, h2, w2, g2, v2, v3⟩ := far_ng (s1.rem + 1) s1 true o1 w1 g1 (Nat.le_refl _)
  have v3 : s2.over false = true := v3.trans v1
  refine ⟨s2, o2, ?_⟩
  rw [e, fin_go h1]
  show fin (k + 1) s1 true o1 = _
  rw [fin_go h2]
  rw [fin_stop (by rw [ng_can g2, v3]; rfl) (by rw [ng_can g2, v2]; rfl)]
  unfold outc
  rw [v2, v3]; rfl
theorem ng_start {r0 r1 : List Stp} {bx : List Int} (h0 : NG r0) (h1 : NG r1) : NGs (startL r0 r1 bx) := ⟨rfl, fun b => by
  cases b
  · exact h0
  · exact h1⟩
/-- what is told of two rows: whose promise is asked for -/
def verd (wh : Int) (n : Nat) (d0 d1 : List PyData) : Option Ck := match chk n d0 with
  | some e => some e
  | none => if wh = 0 then none else match chk n d1 with
    | some e => some e
    | none => if wh = 3 ∧ (5 < d0.length ∨ 5 < d1.length) then some .tooMany else none
theorem verd_1 {wh : Int} {n : Nat} {d0 d1 : List PyData} {e : Ck} (h : chk n d0 = some e) : verd wh n d0 d1 = some e := by
  unfold verd; rw [h]
theorem verd_0 {n : Nat} {d0 d1 : List PyData} (h : chk n d0 = none) : verd 0 n d0 d1 = none := by
  unfold verd; rw [h]; rfl
theorem verd_2 {wh : Int} {n : Nat} {d0 d1 : List PyData} {e : Ck} (hw : wh ≠ 0) (h : chk n d0 = none) (h1 : chk n d1 = some e) : verd wh n d0 d1 = some e := by
  unfold verd; rw [h]; simp only [if_neg hw, h1]
theorem verd_n {wh : Int} {n : Nat} {d0 d1 : List PyData} (hw : wh ≠ 0) (h : chk n d0 = none) (h1 : chk n d1 = none) : verd wh n d0 d1 = if wh = 3 ∧ (5 < d0.length ∨ 5 < d1.length) then some .tooMany else none := by
  unfold verd; rw [h]; simp only [if_neg hw, h1]
section
variable {K : PySem.W.Frag} {mg : Str → Option Value}
def AskOk (wh : Int) (d0 d1 : List PyData) (bx : List Int) (o : List Bool) : Prop := 0 ≤ wh ∧ wh ≤ 4 ∧ (∀ d ∈ d0, Rd d) ∧ (∀ d ∈ d1, Rd d) ∧ d0.length ≤ 1000 ∧ d1.length ≤ 1000 ∧ (∀ x ∈ bx, x.natAbs < 2 ^ 200) ∧ (verd wh bx.length d0 d1 = none → (∀ d ∈ d0, NGd d) ∧ (∀ d ∈ d1, NGd d) ∧ o = [])
def R_l_asked (T : Txt K mg) : Rq := fun as S PR PX => ∃ (wh : Int) (d0 d1 : List PyData) (bx : List Int) (o : List Bool), as = [.dat (.int wh), .dat (.list d0), .dat (.list d1), .dat (.list (bx.map .int)), .dat (.list (handsD o))] ∧ S = [] ∧ AskOk wh d0 d1 bx o ∧
  PR = (fun _ _ => verd wh bx.length d0 d1 = none) ∧ PX = (fun cls S' => ∃ e, verd wh bx.length d0 d1 = some e ∧ cls = .ref (T_ck T e) ∧ S' = [])
def R_l_names (T : Txt K mg) : Value → PyData → Prop := fun cls d => ∃ e : Ck, cls = .ref (T_ck T e) ∧ d = .str e.word
def R_l_told (T : Txt K mg) : Rq := fun as S PR PX => ∃ (wh kd : Int) (d0 d1 : List PyData) (bx : List Int) (o : List Bool), as = [.dat (.int wh), .dat (.list d0), .dat (.list d1), .dat (.list (bx.map .int)), .dat (.int kd), .dat (.list (handsD o))] ∧ S = [] ∧ AskOk wh d0 d1 bx o ∧
  PR = same [] (.str (ckW (verd wh bx.length d0 d1))) ∧ PX = noX
end
theorem hot_in {A : Around} {n : Nat} (room : Room n A) (q : Option Value) : L2H.RoomH n (A.mark q) := { dp := room.dp, un := room.un }
theorem hot_of {A : Around} {a : Addr} {oe : Obj} {cls : Value} (hz : L2N.Zn cls none oe) (hd : ∃ v, oe.data = .fields v) : L2H.Hot1 (A.mark (some (.ref a))) (a, oe) := by
  obtain ⟨v, hv⟩ := hd
  exact ⟨rfl, v, hv, hz.2.2 v hv⟩

section
variable {P : Program} {w : World} {K : PySem.W.Frag} {mg : Str → Option Value} {base : Heap}
theorem sc_l_asked : FnScope ["_law_which", "_law_ones", "_law_others", "_law_boxes", "_law_order"] ["_law_which", "_law_ones", "_law_others", "_law_boxes", "_law_order"] (defScope s_l_asked) := ⟨rfl, rfl, rfl, by decide +kernel, rfl, by decide +kernel, by decide +kernel⟩
theorem ok_l_asked (T : Txt K mg) : FnOk P w K mg base (L2N.CX P w) 13 T.f_l_asked T.d_l_asked ["_law_which", "_law_ones", "_law_others", "_law_boxes", "_law_order"] (SpM K (R_l_asked T)) := by
  refine mut_defK T.F_l_asked sc_l_asked (fun as S PR PX h => ?_) (fun cdv A outer s H E H0 Hh as S PR PX hr h => ?_)
  · obtain ⟨wh, d0, d1, bx, o, rfl, rfl, ⟨hw0, hw4, hr0, hr1, hl0, hl1, hbx, hng⟩, rfl, rfl⟩ := h; rfl
  · obtain ⟨wh, d0, d1, bx, o, rfl, rfl, ⟨hw0, hw4, hr0, hr1, hl0, hl1, hbx, hng⟩, rfl, rfl⟩ := h
    rcases (show wh = 0 ∨ wh = 1 ∨ wh = 2 ∨ wh = 3 ∨ wh = 4 by omega) with rfl | rfl | rfl | rfl | rfl
    · refine gss_if (gt_eq hr.units (gd_var (pv 0) rfl) gd_int (by (first | exact ckw_sh _ | exact sh | exact kd_shaped _ | exact shaped_int _ | exact shaped_bool _ | exact shaped_none | assumption | exact shaped_ints _ | exact shaped_str (by decide +kernel) | exact rfl | decide +kernel)) (by (first | exact ckw_sh _ | exact sh | exact kd_shaped _ | exact shaped_int _ | exact shaped_bool _ | exact shaped_none | assumption | exact shaped_ints _ | exact shaped_str (by decide +kernel) | exact rfl | decide +kernel))) (fun _ => ?_) (fun h => absurd h (by simp [eqv_int]))
      rcases hc : chk bx.length d0 with _ | e
      · obtain ⟨row, rfl, g0, a0⟩ := chk_good hr0 hc
        have hB1 : Bnd 200 (startL row [] bx) := ⟨(by decide : (0 : Int).natAbs < 2 ^ 200), (by decide : (0 : Int).natAbs < 2 ^ 200), hbx, a0, fun t h => nomatch h⟩
        have hv := verd_0 (d1 := d1) hc
        have n0 := ng_of (hng hv).1
        exact ret_all (gs_retE (ge_mono (ge_call (S1 := []) (F := []) (ok_alone T) (hr.mono (by decide)) rfl T.m_alone T.F_alone.kp T.b_alone (fun σ => L2N.passAt (L2N.takes_of rfl rfl rfl rfl) σ) (gas_cons (r := .dat _) (gd_var (pv 1) rfl) (gas_cons (r := .dat _) (gd_var (pv 3) rfl) gas_nil)) ⟨_, _, row, bx, rfl, .inl rfl, .inl rfl, g0, hB1, rfl, rfl⟩) (fun r S' _ => hv) (fun cls S' ⟨_, ⟨e, h, _⟩, _⟩ => by rw [solo_ng _ _ n0] at h; cases h)))
      · exact ret_all (gs_retE (ge_mono (ge_call (S1 := []) (F := []) (ok_alone_bad T) (hr.mono (by decide)) rfl T.m_alone T.F_alone.kp T.b_alone (fun σ => L2N.passAt (L2N.takes_of rfl rfl rfl rfl) σ) (gas_cons (r := .dat _) (gd_var (pv 1) rfl) (gas_cons (r := .dat _) (gd_var (pv 3) rfl) gas_nil)) ⟨_, _, d0, bx, e, rfl, .inl rfl, .inl rfl, hr0, hl0, hc, rfl, rfl⟩) (fun r S' ⟨_, h, _⟩ => h.elim) (fun cls S' ⟨S1', ⟨h1, h2⟩, h3⟩ => ⟨e, verd_1 hc, h1, by rw [h3, h2]; rfl⟩)))
    · refine gss_if (gt_eq hr.units (gd_var (pv 0) rfl) gd_int (by (first | exact ckw_sh _ | exact sh | exact kd_shaped _ | exact shaped_int _ | exact shaped_bool _ | exact shaped_none | assumption | exact shaped_ints _ | exact shaped_str (by decide +kernel) | exact rfl | decide +kernel)) (by (first | exact ckw_sh _ | exact sh | exact kd_shaped _ | exact shaped_int _ | exact shaped_bool _ | exact shaped_none | assumption | exact shaped_ints _ | exact shaped_str (by decide +kernel) | exact rfl | decide +kernel))) (fun h => absurd h (by simp [eqv_int])) (fun _ => gss_nil ?_)
      refine gss_if (gt_eq hr.units (gd_var (pv 0) rfl) gd_int (by (first | exact ckw_sh _ | exact sh | exact kd_shaped _ | exact shaped_int _ | exact shaped_bool _ | exact shaped_none | assumption | exact shaped_ints _ | exact shaped_str (by decide +kernel) | exact rfl | decide +kernel)) (by (first | exact ckw_sh _ | exact sh | exact kd_shaped _ | exact shaped_int _ | exact shaped_bool _ | exact shaped_none | assumption | exact shaped_ints _ | exact shaped_str (by decide +kernel) | exact rfl | decide +kernel))) (fun _ => ?_) (fun h => absurd h (by simp [eqv_int]))
      rcases hc0 : chk bx.length d0 with _ | e
      · rcases hc1 : chk bx.length d1 with _ | e
        · obtain ⟨row, rfl, g0, a0⟩ := chk_good hr0 hc0
          obtain ⟨row1, rfl, g1, a1⟩ := chk_good hr1 hc1
          have hB : Bnd 200 (startL row row1 bx) := ⟨(by decide : (0 : Int).natAbs < 2 ^ 200), (by decide : (0 : Int).natAbs < 2 ^ 200), hbx, a0, a1⟩
          have hv : verd 1 bx.length (row.map Stp.toD) (row1.map Stp.toD) = none := by rw [verd_n (by decide) hc0 hc1, if_neg (fun z => absurd z.1 (by decide))]
          obtain ⟨n0, n1, rfl⟩ := hng hv
          have n0 := ng_of n0
          have n1 := ng_of n1
          exact ret_all (gs_retE (ge_mono (ge_call (S1 := []) (F := []) (ok_walked T) (hr.mono (by decide)) rfl T.m_walked T.F_walked.kp T.b_walked (fun σ => L2N.passAt (L2N.takes_of rfl rfl rfl rfl) σ) (gas_cons (r := .dat _) (gd_var (pv 1) rfl) (gas_cons (r := .dat _) (gd_var (pv 2) rfl) (gas_cons (r := .dat _) (gd_var (pv 3) rfl) (gas_cons (r := .dat _) (gd_var (pv 4) rfl) gas_nil)))) ⟨_, _, _, _, row, row1, bx, [], rfl, .inl rfl, .inl rfl, .inl rfl, .inl rfl, g0, g1, hB, Nat.zero_le _, rfl, rfl⟩) (fun r S' _ => hv) (fun cls S' ⟨_, ⟨e, h, _⟩, _⟩ => by cases h)))
        · have hc : chk2 bx.length d0 d1 e := .inr ⟨hc0, hc1⟩
          exact ret_all (gs_retE (ge_mono (ge_call (S1 := []) (F := []) (ok_walked_bad T) (hr.mono (by decide)) rfl T.m_walked T.F_walked.kp T.b_walked (fun σ => L2N.passAt (L2N.takes_of rfl rfl rfl rfl) σ) (gas_cons (r := .dat _) (gd_var (pv 1) rfl) (gas_cons (r := .dat _) (gd_var (pv 2) rfl) (gas_cons (r := .dat _) (gd_var (pv 3) rfl) (gas_cons (r := .dat _) (gd_var (pv 4) rfl) gas_nil)))) ⟨_, _, _, _, d0, d1, bx, e, rfl, .inl rfl, .inl rfl, .inl rfl, hr0, hr1, hl0, hl1, hc, rfl, rfl⟩) (fun r S' ⟨_, h, _⟩ => h.elim) (fun cls S' ⟨S1', ⟨h1, h2⟩, h3⟩ => ⟨e, verd_2 (by decide) hc0 hc1, h1, by rw [h3, h2]; rfl⟩)))
      · have hc : chk2 bx.length d0 d1 e := .inl hc0
        exact ret_all (gs_retE (ge_mono (ge_call (S1 := []) (F := []) (ok_walked_bad T) (hr.mono (by decide)) rfl T.m_walked T.F_walked.kp T.b_walked (fun σ => L2N.passAt (L2N.takes_of rfl rfl rfl rfl) σ) (gas_cons (r := .dat _) (gd_var (pv 1) rfl) (gas_cons (r := .dat _) (gd_var (pv 2) rfl) (gas_cons (r := .dat _) (gd_var (pv 3) rfl) (gas_cons (r := .dat _) (gd_var (pv 4) rfl) gas_nil)))) ⟨_, _, _, _, d0, d1, bx, e, rfl, .inl rfl, .inl rfl, .inl rfl, hr0, hr1, hl0, hl1, hc, rfl, rfl⟩) (fun r S' ⟨_, h, _⟩ => h.elim) (fun cls S' ⟨S1', ⟨h1, h2⟩, h3⟩ => ⟨e, verd_1 hc0, h1, by rw [h3, h2]; rfl⟩)))
    · refine gss_if (gt_eq hr.units (gd_var (pv 0) rfl) gd_int (by (first | exact ckw_sh _ | exact sh | exact kd_shaped _ | exact shaped_int _ | exact shaped_bool _ | exact shaped_none | assumption | exact shaped_ints _ | exact shaped_str (by decide +kernel) | exact rfl | decide +kernel)) (by (first | exact ckw_sh _ | exact sh | exact kd_shaped _ | exact shaped_int _ | exact shaped_bool _ | exact shaped_none | assumption | exact shaped_ints _ | exact shaped_str (by decide +kernel) | exact rfl | decide +kernel))) (fun h => absurd h (by simp [eqv_int])) (fun _ => gss_nil ?_)
      refine gss_if (gt_eq hr.units (gd_var (pv 0) rfl) gd_int (by (first | exact ckw_sh _ | exact sh | exact kd_shaped _ | exact shaped_int _ | exact shaped_bool _ | exact shaped_none | assumption | exact shaped_ints _ | exact shaped_str (by decide +kernel) | exact rfl | decide +kernel)) (by (first | exact ckw_sh _ | exact sh | exact kd_shaped _ | exact shaped_int _ | exact shaped_bool _ | exact shaped_none | assumption | exact shaped_ints _ | exact shaped_str (by decide +kernel) | exact rfl | decide +kernel))) (fun h => absurd h (by simp [eqv_int])) (fun _ => gss_nil ?_)
      refine gss_if (gt_eq hr.units (gd_var (pv 0) rfl) gd_int (by (first | exact ckw_sh _ | exact sh | exact kd_shaped _ | exact shaped_int _ | exact shaped_bool _ | exact shaped_none | assumption | exact shaped_ints _ | exact shaped_str (by decide +kernel) | exact rfl | decide +kernel)) (by (first | exact ckw_sh _ | exact sh | exact kd_shaped _ | exact shaped_int _ | exact shaped_bool _ | exact shaped_none | assumption | exact shaped_ints _ | exact shaped_str (by decide +kernel) | exact rfl | decide +kernel))) (fun _ => ?_) (fun h => absurd h (by simp [eqv_int]))
      rcases hc0 : chk bx.length d0 with _ | e
      · rcases hc1 : chk bx.length d1 with _ | e
        · obtain ⟨row, rfl, g0, a0⟩ := chk_good hr0 hc0
          obtain ⟨row1, rfl, g1, a1⟩ := chk_good hr1 hc1
          have hB : Bnd 200 (startL row row1 bx) := ⟨(by decide : (0 : Int).natAbs < 2 ^ 200), (by decide : (0 : Int).natAbs < 2 ^ 200), hbx, a0, a1⟩
          have hv : verd 2 bx.length (row.map Stp.toD) (row1.map Stp.toD) = none := by rw [verd_n (by decide) hc0 hc1, if_neg (fun z => absurd z.1 (by decide))]
          obtain ⟨n0, n1, rfl⟩ := hng hv
          have n0 := ng_of n0
          have n1 := ng_of n1
          exact ret_all (gs_retE (ge_mono (ge_call (S1 := []) (F := []) (ok_woven T) (hr.mono (by decide)) rfl T.m_woven T.F_woven.kp T.b_woven (fun σ => L2N.passAt (L2N.takes_of rfl rfl rfl rfl) σ) (gas_cons (r := .dat _) (gd_var (pv 1) rfl) (gas_cons (r := .dat _) (gd_var (pv 2) rfl) (gas_cons (r := .dat _) (gd_var (pv 3) rfl) (gas_cons (r := .dat _) (gd_var (pv 4) rfl) gas_nil)))) ⟨_, _, _, _, row, row1, bx, [], rfl, .inl rfl, .inl rfl, .inl rfl, .inl rfl, g0, g1, hB, rfl, rfl⟩) (fun r S' _ => hv) (fun cls S' ⟨_, ⟨e, h, _⟩, _⟩ => by obtain ⟨s', o', hw⟩ := weave_ng (wf_start g0 g1) (ng_start (bx := bx) n0 n1); rw [hw] at h; cases h)))
        · have hc : chk2 bx.length d0 d1 e := .inr ⟨hc0, hc1⟩
          exact ret_all (gs_retE (ge_mono (ge_call (S1 := []) (F := []) (ok_woven_bad T) (hr.mono (by decide)) rfl T.m_woven T.F_woven.kp T.b_woven (fun σ => L2N.passAt (L2N.takes_of rfl rfl rfl rfl) σ) (gas_cons (r := .dat _) (gd_var (pv 1) rfl) (gas_cons (r := .dat _) (gd_var (pv 2) rfl) (gas_cons (r := .dat _) (gd_var (pv 3) rfl) (gas_cons (r := .dat _) (gd_var (pv 4) rfl) gas_nil)))) ⟨_, _, _, _, d0, d1, bx, e, rfl, .inl rfl, .inl rfl, .inl rfl, hr0, hr1, hl0, hl1, hc, rfl, rfl⟩) (fun r S' ⟨_, h, _⟩ => h.elim) (fun cls S' ⟨S1', ⟨h1, h2⟩, h3⟩ => ⟨e, verd_2 (by decide) hc0 hc1, h1, by rw [h3, h2]; rfl⟩)))
      · have hc : chk2 bx.length d0 d1 e := .inl hc0
        exact ret_all (gs_retE (ge_mono (ge_call (S1 := []) (F := []) (ok_woven_bad T) (hr.mono (by decide)) rfl T.m_woven T.F_woven.kp T.b_woven (fun σ => L2N.passAt (L2N.takes_of rfl rfl rfl rfl) σ) (gas_cons (r := .dat _) (gd_var (pv 1) rfl) (gas_cons (r := .dat _) (gd_var (pv 2) rfl) (gas_cons (r := .dat _) (gd_var (pv 3) rfl) (gas_cons (r := .dat _) (gd_var (pv 4) rfl) gas_nil)))) ⟨_, _, _, _, d0, d1, bx, e, rfl, .inl rfl, .inl rfl, .inl rfl, hr0, hr1, hl0, hl1, hc, rfl, rfl⟩) (fun r S' ⟨_, h, _⟩ => h.elim) (fun cls S' ⟨S1', ⟨h1, h2⟩, h3⟩ => ⟨e, verd_1 hc0, h1, by rw [h3, h2]; rfl⟩)))
    · refine gss_if (gt_eq hr.units (gd_var (pv 0) rfl) gd_int (by (first | exact ckw_sh _ | exact sh | exact kd_shaped _ | exact shaped_int _ | exact shaped_bool _ | exact shaped_none | assumption | exact shaped_ints _ | exact shaped_str (by decide +kernel) | exact rfl | decide +kernel)) (by (first | exact ckw_sh _ | exact sh | exact kd_shaped _ | exact shaped_int _ | exact shaped_bool _ | exact shaped_none | assumption | exact shaped_ints _ | exact shaped_str (by decide +kernel) | exact rfl | decide +kernel))) (fun h => absurd h (by simp [eqv_int])) (fun _ => gss_nil ?_)
      refine gss_if (gt_eq hr.units (gd_var (pv 0) rfl) gd_int (by (first | exact ckw_sh _ | exact sh | exact kd_shaped _ | exact shaped_int _ | exact shaped_bool _ | exact shaped_none | assumption | exact shaped_ints _ | exact shaped_str (by decide +kernel) | exact rfl | decide +kernel)) (by (first | exact ckw_sh _ | exact sh | exact kd_shaped _ | exact shaped_int _ | exact shaped_bool _ | exact shaped_none | assumption | exact shaped_ints _ | exact shaped_str (by decide +kernel) | exact rfl | decide +kernel))) (fun h => absurd h (by simp [eqv_int])) (fun _ => gss_nil ?_)
      refine gss_if (gt_eq hr.units (gd_var (pv 0) rfl) gd_int (by (first | exact ckw_sh _ | exact sh | exact kd_shaped _ | exact shaped_int _ | exact shaped_bool _ | exact shaped_none | assumption | exact shaped_ints _ | exact shaped_str (by decide +kernel) | exact rfl | decide +kernel)) (by (first | exact ckw_sh _ | exact sh | exact kd_shaped _ | exact shaped_int _ | exact shaped_bool _ | exact shaped_none | assumption | exact shaped_ints _ | exact shaped_str (by decide +kernel) | exact rfl | decide +kernel))) (fun h => absurd h (by simp [eqv_int])) (fun _ => gss_nil ?_)
      refine gss_if (gt_eq hr.units (gd_var (pv 0) rfl) gd_int (by (first | exact ckw_sh _ | exact sh | exact kd_shaped _ | exact shaped_int _ | exact shaped_bool _ | exact shaped_none | assumption | exact shaped_ints _ | exact shaped_str (by decide +kernel) | exact rfl | decide +kernel)) (by (first | exact ckw_sh _ | exact sh | exact kd_shaped _ | exact shaped_int _ | exact shaped_bool _ | exact shaped_none | assumption | exact shaped_ints _ | exact shaped_str (by decide +kernel) | exact rfl | decide +kernel))) (fun _ => ?_) (fun h => absurd h (by simp [eqv_int]))
      rcases hc0 : chk bx.length d0 with _ | e
      · rcases hc1 : chk bx.length d1 with _ | e
        · obtain ⟨row, rfl, g0, a0⟩ := chk_good hr0 hc0
          obtain ⟨row1, rfl, g1, a1⟩ := chk_good hr1 hc1
          have hB : Bnd 200 (startL row row1 bx) := ⟨(by decide : (0 : Int).natAbs < 2 ^ 200), (by decide : (0 : Int).natAbs < 2 ^ 200), hbx, a0, a1⟩
          by_cases hl : 5 < row.length ∨ 5 < row1.length
          · have hv : verd 3 bx.length (row.map Stp.toD) (row1.map Stp.toD) = some .tooMany := by rw [verd_n (by decide) hc0 hc1, List.length_map, List.length_map, if_pos ⟨rfl, hl⟩]
            refine ret_all (gs_retE (ge_mono (ge_call (S1 := []) (F := []) (ok_strange T) (hr.mono (by decide)) rfl T.m_strange T.F_strange.kp T.b_strange (fun σ => L2N.passAt (L2N.takes_of rfl rfl rfl rfl) σ) (gas_cons (r := .dat _) (gd_var (pv 1) rfl) (gas_cons (r := .dat _) (gd_var (pv 2) rfl) (gas_cons (r := .dat _) (gd_var (pv 3) rfl) gas_nil))) ⟨_, _, _, row, row1, bx, rfl, .inl rfl, .inl rfl, .inl rfl, g0, g1, hB, rfl, rfl⟩) (fun r S' ⟨_, ⟨h, _⟩, _⟩ => absurd h (fun z => by have := z.1; have := z.2.1; omega)) (fun cls S' ⟨S1', ⟨h1, h2⟩, h3⟩ => ?_)))
            rcases h1 with ⟨_, h1⟩ | ⟨h4, h5, _⟩
            · exact ⟨.tooMany, hv, h1, by rw [h3, h2]; rfl⟩
            · omega
          · have hv : verd 3 bx.length (row.map Stp.toD) (row1.map Stp.toD) = none := by rw [verd_n (by decide) hc0 hc1, List.length_map, List.length_map, if_neg (fun z => hl z.2)]
            obtain ⟨n0, n1, rfl⟩ := hng hv
            have n0 := ng_of n0
            have n1 := ng_of n1
            refine ret_all (gs_retE (ge_mono (ge_call (S1 := []) (F := []) (ok_strange T) (hr.mono (by decide)) rfl T.m_strange T.F_strange.kp T.b_strange (fun σ => L2N.passAt (L2N.takes_of rfl rfl rfl rfl) σ) (gas_cons (r := .dat _) (gd_var (pv 1) rfl) (gas_cons (r := .dat _) (gd_var (pv 2) rfl) (gas_cons (r := .dat _) (gd_var (pv 3) rfl) gas_nil))) ⟨_, _, _, row, row1, bx, rfl, .inl rfl, .inl rfl, .inl rfl, g0, g1, hB, rfl, rfl⟩) (fun r S' _ => hv) (fun cls S' ⟨S1', ⟨h1, h2⟩, h3⟩ => ?_)))
            rcases h1 with ⟨h1, _⟩ | ⟨_, _, e, h1 | ⟨_, h1⟩, _⟩
            · exact absurd h1 hl
            · rw [solo_ng _ _ n0] at h1; cases h1
            · rw [solo_ng _ _ n1] at h1; cases h1
        · have hc : chk2 bx.length d0 d1 e := .inr ⟨hc0, hc1⟩
          exact ret_all (gs_retE (ge_mono (ge_call (S1 := []) (F := []) (ok_strange_bad T) (hr.mono (by decide)) rfl T.m_strange T.F_strange.kp T.b_strange (fun σ => L2N.passAt (L2N.takes_of rfl rfl rfl rfl) σ) (gas_cons (r := .dat _) (gd_var (pv 1) rfl) (gas_cons (r := .dat _) (gd_var (pv 2) rfl) (gas_cons (r := .dat _) (gd_var (pv 3) rfl) gas_nil))) ⟨_, _, _, d0, d1, bx, e, rfl, .inl rfl, .inl rfl, .inl rfl, hr0, hr1, hl0, hl1, hc, rfl, rfl⟩) (fun r S' ⟨_, h, _⟩ => h.elim) (fun cls S' ⟨S1', ⟨h1, h2⟩, h3⟩ => ⟨e, verd_2 (by decide) hc0 hc1, h1, by rw [h3, h2]; rfl⟩)))
      · have hc : chk2 bx.length d0 d1 e := .inl hc0
        exact ret_all (gs_retE (ge_mono (ge_call (S1 := []) (F := []) (ok_strange_bad T) (hr.mono (by decide)) rfl T.m_strange T.F_strange.kp T.b_strange (fun σ => L2N.passAt (L2N.takes_of rfl rfl rfl rfl) σ) (gas_cons (r := .dat _) (gd_var (pv 1) rfl) (gas_cons (r := .dat _) (gd_var (pv 2) rfl) (gas_cons (r := .dat _) (gd_var (pv 3) rfl) gas_nil))) ⟨_, _, _, d0, d1, bx, e, rfl, .inl rfl, .inl rfl, .inl rfl, hr0, hr1, hl0, hl1, hc, rfl, rfl⟩) (fun r S' ⟨_, h, _⟩ => h.elim) (fun cls S' ⟨S1', ⟨h1, h2⟩, h3⟩ => ⟨e, verd_1 hc0, h1, by rw [h3, h2]; rfl⟩)))
    · refine gss_if (gt_eq hr.units (gd_var (pv 0) rfl) gd_int (by (first | exact ckw_sh _ | exact sh | exact kd_shaped _ | exact shaped_int _ | exact shaped_bool _ | exact shaped_none | assumption | exact shaped_ints _ | exact shaped_str (by decide +kernel) | exact rfl | decide +kernel)) (by (first | exact ckw_sh _ | exact sh | exact kd_shaped _ | exact shaped_int _ | exact shaped_bool _ | exact shaped_none | assumption | exact shaped_ints _ | exact shaped_str (by decide +kernel) | exact rfl | decide +kernel))) (fun h => absurd h (by simp [eqv_int])) (fun _ => gss_nil ?_)
      refine gss_if (gt_eq hr.units (gd_var (pv 0) rfl) gd_int (by (first | exact ckw_sh _ | exact sh | exact kd_shaped _ | exact shaped_int _ | exact shaped_bool _ | exact shaped_none | assumption | exact shaped_ints _ | exact shaped_str (by decide +kernel) | exact rfl | decide +kernel)) (by (first | exact ckw_sh _ | exact sh | exact kd_shaped _ | exact shaped_int _ | exact shaped_bool _ | exact shaped_none | assumption | exact shaped_ints _ | exact shaped_str (by decide +kernel) | exact rfl | decide +kernel))) (fun h => absurd h (by simp [eqv_int])) (fun _ => gss_nil ?_)
      refine gss_if (gt_eq hr.units (gd_var (pv 0) rfl) gd_int (by (first | exact ckw_sh _ | exact sh | exact kd_shaped _ | exact shaped_int _ | exact shaped_bool _ | exact shaped_none | assumption | exact shaped_ints _ | exact shaped_str (by decide +kernel) | exact rfl | decide +kernel)) (by (first | exact ckw_sh _ | exact sh | exact kd_shaped _ | exact shaped_int _ | exact shaped_bool _ | exact shaped_none | assumption | exact shaped_ints _ | exact shaped_str (by decide +kernel) | exact rfl | decide +kernel))) (fun h => absurd h (by simp [eqv_int])) (fun _ => gss_nil ?_)
      refine gss_if (gt_eq hr.units (gd_var (pv 0) rfl) gd_int (by (first | exact ckw_sh _ | exact sh | exact kd_shaped _ | exact shaped_int _ | exact shaped_bool _ | exact shaped_none | assumption | exact shaped_ints _ | exact shaped_str (by decide +kernel) | exact rfl | decide +kernel)) (by (first | exact ckw_sh _ | exact sh | exact kd_shaped _ | exact shaped_int _ | exact shaped_bool _ | exact shaped_none | assumption | exact shaped_ints _ | exact shaped_str (by decide +kernel) | exact rfl | decide +kernel))) (fun h => absurd h (by simp [eqv_int])) (fun _ => gss_nil ?_)
      rcases hc0 : chk bx.length d0 with _ | e
      · rcases hc1 : chk bx.length d1 with _ | e
        · obtain ⟨row, rfl, g0, a0⟩ := chk_good hr0 hc0
          obtain ⟨row1, rfl, g1, a1⟩ := chk_good hr1 hc1
          have hB : Bnd 200 (startL row row1 bx) := ⟨(by decide : (0 : Int).natAbs < 2 ^ 200), (by decide : (0 : Int).natAbs < 2 ^ 200), hbx, a0, a1⟩
          have hv : verd 4 bx.length (row.map Stp.toD) (row1.map Stp.toD) = none := by rw [verd_n (by decide) hc0 hc1, if_neg (fun z => absurd z.1 (by decide))]
          obtain ⟨n0, n1, rfl⟩ := hng hv
          have n0 := ng_of n0
          have n1 := ng_of n1
          exact ret_all (gs_retE (ge_makeQ (E := E) (S1 := []) (F := []) (PRx := fun y S' => ∃ L' : LA, L'.p = y ∧ S' = loomS T.C_Loom L' (startL row row1 bx) ++ []) (PXx := fun _ => noX) T.M_Loom___init (ok_Loom___init T) (hr.mono (by decide)) rfl T.mg_Loom T.b_Loom___init pass0 (fun cls σ H h => h) (gas_cons (r := .dat _) (gd_var (pv 1) rfl) (gas_cons (r := .dat _) (gd_var (pv 2) rfl) (gas_cons (r := .dat _) (gd_var (pv 3) rfl) gas_nil))) (fun y => ⟨y, _, _, _, row, row1, bx, _, rfl, rfl, .inl rfl, .inl rfl, .inl rfl, g0, g1, rfl, rfl⟩) (fun y S1' hy hp => hv) (fun _ _ _ h => h.elim)))
        · have hc : chk2 bx.length d0 d1 e := .inr ⟨hc0, hc1⟩
          exact ret_all (gs_retE (ge_makeQ (E := E) (S1 := []) (F := []) (PRx := fun _ _ => False) (PXx := fun y cls S' => cls = .ref (T_ck T e) ∧ S' = []) T.M_Loom___init (ok_init_bad T) (hr.mono (by decide)) rfl T.mg_Loom T.b_Loom___init (L2N.passes_call (L2N.takes_of rfl rfl rfl rfl) (fun _ _ _ _ h => h)) (fun cls σ H h => h) (gas_cons (r := .dat _) (gd_var (pv 1) rfl) (gas_cons (r := .dat _) (gd_var (pv 2) rfl) (gas_cons (r := .dat _) (gd_var (pv 3) rfl) gas_nil))) (fun y => ⟨y, _, _, _, d0, d1, bx, _, e, rfl, rfl, .inl rfl, .inl rfl, .inl rfl, hr0, hr1, hl0, hl1, hc, rfl, rfl⟩) (fun y S1' hy hp => hp.elim) (fun y cls S1' ⟨h1, h2⟩ => ⟨e, verd_2 (by decide) hc0 hc1, h1, by rw [h2]; rfl⟩)))
      · have hc : chk2 bx.length d0 d1 e := .inl hc0
        exact ret_all (gs_retE (ge_makeQ (E := E) (S1 := []) (F := []) (PRx := fun _ _ => False) (PXx := fun y cls S' => cls = .ref (T_ck T e) ∧ S' = []) T.M_Loom___init (ok_init_bad T) (hr.mono (by decide)) rfl T.mg_Loom T.b_Loom___init (L2N.passes_call (L2N.takes_of rfl rfl rfl rfl) (fun _ _ _ _ h => h)) (fun cls σ H h => h) (gas_cons (r := .dat _) (gd_var (pv 1) rfl) (gas_cons (r := .dat _) (gd_var (pv 2) rfl) (gas_cons (r := .dat _) (gd_var (pv 3) rfl) gas_nil))) (fun y => ⟨y, _, _, _, d0, d1, bx, _, e, rfl, rfl, .inl rfl, .inl rfl, .inl rfl, hr0, hr1, hl0, hl1, hc, rfl, rfl⟩) (fun y S1' hy hp => hp.elim) (fun y cls S1' ⟨h1, h2⟩ => ⟨e, verd_1 hc0, h1, by rw [h2]; rfl⟩)))
theorem sc_l_names : FnScope ["_law_error", "_law_names_here"] ["_law_error"] (defScope s_l_names) := ⟨rfl, rfl, rfl, by decide +kernel, rfl, by decide +kernel, by decide +kernel⟩
theorem ok_l_names (T : Txt K mg) : FnE P w K mg base 1 T.f_l_names T.d_l_names ["_law_error"] (R_l_names T) := by
  refine fnE_of T.F_l_names sc_l_names rfl fun cd0 A out s0 H E B p cls d room hz hdat hR => ?_
  obtain ⟨e, rfl, rfl⟩ := hR
  cases e with
  | tooMany =>
    refine gss_set (i := 1) sc_l_names.nd rfl (by first | exact .inl rfl | exact .inr rfl) (r := .dat _) gd_str ?_
    refine gss_if (gt_val (gd_isE (q := p.1) (oe := p.2) (c := .ref T.C_TooMany) (cv := .ref T.C_TooMany) (List.mem_cons_self) T.ec_TooMany hz hdat rfl T.z_isinstance (by decide +kernel) (pe_glob rfl T.g_TooMany rfl) (fun _ r => r) T.ki_TooMany_TooMany (gr_var (pv 0) rfl))) (fun _ => ?_) (fun h => absurd h (by decide))
    refine gss_set (i := 1) sc_l_names.nd rfl (by first | exact .inl rfl | exact .inr rfl) (r := .dat _) (gd_addS (gd_var (pv 1) rfl) gd_str (by (first | decide | omega | (simp only [List.length_append, List.length_cons, List.length_nil, List.length_map, List.length_set, List.length_take, List.length_drop]; omega)))) ?_
    refine gss_nil ?_
    refine gss_if (gt_val (gd_isE (q := p.1) (oe := p.2) (c := .ref T.C_BadStep) (cv := .ref T.C_BadStep) (List.mem_cons_self) T.ec_TooMany hz hdat rfl T.z_isinstance (by decide +kernel) (pe_glob rfl T.g_BadStep rfl) (fun _ r => r) T.ki_TooMany_BadStep (gr_var (pv 0) rfl))) (fun h => absurd h (by decide)) (fun _ => gss_nil ?_)
    refine gss_if (gt_val (gd_isE (q := p.1) (oe := p.2) (c := .ref T.C_BadBox) (cv := .ref T.C_BadBox) (List.mem_cons_self) T.ec_TooMany hz hdat rfl T.z_isinstance (by decide +kernel) (pe_glob rfl T.g_BadBox rfl) (fun _ r => r) T.ki_TooMany_BadBox (gr_var (pv 0) rfl))) (fun h => absurd h (by decide)) (fun _ => gss_nil ?_)
    refine gss_if (gt_val (gd_isE (q := p.1) (oe := p.2) (c := .ref T.C_Again) (cv := .ref T.C_Again) (List.mem_cons_self) T.ec_TooMany hz hdat rfl T.z_isinstance (by decide +kernel) (pe_glob rfl T.g_Again rfl) (fun _ r => r) T.ki_TooMany_Again (gr_var (pv 0) rfl))) (fun h => absurd h (by decide)) (fun _ => gss_nil ?_)
    refine gss_if (gt_val (gd_isE (q := p.1) (oe := p.2) (c := .ref T.C_NotHeld) (cv := .ref T.C_NotHeld) (List.mem_cons_self) T.ec_TooMany hz hdat rfl T.z_isinstance (by decide +kernel) (pe_glob rfl T.g_NotHeld rfl) (fun _ r => r) T.ki_TooMany_NotHeld (gr_var (pv 0) rfl))) (fun h => absurd h (by decide)) (fun _ => gss_nil ?_)
    refine gss_if (gt_val (gd_isE (q := p.1) (oe := p.2) (c := .ref T.C_NoTurn) (cv := .ref T.C_NoTurn) (List.mem_cons_self) T.ec_TooMany hz hdat rfl T.z_isinstance (by decide +kernel) (pe_glob rfl T.g_NoTurn rfl) (fun _ r => r) T.ki_TooMany_NoTurn (gr_var (pv 0) rfl))) (fun h => absurd h (by decide)) (fun _ => gss_nil ?_)
    refine gss_if (gt_val (gd_isE (q := p.1) (oe := p.2) (c := .ref T.C_Waits) (cv := .ref T.C_Waits) (List.mem_cons_self) T.ec_TooMany hz hdat rfl T.z_isinstance (by decide +kernel) (pe_glob rfl T.g_Waits rfl) (fun _ r => r) T.ki_TooMany_Waits (gr_var (pv 0) rfl))) (fun h => absurd h (by decide)) (fun _ => gss_nil ?_)
    refine gss_if (gt_val (gd_isE (q := p.1) (oe := p.2) (c := .ref T.C_Stuck) (cv := .ref T.C_Stuck) (List.mem_cons_self) T.ec_TooMany hz hdat rfl T.z_isinstance (by decide +kernel) (pe_glob rfl T.g_Stuck rfl) (fun _ r => r) T.ki_TooMany_Stuck (gr_var (pv 0) rfl))) (fun h => absurd h (by decide)) (fun _ => gss_nil ?_)
    refine gss_if (gt_not (gt_val (gd_isE (q := p.1) (oe := p.2) (c := .ty "ValueError") (cv := .type "ValueError") (List.mem_cons_self) T.ec_TooMany hz hdat rfl T.z_isinstance (by decide +kernel) (pe_bltn rfl T.z_ValueError (by decide +kernel) rfl) (fun _ r => r) T.kv_TooMany (gr_var (pv 0) rfl)))) (fun h => absurd h (by decide)) (fun _ => gss_nil ?_)
    refine gss_ret (r := .dat _) (gd_var (pv 1) rfl) ?_
    exact congrArg (fun z => Sl.dat (.str z)) (by decide +kernel)
  | badStep =>
    refine gss_set (i := 1) sc_l_names.nd rfl (by first | exact .inl rfl | exact .inr rfl) (r := .dat _) gd_str ?_
    refine gss_if (gt_val (gd_isE (q := p.1) (oe := p.2) (c := .ref T.C_TooMany) (cv := .ref T.C_TooMany) (List.mem_cons_self) T.ec_BadStep hz hdat rfl T.z_isinstance (by decide +kernel) (pe_glob rfl T.g_TooMany rfl) (fun _ r => r) T.ki_BadStep_TooMany (gr_var (pv 0) rfl))) (fun h => absurd h (by decide)) (fun _ => gss_nil ?_)
    refine gss_if (gt_val (gd_isE (q := p.1) (oe := p.2) (c := .ref T.C_BadStep) (cv := .ref T.C_BadStep) (List.mem_cons_self) T.ec_BadStep hz hdat rfl T.z_isinstance (by decide +kernel) (pe_glob rfl T.g_BadStep rfl) (fun _ r => r) T.ki_BadStep_BadStep (gr_var (pv 0) rfl))) (fun _ => ?_) (fun h => absurd h (by decide))
    refine gss_set (i := 1) sc_l_names.nd rfl (by first | exact .inl rfl | exact .inr rfl) (r := .dat _) (gd_addS (gd_var (pv 1) rfl) gd_str (by (first | decide | omega | (simp only [List.length_append, List.length_cons, List.length_nil, List.length_map, List.length_set, List.length_take, List.length_drop]; omega)))) ?_
    refine gss_nil ?_
    refine gss_if (gt_val (gd_isE (q := p.1) (oe := p.2) (c := .ref T.C_BadBox) (cv := .ref T.C_BadBox) (List.mem_cons_self) T.ec_BadStep hz hdat rfl T.z_isinstance (by decide +kernel) (pe_glob rfl T.g_BadBox rfl) (fun _ r => r) T.ki_BadStep_BadBox (gr_var (pv 0) rfl))) (fun h => absurd h (by decide)) (fun _ => gss_nil ?_)
    refine gss_if (gt_val (gd_isE (q := p.1) (oe := p.2) (c := .ref T.C_Again) (cv := .ref T.C_Again) (List.mem_cons_self) T.ec_BadStep hz hdat rfl T.z_isinstance (by decide +kernel) (pe_glob rfl T.g_Again rfl) (fun _ r => r) T.ki_BadStep_Again (gr_var (pv 0) rfl))) (fun h => absurd h (by decide)) (fun _ => gss_nil ?_)
    refine gss_if (gt_val (gd_isE (q := p.1) (oe := p.2) (c := .ref T.C_NotHeld) (cv := .ref T.C_NotHeld) (List.mem_cons_self) T.ec_BadStep hz hdat rfl T.z_isinstance (by decide +kernel) (pe_glob rfl T.g_NotHeld rfl) (fun _ r => r) T.ki_BadStep_NotHeld (gr_var (pv 0) rfl))) (fun h => absurd h (by decide)) (fun _ => gss_nil ?_)
    refine gss_if (gt_val (gd_isE (q := p.1) (oe := p.2) (c := .ref T.C_NoTurn) (cv := .ref T.C_NoTurn) (List.mem_cons_self) T.ec_BadStep hz hdat rfl T.z_isinstance (by decide +kernel) (pe_glob rfl T.g_NoTurn rfl) (fun _ r => r) T.ki_BadStep_NoTurn (gr_var (pv 0) rfl))) (fun h => absurd h (by decide)) (fun _ => gss_nil ?_)
    refine gss_if (gt_val (gd_isE (q := p.1) (oe := p.2) (c := .ref T.C_Waits) (cv := .ref T.C_Waits) (List.mem_cons_self) T.ec_BadStep hz hdat rfl T.z_isinstance (by decide +kernel) (pe_glob rfl T.g_Waits rfl) (fun _ r => r) T.ki_BadStep_Waits (gr_var (pv 0) rfl))) (fun h => absurd h (by decide)) (fun _ => gss_nil ?_)
    refine gss_if (gt_val (gd_isE (q := p.1) (oe := p.2) (c := .ref T.C_Stuck) (cv := .ref T.C_Stuck) (List.mem_cons_self) T.ec_BadStep hz hdat rfl T.z_isinstance (by decide +kernel) (pe_glob rfl T.g_Stuck rfl) (fun _ r => r) T.ki_BadStep_Stuck (gr_var (pv 0) rfl))) (fun h => absurd h (by decide)) (fun _ => gss_nil ?_)
    refine gss_if (gt_not (gt_val (gd_isE (q := p.1) (oe := p.2) (c := .ty "ValueError") (cv := .type "ValueError") (List.mem_cons_self) T.ec_BadStep hz hdat rfl T.z_isinstance (by decide +kernel) (pe_bltn rfl T.z_ValueError (by decide +kernel) rfl) (fun _ r => r) T.kv_BadStep (gr_var (pv 0) rfl)))) (fun h => absurd h (by decide)) (fun _ => gss_nil ?_)
    refine gss_ret (r := .dat _) (gd_var (pv 1) rfl) ?_
    exact congrArg (fun z => Sl.dat (.str z)) (by decide +kernel)
  | badBox =>
    refine gss_set (i := 1) sc_l_names.nd rfl (by first | exact .inl rfl | exact .inr rfl) (r := .dat _) gd_str ?_
    refine gss_if (gt_val (gd_isE (q := p.1) (oe := p.2) (c := .ref T.C_TooMany) (cv := .ref T.C_TooMany) (List.mem_cons_self) T.ec_BadBox hz hdat rfl T.z_isinstance (by decide +kernel) (pe_glob rfl T.g_TooMany rfl) (fun _ r => r) T.ki_BadBox_TooMany (gr_var (pv 0) rfl))) (fun h => absurd h (by decide)) (fun _ => gss_nil ?_)
    refine gss_if (gt_val (gd_isE (q := p.1) (oe := p.2) (c := .ref T.C_BadStep) (cv := .ref T.C_BadStep) (List.mem_cons_self) T.ec_BadBox hz hdat rfl T.z_isinstance (by decide +kernel) (pe_glob rfl T.g_BadStep rfl) (fun _ r => r) T.ki_BadBox_BadStep (gr_var (pv 0) rfl))) (fun h => absurd h (by decide)) (fun _ => gss_nil ?_)
    refine gss_if (gt_val (gd_isE (q := p.1) (oe := p.2) (c := .ref T.C_BadBox) (cv := .ref T.C_BadBox) (List.mem_cons_self) T.ec_BadBox hz hdat rfl T.z_isinstance (by decide +kernel) (pe_glob rfl T.g_BadBox rfl) (fun _ r => r) T.ki_BadBox_BadBox (gr_var (pv 0) rfl))) (fun _ => ?_) (fun h => absurd h (by decide))
    refine gss_set (i := 1) sc_l_names.nd rfl (by first | exact .inl rfl | exact .inr rfl) (r := .dat _) (gd_addS (gd_var (pv 1) rfl) gd_str (by (first | decide | omega | (simp only [List.length_append, List.length_cons, List.length_nil, List.length_map, List.length_set, List.length_take, List.length_drop]; omega)))) ?_
    refine gss_nil ?_
    refine gss_if (gt_val (gd_isE (q := p.1) (oe := p.2) (c := .ref T.C_Again) (cv := .ref T.C_Again) (List.mem_cons_self) T.ec_BadBox hz hdat rfl T.z_isinstance (by decide +kernel) (pe_glob rfl T.g_Again rfl) (fun _ r => r) T.ki_BadBox_Again (gr_var (pv 0) rfl))) (fun h => absurd h (by decide)) (fun _ => gss_nil ?_)
    refine gss_if (gt_val (gd_isE (q := p.1) (oe := p.2) (c := .ref T.C_NotHeld) (cv := .ref T.C_NotHeld) (List.mem_cons_self) T.ec_BadBox hz hdat rfl T.z_isinstance (by decide +kernel) (pe_glob rfl T.g_NotHeld rfl) (fun _ r => r) T.ki_BadBox_NotHeld (gr_var (pv 0) rfl))) (fun h => absurd h (by decide)) (fun _ => gss_nil ?_)
    refine gss_if (gt_val (gd_isE (q := p.1) (oe := p.2) (c := .ref T.C_NoTurn) (cv := .ref T.C_NoTurn) (List.mem_cons_self) T.ec_BadBox hz hdat rfl T.z_isinstance (by decide +kernel) (pe_glob rfl T.g_NoTurn rfl) (fun _ r => r) T.ki_BadBox_NoTurn (gr_var (pv 0) rfl))) (fun h => absurd h (by decide)) (fun _ => gss_nil ?_)
    refine gss_if (gt_val (gd_isE (q := p.1) (oe := p.2) (c := .ref T.C_Waits) (cv := .ref T.C_Waits) (List.mem_cons_self) T.ec_BadBox hz hdat rfl T.z_isinstance (by decide +kernel) (pe_glob rfl T.g_Waits rfl) (fun _ r => r) T.ki_BadBox_Waits (gr_var (pv 0) rfl))) (fun h => absurd h (by decide)) (fun _ => gss_nil ?_)
    refine gss_if (gt_val (gd_isE (q := p.1) (oe := p.2) (c := .ref T.C_Stuck) (cv := .ref T.C_Stuck) (List.mem_cons_self) T.ec_BadBox hz hdat rfl T.z_isinstance (by decide +kernel) (pe_glob rfl T.g_Stuck rfl) (fun _ r => r) T.ki_BadBox_Stuck (gr_var (pv 0) rfl))) (fun h => absurd h (by decide)) (fun _ => gss_nil ?_)
    refine gss_if (gt_not (gt_val (gd_isE (q := p.1) (oe := p.2) (c := .ty "ValueError") (cv := .type "ValueError") (List.mem_cons_self) T.ec_BadBox hz hdat rfl T.z_isinstance (by decide +kernel) (pe_bltn rfl T.z_ValueError (by decide +kernel) rfl) (fun _ r => r) T.kv_BadBox (gr_var (pv 0) rfl)))) (fun h => absurd h (by decide)) (fun _ => gss_nil ?_)
    refine gss_ret (r := .dat _) (gd_var (pv 1) rfl) ?_
    exact congrArg (fun z => Sl.dat (.str z)) (by decide +kernel)
theorem sc_l_told : FnScope ["_law_which", "_law_ones", "_law_others", "_law_boxes", "_law_kind", "_law_order", "_law_error"] ["_law_which", "_law_ones", "_law_others", "_law_boxes", "_law_kind", "_law_order"] (defScope s_l_told) := ⟨rfl, rfl, rfl, by decide +kernel, rfl, by decide +kernel, by decide +kernel⟩
theorem ok_l_told (T : Txt K mg) : FnOk P w K mg base CX0 14 T.f_l_told T.d_l_told ["_law_which", "_law_ones", "_law_others", "_law_boxes", "_law_kind", "_law_order"] (SpM K (R_l_told T)) := by
  refine mut_def0 T.F_l_told sc_l_told (fun as S PR PX h => ?_) (fun cdv A outer s H E B as S PR PX hr h => ?_)
  · obtain ⟨wh, kd, d0, d1, bx, o, rfl, rfl, hok, rfl, rfl⟩ := h; rfl
  · obtain ⟨wh, kd, d0, d1, bx, o, rfl, rfl, hok, rfl, rfl⟩ := h
    refine gss_if (gt_lt (gd_var (pv 4) rfl) gd_int) (fun hk => ?_) (fun hk => gss_nil ?_)
    · refine gss_then ?_
      refine gs_tryA (i := 6) rfl rfl sc_l_told.nd rfl rfl ⟨rfl, by decide, .inl T.g_WeaveError⟩ (fun cls Γ' S' => ∃ e, verd wh bx.length d0 d1 = some e ∧ cls = .ref (T_ck T e) ∧ Γ' = [.dat (.int wh), .dat (.list d0), .dat (.list d1), .dat (.list (bx.map .int)), .dat (.int kd), .dat (.list (handsD o)), .un] ∧ S' = []) (fun W pn xe tkW hpo => ?_) ?_ ?_
      · refine gss_one (gs_exprE (ge_mono (ge_call (S1 := []) (F := []) (ok_l_asked T) (hr.mono (by decide)) rfl T.m_l_asked T.F_l_asked.kp T.b_l_asked (fun σ => L2N.passAt tkW σ) (gas_cons (r := .dat _) (gd_var (pv 0) rfl) (gas_cons (r := .dat _) (gd_var (pv 1) rfl) (gas_cons (r := .dat _) (gd_var (pv 2) rfl) (gas_cons (r := .dat _) (gd_var (pv 3) rfl) (gas_cons (r := .dat _) (gd_var (pv 5) rfl) gas_nil))))) ⟨wh, d0, d1, bx, o, rfl, rfl, hok, rfl, rfl⟩) (fun r S' h => ?_) (fun cls S' h => ?_)))
        · obtain ⟨S1', hv, rfl⟩ := h
          refine gss_pick (S2 := []) [] List.nodup_nil rfl ?_
          exact gss_ret (r := .dat _) gd_str ⟨by rw [hv]; rfl, rfl⟩
        · obtain ⟨S1', ⟨e, hv, rfl, rfl⟩, rfl⟩ := h
          exact ⟨e, hv, rfl, rfl, rfl⟩
      · rintro cls Γ' S' ⟨e, he, rfl, rfl, rfl⟩
        cases e with
        | tooMany => exact T.ex_TooMany_WeaveError
        | badStep => exact T.ex_BadStep_WeaveError
        | badBox => exact T.ex_BadBox_WeaveError
      · rintro a oe cls pn Γ' S' hz hd ⟨e, he, rfl, rfl, rfl⟩
        exact gss_ret (r := .dat _) (gd_callE (p := (a, oe)) (ok_l_names T) (hot_in (hr.mono (by decide)) _) (hot_of hz hd) List.mem_cons_self hz.zc hd ⟨e, rfl, rfl⟩ rfl T.m_l_names T.F_l_names.kp T.b_l_names (gr_var (pv 6) rfl)) ⟨by rw [he]; rfl, rfl⟩
    · refine gss_then ?_
      refine gs_tryM (l := [(.ref T.C_TooMany, (fun Γ' S' => verd wh bx.length d0 d1 = some .tooMany ∧ Γ' = [.dat (.int wh), .dat (.list d0), .dat (.list d1), .dat (.list (bx.map .int)), .dat (.int kd), .dat (.list (handsD o)), .un] ∧ S' = [])), (.ref T.C_BadStep, (fun Γ' S' => verd wh bx.length d0 d1 = some .badStep ∧ Γ' = [.dat (.int wh), .dat (.list d0), .dat (.list d1), .dat (.list (bx.map .int)), .dat (.int kd), .dat (.list (handsD o)), .un] ∧ S' = [])), (.ref T.C_BadBox, (fun Γ' S' => verd wh bx.length d0 d1 = some .badBox ∧ Γ' = [.dat (.int wh), .dat (.list d0), .dat (.list d1), .dat (.list (bx.map .int)), .dat (.int kd), .dat (.list (handsD o)), .un] ∧ S' = []))]) rfl rfl (fun cls Γ' S' => ∃ e, verd wh bx.length d0 d1 = some e ∧ cls = .ref (T_ck T e) ∧ Γ' = [.dat (.int wh), .dat (.list d0), .dat (.list d1), .dat (.list (bx.map .int)), .dat (.int kd), .dat (.list (handsD o)), .un] ∧ S' = []) (fun W pn xe tkW hpo => ?_) ?_ ?_
      · refine gss_one (gs_exprE (ge_mono (ge_call (S1 := []) (F := []) (ok_l_asked T) (hr.mono (by decide)) rfl T.m_l_asked T.F_l_asked.kp T.b_l_asked (fun σ => L2N.passAt tkW σ) (gas_cons (r := .dat _) (gd_var (pv 0) rfl) (gas_cons (r := .dat _) (gd_var (pv 1) rfl) (gas_cons (r := .dat _) (gd_var (pv 2) rfl) (gas_cons (r := .dat _) (gd_var (pv 3) rfl) (gas_cons (r := .dat _) (gd_var (pv 5) rfl) gas_nil))))) ⟨wh, d0, d1, bx, o, rfl, rfl, hok, rfl, rfl⟩) (fun r S' h => ?_) (fun cls S' h => ?_)))
        · obtain ⟨S1', hv, rfl⟩ := h
          refine gss_pick (S2 := []) [] List.nodup_nil rfl ?_
          exact gss_ret (r := .dat _) gd_str ⟨by rw [hv]; rfl, rfl⟩
        · obtain ⟨S1', ⟨e, hv, rfl, rfl⟩, rfl⟩ := h
          exact ⟨e, hv, rfl, rfl, rfl⟩
      · rintro cls Γ' S' ⟨e, he, rfl, rfl, rfl⟩
        cases e with
        | tooMany => exact ⟨true, T.ex_TooMany_TooMany, fun _ => ⟨he, rfl, rfl⟩, fun h => (nomatch h)⟩
        | badStep => exact ⟨false, T.ex_BadStep_TooMany, fun h => (nomatch h), fun _ => ⟨true, T.ex_BadStep_BadStep, fun _ => ⟨he, rfl, rfl⟩, fun h => (nomatch h)⟩⟩
        | badBox => exact ⟨false, T.ex_BadBox_TooMany, fun h => (nomatch h), fun _ => ⟨false, T.ex_BadBox_BadStep, fun h => (nomatch h), fun _ => ⟨true, T.ex_BadBox_BadBox, fun _ => ⟨he, rfl, rfl⟩, fun h => (nomatch h)⟩⟩⟩
      · exact (.cons ⟨rfl, by decide, .inl T.g_TooMany⟩ (fun a oe pn Γ' S' ⟨he, h1, h2⟩ => by subst h1 h2; exact gss_ret (r := .dat _) gd_str ⟨by rw [he]; rfl, rfl⟩) (.cons ⟨rfl, by decide, .inl T.g_BadStep⟩ (fun a oe pn Γ' S' ⟨he, h1, h2⟩ => by subst h1 h2; exact gss_ret (r := .dat _) gd_str ⟨by rw [he]; rfl, rfl⟩) (.cons ⟨rfl, by decide, .inl T.g_BadBox⟩ (fun a oe pn Γ' S' ⟨he, h1, h2⟩ => by subst h1 h2; exact gss_ret (r := .dat _) gd_str ⟨by rw [he]; rfl, rfl⟩) .nil)))
end
def cutN (ns : List Int) (l u : Option Int) : List Int := (ns.drop (HT.sIx ns.length 0 l)).take (HT.sIx ns.length ns.length u - HT.sIx ns.length 0 l)
theorem cut_map (ns : List Int) (l u : Option Int) : G.cutD (ns.map PyData.int) l u = (cutN ns l u).map PyData.int := by
  unfold G.cutD cutN
  rw [List.length_map, List.map_take, List.map_drop]
theorem cutN_len (ns : List Int) (l u : Option Int) : (cutN ns l u).length ≤ ns.length := by
  unfold cutN
  rw [List.length_take, List.length_drop]; omega
theorem turns_map (zs : List Int) : (List.range (zs.map PyData.int).length).map (fun i => PyData.int (zs.getD i 0 % 2)) = handsD (zs.map fun z => decide (z % 2 = 1)) := by
  rw [List.length_map, map_getD (fun z => PyData.int (z % 2)) 0 zs]
  unfold handsD
  rw [List.map_map]
  refine List.map_congr_left fun z _ => ?_
  show PyData.int (z % 2) = .int (hI (decide (z % 2 = 1)))
  rcases (show z % 2 = 0 ∨ z % 2 = 1 by omega) with e | e <;> rw [e] <;> rfl

/-! ### the law's rows -/
theorem gs_continue {X : Cx} {B : Bs} {Γ : Gam} {S : Sto} {pos : Pos} {P : Po} (h : P.ct Γ S) : GS X B Γ S (.Continue pos) P := ps_continue.imp fun D σ H ⟨H0, at0, z⟩ => z.ct Γ S H0 σ H h at0
theorem cut_lo {xs : List PyData} {i : Nat} (h : i ≤ xs.length) : G.cutD xs none (some (i : Int)) = xs.take i := by
  have e1 : HT.sIx xs.length 0 none = 0 := rfl
  have e2 : HT.sIx xs.length xs.length (some (i : Int)) = i := by
    show (if (i : Int) < 0 then ((i : Int) + xs.length).toNat else min (i : Int).toNat xs.length) = i
    rw [if_neg (by omega)]; omega
  unfold G.cutD
  rw [e1, e2]; rfl
theorem cut_dr {xs : List PyData} {i : Nat} {z : Int} (h : i ≤ xs.length) (hz : z = (i : Int)) : G.cutD xs (some z) none = xs.drop i := by
  subst hz
  have e1 : HT.sIx xs.length xs.length none = xs.length := rfl
  have e2 : HT.sIx xs.length 0 (some (i : Int)) = i := by
    show (if (i : Int) < 0 then ((i : Int) + xs.length).toNat else min (i : Int).toNat xs.length) = i
    rw [if_neg (by omega)]; omega
  unfold G.cutD
  rw [e1, e2, List.take_of_length_le (by rw [List.length_drop]; exact Nat.le_refl _)]
theorem at_get {xs : List PyData} {i : Int} (h0 : 0 ≤ i) (h1 : i < (xs.length : Int)) : atI xs i = some (xs.getD i.toNat .none) := by
  obtain ⟨j, rfl⟩ : ∃ j : Nat, i = (j : Int) := ⟨i.toNat, by omega⟩
  have hj : j < xs.length := by omega
  exact atI_nat (by rw [List.getElem?_eq_getElem hj, Int.toNat_natCast, List.getD_eq_getElem?_getD, List.getElem?_eq_getElem hj]; rfl)
/-- an element ahead of the guards -/
def Rn (d : PyData) : Prop := Rd d ∧ NGd d
def Rw (ds : List PyData) : Prop := (∀ d ∈ ds, Rn d) ∧ ds.length ≤ 61
theorem rn_stp {t : Stp} (h1 : t.kd ≠ .twice) (h2 : t.kd.isGuard = false) (h3 : t.kd = .add → t.b.natAbs < 2 ^ 200) : Rn t.toD := ⟨.inl ⟨t, rfl, h1, h3⟩, fun u hu => by
  have hw : t.kd.word = u.kd.word := by
    have h1 := PyData.tuple.inj hu
    exact PyData.str.inj (List.cons.inj h1).1
  have h3 := kd_eq t.kd u.kd
  have h4 := kd_eq u.kd u.kd
  rw [hw, h4] at h3
  have this : t.kd = u.kd := of_decide_eq_true (h3.symm.trans (decide_eq_true rfl))
  rw [← this]; exact h2⟩
theorem rn_bad {d : PyData} (h : d ∈ bads) : Rn d := ⟨.inr h, fun u hu => by
  have := (bads_no h).1
  rw [hu, stp_isD] at this; cases this⟩
def rowA (c m : Int) (n : Nat) : List PyData :=
  let base := (List.range n).map fun k : Nat => (Stp.add (c / 7 % 5 + (k : Int))).toD
  if (decide (0 < m) && decide ((0 : Int) < (n : Int))) = true then base.set (c / 196 % (n : Int)).toNat (Stp.load (c / 7 % m)).toD else base
def sizA (c : Int) : Nat := (if c / 7 % 4 = 1 then 55 + c / 28 % 7 else c % 7).toNat
theorem sizA_le (c : Int) : sizA c ≤ 61 := by unfold sizA; split <;> omega
theorem rowA_rw (c m : Int) {n : Nat} (hn : n ≤ 61) : Rw (rowA c m n) := by
  have hb : ∀ d ∈ (List.range n).map (fun k : Nat => (Stp.add (c / 7 % 5 + (k : Int))).toD), Rn d := fun d hd => by
    obtain ⟨k, hk, rfl⟩ := List.mem_map.mp hd
    have := List.mem_range.mp hk
    exact rn_stp (by simp [Stp.kd]) rfl fun _ => Nat.lt_of_le_of_lt (show (c / 7 % 5 + (k : Int)).natAbs ≤ 100 by omega) (by decide)
  unfold rowA
  dsimp only
  split
  · refine ⟨fun d hd => ?_, by rw [List.length_set, List.length_map, List.length_range]; exact hn⟩
    rcases List.mem_or_eq_of_mem_set hd with h | rfl
    · exact hb d h
    · exact rn_stp (by simp [Stp.kd]) rfl fun h => by cases h
  · exact ⟨hb, by rw [List.length_map, List.length_range]; exact hn⟩
def wrongL (c m : Int) : List PyData := bads ++ [.tuple [.str "store", .int m], .tuple [.str "plus", .int (-1 - c / 10 % 3)], .tuple [.str "load", .int ((10 : Int) ^ (30 : Int).toNat + c / 11 % 99)]]
def wrongD (c m : Int) : PyData := (wrongL c m).getD (c % 11).toNat .none
theorem wrong_rn (c m : Int) : Rn (wrongD c m) := by
  have h : wrongD c m ∈ wrongL c m := by
    unfold wrongD
    have hl : (c % 11).toNat < (wrongL c m).length := by show (c % 11).toNat < 11; omega
    rw [List.getD_eq_getElem?_getD, List.getElem?_eq_getElem hl]
    exact List.getElem_mem hl
  generalize wrongD c m = d at h
  unfold wrongL at h
  rcases List.mem_append.mp h with h | h
  · exact rn_bad h
  · simp only [List.mem_cons, List.not_mem_nil, or_false] at h
    rcases h with rfl | rfl | rfl
    · exact rn_stp (t := .store m) (by simp [Stp.kd]) rfl fun h => by cases h
    · exact rn_stp (t := .plus _) (by simp [Stp.kd]) rfl fun h => by cases h
    · exact rn_stp (t := .load _) (by simp [Stp.kd]) rfl fun h => by cases h
theorem rw_set {ds : List PyData} {d : PyData} (i : Nat) (h : Rw ds) (hd : Rn d) : Rw (ds.set i d) := ⟨fun x hx => by
  rcases List.mem_or_eq_of_mem_set hx with h2 | rfl
  · exact h.1 x h2
  · exact hd, by rw [List.length_set]; exact h.2⟩
def gdsL : List PyData := [.list [.tuple [.str "take"], .tuple [.str "take"]], .list [.tuple [.str "free"]], .list [.tuple [.str "take"]], .list []]
def gdsD (c : Int) : List PyData := if c % 4 = 0 then [.tuple [.str "take"], .tuple [.str "take"]] else if c % 4 = 1 then [.tuple [.str "free"]] else if c % 4 = 2 then [.tuple [.str "take"]] else []
theorem gds_at (c : Int) : atI gdsL (c % 4) = some (.list (gdsD c)) := by
  unfold gdsD
  rcases (show c % 4 = 0 ∨ c % 4 = 1 ∨ c % 4 = 2 ∨ c % 4 = 3 by omega) with q | q | q | q <;> rw [q] <;> rfl
theorem gds_rd (c : Int) : (∀ d ∈ gdsD c, Rd d) ∧ (gdsD c).length ≤ 2 := by
  have h1 : Rd (.tuple [.str "take"]) := .inl ⟨.take, rfl, by simp [Stp.kd], fun h => by cases h⟩
  have h2 : Rd (.tuple [.str "free"]) := .inl ⟨.free, rfl, by simp [Stp.kd], fun h => by cases h⟩
  unfold gdsD
  split
  · exact ⟨fun d hd => by simp only [List.mem_cons, List.not_mem_nil, or_false] at hd; rcases hd with rfl | rfl <;> exact h1, by decide⟩
  · split
    · exact ⟨fun d hd => by simp only [List.mem_cons, List.not_mem_nil, or_false] at hd; subst hd; exact h2, by decide⟩
    · split
      · exact ⟨fun d hd => by simp only [List.mem_cons, List.not_mem_nil, or_false] at hd; subst hd; exact h1, by decide⟩
      · exact ⟨fun d hd => (nomatch hd), by decide⟩
def wgD (xs : List PyData) (c : Int) (i : Nat) : List PyData := xs.take i ++ gdsD c ++ xs.drop i
theorem wg_rd {xs : List PyData} {c : Int} {i : Nat} (h : ∀ d ∈ xs, Rd d) : ∀ d ∈ wgD xs c i, Rd d := fun d hd => by
  unfold wgD at hd
  rcases List.mem_append.mp hd with hd | hd
  · rcases List.mem_append.mp hd with hd | hd
    · exact h d (List.mem_of_mem_take hd)
    · exact (gds_rd c).1 d hd
  · exact h d (List.mem_of_mem_drop hd)
theorem wg_len (xs : List PyData) (c : Int) (i : Nat) : (wgD xs c i).length ≤ xs.length + 2 := by
  have := (gds_rd c).2
  unfold wgD
  rw [List.length_append, List.length_append, List.length_take, List.length_drop]
  omega
def wgI (xs : List PyData) (c : Int) : Nat := (if c / 64 % 2 = 0 then 0 else c / 4 % ((xs.length : Int) + 1)).toNat
theorem stp_shaped (t : Stp) : SeqAt.shaped t.toD = true := by
  unfold SeqAt.shaped
  rw [Bool.and_eq_true]
  exact ⟨stp_canLay t, decide_eq_true (Nat.le_trans (stp_depth t) (by decide))⟩
theorem eqv_tk (t : Stp) : (PyData.eqv t.toD (.tuple [.str "take"]) || PyData.eqv t.toD (.tuple [.str "free"])) = t.kd.isGuard := by
  cases t <;> first | decide +kernel | simp [Stp.toD, Stp.args, Stp.kd, Kd.isGuard, PyData.eqv, PyData.eqvAll]
def R_l_put (ds : List PyData) (d : PyData) : Prop := ∃ (xs : List PyData) (i : Nat) (x : PyData), ds = [.list xs, .int (i : Int), x] ∧ i < xs.length ∧ xs.length ≤ 100 ∧ d = .list (xs.set i x)
def R_l_row_by (ds : List PyData) (d : PyData) : Prop := ∃ c m : Int, ds = [.int c, .int m] ∧ d = .list (rowA c m (sizA c))
def R_l_wrong_by (ds : List PyData) (d : PyData) : Prop := ∃ c m : Int, ds = [.int c, .int m] ∧ d = wrongD c m
def R_l_due (ds : List PyData) (d : PyData) : Prop := ∃ (xs : List PyData) (m : Int), ds = [.list xs, .int m] ∧ 0 ≤ m ∧ (∀ d ∈ xs, Rd d) ∧ xs.length ≤ 100 ∧ d = .str (ckW (chk m.toNat xs))
def R_l_with_guards (ds : List PyData) (d : PyData) : Prop := ∃ (xs : List PyData) (c : Int), ds = [.list xs, .int c] ∧ xs.length ≤ 100 ∧ d = .list (wgD xs c (wgI xs c))
def R_law (ds : List PyData) (d : PyData) : Prop := ∃ ns : List Int, ds = [.list (ns.map .int)] ∧ AllSmall ns ∧ ns.length ≤ 63 ∧ d = .bool true
theorem in_due (k : Kd) : inD (.str k.word) [.str "add", .str "load", .str "store", .str "plus"] = (k.isBox || decide (k = .add)) := by cases k <;> decide +kernel
theorem ckw_sh (v : Option Ck) : SeqAt.shaped (.str (ckW v)) = true := by
  rcases v with _ | e
  · exact shaped_str (by decide +kernel)
  · cases e <;> exact shaped_str (by decide +kernel)
theorem ckw_none (v : Option Ck) : PyData.eqv (.str (ckW v)) (.str "") = v.isNone := by
  rcases v with _ | e
  · decide +kernel
  · cases e <;> decide +kernel


def verdA (wh : Int) (v0 v1 : Option Ck) : Option Ck := match v0 with
  | some e => some e
  | none => if wh = 0 then none else v1
theorem verd_eq (wh : Int) (n : Nat) (d0 d1 : List PyData) : verd wh n d0 d1 = match verdA wh (chk n d0) (chk n d1) with
    | some e => some e
    | none => if wh = 3 ∧ (5 < d0.length ∨ 5 < d1.length) then some .tooMany else none := by
  unfold verd verdA
  cases chk n d0 with
  | some e => rfl
  | none =>
    by_cases h : wh = 0
    · subst h; rfl
    · simp only [if_neg h]
      all_goals (cases chk n d1 <;> rfl)
def sq (m : Int) : List Int := (List.range m.toNat).map fun k : Nat => (k : Int) * (k : Int) - 9
theorem sq_map (m : Int) : ((List.range m.toNat).map fun k : Nat => PyData.int ((k : Int) * (k : Int) - 9)) = (sq m).map PyData.int := by
  unfold sq
  rw [List.map_map]; rfl
theorem sq_lt {m : Int} (hm : m ≤ 9) : ∀ x ∈ sq m, x.natAbs < 2 ^ 200 := fun x hx => by
  obtain ⟨k, hk, rfl⟩ := List.mem_map.mp hx
  have hk := List.mem_range.mp hk
  have h1 : k ≤ 9 := by omega
  have h2 : k * k ≤ 9 * 9 := Nat.mul_le_mul h1 h1
  have h3 : ((k : Int) * (k : Int) - 9).natAbs ≤ 100 := by
    rw [← Int.natCast_mul]
    omega
  exact Nat.lt_of_le_of_lt h3 (by decide)
theorem int_at {zs : List Int} {i : Nat} {d : PyData} (h : (zs.map PyData.int)[i]? = some d) : ∃ z, zs.getD i 0 = z ∧ d = .int z := by
  rw [List.getElem?_map] at h
  cases q : zs[i]? with
  | none => rw [q] at h; cases h
  | some z => rw [q] at h; cases h; exact ⟨z, by rw [List.getD_eq_getElem?_getD, q]; rfl, rfl⟩
theorem rd_of {ds : List PyData} (h : Rw ds) : (∀ d ∈ ds, Rd d) ∧ ∀ d ∈ ds, NGd d := ⟨fun d hd => (h.1 d hd).1, fun d hd => (h.1 d hd).2⟩

section
variable {P : Program} {w : World} {K : PySem.W.Frag} {mg : Str → Option Value} {base : Heap}
theorem sc_l_cell_at : FnScope ["_law_script", "_law_k"] ["_law_script", "_law_k"] (defScope s_l_cell_at) := ⟨rfl, rfl, rfl, by decide +kernel, rfl, by decide +kernel, by decide +kernel⟩
theorem ok_l_cell_at (T : Txt K mg) : FnOk P w K mg base CX0 1 T.f_l_cell_at T.d_l_cell_at ["_law_script", "_law_k"] (SpD K R_l_cell_at) := by
  refine pure_def T.F_l_cell_at sc_l_cell_at (fun ds d h => ?_) (fun cdv A outer s H E B ds d hr h => ?_)
  · obtain ⟨ns, k, rfl, hk, rfl⟩ := h; rfl
  · obtain ⟨ns, k, rfl, hk, rfl⟩ := h
    refine gss_if (gt_lt (gd_var (pv 1) rfl) (gd_callB call_len (ca_len (by first | exact .inl rfl | exact .inr rfl)) rfl T.z_len (by decide +kernel) (ga_cons (gd_var (pv 0) rfl) ga_nil))) (fun h1 => ?_) (fun h1 => ?_)
    · (try (exact absurd h1 (by (first | decide +kernel | (simp only [List.length_cons, List.length_nil, eqv_int]; decide) | (simp only [List.length_cons, List.length_nil, eqv_int, decide_eq_true_eq, decide_eq_false_iff_not]; omega)))))
      all_goals (
        have q := cell_at hk h1
        refine gss_ret (r := .dat _) (gd_ixL (gd_var (pv 0) rfl) (gd_var (pv 1) rfl) (by (first | exact q | assumption | exact ixh | exact ixb (by assumption) | exact rfl | (simp only [*]; exact rfl)))) ?_
        (first | exact rfl | (simp only [*]; done) | (simp only [*]; exact rfl))
      )
    · (try (exact absurd h1 (by (first | decide +kernel | (simp only [List.length_cons, List.length_nil, eqv_int]; decide) | (simp only [List.length_cons, List.length_nil, eqv_int, decide_eq_true_eq, decide_eq_false_iff_not]; omega)))))
      all_goals (
        refine gss_nil ?_
        refine gss_ret (r := .dat _) gd_int ?_
        rw [cell_no hk h1]
      )
theorem sc_l_put : FnScope ["_law_row", "_law_at", "_law_thing"] ["_law_row", "_law_at", "_law_thing"] (defScope s_l_put) := ⟨rfl, rfl, rfl, by decide +kernel, rfl, by decide +kernel, by decide +kernel⟩
theorem ok_l_put (T : Txt K mg) : FnOk P w K mg base CX0 1 T.f_l_put T.d_l_put ["_law_row", "_law_at", "_law_thing"] (SpD K R_l_put) := by
  refine pure_def T.F_l_put sc_l_put (fun ds d h => ?_) (fun cdv A outer s H E B ds d hr h => ?_)
  · obtain ⟨xs, i, x, rfl, hi, hl, rfl⟩ := h; rfl
  · obtain ⟨xs, i, x, rfl, hi, hl, rfl⟩ := h
    have c1 : G.cutD xs none (some (i : Int)) = xs.take i := cut_lo (by omega)
    have c2 : G.cutD xs (some ((i : Int) + 1)) none = xs.drop (i + 1) := cut_dr (by omega) (by omega)
    have c3 : (G.cutD xs none (some (i : Int))).length ≤ 100 := by rw [c1, List.length_take]; omega
    have c4 : (G.cutD xs (some ((i : Int) + 1)) none).length ≤ 100 := by rw [c2, List.length_drop]; omega
    refine gss_ret (r := .dat _) (gd_cat (gd_cat (gd_slice (gd_var (pv 0) rfl) go_none (go_some (gd_var (pv 1) rfl))) (gd_lst (ga_cons (gd_var (pv 2) rfl) ga_nil) (by (first | decide | omega | (simp only [List.length_append, List.length_cons, List.length_nil, List.length_map, List.length_set, List.length_take, List.length_drop]; omega)))) (by (first | decide | omega | (simp only [List.length_append, List.length_cons, List.length_nil, List.length_map, List.length_set, List.length_take, List.length_drop]; omega)))) (gd_slice (gd_var (pv 0) rfl) (go_some (gd_add (gd_var (pv 1) rfl) gd_int)) go_none) (by (first | decide | omega | (simp only [List.length_append, List.length_cons, List.length_nil, List.length_map, List.length_set, List.length_take, List.length_drop]; omega)))) ?_
    show Sl.dat (.list _) = Sl.dat (.list _)
    rw [c1, c2, List.set_eq_take_append_cons_drop, if_pos hi, List.append_assoc]; rfl
theorem sc_l_row_by : FnScope ["_law_cell", "_law_many", "_law_size", "_law_row", "_law_k"] ["_law_cell", "_law_many"] (defScope s_l_row_by) := ⟨rfl, rfl, rfl, by decide +kernel, rfl, by decide +kernel, by decide +kernel⟩
theorem ok_l_row_by (T : Txt K mg) : FnOk P w K mg base CX0 2 T.f_l_row_by T.d_l_row_by ["_law_cell", "_law_many"] (SpD K R_l_row_by) := by
  refine pure_def T.F_l_row_by sc_l_row_by (fun ds d h => ?_) (fun cdv A outer s H E B ds d hr h => ?_)
  · obtain ⟨c, m, rfl, rfl⟩ := h; rfl
  · obtain ⟨c, m, rfl, rfl⟩ := h
    have hsz := sizA_le c
    refine gss_set (i := 2) sc_l_row_by.nd rfl (by first | exact .inl rfl | exact .inr rfl) (r := .dat _) (gd_mod (by (first | decide | omega)) (gd_var (pv 0) rfl) gd_int) ?_
    refine gss_cons (M := fun Γ' S' => Γ' = [.dat (.int c), .dat (.int m), .dat (.int (sizA c : Int)), .un, .un] ∧ S' = []) (gs_if (gt_eq hr.units (gd_mod (by (first | decide | omega)) (gd_fdiv (by (exact ⟨by decide, by decide⟩)) (gd_var (pv 0) rfl) gd_int) gd_int) gd_int (by (first | exact ckw_sh _ | exact sh | exact kd_shaped _ | exact shaped_int _ | exact shaped_bool _ | exact shaped_none | assumption | exact shaped_ints _ | exact shaped_str (by decide +kernel) | exact rfl | decide +kernel)) (by (first | exact ckw_sh _ | exact sh | exact kd_shaped _ | exact shaped_int _ | exact shaped_bool _ | exact shaped_none | assumption | exact shaped_ints _ | exact shaped_str (by decide +kernel) | exact rfl | decide +kernel))) (fun h => ?_) (fun h => gss_nil ⟨?_, rfl⟩)) ?_
    · refine gss_set (i := 2) sc_l_row_by.nd rfl (by first | exact .inl rfl | exact .inr rfl) (r := .dat _) (gd_add gd_int (gd_mod (by (first | decide | omega)) (gd_fdiv (by (exact ⟨by decide, by decide⟩)) (gd_var (pv 0) rfl) gd_int) gd_int)) (gss_nil ⟨?_, rfl⟩)
      have h : c / 7 % 4 = 1 := by simpa [eqv_int] using h
      have e : (sizA c : Int) = 55 + c / 28 % 7 := by unfold sizA; rw [if_pos h]; omega
      rw [e]; rfl
    · have h : ¬ c / 7 % 4 = 1 := by simpa [eqv_int] using h
      have e : (sizA c : Int) = c % 7 := by unfold sizA; rw [if_neg h]; omega
      rw [e]; rfl
    rintro Γ' S' ⟨rfl, rfl⟩
    generalize sizA c = n at hsz ⊢
    refine gss_then ?_
    refine gs_setLcR (j := 4) 3 (fun k : Nat => .tuple [.str "add", .int (c / 7 % 5 + (k : Int))]) rfl rfl (sw_true rfl rfl rfl (by decide +kernel)) rfl sc_l_row_by.nd rfl T.z_range (gd_var (pv 2) rfl) ⟨by omega, by omega⟩ (blkOk_by (own := [("_law_k", 4)]) (N := ["_law_cell", "_law_many", "_law_size", "_law_row", "_law_k"]) (sc := defScope s_l_row_by) (by decide +kernel)) (fun _ _ _ _ _ => pg_name (i := 4) sc_l_row_by.nd rfl (Or.inl rfl)) (fun i D acc hi _ _ _ _ _ => by
      skip
      exact (gd_tup (ga_cons gd_str (ga_cons (gd_add (gd_mod (by (first | decide | omega)) (gd_fdiv (by (exact ⟨by decide, by decide⟩)) (gd_var (pv 0) rfl) gd_int) gd_int) (gd_var (pv 4) rfl)) ga_nil)) (by (first | decide | omega | (simp only [List.length_append, List.length_cons, List.length_nil, List.length_map, List.length_set, List.length_take, List.length_drop]; omega))))) (q := ?_)
    rw [Int.toNat_natCast]
    refine gss_cons (M := fun Γ' S' => Γ' = [.dat (.int c), .dat (.int m), .dat (.int (n : Int)), .dat (.list (rowA c m n)), .un] ∧ S' = []) (gs_if (gt_of (gw_and (gt_gt (gd_var (pv 1) rfl) gd_int) (fun hh => by first | exact gw_dead (absurd hh (by (first | decide +kernel | (simp only [List.length_cons, List.length_nil, eqv_int]; decide) | (simp only [List.length_cons, List.length_nil, eqv_int, decide_eq_true_eq, decide_eq_false_iff_not]; omega)))) | exact (gw_and1 (gt_gt (gd_var (pv 2) rfl) gd_int))))) (fun h => ?_) (fun h => gss_nil ⟨?_, rfl⟩)) ?_
    · have hn : 0 < n := by
        rw [Bool.and_eq_true] at h
        have := of_decide_eq_true h.2
        omega
      have hm : 0 < m := by
        rw [Bool.and_eq_true] at h
        exact of_decide_eq_true h.1
      have hil : (c / 196 % (n : Int)).toNat < ((List.range n).map fun k : Nat => (Stp.add (c / 7 % 5 + (k : Int))).toD).length := by
        rw [List.length_map, List.length_range]
        have := Int.emod_lt_of_pos (c / 196) (show (0 : Int) < (n : Int) by omega)
        have := Int.emod_nonneg (c / 196) (show (n : Int) ≠ 0 by omega)
        omega
      have hn0 : (0 : Int) < (n : Int) := by omega
      refine gss_set (i := 3) sc_l_row_by.nd rfl (by first | exact .inl rfl | exact .inr rfl) (r := .dat _) (gd_call (ok_l_put T) (hr.mono (by decide)) rfl T.m_l_put T.F_l_put.kp T.b_l_put pass0 (ga_cons (gd_var (pv 3) rfl) (ga_cons (gd_mod (by (first | decide | omega)) (gd_fdiv (by (exact ⟨by decide, by decide⟩)) (gd_var (pv 0) rfl) gd_int) (gd_var (pv 2) rfl)) (ga_cons (gd_tup (ga_cons gd_str (ga_cons (gd_mod (by (first | decide | omega)) (gd_fdiv (by (exact ⟨by decide, by decide⟩)) (gd_var (pv 0) rfl) gd_int) (gd_var (pv 1) rfl)) ga_nil)) (by (first | decide | omega | (simp only [List.length_append, List.length_cons, List.length_nil, List.length_map, List.length_set, List.length_take, List.length_drop]; omega)))) ga_nil))) (by (first | exact ⟨db, ia, _, rfl, hil, by omega, rfl⟩ | exact ⟨(List.range n).map fun k : Nat => (Stp.add (c / 7 % 5 + (k : Int))).toD, (c / 196 % (n : Int)).toNat, (Stp.load (c / 7 % m)).toD, by rw [Int.toNat_of_nonneg (Int.emod_nonneg _ (by omega))]; rfl, hil, by rw [List.length_map, List.length_range]; omega, rfl⟩))) (gss_nil ⟨?_, rfl⟩)
      unfold rowA
      rw [if_pos h]; rfl
    · unfold rowA
      rw [if_neg (by rw [h]; decide)]; rfl
    rintro Γ' S' ⟨rfl, rfl⟩
    exact gss_ret (r := .dat _) (gd_var (pv 3) rfl) rfl
theorem sc_l_wrong_by : FnScope ["_law_cell", "_law_many", "_law_things"] ["_law_cell", "_law_many"] (defScope s_l_wrong_by) := ⟨rfl, rfl, rfl, by decide +kernel, rfl, by decide +kernel, by decide +kernel⟩
theorem ok_l_wrong_by (T : Txt K mg) : FnOk P w K mg base CX0 1 T.f_l_wrong_by T.d_l_wrong_by ["_law_cell", "_law_many"] (SpD K R_l_wrong_by) := by
  refine pure_def T.F_l_wrong_by sc_l_wrong_by (fun ds d h => ?_) (fun cdv A outer s H E B ds d hr h => ?_)
  · obtain ⟨c, m, rfl, rfl⟩ := h; rfl
  · obtain ⟨c, m, rfl, rfl⟩ := h
    refine gss_set (i := 2) sc_l_wrong_by.nd rfl (by first | exact .inl rfl | exact .inr rfl) (r := .dat _) (gd_lst (ga_cons (gd_tup (ga_cons gd_str (ga_cons gd_int ga_nil)) (by (first | decide | omega | (simp only [List.length_append, List.length_cons, List.length_nil, List.length_map, List.length_set, List.length_take, List.length_drop]; omega)))) (ga_cons (gd_tup (ga_cons gd_str ga_nil) (by (first | decide | omega | (simp only [List.length_append, List.length_cons, List.length_nil, List.length_map, List.length_set, List.length_take, List.length_drop]; omega)))) (ga_cons (gd_tup (ga_cons gd_str (ga_cons gd_str ga_nil)) (by (first | decide | omega | (simp only [List.length_append, List.length_cons, List.length_nil, List.length_map, List.length_set, List.length_take, List.length_drop]; omega)))) (ga_cons (gd_tup (ga_cons gd_str (ga_cons gd_int ga_nil)) (by (first | decide | omega | (simp only [List.length_append, List.length_cons, List.length_nil, List.length_map, List.length_set, List.length_take, List.length_drop]; omega)))) (ga_cons gd_non (ga_cons gd_str (ga_cons (gd_lst (ga_cons gd_str ga_nil) (by (first | decide | omega | (simp only [List.length_append, List.length_cons, List.length_nil, List.length_map, List.length_set, List.length_take, List.length_drop]; omega)))) (ga_cons (gd_tup (ga_cons gd_str (ga_cons gd_bl ga_nil)) (by (first | decide | omega | (simp only [List.length_append, List.length_cons, List.length_nil, List.length_map, List.length_set, List.length_take, List.length_drop]; omega)))) ga_nil)))))))) (by (first | decide | omega | (simp only [List.length_append, List.length_cons, List.length_nil, List.length_map, List.length_set, List.length_take, List.length_drop]; omega)))) ?_
    refine gss_set (i := 2) sc_l_wrong_by.nd rfl (by first | exact .inl rfl | exact .inr rfl) (r := .dat _) (gd_cat (gd_var (pv 2) rfl) (gd_lst (ga_cons (gd_tup (ga_cons gd_str (ga_cons (gd_var (pv 1) rfl) ga_nil)) (by (first | decide | omega | (simp only [List.length_append, List.length_cons, List.length_nil, List.length_map, List.length_set, List.length_take, List.length_drop]; omega)))) (ga_cons (gd_tup (ga_cons gd_str (ga_cons (gd_sub (gd_neg gd_int) (gd_mod (by (first | decide | omega)) (gd_fdiv (by (exact ⟨by decide, by decide⟩)) (gd_var (pv 0) rfl) gd_int) gd_int)) ga_nil)) (by (first | decide | omega | (simp only [List.length_append, List.length_cons, List.length_nil, List.length_map, List.length_set, List.length_take, List.length_drop]; omega)))) (ga_cons (gd_tup (ga_cons gd_str (ga_cons (gd_add (gd_pow (by (exact ⟨by decide, by decide, by decide⟩)) gd_int gd_int) (gd_mod (by (first | decide | omega)) (gd_fdiv (by (exact ⟨by decide, by decide⟩)) (gd_var (pv 0) rfl) gd_int) gd_int)) ga_nil)) (by (first | decide | omega | (simp only [List.length_append, List.length_cons, List.length_nil, List.length_map, List.length_set, List.length_take, List.length_drop]; omega)))) ga_nil))) (by (first | decide | omega | (simp only [List.length_append, List.length_cons, List.length_nil, List.length_map, List.length_set, List.length_take, List.length_drop]; omega)))) (by (first | decide | omega | (simp only [List.length_append, List.length_cons, List.length_nil, List.length_map, List.length_set, List.length_take, List.length_drop]; omega)))) ?_
    have q := at_get (xs := wrongL c m) (i := c % 11) (by omega) (by show c % 11 < 11; omega)
    refine gss_ret (r := .dat _) (gd_ixL (gd_var (pv 2) rfl) (gd_mod (by (first | decide | omega)) (gd_var (pv 0) rfl) gd_int) (by (first | exact q | assumption | exact ixh | exact ixb (by assumption) | exact rfl | (simp only [*]; exact rfl)))) ?_
    rfl
theorem sc_l_with_guards : FnScope ["_law_row", "_law_cell", "_law_guards", "_law_at"] ["_law_row", "_law_cell"] (defScope s_l_with_guards) := ⟨rfl, rfl, rfl, by decide +kernel, rfl, by decide +kernel, by decide +kernel⟩
theorem ok_l_with_guards (T : Txt K mg) : FnOk P w K mg base CX0 1 T.f_l_with_guards T.d_l_with_guards ["_law_row", "_law_cell"] (SpD K R_l_with_guards) := by
  refine pure_def T.F_l_with_guards sc_l_with_guards (fun ds d h => ?_) (fun cdv A outer s H E B ds d hr h => ?_)
  · obtain ⟨xs, c, rfl, hl, rfl⟩ := h; rfl
  · obtain ⟨xs, c, rfl, hl, rfl⟩ := h
    refine gss_set (i := 2) sc_l_with_guards.nd rfl (by first | exact .inl rfl | exact .inr rfl) (r := .dat (.list (gdsD c))) (gd_cast (gd_ixL (gd_lst (ga_cons (gd_lst (ga_cons (gd_tup (ga_cons gd_str ga_nil) (by (first | decide | omega | (simp only [List.length_append, List.length_cons, List.length_nil, List.length_map, List.length_set, List.length_take, List.length_drop]; omega)))) (ga_cons (gd_tup (ga_cons gd_str ga_nil) (by (first | decide | omega | (simp only [List.length_append, List.length_cons, List.length_nil, List.length_map, List.length_set, List.length_take, List.length_drop]; omega)))) ga_nil)) (by (first | decide | omega | (simp only [List.length_append, List.length_cons, List.length_nil, List.length_map, List.length_set, List.length_take, List.length_drop]; omega)))) (ga_cons (gd_lst (ga_cons (gd_tup (ga_cons gd_str ga_nil) (by (first | decide | omega | (simp only [List.length_append, List.length_cons, List.length_nil, List.length_map, List.length_set, List.length_take, List.length_drop]; omega)))) ga_nil) (by (first | decide | omega | (simp only [List.length_append, List.length_cons, List.length_nil, List.length_map, List.length_set, List.length_take, List.length_drop]; omega)))) (ga_cons (gd_lst (ga_cons (gd_tup (ga_cons gd_str ga_nil) (by (first | decide | omega | (simp only [List.length_append, List.length_cons, List.length_nil, List.length_map, List.length_set, List.length_take, List.length_drop]; omega)))) ga_nil) (by (first | decide | omega | (simp only [List.length_append, List.length_cons, List.length_nil, List.length_map, List.length_set, List.length_take, List.length_drop]; omega)))) (ga_cons (gd_lst ga_nil (by (first | decide | omega | (simp only [List.length_append, List.length_cons, List.length_nil, List.length_map, List.length_set, List.length_take, List.length_drop]; omega)))) ga_nil)))) (by (first | decide | omega | (simp only [List.length_append, List.length_cons, List.length_nil, List.length_map, List.length_set, List.length_take, List.length_drop]; omega)))) (gd_mod (by (first | decide | omega)) (gd_var (pv 1) rfl) gd_int) (gds_at c)) rfl) ?_
    have hgl := (gds_rd c).2
    have hi : wgI xs c ≤ xs.length := by
      unfold wgI
      have h1 := Int.emod_nonneg (c / 4) (show ((xs.length : Int) + 1) ≠ 0 by omega)
      have h2 := Int.emod_lt_of_pos (c / 4) (show 0 < ((xs.length : Int) + 1) by omega)
      split <;> omega
    refine gss_set (i := 3) sc_l_with_guards.nd rfl (by first | exact .inl rfl | exact .inr rfl) (r := .dat _) (gd_mod (by (first | decide | omega)) (gd_fdiv (by (exact ⟨by decide, by decide⟩)) (gd_var (pv 1) rfl) gd_int) (gd_add (gd_callB call_len (ca_len (by first | exact .inl rfl | exact .inr rfl)) rfl T.z_len (by decide +kernel) (ga_cons (gd_var (pv 0) rfl) ga_nil)) gd_int)) ?_
    refine gss_cons (M := fun Γ' S' => Γ' = [.dat (.list xs), .dat (.int c), .dat (.list (gdsD c)), .dat (.int (wgI xs c : Int))] ∧ S' = []) (gs_if (gt_eq hr.units (gd_mod (by (first | decide | omega)) (gd_fdiv (by (exact ⟨by decide, by decide⟩)) (gd_var (pv 1) rfl) gd_int) gd_int) gd_int (by (first | exact ckw_sh _ | exact sh | exact kd_shaped _ | exact shaped_int _ | exact shaped_bool _ | exact shaped_none | assumption | exact shaped_ints _ | exact shaped_str (by decide +kernel) | exact rfl | decide +kernel)) (by (first | exact ckw_sh _ | exact sh | exact kd_shaped _ | exact shaped_int _ | exact shaped_bool _ | exact shaped_none | assumption | exact shaped_ints _ | exact shaped_str (by decide +kernel) | exact rfl | decide +kernel))) (fun h => ?_) (fun h => gss_nil ⟨?_, rfl⟩)) ?_
    · refine gss_set (i := 3) sc_l_with_guards.nd rfl (by first | exact .inl rfl | exact .inr rfl) (r := .dat _) gd_int (gss_nil ⟨?_, rfl⟩)
      have h : c / 64 % 2 = 0 := by simpa [eqv_int] using h
      have e : (wgI xs c : Int) = 0 := by unfold wgI; rw [if_pos h]; rfl
      rw [e]; rfl
    · have h : ¬ c / 64 % 2 = 0 := by simpa [eqv_int] using h
      have h1 := Int.emod_nonneg (c / 4) (show ((xs.length : Int) + 1) ≠ 0 by omega)
      have e : (wgI xs c : Int) = c / 4 % ((xs.length : Int) + 1) := by unfold wgI; rw [if_neg h]; omega
      rw [e]; rfl
    rintro Γ' S' ⟨rfl, rfl⟩
    generalize wgI xs c = i at hi ⊢
    have c1 : G.cutD xs none (some (i : Int)) = xs.take i := cut_lo hi
    have c2 : G.cutD xs (some (i : Int)) none = xs.drop i := cut_dr hi rfl
    have c3 : (G.cutD xs none (some (i : Int))).length ≤ 100 := by rw [c1, List.length_take]; omega
    have c4 : (G.cutD xs (some (i : Int)) none).length ≤ 100 := by rw [c2, List.length_drop]; omega
    refine gss_ret (r := .dat _) (gd_cat (gd_cat (gd_slice (gd_var (pv 0) rfl) go_none (go_some (gd_var (pv 3) rfl))) (gd_var (pv 2) rfl) (by (first | decide | omega | (simp only [List.length_append, List.length_cons, List.length_nil, List.length_map, List.length_set, List.length_take, List.length_drop]; omega)))) (gd_slice (gd_var (pv 0) rfl) (go_some (gd_var (pv 3) rfl)) go_none) (by (first | decide | omega | (simp only [List.length_append, List.length_cons, List.length_nil, List.length_map, List.length_set, List.length_take, List.length_drop]; omega)))) ?_
    show Sl.dat (.list _) = Sl.dat (.list _)
    rw [c1, c2]; rfl
theorem sc_l_due : FnScope ["_law_row", "_law_many", "_law_step"] ["_law_row", "_law_many"] (defScope s_l_due) := ⟨rfl, rfl, rfl, by decide +kernel, rfl, by decide +kernel, by decide +kernel⟩
theorem ok_l_due (T : Txt K mg) : FnOk P w K mg base CX0 1 T.f_l_due T.d_l_due ["_law_row", "_law_many"] (SpD K R_l_due) := by
  refine pure_def T.F_l_due sc_l_due (fun ds d h => ?_) (fun cdv A outer s H E B ds d hr h => ?_)
  · obtain ⟨xs, m, rfl, hm, hrd, hl, rfl⟩ := h; rfl
  · obtain ⟨xs, m, rfl, hm, hrd, hl, rfl⟩ := h
    refine gss_if (gt_gt (gd_callB call_len (ca_len (by first | exact .inl rfl | exact .inr rfl)) rfl T.z_len (by decide +kernel) (ga_cons (gd_var (pv 0) rfl) ga_nil)) gd_int) (fun h => ?_) (fun h => gss_nil ?_)
    · have h : 60 < xs.length := by have := of_decide_eq_true h; omega
      refine gss_ret (r := .dat _) gd_str ?_
      show Sl.dat (.str _) = Sl.dat (.str _)
      unfold chk
      rw [if_pos h]; rfl
    have hck : chk m.toNat xs = firstC m.toNat xs := by
      unfold chk
      exact if_neg (by have := of_decide_eq_false h; omega)
    refine gss_cons (M := fun Γ' S' => S' = [] ∧ firstC m.toNat xs = none ∧ ∃ x, Γ' = [.dat (.list xs), .dat (.int m), x]) (gs_forL (ds := xs) .never rfl (gd_var (pv 0) rfl) sc_l_due.nd (j := 2) rfl (by first | exact .inl rfl | exact .inr rfl) (fun i Γ' S' => S' = [] ∧ firstC m.toNat (xs.drop i) = firstC m.toNat xs ∧ ∃ x, Γ' = [.dat (.list xs), .dat (.int m), x]) ⟨rfl, rfl, .un, rfl⟩ ?_ ?_) ?_
    · rintro i d Γ' S' G hd ⟨rfl, hf, x, rfl⟩
      rw [first_drop hd] at hf
      rcases hrd d (List.mem_of_getElem? hd) with ⟨t, rfl, htw, _⟩ | hbad
      · have sh := stp_shaped t
        have hcd : chkD m.toNat t.toD = if (t.kd.isBox && !(decide (0 ≤ t.b) && decide (t.b < (m.toNat : Int)))) = true then some .badBox else none := by
          unfold chkD
          rw [if_pos (stp_isD t), boxOut_stp]
        rw [hcd] at hf
        refine gss_if (gt_of (gw_or (gt_eq hr.units (gd_var (pv 2) rfl) (gd_tup (ga_cons gd_str ga_nil) (by (first | decide | omega | (simp only [List.length_append, List.length_cons, List.length_nil, List.length_map, List.length_set, List.length_take, List.length_drop]; omega)))) (by (first | exact ckw_sh _ | exact sh | exact kd_shaped _ | exact shaped_int _ | exact shaped_bool _ | exact shaped_none | assumption | exact shaped_ints _ | exact shaped_str (by decide +kernel) | exact rfl | decide +kernel)) (by (first | exact ckw_sh _ | exact sh | exact kd_shaped _ | exact shaped_int _ | exact shaped_bool _ | exact shaped_none | assumption | exact shaped_ints _ | exact shaped_str (by decide +kernel) | exact rfl | decide +kernel))) (fun hh => by first | exact gw_dead (absurd hh (by (first | decide +kernel | (simp only [List.length_cons, List.length_nil, eqv_int]; decide) | (simp only [List.length_cons, List.length_nil, eqv_int, decide_eq_true_eq, decide_eq_false_iff_not]; omega)))) | exact (gw_or1 (gt_eq hr.units (gd_var (pv 2) rfl) (gd_tup (ga_cons gd_str ga_nil) (by (first | decide | omega | (simp only [List.length_append, List.length_cons, List.length_nil, List.length_map, List.length_set, List.length_take, List.length_drop]; omega)))) (by (first | exact ckw_sh _ | exact sh | exact kd_shaped _ | exact shaped_int _ | exact shaped_bool _ | exact shaped_none | assumption | exact shaped_ints _ | exact shaped_str (by decide +kernel) | exact rfl | decide +kernel)) (by (first | exact ckw_sh _ | exact sh | exact kd_shaped _ | exact shaped_int _ | exact shaped_bool _ | exact shaped_none | assumption | exact shaped_ints _ | exact shaped_str (by decide +kernel) | exact rfl | decide +kernel))))))) (fun h => ?_) (fun h => gss_nil ?_)
        · rw [eqv_tk] at h
          have hb : t.kd.isBox = false := by cases t <;> first | rfl | cases h
          rw [hb] at hf
          exact gss_one (gs_continue ⟨rfl, hf, _, rfl⟩)
        rw [eqv_tk] at h
        cases t with
        | twice => exact absurd rfl htw
        | take => cases h
        | free => cases h
        | add x =>
          refine gss_if (gt_of (gw_or (gt_not (gt_val (gd_isi (n := "tuple") rfl T.z_isinstance (by decide +kernel) (pe_bltn rfl T.z_tuple (by decide +kernel) rfl) (gd_var (pv 2) rfl) (by first | exact kit_tuple_tuple | exact kit_list_tuple | exact kit_int_tuple | exact kit_bool_tuple | exact kit_str_tuple | exact kit_NoneType_tuple | exact kit_dict_tuple)))) (fun hh => by first | exact gw_dead (absurd hh (by (first | decide +kernel | (simp only [List.length_cons, List.length_nil, eqv_int]; decide) | (simp only [List.length_cons, List.length_nil, eqv_int, decide_eq_true_eq, decide_eq_false_iff_not]; omega)))) | exact (gw_or (gt_eq hr.units (gd_callB call_len (ca_len (by first | exact .inl rfl | exact .inr rfl)) rfl T.z_len (by decide +kernel) (ga_cons (gd_var (pv 2) rfl) ga_nil)) gd_int (by (first | exact ckw_sh _ | exact sh | exact kd_shaped _ | exact shaped_int _ | exact shaped_bool _ | exact shaped_none | assumption | exact shaped_ints _ | exact shaped_str (by decide +kernel) | exact rfl | decide +kernel)) (by (first | exact ckw_sh _ | exact sh | exact kd_shaped _ | exact shaped_int _ | exact shaped_bool _ | exact shaped_none | assumption | exact shaped_ints _ | exact shaped_str (by decide +kernel) | exact rfl | decide +kernel))) (fun hh => by first | exact gw_dead (absurd hh (by (first | decide +kernel | (simp only [List.length_cons, List.length_nil, eqv_int]; decide) | (simp only [List.length_cons, List.length_nil, eqv_int, decide_eq_true_eq, decide_eq_false_iff_not]; omega)))) | exact (gw_or1 (gt_notIn rfl (gd_ixT (gd_var (pv 2) rfl) gd_int (by (first | exact q | assumption | exact ixh | exact ixb (by assumption) | exact rfl | (simp only [*]; exact rfl)))) (gd_tup (ga_cons gd_str (ga_cons gd_str (ga_cons gd_str (ga_cons gd_str ga_nil)))) (by (first | decide | omega | (simp only [List.length_append, List.length_cons, List.length_nil, List.length_map, List.length_set, List.length_take, List.length_drop]; omega)))) (by (first | exact rfl | decide)) (by (first | exact rfl | decide))))))))) (fun h => absurd h (by rw [in_due]; simp [eqv_int, Stp.kd, Stp.args, Kd.isBox])) (fun _ => gss_nil ?_)
          refine gss_if (gt_of (gw_or (gt_ne hr.units (gd_callB call_len (ca_len (by first | exact .inl rfl | exact .inr rfl)) rfl T.z_len (by decide +kernel) (ga_cons (gd_var (pv 2) rfl) ga_nil)) gd_int (by (first | exact ckw_sh _ | exact sh | exact kd_shaped _ | exact shaped_int _ | exact shaped_bool _ | exact shaped_none | assumption | exact shaped_ints _ | exact shaped_str (by decide +kernel) | exact rfl | decide +kernel)) (by (first | exact ckw_sh _ | exact sh | exact kd_shaped _ | exact shaped_int _ | exact shaped_bool _ | exact shaped_none | assumption | exact shaped_ints _ | exact shaped_str (by decide +kernel) | exact rfl | decide +kernel))) (fun hh => by first | exact gw_dead (absurd hh (by (first | decide +kernel | (simp only [List.length_cons, List.length_nil, eqv_int]; decide) | (simp only [List.length_cons, List.length_nil, eqv_int, decide_eq_true_eq, decide_eq_false_iff_not]; omega)))) | exact (gw_or (gt_not (gt_val (gd_isi (n := "int") rfl T.z_isinstance (by decide +kernel) (pe_bltn rfl T.z_int (by decide +kernel) rfl) (gd_ixT (gd_var (pv 2) rfl) gd_int (by (first | exact q | assumption | exact ixh | exact ixb (by assumption) | exact rfl | (simp only [*]; exact rfl)))) (by first | exact kit_tuple_int | exact kit_list_int | exact kit_int_int | exact kit_bool_int | exact kit_str_int | exact kit_NoneType_int | exact kit_dict_int)))) (fun hh => by first | exact gw_dead (absurd hh (by (first | decide +kernel | (simp only [List.length_cons, List.length_nil, eqv_int]; decide) | (simp only [List.length_cons, List.length_nil, eqv_int, decide_eq_true_eq, decide_eq_false_iff_not]; omega)))) | exact (gw_or1 (gt_val (gd_isi (n := "bool") rfl T.z_isinstance (by decide +kernel) (pe_bltn rfl T.z_bool (by decide +kernel) rfl) (gd_ixT (gd_var (pv 2) rfl) gd_int (by (first | exact q | assumption | exact ixh | exact ixb (by assumption) | exact rfl | (simp only [*]; exact rfl)))) (by first | exact kit_tuple_bool | exact kit_list_bool | exact kit_int_bool | exact kit_bool_bool | exact kit_str_bool | exact kit_NoneType_bool | exact kit_dict_bool))))))))) (fun h => absurd h (by simp [eqv_int, Stp.args])) (fun _ => gss_nil ?_)
          exact gss_one (gs_if (k := false) (gt_cast (gt_of (gw_and (gt_ne hr.units (gd_ixT (gd_var (pv 2) rfl) gd_int (by (first | exact q | assumption | exact ixh | exact ixb (by assumption) | exact rfl | (simp only [*]; exact rfl)))) gd_str (by (first | exact ckw_sh _ | exact sh | exact kd_shaped _ | exact shaped_int _ | exact shaped_bool _ | exact shaped_none | assumption | exact shaped_ints _ | exact shaped_str (by decide +kernel) | exact rfl | decide +kernel)) (by (first | exact ckw_sh _ | exact sh | exact kd_shaped _ | exact shaped_int _ | exact shaped_bool _ | exact shaped_none | assumption | exact shaped_ints _ | exact shaped_str (by decide +kernel) | exact rfl | decide +kernel))) (fun hh => by first | exact gw_dead (absurd hh (by (first | decide +kernel | (simp only [List.length_cons, List.length_nil, eqv_int]; decide) | (simp only [List.length_cons, List.length_nil, eqv_int, decide_eq_true_eq, decide_eq_false_iff_not]; omega)))) | exact (gw_and1 (gt_not (gt_chain_le_lt gd_int (gd_ixT (gd_var (pv 2) rfl) gd_int (by (first | exact q | assumption | exact ixh | exact ixb (by assumption) | exact rfl | (simp only [*]; exact rfl)))) (fun _ => (gd_var (pv 1) rfl)))))))) (by rw [kd_add]; rfl)) (fun h => nomatch h) (fun _ => gss_nil ⟨rfl, hf, _, rfl⟩))
        | load x =>
          refine gss_if (gt_of (gw_or (gt_not (gt_val (gd_isi (n := "tuple") rfl T.z_isinstance (by decide +kernel) (pe_bltn rfl T.z_tuple (by decide +kernel) rfl) (gd_var (pv 2) rfl) (by first | exact kit_tuple_tuple | exact kit_list_tuple | exact kit_int_tuple | exact kit_bool_tuple | exact kit_str_tuple | exact kit_NoneType_tuple | exact kit_dict_tuple)))) (fun hh => by first | exact gw_dead (absurd hh (by (first | decide +kernel | (simp only [List.length_cons, List.length_nil, eqv_int]; decide) | (simp only [List.length_cons, List.length_nil, eqv_int, decide_eq_true_eq, decide_eq_false_iff_not]; omega)))) | exact (gw_or (gt_eq hr.units (gd_callB call_len (ca_len (by first | exact .inl rfl | exact .inr rfl)) rfl T.z_len (by decide +kernel) (ga_cons (gd_var (pv 2) rfl) ga_nil)) gd_int (by (first | exact ckw_sh _ | exact sh | exact kd_shaped _ | exact shaped_int _ | exact shaped_bool _ | exact shaped_none | assumption | exact shaped_ints _ | exact shaped_str (by decide +kernel) | exact rfl | decide +kernel)) (by (first | exact ckw_sh _ | exact sh | exact kd_shaped _ | exact shaped_int _ | exact shaped_bool _ | exact shaped_none | assumption | exact shaped_ints _ | exact shaped_str (by decide +kernel) | exact rfl | decide +kernel))) (fun hh => by first | exact gw_dead (absurd hh (by (first | decide +kernel | (simp only [List.length_cons, List.length_nil, eqv_int]; decide) | (simp only [List.length_cons, List.length_nil, eqv_int, decide_eq_true_eq, decide_eq_false_iff_not]; omega)))) | exact (gw_or1 (gt_notIn rfl (gd_ixT (gd_var (pv 2) rfl) gd_int (by (first | exact q | assumption | exact ixh | exact ixb (by assumption) | exact rfl | (simp only [*]; exact rfl)))) (gd_tup (ga_cons gd_str (ga_cons gd_str (ga_cons gd_str (ga_cons gd_str ga_nil)))) (by (first | decide | omega | (simp only [List.length_append, List.length_cons, List.length_nil, List.length_map, List.length_set, List.length_take, List.length_drop]; omega)))) (by (first | exact rfl | decide)) (by (first | exact rfl | decide))))))))) (fun h => absurd h (by rw [in_due]; simp [eqv_int, Stp.kd, Stp.args, Kd.isBox])) (fun _ => gss_nil ?_)
          refine gss_if (gt_of (gw_or (gt_ne hr.units (gd_callB call_len (ca_len (by first | exact .inl rfl | exact .inr rfl)) rfl T.z_len (by decide +kernel) (ga_cons (gd_var (pv 2) rfl) ga_nil)) gd_int (by (first | exact ckw_sh _ | exact sh | exact kd_shaped _ | exact shaped_int _ | exact shaped_bool _ | exact shaped_none | assumption | exact shaped_ints _ | exact shaped_str (by decide +kernel) | exact rfl | decide +kernel)) (by (first | exact ckw_sh _ | exact sh | exact kd_shaped _ | exact shaped_int _ | exact shaped_bool _ | exact shaped_none | assumption | exact shaped_ints _ | exact shaped_str (by decide +kernel) | exact rfl | decide +kernel))) (fun hh => by first | exact gw_dead (absurd hh (by (first | decide +kernel | (simp only [List.length_cons, List.length_nil, eqv_int]; decide) | (simp only [List.length_cons, List.length_nil, eqv_int, decide_eq_true_eq, decide_eq_false_iff_not]; omega)))) | exact (gw_or (gt_not (gt_val (gd_isi (n := "int") rfl T.z_isinstance (by decide +kernel) (pe_bltn rfl T.z_int (by decide +kernel) rfl) (gd_ixT (gd_var (pv 2) rfl) gd_int (by (first | exact q | assumption | exact ixh | exact ixb (by assumption) | exact rfl | (simp only [*]; exact rfl)))) (by first | exact kit_tuple_int | exact kit_list_int | exact kit_int_int | exact kit_bool_int | exact kit_str_int | exact kit_NoneType_int | exact kit_dict_int)))) (fun hh => by first | exact gw_dead (absurd hh (by (first | decide +kernel | (simp only [List.length_cons, List.length_nil, eqv_int]; decide) | (simp only [List.length_cons, List.length_nil, eqv_int, decide_eq_true_eq, decide_eq_false_iff_not]; omega)))) | exact (gw_or1 (gt_val (gd_isi (n := "bool") rfl T.z_isinstance (by decide +kernel) (pe_bltn rfl T.z_bool (by decide +kernel) rfl) (gd_ixT (gd_var (pv 2) rfl) gd_int (by (first | exact q | assumption | exact ixh | exact ixb (by assumption) | exact rfl | (simp only [*]; exact rfl)))) (by first | exact kit_tuple_bool | exact kit_list_bool | exact kit_int_bool | exact kit_bool_bool | exact kit_str_bool | exact kit_NoneType_bool | exact kit_dict_bool))))))))) (fun h => absurd h (by simp [eqv_int, Stp.args])) (fun _ => gss_nil ?_)
          by_cases hin : 0 ≤ x ∧ x < m
          · have hcd2 : (if ((Stp.load x).kd.isBox && !(decide (0 ≤ (Stp.load x).b) && decide ((Stp.load x).b < (m.toNat : Int)))) = true then some Ck.badBox else none) = none := if_neg (by
              have h1 : decide (0 ≤ x) = true := decide_eq_true hin.1
              have h2 : decide (x < (m.toNat : Int)) = true := decide_eq_true (by omega)
              show ¬ ((true && !(decide (0 ≤ x) && decide (x < (m.toNat : Int)))) = true)
              rw [h1, h2]; decide)
            rw [hcd2] at hf
            refine gss_one (gs_if (k := false) (gt_cast (gt_of (gw_and (gt_ne hr.units (gd_ixT (gd_var (pv 2) rfl) gd_int (by (first | exact q | assumption | exact ixh | exact ixb (by assumption) | exact rfl | (simp only [*]; exact rfl)))) gd_str (by (first | exact ckw_sh _ | exact sh | exact kd_shaped _ | exact shaped_int _ | exact shaped_bool _ | exact shaped_none | assumption | exact shaped_ints _ | exact shaped_str (by decide +kernel) | exact rfl | decide +kernel)) (by (first | exact ckw_sh _ | exact sh | exact kd_shaped _ | exact shaped_int _ | exact shaped_bool _ | exact shaped_none | assumption | exact shaped_ints _ | exact shaped_str (by decide +kernel) | exact rfl | decide +kernel))) (fun hh => by first | exact gw_dead (absurd hh (by (first | decide +kernel | (simp only [List.length_cons, List.length_nil, eqv_int]; decide) | (simp only [List.length_cons, List.length_nil, eqv_int, decide_eq_true_eq, decide_eq_false_iff_not]; omega)))) | exact (gw_and1 (gt_not (gt_chain_le_lt gd_int (gd_ixT (gd_var (pv 2) rfl) gd_int (by (first | exact q | assumption | exact ixh | exact ixb (by assumption) | exact rfl | (simp only [*]; exact rfl)))) (fun _ => (gd_var (pv 1) rfl)))))))) (by show (!PyData.eqv (.str (Kd.word .load)) (.str "add") && !(decide (0 ≤ x) && decide (x < m))) = false; rw [decide_eq_true hin.1, decide_eq_true hin.2, kd_add]; rfl)) (fun h => nomatch h) (fun _ => gss_nil ⟨rfl, hf, _, rfl⟩))
          · have hcd2 : (if ((Stp.load x).kd.isBox && !(decide (0 ≤ (Stp.load x).b) && decide ((Stp.load x).b < (m.toNat : Int)))) = true then some Ck.badBox else none) = some .badBox := if_pos (by
              show (true && !(decide (0 ≤ x) && decide (x < (m.toNat : Int)))) = true
              rw [Bool.true_and]
              have : (decide (0 ≤ x) && decide (x < (m.toNat : Int))) = false := by
                cases q : (decide (0 ≤ x) && decide (x < (m.toNat : Int))) with
                | false => rfl
                | true =>
                  rw [Bool.and_eq_true] at q
                  exact absurd ⟨of_decide_eq_true q.1, by have := of_decide_eq_true q.2; omega⟩ hin
              rw [this]; rfl)
            rw [hcd2] at hf
            have hq : (decide (0 ≤ x) && decide (x < m)) = false := by
              cases q : (decide (0 ≤ x) && decide (x < m)) with
              | false => rfl
              | true =>
                rw [Bool.and_eq_true] at q
                exact absurd ⟨of_decide_eq_true q.1, of_decide_eq_true q.2⟩ hin
            refine gss_one (gs_if (k := true) (gt_cast (gt_of (gw_and (gt_ne hr.units (gd_ixT (gd_var (pv 2) rfl) gd_int (by (first | exact q | assumption | exact ixh | exact ixb (by assumption) | exact rfl | (simp only [*]; exact rfl)))) gd_str (by (first | exact ckw_sh _ | exact sh | exact kd_shaped _ | exact shaped_int _ | exact shaped_bool _ | exact shaped_none | assumption | exact shaped_ints _ | exact shaped_str (by decide +kernel) | exact rfl | decide +kernel)) (by (first | exact ckw_sh _ | exact sh | exact kd_shaped _ | exact shaped_int _ | exact shaped_bool _ | exact shaped_none | assumption | exact shaped_ints _ | exact shaped_str (by decide +kernel) | exact rfl | decide +kernel))) (fun hh => by first | exact gw_dead (absurd hh (by (first | decide +kernel | (simp only [List.length_cons, List.length_nil, eqv_int]; decide) | (simp only [List.length_cons, List.length_nil, eqv_int, decide_eq_true_eq, decide_eq_false_iff_not]; omega)))) | exact (gw_and1 (gt_not (gt_chain_le_lt gd_int (gd_ixT (gd_var (pv 2) rfl) gd_int (by (first | exact q | assumption | exact ixh | exact ixb (by assumption) | exact rfl | (simp only [*]; exact rfl)))) (fun _ => (gd_var (pv 1) rfl)))))))) (by show (!PyData.eqv (.str (Kd.word .load)) (.str "add") && !(decide (0 ≤ x) && decide (x < m))) = true; rw [hq, kd_add]; rfl)) (fun _ => ?_) (fun h => nomatch h))
            exact gss_ret (r := .dat _) gd_str (by show Sl.dat (.str _) = Sl.dat (.str _); rw [hck, ← hf]; try rfl)
        | plus x =>
          refine gss_if (gt_of (gw_or (gt_not (gt_val (gd_isi (n := "tuple") rfl T.z_isinstance (by decide +kernel) (pe_bltn rfl T.z_tuple (by decide +kernel) rfl) (gd_var (pv 2) rfl) (by first | exact kit_tuple_tuple | exact kit_list_tuple | exact kit_int_tuple | exact kit_bool_tuple | exact kit_str_tuple | exact kit_NoneType_tuple | exact kit_dict_tuple)))) (fun hh => by first | exact gw_dead (absurd hh (by (first | decide +kernel | (simp only [List.length_cons, List.length_nil, eqv_int]; decide) | (simp only [List.length_cons, List.length_nil, eqv_int, decide_eq_true_eq, decide_eq_false_iff_not]; omega)))) | exact (gw_or (gt_eq hr.units (gd_callB call_len (ca_len (by first | exact .inl rfl | exact .inr rfl)) rfl T.z_len (by decide +kernel) (ga_cons (gd_var (pv 2) rfl) ga_nil)) gd_int (by (first | exact ckw_sh _ | exact sh | exact kd_shaped _ | exact shaped_int _ | exact shaped_bool _ | exact shaped_none | assumption | exact shaped_ints _ | exact shaped_str (by decide +kernel) | exact rfl | decide +kernel)) (by (first | exact ckw_sh _ | exact sh | exact kd_shaped _ | exact shaped_int _ | exact shaped_bool _ | exact shaped_none | assumption | exact shaped_ints _ | exact shaped_str (by decide +kernel) | exact rfl | decide +kernel))) (fun hh => by first | exact gw_dead (absurd hh (by (first | decide +kernel | (simp only [List.length_cons, List.length_nil, eqv_int]; decide) | (simp only [List.length_cons, List.length_nil, eqv_int, decide_eq_true_eq, decide_eq_false_iff_not]; omega)))) | exact (gw_or1 (gt_notIn rfl (gd_ixT (gd_var (pv 2) rfl) gd_int (by (first | exact q | assumption | exact ixh | exact ixb (by assumption) | exact rfl | (simp only [*]; exact rfl)))) (gd_tup (ga_cons gd_str (ga_cons gd_str (ga_cons gd_str (ga_cons gd_str ga_nil)))) (by (first | decide | omega | (simp only [List.length_append, List.length_cons, List.length_nil, List.length_map, List.length_set, List.length_take, List.length_drop]; omega)))) (by (first | exact rfl | decide)) (by (first | exact rfl | decide))))))))) (fun h => absurd h (by rw [in_due]; simp [eqv_int, Stp.kd, Stp.args, Kd.isBox])) (fun _ => gss_nil ?_)
          refine gss_if (gt_of (gw_or (gt_ne hr.units (gd_callB call_len (ca_len (by first | exact .inl rfl | exact .inr rfl)) rfl T.z_len (by decide +kernel) (ga_cons (gd_var (pv 2) rfl) ga_nil)) gd_int (by (first | exact ckw_sh _ | exact sh | exact kd_shaped _ | exact shaped_int _ | exact shaped_bool _ | exact shaped_none | assumption | exact shaped_ints _ | exact shaped_str (by decide +kernel) | exact rfl | decide +kernel)) (by (first | exact ckw_sh _ | exact sh | exact kd_shaped _ | exact shaped_int _ | exact shaped_bool _ | exact shaped_none | assumption | exact shaped_ints _ | exact shaped_str (by decide +kernel) | exact rfl | decide +kernel))) (fun hh => by first | exact gw_dead (absurd hh (by (first | decide +kernel | (simp only [List.length_cons, List.length_nil, eqv_int]; decide) | (simp only [List.length_cons, List.length_nil, eqv_int, decide_eq_true_eq, decide_eq_false_iff_not]; omega)))) | exact (gw_or (gt_not (gt_val (gd_isi (n := "int") rfl T.z_isinstance (by decide +kernel) (pe_bltn rfl T.z_int (by decide +kernel) rfl) (gd_ixT (gd_var (pv 2) rfl) gd_int (by (first | exact q | assumption | exact ixh | exact ixb (by assumption) | exact rfl | (simp only [*]; exact rfl)))) (by first | exact kit_tuple_int | exact kit_list_int | exact kit_int_int | exact kit_bool_int | exact kit_str_int | exact kit_NoneType_int | exact kit_dict_int)))) (fun hh => by first | exact gw_dead (absurd hh (by (first | decide +kernel | (simp only [List.length_cons, List.length_nil, eqv_int]; decide) | (simp only [List.length_cons, List.length_nil, eqv_int, decide_eq_true_eq, decide_eq_false_iff_not]; omega)))) | exact (gw_or1 (gt_val (gd_isi (n := "bool") rfl T.z_isinstance (by decide +kernel) (pe_bltn rfl T.z_bool (by decide +kernel) rfl) (gd_ixT (gd_var (pv 2) rfl) gd_int (by (first | exact q | assumption | exact ixh | exact ixb (by assumption) | exact rfl | (simp only [*]; exact rfl)))) (by first | exact kit_tuple_bool | exact kit_list_bool | exact kit_int_bool | exact kit_bool_bool | exact kit_str_bool | exact kit_NoneType_bool | exact kit_dict_bool))))))))) (fun h => absurd h (by simp [eqv_int, Stp.args])) (fun _ => gss_nil ?_)
          by_cases hin : 0 ≤ x ∧ x < m
          · have hcd2 : (if ((Stp.plus x).kd.isBox && !(decide (0 ≤ (Stp.plus x).b) && decide ((Stp.plus x).b < (m.toNat : Int)))) = true then some Ck.badBox else none) = none := if_neg (by
              have h1 : decide (0 ≤ x) = true := decide_eq_true hin.1
              have h2 : decide (x < (m.toNat : Int)) = true := decide_eq_true (by omega)
              show ¬ ((true && !(decide (0 ≤ x) && decide (x < (m.toNat : Int)))) = true)
              rw [h1, h2]; decide)
            rw [hcd2] at hf
            refine gss_one (gs_if (k := false) (gt_cast (gt_of (gw_and (gt_ne hr.units (gd_ixT (gd_var (pv 2) rfl) gd_int (by (first | exact q | assumption | exact ixh | exact ixb (by assumption) | exact rfl | (simp only [*]; exact rfl)))) gd_str (by (first | exact ckw_sh _ | exact sh | exact kd_shaped _ | exact shaped_int _ | exact shaped_bool _ | exact shaped_none | assumption | exact shaped_ints _ | exact shaped_str (by decide +kernel) | exact rfl | decide +kernel)) (by (first | exact ckw_sh _ | exact sh | exact kd_shaped _ | exact shaped_int _ | exact shaped_bool _ | exact shaped_none | assumption | exact shaped_ints _ | exact shaped_str (by decide +kernel) | exact rfl | decide +kernel))) (fun hh => by first | exact gw_dead (absurd hh (by (first | decide +kernel | (simp only [List.length_cons, List.length_nil, eqv_int]; decide) | (simp only [List.length_cons, List.length_nil, eqv_int, decide_eq_true_eq, decide_eq_false_iff_not]; omega)))) | exact (gw_and1 (gt_not (gt_chain_le_lt gd_int (gd_ixT (gd_var (pv 2) rfl) gd_int (by (first | exact q | assumption | exact ixh | exact ixb (by assumption) | exact rfl | (simp only [*]; exact rfl)))) (fun _ => (gd_var (pv 1) rfl)))))))) (by show (!PyData.eqv (.str (Kd.word .plus)) (.str "add") && !(decide (0 ≤ x) && decide (x < m))) = false; rw [decide_eq_true hin.1, decide_eq_true hin.2, kd_add]; rfl)) (fun h => nomatch h) (fun _ => gss_nil ⟨rfl, hf, _, rfl⟩))
          · have hcd2 : (if ((Stp.plus x).kd.isBox && !(decide (0 ≤ (Stp.plus x).b) && decide ((Stp.plus x).b < (m.toNat : Int)))) = true then some Ck.badBox else none) = some .badBox := if_pos (by
              show (true && !(decide (0 ≤ x) && decide (x < (m.toNat : Int)))) = true
              rw [Bool.true_and]
              have : (decide (0 ≤ x) && decide (x < (m.toNat : Int))) = false := by
                cases q : (decide (0 ≤ x) && decide (x < (m.toNat : Int))) with
                | false => rfl
                | true =>
                  rw [Bool.and_eq_true] at q
                  exact absurd ⟨of_decide_eq_true q.1, by have := of_decide_eq_true q.2; omega⟩ hin
              rw [this]; rfl)
            rw [hcd2] at hf
            have hq : (decide (0 ≤ x) && decide (x < m)) = false := by
              cases q : (decide (0 ≤ x) && decide (x < m)) with
              | false => rfl
              | true =>
                rw [Bool.and_eq_true] at q
                exact absurd ⟨of_decide_eq_true q.1, of_decide_eq_true q.2⟩ hin
            refine gss_one (gs_if (k := true) (gt_cast (gt_of (gw_and (gt_ne hr.units (gd_ixT (gd_var (pv 2) rfl) gd_int (by (first | exact q | assumption | exact ixh | exact ixb (by assumption) | exact rfl | (simp only [*]; exact rfl)))) gd_str (by (first | exact ckw_sh _ | exact sh | exact kd_shaped _ | exact shaped_int _ | exact shaped_bool _ | exact shaped_none | assumption | exact shaped_ints _ | exact shaped_str (by decide +kernel) | exact rfl | decide +kernel)) (by (first | exact ckw_sh _ | exact sh | exact kd_shaped _ | exact shaped_int _ | exact shaped_bool _ | exact shaped_none | assumption | exact shaped_ints _ | exact shaped_str (by decide +kernel) | exact rfl | decide +kernel))) (fun hh => by first | exact gw_dead (absurd hh (by (first | decide +kernel | (simp only [List.length_cons, List.length_nil, eqv_int]; decide) | (simp only [List.length_cons, List.length_nil, eqv_int, decide_eq_true_eq, decide_eq_false_iff_not]; omega)))) | exact (gw_and1 (gt_not (gt_chain_le_lt gd_int (gd_ixT (gd_var (pv 2) rfl) gd_int (by (first | exact q | assumption | exact ixh | exact ixb (by assumption) | exact rfl | (simp only [*]; exact rfl)))) (fun _ => (gd_var (pv 1) rfl)))))))) (by show (!PyData.eqv (.str (Kd.word .plus)) (.str "add") && !(decide (0 ≤ x) && decide (x < m))) = true; rw [hq, kd_add]; rfl)) (fun _ => ?_) (fun h => nomatch h))
            exact gss_ret (r := .dat _) gd_str (by show Sl.dat (.str _) = Sl.dat (.str _); rw [hck, ← hf]; try rfl)
        | store x =>
          refine gss_if (gt_of (gw_or (gt_not (gt_val (gd_isi (n := "tuple") rfl T.z_isinstance (by decide +kernel) (pe_bltn rfl T.z_tuple (by decide +kernel) rfl) (gd_var (pv 2) rfl) (by first | exact kit_tuple_tuple | exact kit_list_tuple | exact kit_int_tuple | exact kit_bool_tuple | exact kit_str_tuple | exact kit_NoneType_tuple | exact kit_dict_tuple)))) (fun hh => by first | exact gw_dead (absurd hh (by (first | decide +kernel | (simp only [List.length_cons, List.length_nil, eqv_int]; decide) | (simp only [List.length_cons, List.length_nil, eqv_int, decide_eq_true_eq, decide_eq_false_iff_not]; omega)))) | exact (gw_or (gt_eq hr.units (gd_callB call_len (ca_len (by first | exact .inl rfl | exact .inr rfl)) rfl T.z_len (by decide +kernel) (ga_cons (gd_var (pv 2) rfl) ga_nil)) gd_int (by (first | exact ckw_sh _ | exact sh | exact kd_shaped _ | exact shaped_int _ | exact shaped_bool _ | exact shaped_none | assumption | exact shaped_ints _ | exact shaped_str (by decide +kernel) | exact rfl | decide +kernel)) (by (first | exact ckw_sh _ | exact sh | exact kd_shaped _ | exact shaped_int _ | exact shaped_bool _ | exact shaped_none | assumption | exact shaped_ints _ | exact shaped_str (by decide +kernel) | exact rfl | decide +kernel))) (fun hh => by first | exact gw_dead (absurd hh (by (first | decide +kernel | (simp only [List.length_cons, List.length_nil, eqv_int]; decide) | (simp only [List.length_cons, List.length_nil, eqv_int, decide_eq_true_eq, decide_eq_false_iff_not]; omega)))) | exact (gw_or1 (gt_notIn rfl (gd_ixT (gd_var (pv 2) rfl) gd_int (by (first | exact q | assumption | exact ixh | exact ixb (by assumption) | exact rfl | (simp only [*]; exact rfl)))) (gd_tup (ga_cons gd_str (ga_cons gd_str (ga_cons gd_str (ga_cons gd_str ga_nil)))) (by (first | decide | omega | (simp only [List.length_append, List.length_cons, List.length_nil, List.length_map, List.length_set, List.length_take, List.length_drop]; omega)))) (by (first | exact rfl | decide)) (by (first | exact rfl | decide))))))))) (fun h => absurd h (by rw [in_due]; simp [eqv_int, Stp.kd, Stp.args, Kd.isBox])) (fun _ => gss_nil ?_)
          refine gss_if (gt_of (gw_or (gt_ne hr.units (gd_callB call_len (ca_len (by first | exact .inl rfl | exact .inr rfl)) rfl T.z_len (by decide +kernel) (ga_cons (gd_var (pv 2) rfl) ga_nil)) gd_int (by (first | exact ckw_sh _ | exact sh | exact kd_shaped _ | exact shaped_int _ | exact shaped_bool _ | exact shaped_none | assumption | exact shaped_ints _ | exact shaped_str (by decide +kernel) | exact rfl | decide +kernel)) (by (first | exact ckw_sh _ | exact sh | exact kd_shaped _ | exact shaped_int _ | exact shaped_bool _ | exact shaped_none | assumption | exact shaped_ints _ | exact shaped_str (by decide +kernel) | exact rfl | decide +kernel))) (fun hh => by first | exact gw_dead (absurd hh (by (first | decide +kernel | (simp only [List.length_cons, List.length_nil, eqv_int]; decide) | (simp only [List.length_cons, List.length_nil, eqv_int, decide_eq_true_eq, decide_eq_false_iff_not]; omega)))) | exact (gw_or (gt_not (gt_val (gd_isi (n := "int") rfl T.z_isinstance (by decide +kernel) (pe_bltn rfl T.z_int (by decide +kernel) rfl) (gd_ixT (gd_var (pv 2) rfl) gd_int (by (first | exact q | assumption | exact ixh | exact ixb (by assumption) | exact rfl | (simp only [*]; exact rfl)))) (by first | exact kit_tuple_int | exact kit_list_int | exact kit_int_int | exact kit_bool_int | exact kit_str_int | exact kit_NoneType_int | exact kit_dict_int)))) (fun hh => by first | exact gw_dead (absurd hh (by (first | decide +kernel | (simp only [List.length_cons, List.length_nil, eqv_int]; decide) | (simp only [List.length_cons, List.length_nil, eqv_int, decide_eq_true_eq, decide_eq_false_iff_not]; omega)))) | exact (gw_or1 (gt_val (gd_isi (n := "bool") rfl T.z_isinstance (by decide +kernel) (pe_bltn rfl T.z_bool (by decide +kernel) rfl) (gd_ixT (gd_var (pv 2) rfl) gd_int (by (first | exact q | assumption | exact ixh | exact ixb (by assumption) | exact rfl | (simp only [*]; exact rfl)))) (by first | exact kit_tuple_bool | exact kit_list_bool | exact kit_int_bool | exact kit_bool_bool | exact kit_str_bool | exact kit_NoneType_bool | exact kit_dict_bool))))))))) (fun h => absurd h (by simp [eqv_int, Stp.args])) (fun _ => gss_nil ?_)
          by_cases hin : 0 ≤ x ∧ x < m
          · have hcd2 : (if ((Stp.store x).kd.isBox && !(decide (0 ≤ (Stp.store x).b) && decide ((Stp.store x).b < (m.toNat : Int)))) = true then some Ck.badBox else none) = none := if_neg (by
              have h1 : decide (0 ≤ x) = true := decide_eq_true hin.1
              have h2 : decide (x < (m.toNat : Int)) = true := decide_eq_true (by omega)
              show ¬ ((true && !(decide (0 ≤ x) && decide (x < (m.toNat : Int)))) = true)
              rw [h1, h2]; decide)
            rw [hcd2] at hf
            refine gss_one (gs_if (k := false) (gt_cast (gt_of (gw_and (gt_ne hr.units (gd_ixT (gd_var (pv 2) rfl) gd_int (by (first | exact q | assumption | exact ixh | exact ixb (by assumption) | exact rfl | (simp only [*]; exact rfl)))) gd_str (by (first | exact ckw_sh _ | exact sh | exact kd_shaped _ | exact shaped_int _ | exact shaped_bool _ | exact shaped_none | assumption | exact shaped_ints _ | exact shaped_str (by decide +kernel) | exact rfl | decide +kernel)) (by (first | exact ckw_sh _ | exact sh | exact kd_shaped _ | exact shaped_int _ | exact shaped_bool _ | exact shaped_none | assumption | exact shaped_ints _ | exact shaped_str (by decide +kernel) | exact rfl | decide +kernel))) (fun hh => by first | exact gw_dead (absurd hh (by (first | decide +kernel | (simp only [List.length_cons, List.length_nil, eqv_int]; decide) | (simp only [List.length_cons, List.length_nil, eqv_int, decide_eq_true_eq, decide_eq_false_iff_not]; omega)))) | exact (gw_and1 (gt_not (gt_chain_le_lt gd_int (gd_ixT (gd_var (pv 2) rfl) gd_int (by (first | exact q | assumption | exact ixh | exact ixb (by assumption) | exact rfl | (simp only [*]; exact rfl)))) (fun _ => (gd_var (pv 1) rfl)))))))) (by show (!PyData.eqv (.str (Kd.word .store)) (.str "add") && !(decide (0 ≤ x) && decide (x < m))) = false; rw [decide_eq_true hin.1, decide_eq_true hin.2, kd_add]; rfl)) (fun h => nomatch h) (fun _ => gss_nil ⟨rfl, hf, _, rfl⟩))
          · have hcd2 : (if ((Stp.store x).kd.isBox && !(decide (0 ≤ (Stp.store x).b) && decide ((Stp.store x).b < (m.toNat : Int)))) = true then some Ck.badBox else none) = some .badBox := if_pos (by
              show (true && !(decide (0 ≤ x) && decide (x < (m.toNat : Int)))) = true
              rw [Bool.true_and]
              have : (decide (0 ≤ x) && decide (x < (m.toNat : Int))) = false := by
                cases q : (decide (0 ≤ x) && decide (x < (m.toNat : Int))) with
                | false => rfl
                | true =>
                  rw [Bool.and_eq_true] at q
                  exact absurd ⟨of_decide_eq_true q.1, by have := of_decide_eq_true q.2; omega⟩ hin
              rw [this]; rfl)
            rw [hcd2] at hf
            have hq : (decide (0 ≤ x) && decide (x < m)) = false := by
              cases q : (decide (0 ≤ x) && decide (x < m)) with
              | false => rfl
              | true =>
                rw [Bool.and_eq_true] at q
                exact absurd ⟨of_decide_eq_true q.1, of_decide_eq_true q.2⟩ hin
            refine gss_one (gs_if (k := true) (gt_cast (gt_of (gw_and (gt_ne hr.units (gd_ixT (gd_var (pv 2) rfl) gd_int (by (first | exact q | assumption | exact ixh | exact ixb (by assumption) | exact rfl | (simp only [*]; exact rfl)))) gd_str (by (first | exact ckw_sh _ | exact sh | exact kd_shaped _ | exact shaped_int _ | exact shaped_bool _ | exact shaped_none | assumption | exact shaped_ints _ | exact shaped_str (by decide +kernel) | exact rfl | decide +kernel)) (by (first | exact ckw_sh _ | exact sh | exact kd_shaped _ | exact shaped_int _ | exact shaped_bool _ | exact shaped_none | assumption | exact shaped_ints _ | exact shaped_str (by decide +kernel) | exact rfl | decide +kernel))) (fun hh => by first | exact gw_dead (absurd hh (by (first | decide +kernel | (simp only [List.length_cons, List.length_nil, eqv_int]; decide) | (simp only [List.length_cons, List.length_nil, eqv_int, decide_eq_true_eq, decide_eq_false_iff_not]; omega)))) | exact (gw_and1 (gt_not (gt_chain_le_lt gd_int (gd_ixT (gd_var (pv 2) rfl) gd_int (by (first | exact q | assumption | exact ixh | exact ixb (by assumption) | exact rfl | (simp only [*]; exact rfl)))) (fun _ => (gd_var (pv 1) rfl)))))))) (by show (!PyData.eqv (.str (Kd.word .store)) (.str "add") && !(decide (0 ≤ x) && decide (x < m))) = true; rw [hq, kd_add]; rfl)) (fun _ => ?_) (fun h => nomatch h))
            exact gss_ret (r := .dat _) gd_str (by show Sl.dat (.str _) = Sl.dat (.str _); rw [hck, ← hf]; try rfl)
      · have hcd : chkD m.toNat d = some .badStep := by
          unfold chkD
          rw [if_neg (by rw [(bads_no hbad).1]; decide)]
        rw [hcd] at hf
        have hsh : ∀ d ∈ bads, SeqAt.shaped d = true := by decide +kernel
        have hsh := hsh d hbad
        simp only [bads, List.mem_cons, List.not_mem_nil, or_false] at hbad
        rcases hbad with rfl | rfl | rfl | rfl | rfl | rfl | rfl | rfl
        · have sh : SeqAt.shaped _ = true := hsh
          refine gss_if (gt_of (gw_or (gt_eq hr.units (gd_var (pv 2) rfl) (gd_tup (ga_cons gd_str ga_nil) (by (first | decide | omega | (simp only [List.length_append, List.length_cons, List.length_nil, List.length_map, List.length_set, List.length_take, List.length_drop]; omega)))) (by (first | exact ckw_sh _ | exact sh | exact kd_shaped _ | exact shaped_int _ | exact shaped_bool _ | exact shaped_none | assumption | exact shaped_ints _ | exact shaped_str (by decide +kernel) | exact rfl | decide +kernel)) (by (first | exact ckw_sh _ | exact sh | exact kd_shaped _ | exact shaped_int _ | exact shaped_bool _ | exact shaped_none | assumption | exact shaped_ints _ | exact shaped_str (by decide +kernel) | exact rfl | decide +kernel))) (fun hh => by first | exact gw_dead (absurd hh (by (first | decide +kernel | (simp only [List.length_cons, List.length_nil, eqv_int]; decide) | (simp only [List.length_cons, List.length_nil, eqv_int, decide_eq_true_eq, decide_eq_false_iff_not]; omega)))) | exact (gw_or1 (gt_eq hr.units (gd_var (pv 2) rfl) (gd_tup (ga_cons gd_str ga_nil) (by (first | decide | omega | (simp only [List.length_append, List.length_cons, List.length_nil, List.length_map, List.length_set, List.length_take, List.length_drop]; omega)))) (by (first | exact ckw_sh _ | exact sh | exact kd_shaped _ | exact shaped_int _ | exact shaped_bool _ | exact shaped_none | assumption | exact shaped_ints _ | exact shaped_str (by decide +kernel) | exact rfl | decide +kernel)) (by (first | exact ckw_sh _ | exact sh | exact kd_shaped _ | exact shaped_int _ | exact shaped_bool _ | exact shaped_none | assumption | exact shaped_ints _ | exact shaped_str (by decide +kernel) | exact rfl | decide +kernel))))))) (fun h => absurd h (by decide +kernel)) (fun _ => gss_nil ?_)
          refine gss_if (gt_of (gw_or (gt_not (gt_val (gd_isi (n := "tuple") rfl T.z_isinstance (by decide +kernel) (pe_bltn rfl T.z_tuple (by decide +kernel) rfl) (gd_var (pv 2) rfl) (by first | exact kit_tuple_tuple | exact kit_list_tuple | exact kit_int_tuple | exact kit_bool_tuple | exact kit_str_tuple | exact kit_NoneType_tuple | exact kit_dict_tuple)))) (fun hh => by first | exact gw_dead (absurd hh (by (first | decide +kernel | (simp only [List.length_cons, List.length_nil, eqv_int]; decide) | (simp only [List.length_cons, List.length_nil, eqv_int, decide_eq_true_eq, decide_eq_false_iff_not]; omega)))) | exact (gw_or (gt_eq hr.units (gd_callB call_len (ca_len (by first | exact .inl rfl | exact .inr rfl)) rfl T.z_len (by decide +kernel) (ga_cons (gd_var (pv 2) rfl) ga_nil)) gd_int (by (first | exact ckw_sh _ | exact sh | exact kd_shaped _ | exact shaped_int _ | exact shaped_bool _ | exact shaped_none | assumption | exact shaped_ints _ | exact shaped_str (by decide +kernel) | exact rfl | decide +kernel)) (by (first | exact ckw_sh _ | exact sh | exact kd_shaped _ | exact shaped_int _ | exact shaped_bool _ | exact shaped_none | assumption | exact shaped_ints _ | exact shaped_str (by decide +kernel) | exact rfl | decide +kernel))) (fun hh => by first | exact gw_dead (absurd hh (by (first | decide +kernel | (simp only [List.length_cons, List.length_nil, eqv_int]; decide) | (simp only [List.length_cons, List.length_nil, eqv_int, decide_eq_true_eq, decide_eq_false_iff_not]; omega)))) | exact (gw_or1 (gt_notIn rfl (gd_ixT (gd_var (pv 2) rfl) gd_int (by (first | exact q | assumption | exact ixh | exact ixb (by assumption) | exact rfl | (simp only [*]; exact rfl)))) (gd_tup (ga_cons gd_str (ga_cons gd_str (ga_cons gd_str (ga_cons gd_str ga_nil)))) (by (first | decide | omega | (simp only [List.length_append, List.length_cons, List.length_nil, List.length_map, List.length_set, List.length_take, List.length_drop]; omega)))) (by (first | exact rfl | decide)) (by (first | exact rfl | decide))))))))) (fun _ => ?_) (fun h => absurd h (by decide +kernel))
          exact gss_ret (r := .dat _) gd_str (by show Sl.dat (.str _) = Sl.dat (.str _); rw [hck, ← hf]; try rfl)
        · have sh : SeqAt.shaped _ = true := hsh
          refine gss_if (gt_of (gw_or (gt_eq hr.units (gd_var (pv 2) rfl) (gd_tup (ga_cons gd_str ga_nil) (by (first | decide | omega | (simp only [List.length_append, List.length_cons, List.length_nil, List.length_map, List.length_set, List.length_take, List.length_drop]; omega)))) (by (first | exact ckw_sh _ | exact sh | exact kd_shaped _ | exact shaped_int _ | exact shaped_bool _ | exact shaped_none | assumption | exact shaped_ints _ | exact shaped_str (by decide +kernel) | exact rfl | decide +kernel)) (by (first | exact ckw_sh _ | exact sh | exact kd_shaped _ | exact shaped_int _ | exact shaped_bool _ | exact shaped_none | assumption | exact shaped_ints _ | exact shaped_str (by decide +kernel) | exact rfl | decide +kernel))) (fun hh => by first | exact gw_dead (absurd hh (by (first | decide +kernel | (simp only [List.length_cons, List.length_nil, eqv_int]; decide) | (simp only [List.length_cons, List.length_nil, eqv_int, decide_eq_true_eq, decide_eq_false_iff_not]; omega)))) | exact (gw_or1 (gt_eq hr.units (gd_var (pv 2) rfl) (gd_tup (ga_cons gd_str ga_nil) (by (first | decide | omega | (simp only [List.length_append, List.length_cons, List.length_nil, List.length_map, List.length_set, List.length_take, List.length_drop]; omega)))) (by (first | exact ckw_sh _ | exact sh | exact kd_shaped _ | exact shaped_int _ | exact shaped_bool _ | exact shaped_none | assumption | exact shaped_ints _ | exact shaped_str (by decide +kernel) | exact rfl | decide +kernel)) (by (first | exact ckw_sh _ | exact sh | exact kd_shaped _ | exact shaped_int _ | exact shaped_bool _ | exact shaped_none | assumption | exact shaped_ints _ | exact shaped_str (by decide +kernel) | exact rfl | decide +kernel))))))) (fun h => absurd h (by decide +kernel)) (fun _ => gss_nil ?_)
          refine gss_if (gt_of (gw_or (gt_not (gt_val (gd_isi (n := "tuple") rfl T.z_isinstance (by decide +kernel) (pe_bltn rfl T.z_tuple (by decide +kernel) rfl) (gd_var (pv 2) rfl) (by first | exact kit_tuple_tuple | exact kit_list_tuple | exact kit_int_tuple | exact kit_bool_tuple | exact kit_str_tuple | exact kit_NoneType_tuple | exact kit_dict_tuple)))) (fun hh => by first | exact gw_dead (absurd hh (by (first | decide +kernel | (simp only [List.length_cons, List.length_nil, eqv_int]; decide) | (simp only [List.length_cons, List.length_nil, eqv_int, decide_eq_true_eq, decide_eq_false_iff_not]; omega)))) | exact (gw_or (gt_eq hr.units (gd_callB call_len (ca_len (by first | exact .inl rfl | exact .inr rfl)) rfl T.z_len (by decide +kernel) (ga_cons (gd_var (pv 2) rfl) ga_nil)) gd_int (by (first | exact ckw_sh _ | exact sh | exact kd_shaped _ | exact shaped_int _ | exact shaped_bool _ | exact shaped_none | assumption | exact shaped_ints _ | exact shaped_str (by decide +kernel) | exact rfl | decide +kernel)) (by (first | exact ckw_sh _ | exact sh | exact kd_shaped _ | exact shaped_int _ | exact shaped_bool _ | exact shaped_none | assumption | exact shaped_ints _ | exact shaped_str (by decide +kernel) | exact rfl | decide +kernel))) (fun hh => by first | exact gw_dead (absurd hh (by (first | decide +kernel | (simp only [List.length_cons, List.length_nil, eqv_int]; decide) | (simp only [List.length_cons, List.length_nil, eqv_int, decide_eq_true_eq, decide_eq_false_iff_not]; omega)))) | exact (gw_or1 (gt_notIn rfl (gd_ixT (gd_var (pv 2) rfl) gd_int (by (first | exact q | assumption | exact ixh | exact ixb (by assumption) | exact rfl | (simp only [*]; exact rfl)))) (gd_tup (ga_cons gd_str (ga_cons gd_str (ga_cons gd_str (ga_cons gd_str ga_nil)))) (by (first | decide | omega | (simp only [List.length_append, List.length_cons, List.length_nil, List.length_map, List.length_set, List.length_take, List.length_drop]; omega)))) (by (first | exact rfl | decide)) (by (first | exact rfl | decide))))))))) (fun h => absurd h (by decide +kernel)) (fun _ => gss_nil ?_)
          refine gss_if (gt_of (gw_or (gt_ne hr.units (gd_callB call_len (ca_len (by first | exact .inl rfl | exact .inr rfl)) rfl T.z_len (by decide +kernel) (ga_cons (gd_var (pv 2) rfl) ga_nil)) gd_int (by (first | exact ckw_sh _ | exact sh | exact kd_shaped _ | exact shaped_int _ | exact shaped_bool _ | exact shaped_none | assumption | exact shaped_ints _ | exact shaped_str (by decide +kernel) | exact rfl | decide +kernel)) (by (first | exact ckw_sh _ | exact sh | exact kd_shaped _ | exact shaped_int _ | exact shaped_bool _ | exact shaped_none | assumption | exact shaped_ints _ | exact shaped_str (by decide +kernel) | exact rfl | decide +kernel))) (fun hh => by first | exact gw_dead (absurd hh (by (first | decide +kernel | (simp only [List.length_cons, List.length_nil, eqv_int]; decide) | (simp only [List.length_cons, List.length_nil, eqv_int, decide_eq_true_eq, decide_eq_false_iff_not]; omega)))) | exact (gw_or (gt_not (gt_val (gd_isi (n := "int") rfl T.z_isinstance (by decide +kernel) (pe_bltn rfl T.z_int (by decide +kernel) rfl) (gd_ixT (gd_var (pv 2) rfl) gd_int (by (first | exact q | assumption | exact ixh | exact ixb (by assumption) | exact rfl | (simp only [*]; exact rfl)))) (by first | exact kit_tuple_int | exact kit_list_int | exact kit_int_int | exact kit_bool_int | exact kit_str_int | exact kit_NoneType_int | exact kit_dict_int)))) (fun hh => by first | exact gw_dead (absurd hh (by (first | decide +kernel | (simp only [List.length_cons, List.length_nil, eqv_int]; decide) | (simp only [List.length_cons, List.length_nil, eqv_int, decide_eq_true_eq, decide_eq_false_iff_not]; omega)))) | exact (gw_or1 (gt_val (gd_isi (n := "bool") rfl T.z_isinstance (by decide +kernel) (pe_bltn rfl T.z_bool (by decide +kernel) rfl) (gd_ixT (gd_var (pv 2) rfl) gd_int (by (first | exact q | assumption | exact ixh | exact ixb (by assumption) | exact rfl | (simp only [*]; exact rfl)))) (by first | exact kit_tuple_bool | exact kit_list_bool | exact kit_int_bool | exact kit_bool_bool | exact kit_str_bool | exact kit_NoneType_bool | exact kit_dict_bool))))))))) (fun _ => ?_) (fun h => absurd h (by decide +kernel))
          exact gss_ret (r := .dat _) gd_str (by show Sl.dat (.str _) = Sl.dat (.str _); rw [hck, ← hf]; try rfl)
        · have sh : SeqAt.shaped _ = true := hsh
          refine gss_if (gt_of (gw_or (gt_eq hr.units (gd_var (pv 2) rfl) (gd_tup (ga_cons gd_str ga_nil) (by (first | decide | omega | (simp only [List.length_append, List.length_cons, List.length_nil, List.length_map, List.length_set, List.length_take, List.length_drop]; omega)))) (by (first | exact ckw_sh _ | exact sh | exact kd_shaped _ | exact shaped_int _ | exact shaped_bool _ | exact shaped_none | assumption | exact shaped_ints _ | exact shaped_str (by decide +kernel) | exact rfl | decide +kernel)) (by (first | exact ckw_sh _ | exact sh | exact kd_shaped _ | exact shaped_int _ | exact shaped_bool _ | exact shaped_none | assumption | exact shaped_ints _ | exact shaped_str (by decide +kernel) | exact rfl | decide +kernel))) (fun hh => by first | exact gw_dead (absurd hh (by (first | decide +kernel | (simp only [List.length_cons, List.length_nil, eqv_int]; decide) | (simp only [List.length_cons, List.length_nil, eqv_int, decide_eq_true_eq, decide_eq_false_iff_not]; omega)))) | exact (gw_or1 (gt_eq hr.units (gd_var (pv 2) rfl) (gd_tup (ga_cons gd_str ga_nil) (by (first | decide | omega | (simp only [List.length_append, List.length_cons, List.length_nil, List.length_map, List.length_set, List.length_take, List.length_drop]; omega)))) (by (first | exact ckw_sh _ | exact sh | exact kd_shaped _ | exact shaped_int _ | exact shaped_bool _ | exact shaped_none | assumption | exact shaped_ints _ | exact shaped_str (by decide +kernel) | exact rfl | decide +kernel)) (by (first | exact ckw_sh _ | exact sh | exact kd_shaped _ | exact shaped_int _ | exact shaped_bool _ | exact shaped_none | assumption | exact shaped_ints _ | exact shaped_str (by decide +kernel) | exact rfl | decide +kernel))))))) (fun h => absurd h (by decide +kernel)) (fun _ => gss_nil ?_)
          refine gss_if (gt_of (gw_or (gt_not (gt_val (gd_isi (n := "tuple") rfl T.z_isinstance (by decide +kernel) (pe_bltn rfl T.z_tuple (by decide +kernel) rfl) (gd_var (pv 2) rfl) (by first | exact kit_tuple_tuple | exact kit_list_tuple | exact kit_int_tuple | exact kit_bool_tuple | exact kit_str_tuple | exact kit_NoneType_tuple | exact kit_dict_tuple)))) (fun hh => by first | exact gw_dead (absurd hh (by (first | decide +kernel | (simp only [List.length_cons, List.length_nil, eqv_int]; decide) | (simp only [List.length_cons, List.length_nil, eqv_int, decide_eq_true_eq, decide_eq_false_iff_not]; omega)))) | exact (gw_or (gt_eq hr.units (gd_callB call_len (ca_len (by first | exact .inl rfl | exact .inr rfl)) rfl T.z_len (by decide +kernel) (ga_cons (gd_var (pv 2) rfl) ga_nil)) gd_int (by (first | exact ckw_sh _ | exact sh | exact kd_shaped _ | exact shaped_int _ | exact shaped_bool _ | exact shaped_none | assumption | exact shaped_ints _ | exact shaped_str (by decide +kernel) | exact rfl | decide +kernel)) (by (first | exact ckw_sh _ | exact sh | exact kd_shaped _ | exact shaped_int _ | exact shaped_bool _ | exact shaped_none | assumption | exact shaped_ints _ | exact shaped_str (by decide +kernel) | exact rfl | decide +kernel))) (fun hh => by first | exact gw_dead (absurd hh (by (first | decide +kernel | (simp only [List.length_cons, List.length_nil, eqv_int]; decide) | (simp only [List.length_cons, List.length_nil, eqv_int, decide_eq_true_eq, decide_eq_false_iff_not]; omega)))) | exact (gw_or1 (gt_notIn rfl (gd_ixT (gd_var (pv 2) rfl) gd_int (by (first | exact q | assumption | exact ixh | exact ixb (by assumption) | exact rfl | (simp only [*]; exact rfl)))) (gd_tup (ga_cons gd_str (ga_cons gd_str (ga_cons gd_str (ga_cons gd_str ga_nil)))) (by (first | decide | omega | (simp only [List.length_append, List.length_cons, List.length_nil, List.length_map, List.length_set, List.length_take, List.length_drop]; omega)))) (by (first | exact rfl | decide)) (by (first | exact rfl | decide))))))))) (fun h => absurd h (by decide +kernel)) (fun _ => gss_nil ?_)
          refine gss_if (gt_of (gw_or (gt_ne hr.units (gd_callB call_len (ca_len (by first | exact .inl rfl | exact .inr rfl)) rfl T.z_len (by decide +kernel) (ga_cons (gd_var (pv 2) rfl) ga_nil)) gd_int (by (first | exact ckw_sh _ | exact sh | exact kd_shaped _ | exact shaped_int _ | exact shaped_bool _ | exact shaped_none | assumption | exact shaped_ints _ | exact shaped_str (by decide +kernel) | exact rfl | decide +kernel)) (by (first | exact ckw_sh _ | exact sh | exact kd_shaped _ | exact shaped_int _ | exact shaped_bool _ | exact shaped_none | assumption | exact shaped_ints _ | exact shaped_str (by decide +kernel) | exact rfl | decide +kernel))) (fun hh => by first | exact gw_dead (absurd hh (by (first | decide +kernel | (simp only [List.length_cons, List.length_nil, eqv_int]; decide) | (simp only [List.length_cons, List.length_nil, eqv_int, decide_eq_true_eq, decide_eq_false_iff_not]; omega)))) | exact (gw_or (gt_not (gt_val (gd_isi (n := "int") rfl T.z_isinstance (by decide +kernel) (pe_bltn rfl T.z_int (by decide +kernel) rfl) (gd_ixT (gd_var (pv 2) rfl) gd_int (by (first | exact q | assumption | exact ixh | exact ixb (by assumption) | exact rfl | (simp only [*]; exact rfl)))) (by first | exact kit_tuple_int | exact kit_list_int | exact kit_int_int | exact kit_bool_int | exact kit_str_int | exact kit_NoneType_int | exact kit_dict_int)))) (fun hh => by first | exact gw_dead (absurd hh (by (first | decide +kernel | (simp only [List.length_cons, List.length_nil, eqv_int]; decide) | (simp only [List.length_cons, List.length_nil, eqv_int, decide_eq_true_eq, decide_eq_false_iff_not]; omega)))) | exact (gw_or1 (gt_val (gd_isi (n := "bool") rfl T.z_isinstance (by decide +kernel) (pe_bltn rfl T.z_bool (by decide +kernel) rfl) (gd_ixT (gd_var (pv 2) rfl) gd_int (by (first | exact q | assumption | exact ixh | exact ixb (by assumption) | exact rfl | (simp only [*]; exact rfl)))) (by first | exact kit_tuple_bool | exact kit_list_bool | exact kit_int_bool | exact kit_bool_bool | exact kit_str_bool | exact kit_NoneType_bool | exact kit_dict_bool))))))))) (fun _ => ?_) (fun h => absurd h (by decide +kernel))
          exact gss_ret (r := .dat _) gd_str (by show Sl.dat (.str _) = Sl.dat (.str _); rw [hck, ← hf]; try rfl)
        · have sh : SeqAt.shaped _ = true := hsh
          refine gss_if (gt_of (gw_or (gt_eq hr.units (gd_var (pv 2) rfl) (gd_tup (ga_cons gd_str ga_nil) (by (first | decide | omega | (simp only [List.length_append, List.length_cons, List.length_nil, List.length_map, List.length_set, List.length_take, List.length_drop]; omega)))) (by (first | exact ckw_sh _ | exact sh | exact kd_shaped _ | exact shaped_int _ | exact shaped_bool _ | exact shaped_none | assumption | exact shaped_ints _ | exact shaped_str (by decide +kernel) | exact rfl | decide +kernel)) (by (first | exact ckw_sh _ | exact sh | exact kd_shaped _ | exact shaped_int _ | exact shaped_bool _ | exact shaped_none | assumption | exact shaped_ints _ | exact shaped_str (by decide +kernel) | exact rfl | decide +kernel))) (fun hh => by first | exact gw_dead (absurd hh (by (first | decide +kernel | (simp only [List.length_cons, List.length_nil, eqv_int]; decide) | (simp only [List.length_cons, List.length_nil, eqv_int, decide_eq_true_eq, decide_eq_false_iff_not]; omega)))) | exact (gw_or1 (gt_eq hr.units (gd_var (pv 2) rfl) (gd_tup (ga_cons gd_str ga_nil) (by (first | decide | omega | (simp only [List.length_append, List.length_cons, List.length_nil, List.length_map, List.length_set, List.length_take, List.length_drop]; omega)))) (by (first | exact ckw_sh _ | exact sh | exact kd_shaped _ | exact shaped_int _ | exact shaped_bool _ | exact shaped_none | assumption | exact shaped_ints _ | exact shaped_str (by decide +kernel) | exact rfl | decide +kernel)) (by (first | exact ckw_sh _ | exact sh | exact kd_shaped _ | exact shaped_int _ | exact shaped_bool _ | exact shaped_none | assumption | exact shaped_ints _ | exact shaped_str (by decide +kernel) | exact rfl | decide +kernel))))))) (fun h => absurd h (by decide +kernel)) (fun _ => gss_nil ?_)
          refine gss_if (gt_of (gw_or (gt_not (gt_val (gd_isi (n := "tuple") rfl T.z_isinstance (by decide +kernel) (pe_bltn rfl T.z_tuple (by decide +kernel) rfl) (gd_var (pv 2) rfl) (by first | exact kit_tuple_tuple | exact kit_list_tuple | exact kit_int_tuple | exact kit_bool_tuple | exact kit_str_tuple | exact kit_NoneType_tuple | exact kit_dict_tuple)))) (fun hh => by first | exact gw_dead (absurd hh (by (first | decide +kernel | (simp only [List.length_cons, List.length_nil, eqv_int]; decide) | (simp only [List.length_cons, List.length_nil, eqv_int, decide_eq_true_eq, decide_eq_false_iff_not]; omega)))) | exact (gw_or (gt_eq hr.units (gd_callB call_len (ca_len (by first | exact .inl rfl | exact .inr rfl)) rfl T.z_len (by decide +kernel) (ga_cons (gd_var (pv 2) rfl) ga_nil)) gd_int (by (first | exact ckw_sh _ | exact sh | exact kd_shaped _ | exact shaped_int _ | exact shaped_bool _ | exact shaped_none | assumption | exact shaped_ints _ | exact shaped_str (by decide +kernel) | exact rfl | decide +kernel)) (by (first | exact ckw_sh _ | exact sh | exact kd_shaped _ | exact shaped_int _ | exact shaped_bool _ | exact shaped_none | assumption | exact shaped_ints _ | exact shaped_str (by decide +kernel) | exact rfl | decide +kernel))) (fun hh => by first | exact gw_dead (absurd hh (by (first | decide +kernel | (simp only [List.length_cons, List.length_nil, eqv_int]; decide) | (simp only [List.length_cons, List.length_nil, eqv_int, decide_eq_true_eq, decide_eq_false_iff_not]; omega)))) | exact (gw_or1 (gt_notIn rfl (gd_ixT (gd_var (pv 2) rfl) gd_int (by (first | exact q | assumption | exact ixh | exact ixb (by assumption) | exact rfl | (simp only [*]; exact rfl)))) (gd_tup (ga_cons gd_str (ga_cons gd_str (ga_cons gd_str (ga_cons gd_str ga_nil)))) (by (first | decide | omega | (simp only [List.length_append, List.length_cons, List.length_nil, List.length_map, List.length_set, List.length_take, List.length_drop]; omega)))) (by (first | exact rfl | decide)) (by (first | exact rfl | decide))))))))) (fun _ => ?_) (fun h => absurd h (by decide +kernel))
          exact gss_ret (r := .dat _) gd_str (by show Sl.dat (.str _) = Sl.dat (.str _); rw [hck, ← hf]; try rfl)
        · have sh : SeqAt.shaped _ = true := hsh
          refine gss_if (gt_of (gw_or (gt_eq hr.units (gd_var (pv 2) rfl) (gd_tup (ga_cons gd_str ga_nil) (by (first | decide | omega | (simp only [List.length_append, List.length_cons, List.length_nil, List.length_map, List.length_set, List.length_take, List.length_drop]; omega)))) (by (first | exact ckw_sh _ | exact sh | exact kd_shaped _ | exact shaped_int _ | exact shaped_bool _ | exact shaped_none | assumption | exact shaped_ints _ | exact shaped_str (by decide +kernel) | exact rfl | decide +kernel)) (by (first | exact ckw_sh _ | exact sh | exact kd_shaped _ | exact shaped_int _ | exact shaped_bool _ | exact shaped_none | assumption | exact shaped_ints _ | exact shaped_str (by decide +kernel) | exact rfl | decide +kernel))) (fun hh => by first | exact gw_dead (absurd hh (by (first | decide +kernel | (simp only [List.length_cons, List.length_nil, eqv_int]; decide) | (simp only [List.length_cons, List.length_nil, eqv_int, decide_eq_true_eq, decide_eq_false_iff_not]; omega)))) | exact (gw_or1 (gt_eq hr.units (gd_var (pv 2) rfl) (gd_tup (ga_cons gd_str ga_nil) (by (first | decide | omega | (simp only [List.length_append, List.length_cons, List.length_nil, List.length_map, List.length_set, List.length_take, List.length_drop]; omega)))) (by (first | exact ckw_sh _ | exact sh | exact kd_shaped _ | exact shaped_int _ | exact shaped_bool _ | exact shaped_none | assumption | exact shaped_ints _ | exact shaped_str (by decide +kernel) | exact rfl | decide +kernel)) (by (first | exact ckw_sh _ | exact sh | exact kd_shaped _ | exact shaped_int _ | exact shaped_bool _ | exact shaped_none | assumption | exact shaped_ints _ | exact shaped_str (by decide +kernel) | exact rfl | decide +kernel))))))) (fun h => absurd h (by decide +kernel)) (fun _ => gss_nil ?_)
          refine gss_if (gt_of (gw_or (gt_not (gt_val (gd_isi (n := "tuple") rfl T.z_isinstance (by decide +kernel) (pe_bltn rfl T.z_tuple (by decide +kernel) rfl) (gd_var (pv 2) rfl) (by first | exact kit_tuple_tuple | exact kit_list_tuple | exact kit_int_tuple | exact kit_bool_tuple | exact kit_str_tuple | exact kit_NoneType_tuple | exact kit_dict_tuple)))) (fun hh => by first | exact gw_dead (absurd hh (by (first | decide +kernel | (simp only [List.length_cons, List.length_nil, eqv_int]; decide) | (simp only [List.length_cons, List.length_nil, eqv_int, decide_eq_true_eq, decide_eq_false_iff_not]; omega)))) | exact (gw_or (gt_eq hr.units (gd_callB call_len (ca_len (by first | exact .inl rfl | exact .inr rfl)) rfl T.z_len (by decide +kernel) (ga_cons (gd_var (pv 2) rfl) ga_nil)) gd_int (by (first | exact ckw_sh _ | exact sh | exact kd_shaped _ | exact shaped_int _ | exact shaped_bool _ | exact shaped_none | assumption | exact shaped_ints _ | exact shaped_str (by decide +kernel) | exact rfl | decide +kernel)) (by (first | exact ckw_sh _ | exact sh | exact kd_shaped _ | exact shaped_int _ | exact shaped_bool _ | exact shaped_none | assumption | exact shaped_ints _ | exact shaped_str (by decide +kernel) | exact rfl | decide +kernel))) (fun hh => by first | exact gw_dead (absurd hh (by (first | decide +kernel | (simp only [List.length_cons, List.length_nil, eqv_int]; decide) | (simp only [List.length_cons, List.length_nil, eqv_int, decide_eq_true_eq, decide_eq_false_iff_not]; omega)))) | exact (gw_or1 (gt_notIn rfl (gd_ixT (gd_var (pv 2) rfl) gd_int (by (first | exact q | assumption | exact ixh | exact ixb (by assumption) | exact rfl | (simp only [*]; exact rfl)))) (gd_tup (ga_cons gd_str (ga_cons gd_str (ga_cons gd_str (ga_cons gd_str ga_nil)))) (by (first | decide | omega | (simp only [List.length_append, List.length_cons, List.length_nil, List.length_map, List.length_set, List.length_take, List.length_drop]; omega)))) (by (first | exact rfl | decide)) (by (first | exact rfl | decide))))))))) (fun _ => ?_) (fun h => absurd h (by decide +kernel))
          exact gss_ret (r := .dat _) gd_str (by show Sl.dat (.str _) = Sl.dat (.str _); rw [hck, ← hf]; try rfl)
        · have sh : SeqAt.shaped _ = true := hsh
          refine gss_if (gt_of (gw_or (gt_eq hr.units (gd_var (pv 2) rfl) (gd_tup (ga_cons gd_str ga_nil) (by (first | decide | omega | (simp only [List.length_append, List.length_cons, List.length_nil, List.length_map, List.length_set, List.length_take, List.length_drop]; omega)))) (by (first | exact ckw_sh _ | exact sh | exact kd_shaped _ | exact shaped_int _ | exact shaped_bool _ | exact shaped_none | assumption | exact shaped_ints _ | exact shaped_str (by decide +kernel) | exact rfl | decide +kernel)) (by (first | exact ckw_sh _ | exact sh | exact kd_shaped _ | exact shaped_int _ | exact shaped_bool _ | exact shaped_none | assumption | exact shaped_ints _ | exact shaped_str (by decide +kernel) | exact rfl | decide +kernel))) (fun hh => by first | exact gw_dead (absurd hh (by (first | decide +kernel | (simp only [List.length_cons, List.length_nil, eqv_int]; decide) | (simp only [List.length_cons, List.length_nil, eqv_int, decide_eq_true_eq, decide_eq_false_iff_not]; omega)))) | exact (gw_or1 (gt_eq hr.units (gd_var (pv 2) rfl) (gd_tup (ga_cons gd_str ga_nil) (by (first | decide | omega | (simp only [List.length_append, List.length_cons, List.length_nil, List.length_map, List.length_set, List.length_take, List.length_drop]; omega)))) (by (first | exact ckw_sh _ | exact sh | exact kd_shaped _ | exact shaped_int _ | exact shaped_bool _ | exact shaped_none | assumption | exact shaped_ints _ | exact shaped_str (by decide +kernel) | exact rfl | decide +kernel)) (by (first | exact ckw_sh _ | exact sh | exact kd_shaped _ | exact shaped_int _ | exact shaped_bool _ | exact shaped_none | assumption | exact shaped_ints _ | exact shaped_str (by decide +kernel) | exact rfl | decide +kernel))))))) (fun h => absurd h (by decide +kernel)) (fun _ => gss_nil ?_)
          refine gss_if (gt_of (gw_or (gt_not (gt_val (gd_isi (n := "tuple") rfl T.z_isinstance (by decide +kernel) (pe_bltn rfl T.z_tuple (by decide +kernel) rfl) (gd_var (pv 2) rfl) (by first | exact kit_tuple_tuple | exact kit_list_tuple | exact kit_int_tuple | exact kit_bool_tuple | exact kit_str_tuple | exact kit_NoneType_tuple | exact kit_dict_tuple)))) (fun hh => by first | exact gw_dead (absurd hh (by (first | decide +kernel | (simp only [List.length_cons, List.length_nil, eqv_int]; decide) | (simp only [List.length_cons, List.length_nil, eqv_int, decide_eq_true_eq, decide_eq_false_iff_not]; omega)))) | exact (gw_or (gt_eq hr.units (gd_callB call_len (ca_len (by first | exact .inl rfl | exact .inr rfl)) rfl T.z_len (by decide +kernel) (ga_cons (gd_var (pv 2) rfl) ga_nil)) gd_int (by (first | exact ckw_sh _ | exact sh | exact kd_shaped _ | exact shaped_int _ | exact shaped_bool _ | exact shaped_none | assumption | exact shaped_ints _ | exact shaped_str (by decide +kernel) | exact rfl | decide +kernel)) (by (first | exact ckw_sh _ | exact sh | exact kd_shaped _ | exact shaped_int _ | exact shaped_bool _ | exact shaped_none | assumption | exact shaped_ints _ | exact shaped_str (by decide +kernel) | exact rfl | decide +kernel))) (fun hh => by first | exact gw_dead (absurd hh (by (first | decide +kernel | (simp only [List.length_cons, List.length_nil, eqv_int]; decide) | (simp only [List.length_cons, List.length_nil, eqv_int, decide_eq_true_eq, decide_eq_false_iff_not]; omega)))) | exact (gw_or1 (gt_notIn rfl (gd_ixT (gd_var (pv 2) rfl) gd_int (by (first | exact q | assumption | exact ixh | exact ixb (by assumption) | exact rfl | (simp only [*]; exact rfl)))) (gd_tup (ga_cons gd_str (ga_cons gd_str (ga_cons gd_str (ga_cons gd_str ga_nil)))) (by (first | decide | omega | (simp only [List.length_append, List.length_cons, List.length_nil, List.length_map, List.length_set, List.length_take, List.length_drop]; omega)))) (by (first | exact rfl | decide)) (by (first | exact rfl | decide))))))))) (fun _ => ?_) (fun h => absurd h (by decide +kernel))
          exact gss_ret (r := .dat _) gd_str (by show Sl.dat (.str _) = Sl.dat (.str _); rw [hck, ← hf]; try rfl)
        · have sh : SeqAt.shaped _ = true := hsh
          refine gss_if (gt_of (gw_or (gt_eq hr.units (gd_var (pv 2) rfl) (gd_tup (ga_cons gd_str ga_nil) (by (first | decide | omega | (simp only [List.length_append, List.length_cons, List.length_nil, List.length_map, List.length_set, List.length_take, List.length_drop]; omega)))) (by (first | exact ckw_sh _ | exact sh | exact kd_shaped _ | exact shaped_int _ | exact shaped_bool _ | exact shaped_none | assumption | exact shaped_ints _ | exact shaped_str (by decide +kernel) | exact rfl | decide +kernel)) (by (first | exact ckw_sh _ | exact sh | exact kd_shaped _ | exact shaped_int _ | exact shaped_bool _ | exact shaped_none | assumption | exact shaped_ints _ | exact shaped_str (by decide +kernel) | exact rfl | decide +kernel))) (fun hh => by first | exact gw_dead (absurd hh (by (first | decide +kernel | (simp only [List.length_cons, List.length_nil, eqv_int]; decide) | (simp only [List.length_cons, List.length_nil, eqv_int, decide_eq_true_eq, decide_eq_false_iff_not]; omega)))) | exact (gw_or1 (gt_eq hr.units (gd_var (pv 2) rfl) (gd_tup (ga_cons gd_str ga_nil) (by (first | decide | omega | (simp only [List.length_append, List.length_cons, List.length_nil, List.length_map, List.length_set, List.length_take, List.length_drop]; omega)))) (by (first | exact ckw_sh _ | exact sh | exact kd_shaped _ | exact shaped_int _ | exact shaped_bool _ | exact shaped_none | assumption | exact shaped_ints _ | exact shaped_str (by decide +kernel) | exact rfl | decide +kernel)) (by (first | exact ckw_sh _ | exact sh | exact kd_shaped _ | exact shaped_int _ | exact shaped_bool _ | exact shaped_none | assumption | exact shaped_ints _ | exact shaped_str (by decide +kernel) | exact rfl | decide +kernel))))))) (fun h => absurd h (by decide +kernel)) (fun _ => gss_nil ?_)
          refine gss_if (gt_of (gw_or (gt_not (gt_val (gd_isi (n := "tuple") rfl T.z_isinstance (by decide +kernel) (pe_bltn rfl T.z_tuple (by decide +kernel) rfl) (gd_var (pv 2) rfl) (by first | exact kit_tuple_tuple | exact kit_list_tuple | exact kit_int_tuple | exact kit_bool_tuple | exact kit_str_tuple | exact kit_NoneType_tuple | exact kit_dict_tuple)))) (fun hh => by first | exact gw_dead (absurd hh (by (first | decide +kernel | (simp only [List.length_cons, List.length_nil, eqv_int]; decide) | (simp only [List.length_cons, List.length_nil, eqv_int, decide_eq_true_eq, decide_eq_false_iff_not]; omega)))) | exact (gw_or (gt_eq hr.units (gd_callB call_len (ca_len (by first | exact .inl rfl | exact .inr rfl)) rfl T.z_len (by decide +kernel) (ga_cons (gd_var (pv 2) rfl) ga_nil)) gd_int (by (first | exact ckw_sh _ | exact sh | exact kd_shaped _ | exact shaped_int _ | exact shaped_bool _ | exact shaped_none | assumption | exact shaped_ints _ | exact shaped_str (by decide +kernel) | exact rfl | decide +kernel)) (by (first | exact ckw_sh _ | exact sh | exact kd_shaped _ | exact shaped_int _ | exact shaped_bool _ | exact shaped_none | assumption | exact shaped_ints _ | exact shaped_str (by decide +kernel) | exact rfl | decide +kernel))) (fun hh => by first | exact gw_dead (absurd hh (by (first | decide +kernel | (simp only [List.length_cons, List.length_nil, eqv_int]; decide) | (simp only [List.length_cons, List.length_nil, eqv_int, decide_eq_true_eq, decide_eq_false_iff_not]; omega)))) | exact (gw_or1 (gt_notIn rfl (gd_ixT (gd_var (pv 2) rfl) gd_int (by (first | exact q | assumption | exact ixh | exact ixb (by assumption) | exact rfl | (simp only [*]; exact rfl)))) (gd_tup (ga_cons gd_str (ga_cons gd_str (ga_cons gd_str (ga_cons gd_str ga_nil)))) (by (first | decide | omega | (simp only [List.length_append, List.length_cons, List.length_nil, List.length_map, List.length_set, List.length_take, List.length_drop]; omega)))) (by (first | exact rfl | decide)) (by (first | exact rfl | decide))))))))) (fun _ => ?_) (fun h => absurd h (by decide +kernel))
          exact gss_ret (r := .dat _) gd_str (by show Sl.dat (.str _) = Sl.dat (.str _); rw [hck, ← hf]; try rfl)
        · have sh : SeqAt.shaped _ = true := hsh
          refine gss_if (gt_of (gw_or (gt_eq hr.units (gd_var (pv 2) rfl) (gd_tup (ga_cons gd_str ga_nil) (by (first | decide | omega | (simp only [List.length_append, List.length_cons, List.length_nil, List.length_map, List.length_set, List.length_take, List.length_drop]; omega)))) (by (first | exact ckw_sh _ | exact sh | exact kd_shaped _ | exact shaped_int _ | exact shaped_bool _ | exact shaped_none | assumption | exact shaped_ints _ | exact shaped_str (by decide +kernel) | exact rfl | decide +kernel)) (by (first | exact ckw_sh _ | exact sh | exact kd_shaped _ | exact shaped_int _ | exact shaped_bool _ | exact shaped_none | assumption | exact shaped_ints _ | exact shaped_str (by decide +kernel) | exact rfl | decide +kernel))) (fun hh => by first | exact gw_dead (absurd hh (by (first | decide +kernel | (simp only [List.length_cons, List.length_nil, eqv_int]; decide) | (simp only [List.length_cons, List.length_nil, eqv_int, decide_eq_true_eq, decide_eq_false_iff_not]; omega)))) | exact (gw_or1 (gt_eq hr.units (gd_var (pv 2) rfl) (gd_tup (ga_cons gd_str ga_nil) (by (first | decide | omega | (simp only [List.length_append, List.length_cons, List.length_nil, List.length_map, List.length_set, List.length_take, List.length_drop]; omega)))) (by (first | exact ckw_sh _ | exact sh | exact kd_shaped _ | exact shaped_int _ | exact shaped_bool _ | exact shaped_none | assumption | exact shaped_ints _ | exact shaped_str (by decide +kernel) | exact rfl | decide +kernel)) (by (first | exact ckw_sh _ | exact sh | exact kd_shaped _ | exact shaped_int _ | exact shaped_bool _ | exact shaped_none | assumption | exact shaped_ints _ | exact shaped_str (by decide +kernel) | exact rfl | decide +kernel))))))) (fun h => absurd h (by decide +kernel)) (fun _ => gss_nil ?_)
          refine gss_if (gt_of (gw_or (gt_not (gt_val (gd_isi (n := "tuple") rfl T.z_isinstance (by decide +kernel) (pe_bltn rfl T.z_tuple (by decide +kernel) rfl) (gd_var (pv 2) rfl) (by first | exact kit_tuple_tuple | exact kit_list_tuple | exact kit_int_tuple | exact kit_bool_tuple | exact kit_str_tuple | exact kit_NoneType_tuple | exact kit_dict_tuple)))) (fun hh => by first | exact gw_dead (absurd hh (by (first | decide +kernel | (simp only [List.length_cons, List.length_nil, eqv_int]; decide) | (simp only [List.length_cons, List.length_nil, eqv_int, decide_eq_true_eq, decide_eq_false_iff_not]; omega)))) | exact (gw_or (gt_eq hr.units (gd_callB call_len (ca_len (by first | exact .inl rfl | exact .inr rfl)) rfl T.z_len (by decide +kernel) (ga_cons (gd_var (pv 2) rfl) ga_nil)) gd_int (by (first | exact ckw_sh _ | exact sh | exact kd_shaped _ | exact shaped_int _ | exact shaped_bool _ | exact shaped_none | assumption | exact shaped_ints _ | exact shaped_str (by decide +kernel) | exact rfl | decide +kernel)) (by (first | exact ckw_sh _ | exact sh | exact kd_shaped _ | exact shaped_int _ | exact shaped_bool _ | exact shaped_none | assumption | exact shaped_ints _ | exact shaped_str (by decide +kernel) | exact rfl | decide +kernel))) (fun hh => by first | exact gw_dead (absurd hh (by (first | decide +kernel | (simp only [List.length_cons, List.length_nil, eqv_int]; decide) | (simp only [List.length_cons, List.length_nil, eqv_int, decide_eq_true_eq, decide_eq_false_iff_not]; omega)))) | exact (gw_or1 (gt_notIn rfl (gd_ixT (gd_var (pv 2) rfl) gd_int (by (first | exact q | assumption | exact ixh | exact ixb (by assumption) | exact rfl | (simp only [*]; exact rfl)))) (gd_tup (ga_cons gd_str (ga_cons gd_str (ga_cons gd_str (ga_cons gd_str ga_nil)))) (by (first | decide | omega | (simp only [List.length_append, List.length_cons, List.length_nil, List.length_map, List.length_set, List.length_take, List.length_drop]; omega)))) (by (first | exact rfl | decide)) (by (first | exact rfl | decide))))))))) (fun h => absurd h (by decide +kernel)) (fun _ => gss_nil ?_)
          refine gss_if (gt_of (gw_or (gt_ne hr.units (gd_callB call_len (ca_len (by first | exact .inl rfl | exact .inr rfl)) rfl T.z_len (by decide +kernel) (ga_cons (gd_var (pv 2) rfl) ga_nil)) gd_int (by (first | exact ckw_sh _ | exact sh | exact kd_shaped _ | exact shaped_int _ | exact shaped_bool _ | exact shaped_none | assumption | exact shaped_ints _ | exact shaped_str (by decide +kernel) | exact rfl | decide +kernel)) (by (first | exact ckw_sh _ | exact sh | exact kd_shaped _ | exact shaped_int _ | exact shaped_bool _ | exact shaped_none | assumption | exact shaped_ints _ | exact shaped_str (by decide +kernel) | exact rfl | decide +kernel))) (fun hh => by first | exact gw_dead (absurd hh (by (first | decide +kernel | (simp only [List.length_cons, List.length_nil, eqv_int]; decide) | (simp only [List.length_cons, List.length_nil, eqv_int, decide_eq_true_eq, decide_eq_false_iff_not]; omega)))) | exact (gw_or (gt_not (gt_val (gd_isi (n := "int") rfl T.z_isinstance (by decide +kernel) (pe_bltn rfl T.z_int (by decide +kernel) rfl) (gd_ixT (gd_var (pv 2) rfl) gd_int (by (first | exact q | assumption | exact ixh | exact ixb (by assumption) | exact rfl | (simp only [*]; exact rfl)))) (by first | exact kit_tuple_int | exact kit_list_int | exact kit_int_int | exact kit_bool_int | exact kit_str_int | exact kit_NoneType_int | exact kit_dict_int)))) (fun hh => by first | exact gw_dead (absurd hh (by (first | decide +kernel | (simp only [List.length_cons, List.length_nil, eqv_int]; decide) | (simp only [List.length_cons, List.length_nil, eqv_int, decide_eq_true_eq, decide_eq_false_iff_not]; omega)))) | exact (gw_or1 (gt_val (gd_isi (n := "bool") rfl T.z_isinstance (by decide +kernel) (pe_bltn rfl T.z_bool (by decide +kernel) rfl) (gd_ixT (gd_var (pv 2) rfl) gd_int (by (first | exact q | assumption | exact ixh | exact ixb (by assumption) | exact rfl | (simp only [*]; exact rfl)))) (by first | exact kit_tuple_bool | exact kit_list_bool | exact kit_int_bool | exact kit_bool_bool | exact kit_str_bool | exact kit_NoneType_bool | exact kit_dict_bool))))))))) (fun _ => ?_) (fun h => absurd h (by decide +kernel))
          exact gss_ret (r := .dat _) gd_str (by show Sl.dat (.str _) = Sl.dat (.str _); rw [hck, ← hf]; try rfl)
    · rintro Γ' S' ⟨rfl, hf, x, rfl⟩
      rw [List.drop_length] at hf
      exact ⟨rfl, hf.symm, x, rfl⟩
    rintro Γ' S' ⟨rfl, hf, x, rfl⟩
    refine gss_ret (r := .dat _) gd_str ?_
    show Sl.dat (.str _) = Sl.dat (.str _)
    rw [hck, hf]; rfl
theorem sc_law : FnScope ["_law_script", "_law_many", "_law_which", "_law_kind", "_law_rows", "_law_k", "_law_order", "_law_tried", "_law_due_here", "_law_boxes", "_law_loom", "_law_cell", "_law_hand", "_law_at"] ["_law_script"] (defScope s_law) := ⟨rfl, rfl, rfl, by decide +kernel, rfl, by decide +kernel, by decide +kernel⟩
theorem ok_law (T : Txt K mg) : FnOk P w K mg base CX0 16 T.f_law T.d_law ["_law_script"] (SpD K R_law) := by
  refine pure_defK T.F_law sc_law (fun ds d h => ?_) (fun cdv A outer s H E B ds d hr hks h => ?_)
  · obtain ⟨ns, rfl, hs, hl, rfl⟩ := h; rfl
  · obtain ⟨ns, rfl, hs, hl, rfl⟩ := h
    have im : ∀ (i : Nat), i ≤ 9 → IntMulOk 2 (i : Int) := fun i hi => mul_ok (by decide) (small_of (k := 8) (by decide) (by decide) (by omega))
    obtain ⟨m, em⟩ : ∃ z, z = cell ns 0 % 10 := ⟨_, rfl⟩
    obtain ⟨wh, ewh⟩ : ∃ z, z = cell ns 9 % 5 := ⟨_, rfl⟩
    obtain ⟨kd, ekd⟩ : ∃ z, z = cell ns 10 % 5 := ⟨_, rfl⟩
    have hm : 0 ≤ m ∧ m ≤ 9 := by omega
    have hwh : 0 ≤ wh ∧ wh ≤ 4 := by omega
    refine gss_set (i := 1) sc_law.nd rfl (by first | exact .inl rfl | exact .inr rfl) (r := .dat (.int m)) (gd_cast (gd_mod (by (first | decide | omega)) (gd_call (ok_l_cell_at T) (hr.mono (by decide)) rfl T.m_l_cell_at T.F_l_cell_at.kp T.b_l_cell_at pass0 (ga_cons (gd_var (pv 0) rfl) (ga_cons gd_int ga_nil)) (by (exact ⟨_, _, rfl, by first | decide | omega, rfl⟩))) gd_int) (by rw [em])) ?_
    refine gss_set (i := 2) sc_law.nd rfl (by first | exact .inl rfl | exact .inr rfl) (r := .dat (.int wh)) (gd_cast (gd_mod (by (first | decide | omega)) (gd_call (ok_l_cell_at T) (hr.mono (by decide)) rfl T.m_l_cell_at T.F_l_cell_at.kp T.b_l_cell_at pass0 (ga_cons (gd_var (pv 0) rfl) (ga_cons gd_int ga_nil)) (by (exact ⟨_, _, rfl, by first | decide | omega, rfl⟩))) gd_int) (by rw [ewh])) ?_
    refine gss_set (i := 3) sc_law.nd rfl (by first | exact .inl rfl | exact .inr rfl) (r := .dat (.int kd)) (gd_cast (gd_mod (by (first | decide | omega)) (gd_call (ok_l_cell_at T) (hr.mono (by decide)) rfl T.m_l_cell_at T.F_l_cell_at.kp T.b_l_cell_at pass0 (ga_cons (gd_var (pv 0) rfl) (ga_cons gd_int ga_nil)) (by (exact ⟨_, _, rfl, by first | decide | omega, rfl⟩))) gd_int) (by rw [ekd])) ?_
    refine gss_then ?_
    refine gs_setF (i := 4) (gf_lst (ga_cons (gd_call (ok_l_row_by T) (hr.mono (by decide)) rfl T.m_l_row_by T.F_l_row_by.kp T.b_l_row_by pass0 (ga_cons (gd_call (ok_l_cell_at T) (hr.mono (by decide)) rfl T.m_l_cell_at T.F_l_cell_at.kp T.b_l_cell_at pass0 (ga_cons (gd_var (pv 0) rfl) (ga_cons gd_int ga_nil)) (by (exact ⟨_, _, rfl, by first | decide | omega, rfl⟩))) (ga_cons (gd_var (pv 1) rfl) ga_nil)) (by (exact ⟨_, _, rfl, rfl⟩))) (ga_cons (gd_call (ok_l_row_by T) (hr.mono (by decide)) rfl T.m_l_row_by T.F_l_row_by.kp T.b_l_row_by pass0 (ga_cons (gd_call (ok_l_cell_at T) (hr.mono (by decide)) rfl T.m_l_cell_at T.F_l_cell_at.kp T.b_l_cell_at pass0 (ga_cons (gd_var (pv 0) rfl) (ga_cons gd_int ga_nil)) (by (exact ⟨_, _, rfl, by first | decide | omega, rfl⟩))) (ga_cons (gd_var (pv 1) rfl) ga_nil)) (by (exact ⟨_, _, rfl, rfl⟩))) ga_nil)) (by show 2 ≤ 100000; decide)) sc_law.nd rfl (by first | exact .inl rfl | exact .inr rfl) fun p hp => ?_
    refine gss_cons (M := fun Γ' S' => ∃ (d0 d1 : List PyData) (x5 x11 x12 x13 : Sl), Rw d0 ∧ Rw d1 ∧ Γ' = [.dat (.list (ns.map .int)), .dat (.int m), .dat (.int wh), .dat (.int kd), .raw (.ref p), x5, .un, .un, .un, .un, .un, x11, x12, x13] ∧ S' = [(p, .lst [.list d0, .list d1])]) (gs_forR .never rfl rfl T.z_range (gd_mod (by (first | decide | omega)) (gd_call (ok_l_cell_at T) (hr.mono (by decide)) rfl T.m_l_cell_at T.F_l_cell_at.kp T.b_l_cell_at pass0 (ga_cons (gd_var (pv 0) rfl) (ga_cons gd_int ga_nil)) (by (exact ⟨_, _, rfl, by first | decide | omega, rfl⟩))) gd_int) ⟨by omega, by omega⟩ sc_law.nd (j := 5) rfl (by first | exact .inl rfl | exact .inr rfl) (fun _ Γ' S' => ∃ (d0 d1 : List PyData) (x5 x11 x12 x13 : Sl), Rw d0 ∧ Rw d1 ∧ Γ' = [.dat (.list (ns.map .int)), .dat (.int m), .dat (.int wh), .dat (.int kd), .raw (.ref p), x5, .un, .un, .un, .un, .un, x11, x12, x13] ∧ S' = [(p, .lst [.list d0, .list d1])]) ⟨_, _, .un, .un, .un, .un, rowA_rw _ _ (sizA_le _), rowA_rw _ _ (sizA_le _), rfl, rfl⟩ ?_ (fun _ _ h => h)) ?_
    · rintro i Γ' S' G0 hi ⟨d0, d1, x5, x11, x12, x13, hw0, hw1, rfl, rfl⟩
      have hi9 : i ≤ 9 := by omega
      obtain ⟨z, ez⟩ : ∃ z, z = cell ns (3 + 2 * (i : Int)) := ⟨_, rfl⟩
      refine gss_set (i := 11) sc_law.nd rfl (by first | exact .inl rfl | exact .inr rfl) (r := .dat (.int z)) (gd_cast (gd_call (ok_l_cell_at T) (hr.mono (by decide)) rfl T.m_l_cell_at T.F_l_cell_at.kp T.b_l_cell_at pass0 (ga_cons (gd_var (pv 0) rfl) (ga_cons (gd_add gd_int (gd_mul (by (first | assumption | exact im _ (by omega))) gd_int (gd_var (pv 5) rfl))) ga_nil)) (by (exact ⟨_, _, rfl, by first | decide | omega, rfl⟩))) (by rw [ez])) ?_
      obtain ⟨b, hb⟩ := hand_of z
      refine gss_set (i := 12) sc_law.nd rfl (by first | exact .inl rfl | exact .inr rfl) (r := .dat (.int (hI b))) (gd_cast (gd_mod (by (first | decide | omega)) (gd_var (pv 11) rfl) gd_int) (by rw [hb])) ?_
      obtain ⟨db, edb⟩ : ∃ d, d = if b then d1 else d0 := ⟨_, rfl⟩
      have hwb : Rw db := by rw [edb]; cases b; exact hw0; exact hw1
      have hbl := hwb.2
      have ri : atI [PyData.list d0, .list d1] (hI b) = some (.list db) := by rw [edb]; cases b <;> rfl
      refine gss_one (gs_if (gt_gt (gd_callB call_len (ca_len (by first | exact .inl rfl | exact .inr rfl)) rfl T.z_len (by decide +kernel) (ga_cons (gd_ixO (n := 0) (gr_var (pv 4) rfl) (gd_var (pv 12) rfl) rfl (by (first | exact q | assumption | exact ixh | exact ixb (by assumption) | exact rfl | (simp only [*]; exact rfl)))) ga_nil)) gd_int) (fun h => ?_) (fun h => gss_nil ⟨d0, d1, _, _, _, _, hw0, hw1, rfl, rfl⟩))
      have hpos : (0 : Int) < (db.length : Int) := of_decide_eq_true h
      obtain ⟨ia, hia⟩ : ∃ ia : Nat, (ia : Int) = z / 2 % (db.length : Int) := ⟨(z / 2 % (db.length : Int)).toNat, Int.toNat_of_nonneg (Int.emod_nonneg _ (by omega))⟩
      have hil : ia < db.length := by have := Int.emod_lt_of_pos (z / 2) hpos; omega
      refine gss_set (i := 13) sc_law.nd rfl (by first | exact .inl rfl | exact .inr rfl) (r := .dat (.int (ia : Int))) (gd_cast (gd_mod (by (first | decide | omega)) (gd_fdiv (by (exact ⟨by decide, by decide⟩)) (gd_var (pv 11) rfl) gd_int) (gd_callB call_len (ca_len (by first | exact .inl rfl | exact .inr rfl)) rfl T.z_len (by decide +kernel) (ga_cons (gd_ixO (n := 0) (gr_var (pv 4) rfl) (gd_var (pv 12) rfl) rfl (by (first | exact q | assumption | exact ixh | exact ixb (by assumption) | exact rfl | (simp only [*]; exact rfl)))) ga_nil))) (by rw [hia])) ?_
      refine gss_one (gs_setO (n := 0) (m := if b then 1 else 0) (gr_var (pv 4) rfl) (gd_var (pv 12) rfl) (gd_call (ok_l_put T) (hr.mono (by decide)) rfl T.m_l_put T.F_l_put.kp T.b_l_put pass0 (ga_cons (gd_ixO (n := 0) (gr_var (pv 4) rfl) (gd_var (pv 12) rfl) rfl (by (first | exact q | assumption | exact ixh | exact ixb (by assumption) | exact rfl | (simp only [*]; exact rfl)))) (ga_cons (gd_var (pv 13) rfl) (ga_cons (gd_call (ok_l_wrong_by T) (hr.mono (by decide)) rfl T.m_l_wrong_by T.F_l_wrong_by.kp T.b_l_wrong_by pass0 (ga_cons (gd_call (ok_l_cell_at T) (hr.mono (by decide)) rfl T.m_l_cell_at T.F_l_cell_at.kp T.b_l_cell_at pass0 (ga_cons (gd_var (pv 0) rfl) (ga_cons (gd_add gd_int (gd_mul (by (first | assumption | exact im _ (by omega))) gd_int (gd_var (pv 5) rfl))) ga_nil)) (by (exact ⟨_, _, rfl, by first | decide | omega, rfl⟩))) (ga_cons (gd_var (pv 1) rfl) ga_nil)) (by (exact ⟨_, _, rfl, rfl⟩))) ga_nil))) (by (first | exact ⟨db, ia, _, rfl, hil, by omega, rfl⟩ | exact ⟨(List.range n).map fun k : Nat => (Stp.add (c / 7 % 5 + (k : Int))).toD, (c / 196 % (n : Int)).toNat, (Stp.load (c / 7 % m)).toD, by rw [Int.toNat_of_nonneg (Int.emod_nonneg _ (by omega))]; rfl, hil, by rw [List.length_map, List.length_range]; omega, rfl⟩))) rfl (by cases b <;> rfl) ?_)
      have hwn := rw_set ia hwb (wrong_rn (cell ns (4 + 2 * (i : Int))) m)
      cases b
      · exact ⟨db.set ia (wrongD (cell ns (4 + 2 * (i : Int))) m), d1, _, _, _, _, hwn, hw1, rfl, rfl⟩
      · exact ⟨d0, db.set ia (wrongD (cell ns (4 + 2 * (i : Int))) m), _, _, _, _, hw0, hwn, rfl, rfl⟩
    rintro Γ' S' ⟨d0, d1, x5, x11, x12, x13, hw0, hw1, rfl, rfl⟩
    refine gss_freeze 4 0 rfl rfl hp ?_
    refine gss_set (i := 6) sc_law.nd rfl (by first | exact .inl rfl | exact .inr rfl) (r := .dat (.list (handsD []))) (gd_cast (gd_lst ga_nil (by (first | decide | omega | (simp only [List.length_append, List.length_cons, List.length_nil, List.length_map, List.length_set, List.length_take, List.length_drop]; omega)))) rfl) ?_
    obtain ⟨tr, etr⟩ : ∃ t, t = PyData.eqv (.int (cell ns 12 % 3)) (.int 1) := ⟨_, rfl⟩
    refine gss_set (i := 7) sc_law.nd rfl (by first | exact .inl rfl | exact .inr rfl) (r := .dat (.bool tr)) (gd_cast (gd_eq hr.units (gd_mod (by (first | decide | omega)) (gd_call (ok_l_cell_at T) (hr.mono (by decide)) rfl T.m_l_cell_at T.F_l_cell_at.kp T.b_l_cell_at pass0 (ga_cons (gd_var (pv 0) rfl) (ga_cons gd_int ga_nil)) (by (exact ⟨_, _, rfl, by first | decide | omega, rfl⟩))) gd_int) gd_int (by (first | exact ckw_sh _ | exact sh | exact kd_shaped _ | exact shaped_int _ | exact shaped_bool _ | exact shaped_none | assumption | exact shaped_ints _ | exact shaped_str (by decide +kernel) | exact rfl | decide +kernel)) (by (first | exact ckw_sh _ | exact sh | exact kd_shaped _ | exact shaped_int _ | exact shaped_bool _ | exact shaped_none | assumption | exact shaped_ints _ | exact shaped_str (by decide +kernel) | exact rfl | decide +kernel))) (by rw [etr])) ?_
    have hl0 := hw0.2
    have hl1 := hw1.2
    refine gss_cons (M := fun Γ' S' => ∃ (e0 e1 : List PyData) (o : List Bool), (∀ d ∈ e0, Rd d) ∧ (∀ d ∈ e1, Rd d) ∧ e0.length ≤ 63 ∧ e1.length ≤ 63 ∧ (tr = false → (∀ d ∈ e0, NGd d) ∧ (∀ d ∈ e1, NGd d) ∧ o = []) ∧ Γ' = [.dat (.list (ns.map .int)), .dat (.int m), .dat (.int wh), .dat (.int kd), .dat (.list [.list e0, .list e1]), x5, .dat (.list (handsD o)), .dat (.bool tr), .un, .un, .un, x11, x12, x13] ∧ S' = []) (gs_if (gt_val (gd_var (pv 7) rfl)) (fun ht => ?_) (fun ht => gss_nil ⟨d0, d1, [], (rd_of hw0).1, (rd_of hw1).1, by omega, by omega, fun _ => ⟨(rd_of hw0).2, (rd_of hw1).2, rfl⟩, rfl, rfl⟩)) ?_
    · refine gss_then ?_
      refine gs_setLcL (j := 11) 6 (fun i : Nat => .int ((cutN ns (some 13) none).getD i 0 % 2)) rfl rfl (sw_true rfl rfl rfl (by decide +kernel)) rfl sc_law.nd (gd_cast (gd_slice (gd_var (pv 0) rfl) (go_some gd_int) go_none) (by rw [cut_map])) (by rw [List.length_map]; have := cutN_len ns (some 13) none; omega) (blkOk_by (own := [("_law_cell", 11)]) (N := ["_law_script", "_law_many", "_law_which", "_law_kind", "_law_rows", "_law_k", "_law_order", "_law_tried", "_law_due_here", "_law_boxes", "_law_loom", "_law_cell", "_law_hand", "_law_at"]) (sc := defScope s_law) (by decide +kernel)) (fun _ _ _ _ _ => pg_name (i := 11) sc_law.nd rfl (Or.inl rfl)) (fun i D acc d hd _ _ _ _ _ => by
      obtain ⟨z, hd', rfl⟩ := int_at hd
      rw [hd']
      exact (gd_mod (by (first | decide | omega)) (gd_var (pv 11) rfl) gd_int)) (q := ?_)
      rw [turns_map]
      refine gss_set (i := 4) sc_law.nd rfl (by first | exact .inl rfl | exact .inr rfl) (r := .dat _) (gd_lst (ga_cons (gd_call (ok_l_with_guards T) (hr.mono (by decide)) rfl T.m_l_with_guards T.F_l_with_guards.kp T.b_l_with_guards pass0 (ga_cons (gd_ixL (gd_var (pv 4) rfl) gd_int (by (first | exact q | assumption | exact ixh | exact ixb (by assumption) | exact rfl | (simp only [*]; exact rfl)))) (ga_cons (gd_call (ok_l_cell_at T) (hr.mono (by decide)) rfl T.m_l_cell_at T.F_l_cell_at.kp T.b_l_cell_at pass0 (ga_cons (gd_var (pv 0) rfl) (ga_cons gd_int ga_nil)) (by (exact ⟨_, _, rfl, by first | decide | omega, rfl⟩))) ga_nil)) (by (exact ⟨_, _, rfl, by omega, rfl⟩))) (ga_cons (gd_call (ok_l_with_guards T) (hr.mono (by decide)) rfl T.m_l_with_guards T.F_l_with_guards.kp T.b_l_with_guards pass0 (ga_cons (gd_ixL (gd_var (pv 4) rfl) gd_int (by (first | exact q | assumption | exact ixh | exact ixb (by assumption) | exact rfl | (simp only [*]; exact rfl)))) (ga_cons (gd_call (ok_l_cell_at T) (hr.mono (by decide)) rfl T.m_l_cell_at T.F_l_cell_at.kp T.b_l_cell_at pass0 (ga_cons (gd_var (pv 0) rfl) (ga_cons gd_int ga_nil)) (by (exact ⟨_, _, rfl, by first | decide | omega, rfl⟩))) ga_nil)) (by (exact ⟨_, _, rfl, by omega, rfl⟩))) ga_nil)) (by (first | decide | omega | (simp only [List.length_append, List.length_cons, List.length_nil, List.length_map, List.length_set, List.length_take, List.length_drop]; omega)))) (gss_nil ?_)
      have q0 := wg_len d0 (cell ns 7) (wgI d0 (cell ns 7))
      have q1 := wg_len d1 (cell ns 8) (wgI d1 (cell ns 8))
      exact ⟨wgD d0 (cell ns 7) (wgI d0 (cell ns 7)), wgD d1 (cell ns 8) (wgI d1 (cell ns 8)), (cutN ns (some 13) none).map fun z => decide (z % 2 = 1), wg_rd (rd_of hw0).1, wg_rd (rd_of hw1).1, by omega, by omega, (fun h => by rw [h] at ht; cases ht), rfl, rfl⟩
    rintro Γ' S' ⟨e0, e1, o, hr0, hr1, he0, he1, hng, rfl, rfl⟩
    clear hw0 hw1 hl0 hl1
    clear d0 d1
    refine gss_set (i := 8) sc_law.nd rfl (by first | exact .inl rfl | exact .inr rfl) (r := .dat _) (gd_call (ok_l_due T) (hr.mono (by decide)) rfl T.m_l_due T.F_l_due.kp T.b_l_due pass0 (ga_cons (gd_ixL (gd_var (pv 4) rfl) gd_int (by (first | exact q | assumption | exact ixh | exact ixb (by assumption) | exact rfl | (simp only [*]; exact rfl)))) (ga_cons (gd_var (pv 1) rfl) ga_nil)) (by (exact ⟨_, _, rfl, hm.1, by assumption, by omega, rfl⟩))) ?_
    have nsh : SeqAt.shaped (.str "") = true := shaped_str (by decide +kernel)
    refine gss_cons (M := fun Γ' S' => ∃ v, v = verdA wh (chk m.toNat e0) (chk m.toNat e1) ∧ Γ' = [.dat (.list (ns.map .int)), .dat (.int m), .dat (.int wh), .dat (.int kd), .dat (.list [.list e0, .list e1]), x5, .dat (.list (handsD o)), .dat (.bool tr), .dat (.str (ckW v)), .un, .un, x11, x12, x13] ∧ S' = []) (gs_if (gt_of (gw_and (gt_eq hr.units (gd_var (pv 8) rfl) gd_str (by (first | exact ckw_sh _ | exact sh | exact kd_shaped _ | exact shaped_int _ | exact shaped_bool _ | exact shaped_none | assumption | exact shaped_ints _ | exact shaped_str (by decide +kernel) | exact rfl | decide +kernel)) (by (first | exact ckw_sh _ | exact sh | exact kd_shaped _ | exact shaped_int _ | exact shaped_bool _ | exact shaped_none | assumption | exact shaped_ints _ | exact shaped_str (by decide +kernel) | exact rfl | decide +kernel))) (fun hh => by first | exact gw_dead (absurd hh (by (first | decide +kernel | (simp only [List.length_cons, List.length_nil, eqv_int]; decide) | (simp only [List.length_cons, List.length_nil, eqv_int, decide_eq_true_eq, decide_eq_false_iff_not]; omega)))) | exact (gw_and1 (gt_gt (gd_var (pv 2) rfl) gd_int))))) (fun h => ?_) (fun h => gss_nil ⟨chk m.toNat e0, ?_, rfl, rfl⟩)) ?_
    · refine gss_set (i := 8) sc_law.nd rfl (by first | exact .inl rfl | exact .inr rfl) (r := .dat (.str (ckW (chk m.toNat e1)))) (gd_call (ok_l_due T) (hr.mono (by decide)) rfl T.m_l_due T.F_l_due.kp T.b_l_due pass0 (ga_cons (gd_ixL (gd_var (pv 4) rfl) gd_int (by (first | exact q | assumption | exact ixh | exact ixb (by assumption) | exact rfl | (simp only [*]; exact rfl)))) (ga_cons (gd_var (pv 1) rfl) ga_nil)) (by (exact ⟨_, _, rfl, hm.1, by assumption, by omega, rfl⟩))) (gss_nil ⟨chk m.toNat e1, ?_, rfl, rfl⟩)
      rw [ckw_none, Bool.and_eq_true] at h
      have h1 := Option.isNone_iff_eq_none.mp h.1
      have h2 := of_decide_eq_true h.2
      rw [h1]
      unfold verdA
      simp only [if_neg (show ¬ wh = 0 by omega)]
    · rw [ckw_none] at h
      unfold verdA
      cases q : chk m.toNat e0 with
      | some e => rfl
      | none =>
        rw [q] at h
        have h2 : ¬ 0 < wh := by simpa using h
        simp only [if_pos (show wh = 0 by omega)]
    rintro Γ' S' ⟨v0, hv0, rfl, rfl⟩
    refine gss_cons (M := fun Γ' S' => ∃ v, v = verd wh m.toNat e0 e1 ∧ Γ' = [.dat (.list (ns.map .int)), .dat (.int m), .dat (.int wh), .dat (.int kd), .dat (.list [.list e0, .list e1]), x5, .dat (.list (handsD o)), .dat (.bool tr), .dat (.str (ckW v)), .un, .un, x11, x12, x13] ∧ S' = []) (gs_if (gt_of (gw_and (gt_eq hr.units (gd_var (pv 8) rfl) gd_str (by (first | exact ckw_sh _ | exact sh | exact kd_shaped _ | exact shaped_int _ | exact shaped_bool _ | exact shaped_none | assumption | exact shaped_ints _ | exact shaped_str (by decide +kernel) | exact rfl | decide +kernel)) (by (first | exact ckw_sh _ | exact sh | exact kd_shaped _ | exact shaped_int _ | exact shaped_bool _ | exact shaped_none | assumption | exact shaped_ints _ | exact shaped_str (by decide +kernel) | exact rfl | decide +kernel))) (fun hh => by first | exact gw_dead (absurd hh (by (first | decide +kernel | (simp only [List.length_cons, List.length_nil, eqv_int]; decide) | (simp only [List.length_cons, List.length_nil, eqv_int, decide_eq_true_eq, decide_eq_false_iff_not]; omega)))) | exact (gw_and (gt_eq hr.units (gd_var (pv 2) rfl) gd_int (by (first | exact ckw_sh _ | exact sh | exact kd_shaped _ | exact shaped_int _ | exact shaped_bool _ | exact shaped_none | assumption | exact shaped_ints _ | exact shaped_str (by decide +kernel) | exact rfl | decide +kernel)) (by (first | exact ckw_sh _ | exact sh | exact kd_shaped _ | exact shaped_int _ | exact shaped_bool _ | exact shaped_none | assumption | exact shaped_ints _ | exact shaped_str (by decide +kernel) | exact rfl | decide +kernel))) (fun hh => by first | exact gw_dead (absurd hh (by (first | decide +kernel | (simp only [List.length_cons, List.length_nil, eqv_int]; decide) | (simp only [List.length_cons, List.length_nil, eqv_int, decide_eq_true_eq, decide_eq_false_iff_not]; omega)))) | exact (gw_and1 (gt_of (gw_or (gt_gt (gd_callB call_len (ca_len (by first | exact .inl rfl | exact .inr rfl)) rfl T.z_len (by decide +kernel) (ga_cons (gd_ixL (gd_var (pv 4) rfl) gd_int (by (first | exact q | assumption | exact ixh | exact ixb (by assumption) | exact rfl | (simp only [*]; exact rfl)))) ga_nil)) gd_int) (fun hh => by first | exact gw_dead (absurd hh (by (first | decide +kernel | (simp only [List.length_cons, List.length_nil, eqv_int]; decide) | (simp only [List.length_cons, List.length_nil, eqv_int, decide_eq_true_eq, decide_eq_false_iff_not]; omega)))) | exact (gw_or1 (gt_gt (gd_callB call_len (ca_len (by first | exact .inl rfl | exact .inr rfl)) rfl T.z_len (by decide +kernel) (ga_cons (gd_ixL (gd_var (pv 4) rfl) gd_int (by (first | exact q | assumption | exact ixh | exact ixb (by assumption) | exact rfl | (simp only [*]; exact rfl)))) ga_nil)) gd_int))))))))))) (fun h => ?_) (fun h => gss_nil ⟨v0, ?_, rfl, rfl⟩)) ?_
    · refine gss_set (i := 8) sc_law.nd rfl (by first | exact .inl rfl | exact .inr rfl) (r := .dat (.str (ckW (some .tooMany)))) gd_str (gss_nil ⟨some .tooMany, ?_, rfl, rfl⟩)
      rw [ckw_none, eqv_int, Bool.and_eq_true, Bool.and_eq_true, Bool.or_eq_true] at h
      have h1 := Option.isNone_iff_eq_none.mp h.1
      have h2 := of_decide_eq_true h.2.1
      have h3 : 5 < e0.length ∨ 5 < e1.length := h.2.2.imp (fun z => by have := of_decide_eq_true z; omega) (fun z => by have := of_decide_eq_true z; omega)
      rw [verd_eq, ← hv0, h1]
      simp only [if_pos (And.intro h2 h3)]
    · rw [ckw_none, eqv_int] at h
      rw [verd_eq, ← hv0]
      cases v0 with
      | some e => rfl
      | none =>
        have h3 : ¬ (wh = 3 ∧ (5 < e0.length ∨ 5 < e1.length)) := fun z => by
          obtain ⟨z1, z2⟩ := z
          have z2 : (decide ((5 : Int) < (e0.length : Int)) || decide ((5 : Int) < (e1.length : Int))) = true := by
            rw [Bool.or_eq_true, decide_eq_true_eq, decide_eq_true_eq]
            omega
          have h4 : (true && (decide (wh = 3) && (decide ((5 : Int) < (e0.length : Int)) || decide ((5 : Int) < (e1.length : Int))))) = false := h
          rw [z2, decide_eq_true z1] at h4
          cases h4
        simp only [if_neg h3]
    rintro Γ' S' ⟨v, hv, rfl, rfl⟩
    refine gss_if (gt_of (gw_and (gt_eq hr.units (gd_var (pv 8) rfl) gd_str (by (first | exact ckw_sh _ | exact sh | exact kd_shaped _ | exact shaped_int _ | exact shaped_bool _ | exact shaped_none | assumption | exact shaped_ints _ | exact shaped_str (by decide +kernel) | exact rfl | decide +kernel)) (by (first | exact ckw_sh _ | exact sh | exact kd_shaped _ | exact shaped_int _ | exact shaped_bool _ | exact shaped_none | assumption | exact shaped_ints _ | exact shaped_str (by decide +kernel) | exact rfl | decide +kernel))) (fun hh => by first | exact gw_dead (absurd hh (by (first | decide +kernel | (simp only [List.length_cons, List.length_nil, eqv_int]; decide) | (simp only [List.length_cons, List.length_nil, eqv_int, decide_eq_true_eq, decide_eq_false_iff_not]; omega)))) | exact (gw_and1 (gt_val (gd_var (pv 7) rfl)))))) (fun h => gss_ret (r := .dat _) gd_bl rfl) (fun h => gss_nil ?_)
    rw [ckw_none] at h
    have hvn : v = none → tr = false := fun z => by
      rw [z] at h
      exact h
    refine gss_then ?_
    refine gs_setLcR (j := 5) 9 (fun k : Nat => .int ((k : Int) * (k : Int) - 9)) rfl rfl (sw_true rfl rfl rfl (by decide +kernel)) rfl sc_law.nd rfl T.z_range (gd_var (pv 1) rfl) ⟨by omega, by omega⟩ (blkOk_by (own := [("_law_k", 5)]) (N := ["_law_script", "_law_many", "_law_which", "_law_kind", "_law_rows", "_law_k", "_law_order", "_law_tried", "_law_due_here", "_law_boxes", "_law_loom", "_law_cell", "_law_hand", "_law_at"]) (sc := defScope s_law) (by decide +kernel)) (fun _ _ _ _ _ => pg_name (i := 5) sc_law.nd rfl (Or.inl rfl)) (fun i D acc hi _ _ _ _ _ => by
      have hmk : IntMulOk (i : Int) (i : Int) := mul_ok (small_of (k := 8) (by decide) (by decide) (by omega)) (small_of (k := 8) (by decide) (by decide) (by omega))
      exact (gd_sub (gd_mul (by (first | assumption | exact im _ (by omega))) (gd_var (pv 5) rfl) (gd_var (pv 5) rfl)) gd_int)) (q := ?_)
    rw [sq_map m]
    obtain ⟨bx, ebx⟩ : ∃ b, b = sq m := ⟨_, rfl⟩
    rw [← ebx]
    have hbl : bx.length = m.toNat := by rw [ebx]; unfold sq; rw [List.length_map, List.length_range]
    rw [← hbl] at hv
    have hok : AskOk wh e0 e1 bx o := ⟨hwh.1, hwh.2, hr0, hr1, by omega, by omega, by rw [ebx]; exact sq_lt hm.2, fun z => hng (hvn (hv.trans z))⟩
    refine gss_if (k := false) (gt_cast (gt_ne hr.units (gd_callP0 (ok_l_told T) (hr.mono (by decide)) rfl T.m_l_told T.F_l_told.kp T.b_l_told (gas_cons (r := .dat _) (gd_var (pv 2) rfl) (gas_cons (r := .dat _) (gd_callTy call_list_of (ca_list (by first | exact .inl rfl | exact .inr rfl)) rfl T.z_list (by decide +kernel) (ga_cons (gd_ixL (gd_var (pv 4) rfl) gd_int (by (first | exact q | assumption | exact ixh | exact ixb (by assumption) | exact rfl | (simp only [*]; exact rfl)))) ga_nil)) (gas_cons (r := .dat _) (gd_callTy call_list_of (ca_list (by first | exact .inl rfl | exact .inr rfl)) rfl T.z_list (by decide +kernel) (ga_cons (gd_ixL (gd_var (pv 4) rfl) gd_int (by (first | exact q | assumption | exact ixh | exact ixb (by assumption) | exact rfl | (simp only [*]; exact rfl)))) ga_nil)) (gas_cons (r := .dat _) (gd_callTy call_list_of (ca_list (by first | exact .inl rfl | exact .inr rfl)) rfl T.z_list (by decide +kernel) (ga_cons (gd_var (pv 9) rfl) ga_nil)) (gas_cons (r := .dat _) (gd_var (pv 3) rfl) (gas_cons (r := .dat _) (gd_var (pv 6) rfl) gas_nil)))))) ⟨wh, kd, e0, e1, bx, o, rfl, rfl, hok, rfl, rfl⟩) (gd_var (pv 8) rfl) (ckw_sh _) (ckw_sh _)) (by rw [← hv, shaped_refl (ckw_sh v)]; rfl)) (fun h => nomatch h) (fun _ => gss_nil ?_)
    refine gss_if (gt_of (gw_or (gt_ne hr.units (gd_var (pv 8) rfl) gd_str (by (first | exact ckw_sh _ | exact sh | exact kd_shaped _ | exact shaped_int _ | exact shaped_bool _ | exact shaped_none | assumption | exact shaped_ints _ | exact shaped_str (by decide +kernel) | exact rfl | decide +kernel)) (by (first | exact ckw_sh _ | exact sh | exact kd_shaped _ | exact shaped_int _ | exact shaped_bool _ | exact shaped_none | assumption | exact shaped_ints _ | exact shaped_str (by decide +kernel) | exact rfl | decide +kernel))) (fun hh => by first | exact gw_dead (absurd hh (by (first | decide +kernel | (simp only [List.length_cons, List.length_nil, eqv_int]; decide) | (simp only [List.length_cons, List.length_nil, eqv_int, decide_eq_true_eq, decide_eq_false_iff_not]; omega)))) | exact (gw_or1 (gt_ne hr.units (gd_var (pv 2) rfl) gd_int (by (first | exact ckw_sh _ | exact sh | exact kd_shaped _ | exact shaped_int _ | exact shaped_bool _ | exact shaped_none | assumption | exact shaped_ints _ | exact shaped_str (by decide +kernel) | exact rfl | decide +kernel)) (by (first | exact ckw_sh _ | exact sh | exact kd_shaped _ | exact shaped_int _ | exact shaped_bool _ | exact shaped_none | assumption | exact shaped_ints _ | exact shaped_str (by decide +kernel) | exact rfl | decide +kernel))))))) (fun h => gss_ret (r := .dat _) gd_bl rfl) (fun h2 => gss_nil ?_)
    rw [ckw_none, eqv_int] at h2
    have hvz : v = none := by
      cases v with
      | none => rfl
      | some e => cases h2
    subst hvz
    have hw4 : wh = 4 := by
      have h3 : (!decide (wh = 4)) = false := h2
      simpa using h3
    have hc0 : chk bx.length e0 = none := by
      cases q : chk bx.length e0 with
      | none => rfl
      | some e => rw [verd_1 q] at hv; cases hv
    have hc1 : chk bx.length e1 = none := by
      cases q : chk bx.length e1 with
      | none => rfl
      | some e => rw [verd_2 (by omega) hc0 q] at hv; cases hv
    obtain ⟨row, er0, g0, _⟩ := chk_good hr0 hc0
    obtain ⟨row1, er1, g1, _⟩ := chk_good hr1 hc1
    subst er0 er1
    refine gss_then ?_
    refine gs_setE (i := 10) sc_law.nd rfl (by first | exact .inl rfl | exact .inr rfl) (ge_makeQ (E := fun cls d H => ∃ σ, B.E cls d σ H) (S1 := []) (F := []) (PRx := fun y S' => ∃ L : LA, L.p = y ∧ S' = loomS T.C_Loom L (startL row row1 bx) ++ []) (PXx := fun _ => noX) T.M_Loom___init (ok_Loom___init T) (hr.mono (by decide)) rfl T.mg_Loom T.b_Loom___init pass0 (fun cls σ H h => ⟨σ, h⟩) (gas_cons (r := .dat _) (gd_ixL (gd_var (pv 4) rfl) gd_int (by (first | exact q | assumption | exact ixh | exact ixb (by assumption) | exact rfl | (simp only [*]; exact rfl)))) (gas_cons (r := .dat _) (gd_ixL (gd_var (pv 4) rfl) gd_int (by (first | exact q | assumption | exact ixh | exact ixb (by assumption) | exact rfl | (simp only [*]; exact rfl)))) (gas_cons (r := .dat _) (gd_var (pv 9) rfl) gas_nil))) (fun y => ⟨y, _, _, _, row, row1, bx, _, rfl, rfl, .inl rfl, .inl rfl, .inl rfl, g0, g1, rfl, rfl⟩) (fun y S1' hy hp => ?_) fun _ _ _ h => h.elim)
    obtain ⟨L, rfl, rfl⟩ := hp
    refine gss_at (Γ2 := [.dat (.list (ns.map .int)), .dat (.int m), .dat (.int wh), .dat (.int kd), .dat (.list [.list (row.map Stp.toD), .list (row1.map Stp.toD)]), x5, .dat (.list (handsD o)), .dat (.bool tr), .dat (.str (ckW none)), .dat (.list (bx.map .int)), .raw (.ref L.p), x11, x12, x13]) (S2 := loomS T.C_Loom L (startL row row1 bx)) rfl rfl ?_
    refine gss_if (k := false) (gt_cast (gt_of (gw_or (gt_neO hr.units (.own L.b 2 (ge_fld (j := 1) (names := LN) (gr_var (pv 10) rfl) (n := 3) rfl T.cl_Loom T.no_boxes rfl (by decide +kernel) rfl (fun z => nomatch z)) rfl) (gd_var (pv 9) rfl) (shaped_ints bx) (shaped_ints bx)) (fun _ => gw_or (gt_neO hr.units (.own L.n 1 (ge_fld (j := 2) (names := LN) (gr_var (pv 10) rfl) (n := 3) rfl T.cl_Loom T.no_numbers rfl (by decide +kernel) rfl (fun z => nomatch z)) rfl) (gd_lst (ga_cons gd_int (ga_cons gd_int ga_nil)) (by decide)) (shaped_ints [0, 0]) (shaped_ints [0, 0])) (fun _ => gw_or (gt_neO hr.units (.own L.q 0 (ge_fld (j := 3) (names := LN) (gr_var (pv 10) rfl) (n := 3) rfl T.cl_Loom T.no_places rfl (by decide +kernel) rfl (fun z => nomatch z)) rfl) (gd_lst (ga_cons gd_int (ga_cons gd_int ga_nil)) (by decide)) (shaped_ints [0, 0]) (shaped_ints [0, 0])) (fun _ => gw_or1 (gt_notN (ge_fld (j := 4) (names := LN) (gr_var (pv 10) rfl) (n := 3) rfl T.cl_Loom T.no_holder rfl (by decide +kernel) rfl (fun z => nomatch z)))))))) (by rw [shaped_refl (shaped_ints bx)]; rfl)) (fun h => nomatch h) (fun _ => gss_nil ?_)
    refine gss_ret (r := .dat _) (gd_and (gd_eq hr.units (gd_methP (S1 := loomS T.C_Loom L (startL row row1 bx)) (F := []) (names := LN) (n := 3) (gr_var (pv 10) rfl) rfl T.cl_Loom T.M_Loom_over rfl (by decide +kernel) (ok_Loom_over T) (hr.mono (by decide)) T.b_Loom_over (gas_cons (r := .dat _) gd_int gas_nil) ⟨_, _, false, rfl, rfl, rfl, rfl⟩) (gd_eq hr.units (gd_callB call_len (ca_len (by first | exact .inl rfl | exact .inr rfl)) rfl T.z_len (by decide +kernel) (ga_cons (gd_ixL (gd_var (pv 4) rfl) gd_int (by (first | exact q | assumption | exact ixh | exact ixb (by assumption) | exact rfl | (simp only [*]; exact rfl)))) ga_nil)) gd_int (by (first | exact ckw_sh _ | exact sh | exact kd_shaped _ | exact shaped_int _ | exact shaped_bool _ | exact shaped_none | assumption | exact shaped_ints _ | exact shaped_str (by decide +kernel) | exact rfl | decide +kernel)) (by (first | exact ckw_sh _ | exact sh | exact kd_shaped _ | exact shaped_int _ | exact shaped_bool _ | exact shaped_none | assumption | exact shaped_ints _ | exact shaped_str (by decide +kernel) | exact rfl | decide +kernel))) (shaped_bool _) (shaped_bool _)) (fun _ => gd_one (gd_eq hr.units (gd_methP (S1 := loomS T.C_Loom L (startL row row1 bx)) (F := []) (names := LN) (n := 3) (gr_var (pv 10) rfl) rfl T.cl_Loom T.M_Loom_over rfl (by decide +kernel) (ok_Loom_over T) (hr.mono (by decide)) T.b_Loom_over (gas_cons (r := .dat _) gd_int gas_nil) ⟨_, _, true, rfl, rfl, rfl, rfl⟩) (gd_eq hr.units (gd_callB call_len (ca_len (by first | exact .inl rfl | exact .inr rfl)) rfl T.z_len (by decide +kernel) (ga_cons (gd_ixL (gd_var (pv 4) rfl) gd_int (by (first | exact q | assumption | exact ixh | exact ixb (by assumption) | exact rfl | (simp only [*]; exact rfl)))) ga_nil)) gd_int (by (first | exact ckw_sh _ | exact sh | exact kd_shaped _ | exact shaped_int _ | exact shaped_bool _ | exact shaped_none | assumption | exact shaped_ints _ | exact shaped_str (by decide +kernel) | exact rfl | decide +kernel)) (by (first | exact ckw_sh _ | exact sh | exact kd_shaped _ | exact shaped_int _ | exact shaped_bool _ | exact shaped_none | assumption | exact shaped_ints _ | exact shaped_str (by decide +kernel) | exact rfl | decide +kernel))) (shaped_bool _) (shaped_bool _)))) ?_
    have e : ∀ (r : List Stp) (k : Bool), k = decide (0 = r.length) → PyData.eqv (.bool k) (.bool (PyData.eqv (.int ((r.map Stp.toD).length : Int)) (.int 0))) = true := fun r k hk => by
      have hd : decide ((r.length : Int) = 0) = decide (0 = r.length) := decide_eq_decide.mpr ⟨fun z => by omega, fun z => by omega⟩
      rw [eqv_bool, eqv_int, List.length_map, hk, hd]
      exact beq_self_eq_true _
    show Sl.dat (.bool (_ && _)) = Sl.dat (.bool true)
    rw [e row ((startL row row1 bx).over false) rfl, e row1 ((startL row row1 bx).over true) rfl]
    rfl
end
theorem all_mk {l : PySem.W.OpenLaw} {w : World} {K : PySem.W.Frag} {h : Heap} {mg : Str → Option Value} {fa : Addr} (X : K.In h) (G : h.Ns mainGlobals mg) (hfa : mg "law" = some (.ref fa))
    {f_wall : Addr} {od_wall an_wall : Option Addr} {sl_wall : Array (Option Value)} {oc_wall kV_wall dc_wall pm_wall cd_wall ct_wall : Value}
    (a_wall : PySem.W.nsIn K mainGlobals "_wall" = some (some (.ref f_wall))) (l_wall : K.lookup f_wall = some ⟨oc_wall, od_wall, .func (PySem.W.fnOf "_wall" "_wall" (defArgs s_wall) (defBody s_wall) (defScope s_wall) .none kV_wall dc_wall pm_wall an_wall cd_wall ct_wall), sl_wall⟩) (c_wall : PySem.W.codeIn K cd_wall "_wall" = true) (k_wall : PySem.W.keepIn K (.ref f_wall) = true)
    {f_is_whole : Addr} {od_is_whole an_is_whole : Option Addr} {sl_is_whole : Array (Option Value)} {oc_is_whole kV_is_whole dc_is_whole pm_is_whole cd_is_whole ct_is_whole : Value}
    (a_is_whole : PySem.W.nsIn K mainGlobals "is_whole" = some (some (.ref f_is_whole))) (l_is_whole : K.lookup f_is_whole = some ⟨oc_is_whole, od_is_whole, .func (PySem.W.fnOf "is_whole" "is_whole" (defArgs s_is_whole) (defBody s_is_whole) (defScope s_is_whole) .none kV_is_whole dc_is_whole pm_is_whole an_is_whole cd_is_whole ct_is_whole), sl_is_whole⟩) (c_is_whole : PySem.W.codeIn K cd_is_whole "is_whole" = true) (k_is_whole : PySem.W.keepIn K (.ref f_is_whole) = true)
    {f_is_step : Addr} {od_is_step an_is_step : Option Addr} {sl_is_step : Array (Option Value)} {oc_is_step kV_is_step dc_is_step pm_is_step cd_is_step ct_is_step : Value}
    (a_is_step : PySem.W.nsIn K mainGlobals "is_step" = some (some (.ref f_is_step))) (l_is_step : K.lookup f_is_step = some ⟨oc_is_step, od_is_step, .func (PySem.W.fnOf "is_step" "is_step" (defArgs s_is_step) (defBody s_is_step) (defScope s_is_step) .none kV_is_step dc_is_step pm_is_step an_is_step cd_is_step ct_is_step), sl_is_step⟩) (c_is_step : PySem.W.codeIn K cd_is_step "is_step" = true) (k_is_step : PySem.W.keepIn K (.ref f_is_step) = true)
    {f_check_row : Addr} {od_check_row an_check_row : Option Addr} {sl_check_row : Array (Option Value)} {oc_check_row kV_check_row dc_check_row pm_check_row cd_check_row ct_check_row : Value}
    (a_check_row : PySem.W.nsIn K mainGlobals "check_row" = some (some (.ref f_check_row))) (l_check_row : K.lookup f_check_row = some ⟨oc_check_row, od_check_row, .func (PySem.W.fnOf "check_row" "check_row" (defArgs s_check_row) (defBody s_check_row) (defScope s_check_row) .none kV_check_row dc_check_row pm_check_row an_check_row cd_check_row ct_check_row), sl_check_row⟩) (c_check_row : PySem.W.codeIn K cd_check_row "check_row" = true) (k_check_row : PySem.W.keepIn K (.ref f_check_row) = true)
    {f_alone : Addr} {od_alone an_alone : Option Addr} {sl_alone : Array (Option Value)} {oc_alone kV_alone dc_alone pm_alone cd_alone ct_alone : Value}
    (a_alone : PySem.W.nsIn K mainGlobals "alone" = some (some (.ref f_alone))) (l_alone : K.lookup f_alone = some ⟨oc_alone, od_alone, .func (PySem.W.fnOf "alone" "alone" (defArgs s_alone) (defBody s_alone) (defScope s_alone) .none kV_alone dc_alone pm_alone an_alone cd_alone ct_alone), sl_alone⟩) (c_alone : PySem.W.codeIn K cd_alone "alone" = true) (k_alone : PySem.W.keepIn K (.ref f_alone) = true)
    {f_walked : Addr} {od_walked an_walked : Option Addr} {sl_walked : Array (Option Value)} {oc_walked kV_walked dc_walked pm_walked cd_walked ct_walked : Value}
    (a_walked : PySem.W.nsIn K mainGlobals "walked" = some (some (.ref f_walked))) (l_walked : K.lookup f_walked = some ⟨oc_walked, od_walked, .func (PySem.W.fnOf "walked" "walked" (defArgs s_walked) (defBody s_walked) (defScope s_walked) .none kV_walked dc_walked pm_walked an_walked cd_walked ct_walked), sl_walked⟩) (c_walked : PySem.W.codeIn K cd_walked "walked" = true) (k_walked : PySem.W.keepIn K (.ref f_walked) = true)
    {f_woven : Addr} {od_woven an_woven : Option Addr} {sl_woven : Array (Option Value)} {oc_woven kV_woven dc_woven pm_woven cd_woven ct_woven : Value}
    (a_woven : PySem.W.nsIn K mainGlobals "woven" = some (some (.ref f_woven))) (l_woven : K.lookup f_woven = some ⟨oc_woven, od_woven, .func (PySem.W.fnOf "woven" "woven" (defArgs s_woven) (defBody s_woven) (defScope s_woven) .none kV_woven dc_woven pm_woven an_woven cd_woven ct_woven), sl_woven⟩) (c_woven : PySem.W.codeIn K cd_woven "woven" = true) (k_woven : PySem.W.keepIn K (.ref f_woven) = true)
    {f_can_go : Addr} {od_can_go an_can_go : Option Addr} {sl_can_go : Array (Option Value)} {oc_can_go kV_can_go dc_can_go pm_can_go cd_can_go ct_can_go : Value}
    (a_can_go : PySem.W.nsIn K mainGlobals "_can_go" = some (some (.ref f_can_go))) (l_can_go : K.lookup f_can_go = some ⟨oc_can_go, od_can_go, .func (PySem.W.fnOf "_can_go" "_can_go" (defArgs s_can_go) (defBody s_can_go) (defScope s_can_go) .none kV_can_go dc_can_go pm_can_go an_can_go cd_can_go ct_can_go), sl_can_go⟩) (c_can_go : PySem.W.codeIn K cd_can_go "_can_go" = true) (k_can_go : PySem.W.keepIn K (.ref f_can_go) = true)
    {f_finish : Addr} {od_finish an_finish : Option Addr} {sl_finish : Array (Option Value)} {oc_finish kV_finish dc_finish pm_finish cd_finish ct_finish : Value}
    (a_finish : PySem.W.nsIn K mainGlobals "_finish" = some (some (.ref f_finish))) (l_finish : K.lookup f_finish = some ⟨oc_finish, od_finish, .func (PySem.W.fnOf "_finish" "_finish" (defArgs s_finish) (defBody s_finish) (defScope s_finish) .none kV_finish dc_finish pm_finish an_finish cd_finish ct_finish), sl_finish⟩) (c_finish : PySem.W.codeIn K cd_finish "_finish" = true) (k_finish : PySem.W.keepIn K (.ref f_finish) = true)
    {f_strange : Addr} {od_strange an_strange : Option Addr} {sl_strange : Array (Option Value)} {oc_strange kV_strange dc_strange pm_strange cd_strange ct_strange : Value}
    (a_strange : PySem.W.nsIn K mainGlobals "strange" = some (some (.ref f_strange))) (l_strange : K.lookup f_strange = some ⟨oc_strange, od_strange, .func (PySem.W.fnOf "strange" "strange" (defArgs s_strange) (defBody s_strange) (defScope s_strange) .none kV_strange dc_strange pm_strange an_strange cd_strange ct_strange), sl_strange⟩) (c_strange : PySem.W.codeIn K cd_strange "strange" = true) (k_strange : PySem.W.keepIn K (.ref f_strange) = true)
    {f_check_rows : Addr} {od_check_rows an_check_rows : Option Addr} {sl_check_rows : Array (Option Value)} {oc_check_rows kV_check_rows dc_check_rows pm_check_rows cd_check_rows ct_check_rows : Value}
    (a_check_rows : PySem.W.nsIn K mainGlobals "_check_rows" = some (some (.ref f_check_rows))) (l_check_rows : K.lookup f_check_rows = some ⟨oc_check_rows, od_check_rows, .func (PySem.W.fnOf "_check_rows" "_check_rows" (defArgs s_check_rows) (defBody s_check_rows) (defScope s_check_rows) .none kV_check_rows dc_check_rows pm_check_rows an_check_rows cd_check_rows ct_check_rows), sl_check_rows⟩) (c_check_rows : PySem.W.codeIn K cd_check_rows "_check_rows" = true) (k_check_rows : PySem.W.keepIn K (.ref f_check_rows) = true)
    {f_told : Addr} {od_told an_told : Option Addr} {sl_told : Array (Option Value)} {oc_told kV_told dc_told pm_told cd_told ct_told : Value}
    (a_told : PySem.W.nsIn K mainGlobals "_told" = some (some (.ref f_told))) (l_told : K.lookup f_told = some ⟨oc_told, od_told, .func (PySem.W.fnOf "_told" "_told" (defArgs s_told) (defBody s_told) (defScope s_told) .none kV_told dc_told pm_told an_told cd_told ct_told), sl_told⟩) (c_told : PySem.W.codeIn K cd_told "_told" = true) (k_told : PySem.W.keepIn K (.ref f_told) = true)
    {f_plain_orders : Addr} {od_plain_orders an_plain_orders : Option Addr} {sl_plain_orders : Array (Option Value)} {oc_plain_orders kV_plain_orders dc_plain_orders pm_plain_orders cd_plain_orders ct_plain_orders : Value}
    (a_plain_orders : PySem.W.nsIn K mainGlobals "_plain_orders" = some (some (.ref f_plain_orders))) (l_plain_orders : K.lookup f_plain_orders = some ⟨oc_plain_orders, od_plain_orders, .func (PySem.W.fnOf "_plain_orders" "_plain_orders" (defArgs s_plain_orders) (defBody s_plain_orders) (defScope s_plain_orders) .none kV_plain_orders dc_plain_orders pm_plain_orders an_plain_orders cd_plain_orders ct_plain_orders), sl_plain_orders⟩) (c_plain_orders : PySem.W.codeIn K cd_plain_orders "_plain_orders" = true) (k_plain_orders : PySem.W.keepIn K (.ref f_plain_orders) = true)
    {f_all_orders : Addr} {od_all_orders an_all_orders : Option Addr} {sl_all_orders : Array (Option Value)} {oc_all_orders kV_all_orders dc_all_orders pm_all_orders cd_all_orders ct_all_orders : Value}
    (a_all_orders : PySem.W.nsIn K mainGlobals "_all_orders" = some (some (.ref f_all_orders))) (l_all_orders : K.lookup f_all_orders = some ⟨oc_all_orders, od_all_orders, .func (PySem.W.fnOf "_all_orders" "_all_orders" (defArgs s_all_orders) (defBody s_all_orders) (defScope s_all_orders) .none kV_all_orders dc_all_orders pm_all_orders an_all_orders cd_all_orders ct_all_orders), sl_all_orders⟩) (c_all_orders : PySem.W.codeIn K cd_all_orders "_all_orders" = true) (k_all_orders : PySem.W.keepIn K (.ref f_all_orders) = true)
    {f_l_cell_at : Addr} {od_l_cell_at an_l_cell_at : Option Addr} {sl_l_cell_at : Array (Option Value)} {oc_l_cell_at kV_l_cell_at dc_l_cell_at pm_l_cell_at cd_l_cell_at ct_l_cell_at : Value}
    (a_l_cell_at : PySem.W.nsIn K mainGlobals "_law_cell_at" = some (some (.ref f_l_cell_at))) (l_l_cell_at : K.lookup f_l_cell_at = some ⟨oc_l_cell_at, od_l_cell_at, .func (PySem.W.fnOf "_law_cell_at" "_law_cell_at" (defArgs s_l_cell_at) (defBody s_l_cell_at) (defScope s_l_cell_at) .none kV_l_cell_at dc_l_cell_at pm_l_cell_at an_l_cell_at cd_l_cell_at ct_l_cell_at), sl_l_cell_at⟩) (c_l_cell_at : PySem.W.codeIn K cd_l_cell_at "_law_cell_at" = true) (k_l_cell_at : PySem.W.keepIn K (.ref f_l_cell_at) = true)
    {f_l_put : Addr} {od_l_put an_l_put : Option Addr} {sl_l_put : Array (Option Value)} {oc_l_put kV_l_put dc_l_put pm_l_put cd_l_put ct_l_put : Value}
    (a_l_put : PySem.W.nsIn K mainGlobals "_law_put" = some (some (.ref f_l_put))) (l_l_put : K.lookup f_l_put = some ⟨oc_l_put, od_l_put, .func (PySem.W.fnOf "_law_put" "_law_put" (defArgs s_l_put) (defBody s_l_put) (defScope s_l_put) .none kV_l_put dc_l_put pm_l_put an_l_put cd_l_put ct_l_put), sl_l_put⟩) (c_l_put : PySem.W.codeIn K cd_l_put "_law_put" = true) (k_l_put : PySem.W.keepIn K (.ref f_l_put) = true)
    {f_l_row_by : Addr} {od_l_row_by an_l_row_by : Option Addr} {sl_l_row_by : Array (Option Value)} {oc_l_row_by kV_l_row_by dc_l_row_by pm_l_row_by cd_l_row_by ct_l_row_by : Value}
    (a_l_row_by : PySem.W.nsIn K mainGlobals "_law_row_by" = some (some (.ref f_l_row_by))) (l_l_row_by : K.lookup f_l_row_by = some ⟨oc_l_row_by, od_l_row_by, .func (PySem.W.fnOf "_law_row_by" "_law_row_by" (defArgs s_l_row_by) (defBody s_l_row_by) (defScope s_l_row_by) .none kV_l_row_by dc_l_row_by pm_l_row_by an_l_row_by cd_l_row_by ct_l_row_by), sl_l_row_by⟩) (c_l_row_by : PySem.W.codeIn K cd_l_row_by "_law_row_by" = true) (k_l_row_by : PySem.W.keepIn K (.ref f_l_row_by) = true)
    {f_l_wrong_by : Addr} {od_l_wrong_by an_l_wrong_by : Option Addr} {sl_l_wrong_by : Array (Option Value)} {oc_l_wrong_by kV_l_wrong_by dc_l_wrong_by pm_l_wrong_by cd_l_wrong_by ct_l_wrong_by : Value}
    (a_l_wrong_by : PySem.W.nsIn K mainGlobals "_law_wrong_by" = some (some (.ref f_l_wrong_by))) (l_l_wrong_by : K.lookup f_l_wrong_by = some ⟨oc_l_wrong_by, od_l_wrong_by, .func (PySem.W.fnOf "_law_wrong_by" "_law_wrong_by" (defArgs s_l_wrong_by) (defBody s_l_wrong_by) (defScope s_l_wrong_by) .none kV_l_wrong_by dc_l_wrong_by pm_l_wrong_by an_l_wrong_by cd_l_wrong_by ct_l_wrong_by), sl_l_wrong_by⟩) (c_l_wrong_by : PySem.W.codeIn K cd_l_wrong_by "_law_wrong_by" = true) (k_l_wrong_by : PySem.W.keepIn K (.ref f_l_wrong_by) = true)
    {f_l_due : Addr} {od_l_due an_l_due : Option Addr} {sl_l_due : Array (Option Value)} {oc_l_due kV_l_due dc_l_due pm_l_due cd_l_due ct_l_due : Value}
    (a_l_due : PySem.W.nsIn K mainGlobals "_law_due" = some (some (.ref f_l_due))) (l_l_due : K.lookup f_l_due = some ⟨oc_l_due, od_l_due, .func (PySem.W.fnOf "_law_due" "_law_due" (defArgs s_l_due) (defBody s_l_due) (defScope s_l_due) .none kV_l_due dc_l_due pm_l_due an_l_due cd_l_due ct_l_due), sl_l_due⟩) (c_l_due : PySem.W.codeIn K cd_l_due "_law_due" = true) (k_l_due : PySem.W.keepIn K (.ref f_l_due) = true)
    {f_l_asked : Addr} {od_l_asked an_l_asked : Option Addr} {sl_l_asked : Array (Option Value)} {oc_l_asked kV_l_asked dc_l_asked pm_l_asked cd_l_asked ct_l_asked : Value}
    (a_l_asked : PySem.W.nsIn K mainGlobals "_law_asked" = some (some (.ref f_l_asked))) (l_l_asked : K.lookup f_l_asked = some ⟨oc_l_asked, od_l_asked, .func (PySem.W.fnOf "_law_asked" "_law_asked" (defArgs s_l_asked) (defBody s_l_asked) (defScope s_l_asked) .none kV_l_asked dc_l_asked pm_l_asked an_l_asked cd_l_asked ct_l_asked), sl_l_asked⟩) (c_l_asked : PySem.W.codeIn K cd_l_asked "_law_asked" = true) (k_l_asked : PySem.W.keepIn K (.ref f_l_asked) = true)
    {f_l_names : Addr} {od_l_names an_l_names : Option Addr} {sl_l_names : Array (Option Value)} {oc_l_names kV_l_names dc_l_names pm_l_names cd_l_names ct_l_names : Value}
    (a_l_names : PySem.W.nsIn K mainGlobals "_law_names" = some (some (.ref f_l_names))) (l_l_names : K.lookup f_l_names = some ⟨oc_l_names, od_l_names, .func (PySem.W.fnOf "_law_names" "_law_names" (defArgs s_l_names) (defBody s_l_names) (defScope s_l_names) .none kV_l_names dc_l_names pm_l_names an_l_names cd_l_names ct_l_names), sl_l_names⟩) (c_l_names : PySem.W.codeIn K cd_l_names "_law_names" = true) (k_l_names : PySem.W.keepIn K (.ref f_l_names) = true)
    {f_l_told : Addr} {od_l_told an_l_told : Option Addr} {sl_l_told : Array (Option Value)} {oc_l_told kV_l_told dc_l_told pm_l_told cd_l_told ct_l_told : Value}
    (a_l_told : PySem.W.nsIn K mainGlobals "_law_told" = some (some (.ref f_l_told))) (l_l_told : K.lookup f_l_told = some ⟨oc_l_told, od_l_told, .func (PySem.W.fnOf "_law_told" "_law_told" (defArgs s_l_told) (defBody s_l_told) (defScope s_l_told) .none kV_l_told dc_l_told pm_l_told an_l_told cd_l_told ct_l_told), sl_l_told⟩) (c_l_told : PySem.W.codeIn K cd_l_told "_law_told" = true) (k_l_told : PySem.W.keepIn K (.ref f_l_told) = true)
    {f_l_with_guards : Addr} {od_l_with_guards an_l_with_guards : Option Addr} {sl_l_with_guards : Array (Option Value)} {oc_l_with_guards kV_l_with_guards dc_l_with_guards pm_l_with_guards cd_l_with_guards ct_l_with_guards : Value}
    (a_l_with_guards : PySem.W.nsIn K mainGlobals "_law_with_guards" = some (some (.ref f_l_with_guards))) (l_l_with_guards : K.lookup f_l_with_guards = some ⟨oc_l_with_guards, od_l_with_guards, .func (PySem.W.fnOf "_law_with_guards" "_law_with_guards" (defArgs s_l_with_guards) (defBody s_l_with_guards) (defScope s_l_with_guards) .none kV_l_with_guards dc_l_with_guards pm_l_with_guards an_l_with_guards cd_l_with_guards ct_l_with_guards), sl_l_with_guards⟩) (c_l_with_guards : PySem.W.codeIn K cd_l_with_guards "_law_with_guards" = true) (k_l_with_guards : PySem.W.keepIn K (.ref f_l_with_guards) = true)
    {f_law : Addr} {od_law an_law : Option Addr} {sl_law : Array (Option Value)} {oc_law kV_law dc_law pm_law cd_law ct_law : Value}
    (a_law : PySem.W.nsIn K mainGlobals "law" = some (some (.ref f_law))) (l_law : K.lookup f_law = some ⟨oc_law, od_law, .func (PySem.W.fnOf "law" "law" (defArgs s_law) (defBody s_law) (defScope s_law) .none kV_law dc_law pm_law an_law cd_law ct_law), sl_law⟩) (c_law : PySem.W.codeIn K cd_law "law" = true) (k_law : PySem.W.keepIn K (.ref f_law) = true)
    {aa_BOX_WORDS : Addr} {dd_BOX_WORDS : Option Addr} {it_BOX_WORDS : Array Value} {n_BOX_WORDS : Nat} {sl_BOX_WORDS : Array (Option Value)} (a_BOX_WORDS : PySem.W.nsIn K mainGlobals "BOX_WORDS" = some (some (.ref aa_BOX_WORDS))) (l_BOX_WORDS : K.lookup aa_BOX_WORDS = some ⟨.type "tuple", dd_BOX_WORDS, .seq it_BOX_WORDS n_BOX_WORDS, sl_BOX_WORDS⟩) (v_BOX_WORDS : Vals [V.str "load", V.str "plus", V.str "store"] it_BOX_WORDS.toList)
    {aa_GUARD_WORDS : Addr} {dd_GUARD_WORDS : Option Addr} {it_GUARD_WORDS : Array Value} {n_GUARD_WORDS : Nat} {sl_GUARD_WORDS : Array (Option Value)} (a_GUARD_WORDS : PySem.W.nsIn K mainGlobals "GUARD_WORDS" = some (some (.ref aa_GUARD_WORDS))) (l_GUARD_WORDS : K.lookup aa_GUARD_WORDS = some ⟨.type "tuple", dd_GUARD_WORDS, .seq it_GUARD_WORDS n_GUARD_WORDS, sl_GUARD_WORDS⟩) (v_GUARD_WORDS : Vals [V.str "take", V.str "free"] it_GUARD_WORDS.toList)
    {aa_BARE_WORDS : Addr} {dd_BARE_WORDS : Option Addr} {it_BARE_WORDS : Array Value} {n_BARE_WORDS : Nat} {sl_BARE_WORDS : Array (Option Value)} (a_BARE_WORDS : PySem.W.nsIn K mainGlobals "BARE_WORDS" = some (some (.ref aa_BARE_WORDS))) (l_BARE_WORDS : K.lookup aa_BARE_WORDS = some ⟨.type "tuple", dd_BARE_WORDS, .seq it_BARE_WORDS n_BARE_WORDS, sl_BARE_WORDS⟩) (v_BARE_WORDS : Vals [V.str "twice", V.str "take", V.str "free"] it_BARE_WORDS.toList)
    {tt_MOST_STEPS : Tok} (a_MOST_STEPS : PySem.W.nsIn K mainGlobals "MOST_STEPS" = some (some (.int 60 tt_MOST_STEPS)))
    {tt_MOST_SEARCHED : Tok} (a_MOST_SEARCHED : PySem.W.nsIn K mainGlobals "MOST_SEARCHED" = some (some (.int 5 tt_MOST_SEARCHED)))
    (z_len : PySem.W.nsIn K mainGlobals "len" = some none)
    (z_isinstance : PySem.W.nsIn K mainGlobals "isinstance" = some none)
    (z_int : PySem.W.nsIn K mainGlobals "int" = some none)
    (z_bool : PySem.W.nsIn K mainGlobals "bool" = some none)
    (z_str : PySem.W.nsIn K mainGlobals "str" = some none)
    (z_list : PySem.W.nsIn K mainGlobals "list" = some none)
    (z_tuple : PySem.W.nsIn K mainGlobals "tuple" = some none)
    (z_range : PySem.W.nsIn K mainGlobals "range" = some none)
    (z_enumerate : PySem.W.nsIn K mainGlobals "enumerate" = some none)
    (z_ValueError : PySem.W.nsIn K mainGlobals "ValueError" = some none)
    {C_Loom : Addr} (aC_Loom : PySem.W.nsIn K mainGlobals "Loom" = some (some (.ref C_Loom))) (pg_Loom : PySem.W.plainGet K C_Loom Str.empty = true) (hd_Loom : PySem.W.hasDictIn K C_Loom = true) (po_Loom : PySem.W.plainOver K C_Loom = true) (sa_Loom : PySem.W.findIn K (.ref C_Loom) "__setattr__" = some (some (.builtin "object.__setattr__"))) (mk_Loom : PySem.W.makesIn K C_Loom = true) (kc_Loom : PySem.W.keepIn K (.ref C_Loom) = true)
    (no__rows : PySem.W.findIn K (.ref C_Loom) "_rows" = some none)
    (no_boxes : PySem.W.findIn K (.ref C_Loom) "boxes" = some none)
    (no_numbers : PySem.W.findIn K (.ref C_Loom) "numbers" = some none)
    (no_places : PySem.W.findIn K (.ref C_Loom) "places" = some none)
    (no_holder : PySem.W.findIn K (.ref C_Loom) "holder" = some none)
    {f_Loom___init : Addr} {od_Loom___init an_Loom___init : Option Addr} {sl_Loom___init : Array (Option Value)} {oc_Loom___init kV_Loom___init dc_Loom___init pm_Loom___init cd_Loom___init ct_Loom___init : Value}
    (a_Loom___init : PySem.W.findIn K (.ref C_Loom) "__init__" = some (some (.ref f_Loom___init))) (i_Loom___init : PySem.W.isFn K (.ref f_Loom___init) = true) (l_Loom___init : K.lookup f_Loom___init = some ⟨oc_Loom___init, od_Loom___init, .func (PySem.W.fnOf "__init__" "Loom.__init__" (defArgs s_Loom___init) (defBody s_Loom___init) (defScope s_Loom___init) .none kV_Loom___init dc_Loom___init pm_Loom___init an_Loom___init cd_Loom___init ct_Loom___init), sl_Loom___init⟩) (c_Loom___init : PySem.W.codeIn K cd_Loom___init "Loom.__init__" = true) (k_Loom___init : PySem.W.keepIn K (.ref f_Loom___init) = true)
    {f_Loom_over : Addr} {od_Loom_over an_Loom_over : Option Addr} {sl_Loom_over : Array (Option Value)} {oc_Loom_over kV_Loom_over dc_Loom_over pm_Loom_over cd_Loom_over ct_Loom_over : Value}
    (a_Loom_over : PySem.W.findIn K (.ref C_Loom) "over" = some (some (.ref f_Loom_over))) (i_Loom_over : PySem.W.isFn K (.ref f_Loom_over) = true) (l_Loom_over : K.lookup f_Loom_over = some ⟨oc_Loom_over, od_Loom_over, .func (PySem.W.fnOf "over" "Loom.over" (defArgs s_Loom_over) (defBody s_Loom_over) (defScope s_Loom_over) .none kV_Loom_over dc_Loom_over pm_Loom_over an_Loom_over cd_Loom_over ct_Loom_over), sl_Loom_over⟩) (c_Loom_over : PySem.W.codeIn K cd_Loom_over "Loom.over" = true) (k_Loom_over : PySem.W.keepIn K (.ref f_Loom_over) = true)
    {f_Loom_waits : Addr} {od_Loom_waits an_Loom_waits : Option Addr} {sl_Loom_waits : Array (Option Value)} {oc_Loom_waits kV_Loom_waits dc_Loom_waits pm_Loom_waits cd_Loom_waits ct_Loom_waits : Value}
    (a_Loom_waits : PySem.W.findIn K (.ref C_Loom) "waits" = some (some (.ref f_Loom_waits))) (i_Loom_waits : PySem.W.isFn K (.ref f_Loom_waits) = true) (l_Loom_waits : K.lookup f_Loom_waits = some ⟨oc_Loom_waits, od_Loom_waits, .func (PySem.W.fnOf "waits" "Loom.waits" (defArgs s_Loom_waits) (defBody s_Loom_waits) (defScope s_Loom_waits) .none kV_Loom_waits dc_Loom_waits pm_Loom_waits an_Loom_waits cd_Loom_waits ct_Loom_waits), sl_Loom_waits⟩) (c_Loom_waits : PySem.W.codeIn K cd_Loom_waits "Loom.waits" = true) (k_Loom_waits : PySem.W.keepIn K (.ref f_Loom_waits) = true)
    {f_Loom_go : Addr} {od_Loom_go an_Loom_go : Option Addr} {sl_Loom_go : Array (Option Value)} {oc_Loom_go kV_Loom_go dc_Loom_go pm_Loom_go cd_Loom_go ct_Loom_go : Value}
    (a_Loom_go : PySem.W.findIn K (.ref C_Loom) "go" = some (some (.ref f_Loom_go))) (i_Loom_go : PySem.W.isFn K (.ref f_Loom_go) = true) (l_Loom_go : K.lookup f_Loom_go = some ⟨oc_Loom_go, od_Loom_go, .func (PySem.W.fnOf "go" "Loom.go" (defArgs s_Loom_go) (defBody s_Loom_go) (defScope s_Loom_go) .none kV_Loom_go dc_Loom_go pm_Loom_go an_Loom_go cd_Loom_go ct_Loom_go), sl_Loom_go⟩) (c_Loom_go : PySem.W.codeIn K cd_Loom_go "Loom.go" = true) (k_Loom_go : PySem.W.keepIn K (.ref f_Loom_go) = true)
    {f_Loom_twin : Addr} {od_Loom_twin an_Loom_twin : Option Addr} {sl_Loom_twin : Array (Option Value)} {oc_Loom_twin kV_Loom_twin dc_Loom_twin pm_Loom_twin cd_Loom_twin ct_Loom_twin : Value}
    (a_Loom_twin : PySem.W.findIn K (.ref C_Loom) "twin" = some (some (.ref f_Loom_twin))) (i_Loom_twin : PySem.W.isFn K (.ref f_Loom_twin) = true) (l_Loom_twin : K.lookup f_Loom_twin = some ⟨oc_Loom_twin, od_Loom_twin, .func (PySem.W.fnOf "twin" "Loom.twin" (defArgs s_Loom_twin) (defBody s_Loom_twin) (defScope s_Loom_twin) .none kV_Loom_twin dc_Loom_twin pm_Loom_twin an_Loom_twin cd_Loom_twin ct_Loom_twin), sl_Loom_twin⟩) (c_Loom_twin : PySem.W.codeIn K cd_Loom_twin "Loom.twin" = true) (k_Loom_twin : PySem.W.keepIn K (.ref f_Loom_twin) = true)
    {f_Loom__next_step : Addr} {od_Loom__next_step an_Loom__next_step : Option Addr} {sl_Loom__next_step : Array (Option Value)} {oc_Loom__next_step kV_Loom__next_step dc_Loom__next_step pm_Loom__next_step cd_Loom__next_step ct_Loom__next_step : Value}
    (a_Loom__next_step : PySem.W.findIn K (.ref C_Loom) "_next_step" = some (some (.ref f_Loom__next_step))) (i_Loom__next_step : PySem.W.isFn K (.ref f_Loom__next_step) = true) (l_Loom__next_step : K.lookup f_Loom__next_step = some ⟨oc_Loom__next_step, od_Loom__next_step, .func (PySem.W.fnOf "_next_step" "Loom._next_step" (defArgs s_Loom__next_step) (defBody s_Loom__next_step) (defScope s_Loom__next_step) .none kV_Loom__next_step dc_Loom__next_step pm_Loom__next_step an_Loom__next_step cd_Loom__next_step ct_Loom__next_step), sl_Loom__next_step⟩) (c_Loom__next_step : PySem.W.codeIn K cd_Loom__next_step "Loom._next_step" = true) (k_Loom__next_step : PySem.W.keepIn K (.ref f_Loom__next_step) = true)
    {f_Loom__do_guard : Addr} {od_Loom__do_guard an_Loom__do_guard : Option Addr} {sl_Loom__do_guard : Array (Option Value)} {oc_Loom__do_guard kV_Loom__do_guard dc_Loom__do_guard pm_Loom__do_guard cd_Loom__do_guard ct_Loom__do_guard : Value}
    (a_Loom__do_guard : PySem.W.findIn K (.ref C_Loom) "_do_guard" = some (some (.ref f_Loom__do_guard))) (i_Loom__do_guard : PySem.W.isFn K (.ref f_Loom__do_guard) = true) (l_Loom__do_guard : K.lookup f_Loom__do_guard = some ⟨oc_Loom__do_guard, od_Loom__do_guard, .func (PySem.W.fnOf "_do_guard" "Loom._do_guard" (defArgs s_Loom__do_guard) (defBody s_Loom__do_guard) (defScope s_Loom__do_guard) .none kV_Loom__do_guard dc_Loom__do_guard pm_Loom__do_guard an_Loom__do_guard cd_Loom__do_guard ct_Loom__do_guard), sl_Loom__do_guard⟩) (c_Loom__do_guard : PySem.W.codeIn K cd_Loom__do_guard "Loom._do_guard" = true) (k_Loom__do_guard : PySem.W.keepIn K (.ref f_Loom__do_guard) = true)
    {f_Loom__do_box : Addr} {od_Loom__do_box an_Loom__do_box : Option Addr} {sl_Loom__do_box : Array (Option Value)} {oc_Loom__do_box kV_Loom__do_box dc_Loom__do_box pm_Loom__do_box cd_Loom__do_box ct_Loom__do_box : Value}
    (a_Loom__do_box : PySem.W.findIn K (.ref C_Loom) "_do_box" = some (some (.ref f_Loom__do_box))) (i_Loom__do_box : PySem.W.isFn K (.ref f_Loom__do_box) = true) (l_Loom__do_box : K.lookup f_Loom__do_box = some ⟨oc_Loom__do_box, od_Loom__do_box, .func (PySem.W.fnOf "_do_box" "Loom._do_box" (defArgs s_Loom__do_box) (defBody s_Loom__do_box) (defScope s_Loom__do_box) .none kV_Loom__do_box dc_Loom__do_box pm_Loom__do_box an_Loom__do_box cd_Loom__do_box ct_Loom__do_box), sl_Loom__do_box⟩) (c_Loom__do_box : PySem.W.codeIn K cd_Loom__do_box "Loom._do_box" = true) (k_Loom__do_box : PySem.W.keepIn K (.ref f_Loom__do_box) = true)
    {C_NoTurn : Addr} (g_NoTurn : PySem.W.nsIn K mainGlobals "NoTurn" = some (some (.ref C_NoTurn))) (x_NoTurn : PySem.W.excIn K C_NoTurn [.type "ValueError", .type "Exception", .type "BaseException", .type "object"] "ValueError.__new__" = true) (kx_NoTurn : PySem.W.keepIn K (.ref C_NoTurn) = true) (s_NoTurn : PySem.W.subIn K (.ref C_NoTurn) (.type "BaseException") = some true) (t_NoTurn : PySem.W.typeIn K (.ref C_NoTurn) = some (.type "type"))
    {C_Waits : Addr} (g_Waits : PySem.W.nsIn K mainGlobals "Waits" = some (some (.ref C_Waits))) (x_Waits : PySem.W.excIn K C_Waits [.type "ValueError", .type "Exception", .type "BaseException", .type "object"] "ValueError.__new__" = true) (kx_Waits : PySem.W.keepIn K (.ref C_Waits) = true) (s_Waits : PySem.W.subIn K (.ref C_Waits) (.type "BaseException") = some true) (t_Waits : PySem.W.typeIn K (.ref C_Waits) = some (.type "type"))
    {C_Again : Addr} (g_Again : PySem.W.nsIn K mainGlobals "Again" = some (some (.ref C_Again))) (x_Again : PySem.W.excIn K C_Again [.type "ValueError", .type "Exception", .type "BaseException", .type "object"] "ValueError.__new__" = true) (kx_Again : PySem.W.keepIn K (.ref C_Again) = true) (s_Again : PySem.W.subIn K (.ref C_Again) (.type "BaseException") = some true) (t_Again : PySem.W.typeIn K (.ref C_Again) = some (.type "type"))
    {C_NotHeld : Addr} (g_NotHeld : PySem.W.nsIn K mainGlobals "NotHeld" = some (some (.ref C_NotHeld))) (x_NotHeld : PySem.W.excIn K C_NotHeld [.type "ValueError", .type "Exception", .type "BaseException", .type "object"] "ValueError.__new__" = true) (kx_NotHeld : PySem.W.keepIn K (.ref C_NotHeld) = true) (s_NotHeld : PySem.W.subIn K (.ref C_NotHeld) (.type "BaseException") = some true) (t_NotHeld : PySem.W.typeIn K (.ref C_NotHeld) = some (.type "type"))
    {C_Stuck : Addr} (g_Stuck : PySem.W.nsIn K mainGlobals "Stuck" = some (some (.ref C_Stuck))) (x_Stuck : PySem.W.excIn K C_Stuck [.type "ValueError", .type "Exception", .type "BaseException", .type "object"] "ValueError.__new__" = true) (kx_Stuck : PySem.W.keepIn K (.ref C_Stuck) = true) (s_Stuck : PySem.W.subIn K (.ref C_Stuck) (.type "BaseException") = some true) (t_Stuck : PySem.W.typeIn K (.ref C_Stuck) = some (.type "type"))
    {C_TooMany : Addr} (g_TooMany : PySem.W.nsIn K mainGlobals "TooMany" = some (some (.ref C_TooMany))) (x_TooMany : PySem.W.excIn K C_TooMany [.type "ValueError", .type "Exception", .type "BaseException", .type "object"] "ValueError.__new__" = true) (kx_TooMany : PySem.W.keepIn K (.ref C_TooMany) = true) (s_TooMany : PySem.W.subIn K (.ref C_TooMany) (.type "BaseException") = some true) (t_TooMany : PySem.W.typeIn K (.ref C_TooMany) = some (.type "type"))
    {C_BadStep : Addr} (g_BadStep : PySem.W.nsIn K mainGlobals "BadStep" = some (some (.ref C_BadStep))) (x_BadStep : PySem.W.excIn K C_BadStep [.type "ValueError", .type "Exception", .type "BaseException", .type "object"] "ValueError.__new__" = true) (kx_BadStep : PySem.W.keepIn K (.ref C_BadStep) = true) (s_BadStep : PySem.W.subIn K (.ref C_BadStep) (.type "BaseException") = some true) (t_BadStep : PySem.W.typeIn K (.ref C_BadStep) = some (.type "type"))
    {C_BadBox : Addr} (g_BadBox : PySem.W.nsIn K mainGlobals "BadBox" = some (some (.ref C_BadBox))) (x_BadBox : PySem.W.excIn K C_BadBox [.type "ValueError", .type "Exception", .type "BaseException", .type "object"] "ValueError.__new__" = true) (kx_BadBox : PySem.W.keepIn K (.ref C_BadBox) = true) (s_BadBox : PySem.W.subIn K (.ref C_BadBox) (.type "BaseException") = some true) (t_BadBox : PySem.W.typeIn K (.ref C_BadBox) = some (.type "type"))
    {C_WeaveError : Addr} (g_WeaveError : PySem.W.nsIn K mainGlobals "WeaveError" = some (some (.ref C_WeaveError)))
    (e1_NoTurn : PySem.W.findIn K (.ref C_NoTurn) "__getattribute__" = some (some (.builtin "BaseException.__getattribute__"))) (e2_NoTurn : PySem.W.findIn K (.ref C_NoTurn) "__getattr__" = some none) (e3_NoTurn : PySem.W.hasDictIn K C_NoTurn = true) (e4_NoTurn : PySem.W.findIn K (.ref C_NoTurn) "__class__" = some (some (.builtin "object.__class__"))) (e5_NoTurn : PySem.W.specialIn K (.builtin "object.__class__") "__get__" = some (some (.builtin "getset_descriptor.__get__"))) (e6_NoTurn : PySem.W.takesIn K (.builtin "object.__class__") = some true) (e7_NoTurn : PySem.W.mroIn K C_NoTurn (.type "object") = some true) (kv_NoTurn : PySem.W.kitOne K (.ref C_NoTurn) (.type "ValueError") = some true)
    (ki_NoTurn_TooMany : PySem.W.kitOne K (.ref C_NoTurn) (.ref C_TooMany) = some false)
    (ki_NoTurn_BadStep : PySem.W.kitOne K (.ref C_NoTurn) (.ref C_BadStep) = some false)
    (ki_NoTurn_BadBox : PySem.W.kitOne K (.ref C_NoTurn) (.ref C_BadBox) = some false)
    (ki_NoTurn_Again : PySem.W.kitOne K (.ref C_NoTurn) (.ref C_Again) = some false)
    (ki_NoTurn_NotHeld : PySem.W.kitOne K (.ref C_NoTurn) (.ref C_NotHeld) = some false)
    (ki_NoTurn_NoTurn : PySem.W.kitOne K (.ref C_NoTurn) (.ref C_NoTurn) = some true)
    (ki_NoTurn_Waits : PySem.W.kitOne K (.ref C_NoTurn) (.ref C_Waits) = some false)
    (ki_NoTurn_Stuck : PySem.W.kitOne K (.ref C_NoTurn) (.ref C_Stuck) = some false)
    (ex_NoTurn_NoTurn : PySem.W.exmOne K (.ref C_NoTurn) (.ref C_NoTurn) = some true)
    (ex_NoTurn_Waits : PySem.W.exmOne K (.ref C_NoTurn) (.ref C_Waits) = some false)
    (ex_NoTurn_Again : PySem.W.exmOne K (.ref C_NoTurn) (.ref C_Again) = some false)
    (ex_NoTurn_NotHeld : PySem.W.exmOne K (.ref C_NoTurn) (.ref C_NotHeld) = some false)
    (ex_NoTurn_Stuck : PySem.W.exmOne K (.ref C_NoTurn) (.ref C_Stuck) = some false)
    (ex_NoTurn_TooMany : PySem.W.exmOne K (.ref C_NoTurn) (.ref C_TooMany) = some false)
    (ex_NoTurn_BadStep : PySem.W.exmOne K (.ref C_NoTurn) (.ref C_BadStep) = some false)
    (ex_NoTurn_BadBox : PySem.W.exmOne K (.ref C_NoTurn) (.ref C_BadBox) = some false)
    (ex_NoTurn_WeaveError : PySem.W.exmOne K (.ref C_NoTurn) (.ref C_WeaveError) = some true)
    (e1_Waits : PySem.W.findIn K (.ref C_Waits) "__getattribute__" = some (some (.builtin "BaseException.__getattribute__"))) (e2_Waits : PySem.W.findIn K (.ref C_Waits) "__getattr__" = some none) (e3_Waits : PySem.W.hasDictIn K C_Waits = true) (e4_Waits : PySem.W.findIn K (.ref C_Waits) "__class__" = some (some (.builtin "object.__class__"))) (e5_Waits : PySem.W.specialIn K (.builtin "object.__class__") "__get__" = some (some (.builtin "getset_descriptor.__get__"))) (e6_Waits : PySem.W.takesIn K (.builtin "object.__class__") = some true) (e7_Waits : PySem.W.mroIn K C_Waits (.type "object") = some true) (kv_Waits : PySem.W.kitOne K (.ref C_Waits) (.type "ValueError") = some true)
    (ki_Waits_TooMany : PySem.W.kitOne K (.ref C_Waits) (.ref C_TooMany) = some false)
    (ki_Waits_BadStep : PySem.W.kitOne K (.ref C_Waits) (.ref C_BadStep) = some false)
    (ki_Waits_BadBox : PySem.W.kitOne K (.ref C_Waits) (.ref C_BadBox) = some false)
    (ki_Waits_Again : PySem.W.kitOne K (.ref C_Waits) (.ref C_Again) = some false)
    (ki_Waits_NotHeld : PySem.W.kitOne K (.ref C_Waits) (.ref C_NotHeld) = some false)
    (ki_Waits_NoTurn : PySem.W.kitOne K (.ref C_Waits) (.ref C_NoTurn) = some false)
    (ki_Waits_Waits : PySem.W.kitOne K (.ref C_Waits) (.ref C_Waits) = some true)
    (ki_Waits_Stuck : PySem.W.kitOne K (.ref C_Waits) (.ref C_Stuck) = some false)
    (ex_Waits_NoTurn : PySem.W.exmOne K (.ref C_Waits) (.ref C_NoTurn) = some false)
    (ex_Waits_Waits : PySem.W.exmOne K (.ref C_Waits) (.ref C_Waits) = some true)
    (ex_Waits_Again : PySem.W.exmOne K (.ref C_Waits) (.ref C_Again) = some false)
    (ex_Waits_NotHeld : PySem.W.exmOne K (.ref C_Waits) (.ref C_NotHeld) = some false)
    (ex_Waits_Stuck : PySem.W.exmOne K (.ref C_Waits) (.ref C_Stuck) = some false)
    (ex_Waits_TooMany : PySem.W.exmOne K (.ref C_Waits) (.ref C_TooMany) = some false)
    (ex_Waits_BadStep : PySem.W.exmOne K (.ref C_Waits) (.ref C_BadStep) = some false)
    (ex_Waits_BadBox : PySem.W.exmOne K (.ref C_Waits) (.ref C_BadBox) = some false)
    (ex_Waits_WeaveError : PySem.W.exmOne K (.ref C_Waits) (.ref C_WeaveError) = some true)
    (e1_Again : PySem.W.findIn K (.ref C_Again) "__getattribute__" = some (some (.builtin "BaseException.__getattribute__"))) (e2_Again : PySem.W.findIn K (.ref C_Again) "__getattr__" = some none) (e3_Again : PySem.W.hasDictIn K C_Again = true) (e4_Again : PySem.W.findIn K (.ref C_Again) "__class__" = some (some (.builtin "object.__class__"))) (e5_Again : PySem.W.specialIn K (.builtin "object.__class__") "__get__" = some (some (.builtin "getset_descriptor.__get__"))) (e6_Again : PySem.W.takesIn K (.builtin "object.__class__") = some true) (e7_Again : PySem.W.mroIn K C_Again (.type "object") = some true) (kv_Again : PySem.W.kitOne K (.ref C_Again) (.type "ValueError") = some true)
    (ki_Again_TooMany : PySem.W.kitOne K (.ref C_Again) (.ref C_TooMany) = some false)
    (ki_Again_BadStep : PySem.W.kitOne K (.ref C_Again) (.ref C_BadStep) = some false)
    (ki_Again_BadBox : PySem.W.kitOne K (.ref C_Again) (.ref C_BadBox) = some false)
    (ki_Again_Again : PySem.W.kitOne K (.ref C_Again) (.ref C_Again) = some true)
    (ki_Again_NotHeld : PySem.W.kitOne K (.ref C_Again) (.ref C_NotHeld) = some false)
    (ki_Again_NoTurn : PySem.W.kitOne K (.ref C_Again) (.ref C_NoTurn) = some false)
    (ki_Again_Waits : PySem.W.kitOne K (.ref C_Again) (.ref C_Waits) = some false)
    (ki_Again_Stuck : PySem.W.kitOne K (.ref C_Again) (.ref C_Stuck) = some false)
    (ex_Again_NoTurn : PySem.W.exmOne K (.ref C_Again) (.ref C_NoTurn) = some false)
    (ex_Again_Waits : PySem.W.exmOne K (.ref C_Again) (.ref C_Waits) = some false)
    (ex_Again_Again : PySem.W.exmOne K (.ref C_Again) (.ref C_Again) = some true)
    (ex_Again_NotHeld : PySem.W.exmOne K (.ref C_Again) (.ref C_NotHeld) = some false)
    (ex_Again_Stuck : PySem.W.exmOne K (.ref C_Again) (.ref C_Stuck) = some false)
    (ex_Again_TooMany : PySem.W.exmOne K (.ref C_Again) (.ref C_TooMany) = some false)
    (ex_Again_BadStep : PySem.W.exmOne K (.ref C_Again) (.ref C_BadStep) = some false)
    (ex_Again_BadBox : PySem.W.exmOne K (.ref C_Again) (.ref C_BadBox) = some false)
    (ex_Again_WeaveError : PySem.W.exmOne K (.ref C_Again) (.ref C_WeaveError) = some true)
    (e1_NotHeld : PySem.W.findIn K (.ref C_NotHeld) "__getattribute__" = some (some (.builtin "BaseException.__getattribute__"))) (e2_NotHeld : PySem.W.findIn K (.ref C_NotHeld) "__getattr__" = some none) (e3_NotHeld : PySem.W.hasDictIn K C_NotHeld = true) (e4_NotHeld : PySem.W.findIn K (.ref C_NotHeld) "__class__" = some (some (.builtin "object.__class__"))) (e5_NotHeld : PySem.W.specialIn K (.builtin "object.__class__") "__get__" = some (some (.builtin "getset_descriptor.__get__"))) (e6_NotHeld : PySem.W.takesIn K (.builtin "object.__class__") = some true) (e7_NotHeld : PySem.W.mroIn K C_NotHeld (.type "object") = some true) (kv_NotHeld : PySem.W.kitOne K (.ref C_NotHeld) (.type "ValueError") = some true)
    (ki_NotHeld_TooMany : PySem.W.kitOne K (.ref C_NotHeld) (.ref C_TooMany) = some false)
    (ki_NotHeld_BadStep : PySem.W.kitOne K (.ref C_NotHeld) (.ref C_BadStep) = some false)
    (ki_NotHeld_BadBox : PySem.W.kitOne K (.ref C_NotHeld) (.ref C_BadBox) = some false)
    (ki_NotHeld_Again : PySem.W.kitOne K (.ref C_NotHeld) (.ref C_Again) = some false)
    (ki_NotHeld_NotHeld : PySem.W.kitOne K (.ref C_NotHeld) (.ref C_NotHeld) = some true)
    (ki_NotHeld_NoTurn : PySem.W.kitOne K (.ref C_NotHeld) (.ref C_NoTurn) = some false)
    (ki_NotHeld_Waits : PySem.W.kitOne K (.ref C_NotHeld) (.ref C_Waits) = some false)
    (ki_NotHeld_Stuck : PySem.W.kitOne K (.ref C_NotHeld) (.ref C_Stuck) = some false)
    (ex_NotHeld_NoTurn : PySem.W.exmOne K (.ref C_NotHeld) (.ref C_NoTurn) = some false)
    (ex_NotHeld_Waits : PySem.W.exmOne K (.ref C_NotHeld) (.ref C_Waits) = some false)
    (ex_NotHeld_Again : PySem.W.exmOne K (.ref C_NotHeld) (.ref C_Again) = some false)
    (ex_NotHeld_NotHeld : PySem.W.exmOne K (.ref C_NotHeld) (.ref C_NotHeld) = some true)
    (ex_NotHeld_Stuck : PySem.W.exmOne K (.ref C_NotHeld) (.ref C_Stuck) = some false)
    (ex_NotHeld_TooMany : PySem.W.exmOne K (.ref C_NotHeld) (.ref C_TooMany) = some false)
    (ex_NotHeld_BadStep : PySem.W.exmOne K (.ref C_NotHeld) (.ref C_BadStep) = some false)
    (ex_NotHeld_BadBox : PySem.W.exmOne K (.ref C_NotHeld) (.ref C_BadBox) = some false)
    (ex_NotHeld_WeaveError : PySem.W.exmOne K (.ref C_NotHeld) (.ref C_WeaveError) = some true)
    (e1_Stuck : PySem.W.findIn K (.ref C_Stuck) "__getattribute__" = some (some (.builtin "BaseException.__getattribute__"))) (e2_Stuck : PySem.W.findIn K (.ref C_Stuck) "__getattr__" = some none) (e3_Stuck : PySem.W.hasDictIn K C_Stuck = true) (e4_Stuck : PySem.W.findIn K (.ref C_Stuck) "__class__" = some (some (.builtin "object.__class__"))) (e5_Stuck : PySem.W.specialIn K (.builtin "object.__class__") "__get__" = some (some (.builtin "getset_descriptor.__get__"))) (e6_Stuck : PySem.W.takesIn K (.builtin "object.__class__") = some true) (e7_Stuck : PySem.W.mroIn K C_Stuck (.type "object") = some true) (kv_Stuck : PySem.W.kitOne K (.ref C_Stuck) (.type "ValueError") = some true)
    (ki_Stuck_TooMany : PySem.W.kitOne K (.ref C_Stuck) (.ref C_TooMany) = some false)
    (ki_Stuck_BadStep : PySem.W.kitOne K (.ref C_Stuck) (.ref C_BadStep) = some false)
    (ki_Stuck_BadBox : PySem.W.kitOne K (.ref C_Stuck) (.ref C_BadBox) = some false)
    (ki_Stuck_Again : PySem.W.kitOne K (.ref C_Stuck) (.ref C_Again) = some false)
    (ki_Stuck_NotHeld : PySem.W.kitOne K (.ref C_Stuck) (.ref C_NotHeld) = some false)
    (ki_Stuck_NoTurn : PySem.W.kitOne K (.ref C_Stuck) (.ref C_NoTurn) = some false)
    (ki_Stuck_Waits : PySem.W.kitOne K (.ref C_Stuck) (.ref C_Waits) = some false)
    (ki_Stuck_Stuck : PySem.W.kitOne K (.ref C_Stuck) (.ref C_Stuck) = some true)
    (ex_Stuck_NoTurn : PySem.W.exmOne K (.ref C_Stuck) (.ref C_NoTurn) = some false)
    (ex_Stuck_Waits : PySem.W.exmOne K (.ref C_Stuck) (.ref C_Waits) = some false)
    (ex_Stuck_Again : PySem.W.exmOne K (.ref C_Stuck) (.ref C_Again) = some false)
    (ex_Stuck_NotHeld : PySem.W.exmOne K (.ref C_Stuck) (.ref C_NotHeld) = some false)
    (ex_Stuck_Stuck : PySem.W.exmOne K (.ref C_Stuck) (.ref C_Stuck) = some true)
    (ex_Stuck_TooMany : PySem.W.exmOne K (.ref C_Stuck) (.ref C_TooMany) = some false)
    (ex_Stuck_BadStep : PySem.W.exmOne K (.ref C_Stuck) (.ref C_BadStep) = some false)
    (ex_Stuck_BadBox : PySem.W.exmOne K (.ref C_Stuck) (.ref C_BadBox) = some false)
    (ex_Stuck_WeaveError : PySem.W.exmOne K (.ref C_Stuck) (.ref C_WeaveError) = some true)
    (e1_TooMany : PySem.W.findIn K (.ref C_TooMany) "__getattribute__" = some (some (.builtin "BaseException.__getattribute__"))) (e2_TooMany : PySem.W.findIn K (.ref C_TooMany) "__getattr__" = some none) (e3_TooMany : PySem.W.hasDictIn K C_TooMany = true) (e4_TooMany : PySem.W.findIn K (.ref C_TooMany) "__class__" = some (some (.builtin "object.__class__"))) (e5_TooMany : PySem.W.specialIn K (.builtin "object.__class__") "__get__" = some (some (.builtin "getset_descriptor.__get__"))) (e6_TooMany : PySem.W.takesIn K (.builtin "object.__class__") = some true) (e7_TooMany : PySem.W.mroIn K C_TooMany (.type "object") = some true) (kv_TooMany : PySem.W.kitOne K (.ref C_TooMany) (.type "ValueError") = some true)
    (ki_TooMany_TooMany : PySem.W.kitOne K (.ref C_TooMany) (.ref C_TooMany) = some true)
    (ki_TooMany_BadStep : PySem.W.kitOne K (.ref C_TooMany) (.ref C_BadStep) = some false)
    (ki_TooMany_BadBox : PySem.W.kitOne K (.ref C_TooMany) (.ref C_BadBox) = some false)
    (ki_TooMany_Again : PySem.W.kitOne K (.ref C_TooMany) (.ref C_Again) = some false)
    (ki_TooMany_NotHeld : PySem.W.kitOne K (.ref C_TooMany) (.ref C_NotHeld) = some false)
    (ki_TooMany_NoTurn : PySem.W.kitOne K (.ref C_TooMany) (.ref C_NoTurn) = some false)
    (ki_TooMany_Waits : PySem.W.kitOne K (.ref C_TooMany) (.ref C_Waits) = some false)
    (ki_TooMany_Stuck : PySem.W.kitOne K (.ref C_TooMany) (.ref C_Stuck) = some false)
    (ex_TooMany_NoTurn : PySem.W.exmOne K (.ref C_TooMany) (.ref C_NoTurn) = some false)
    (ex_TooMany_Waits : PySem.W.exmOne K (.ref C_TooMany) (.ref C_Waits) = some false)
    (ex_TooMany_Again : PySem.W.exmOne K (.ref C_TooMany) (.ref C_Again) = some false)
    (ex_TooMany_NotHeld : PySem.W.exmOne K (.ref C_TooMany) (.ref C_NotHeld) = some false)
    (ex_TooMany_Stuck : PySem.W.exmOne K (.ref C_TooMany) (.ref C_Stuck) = some false)
    (ex_TooMany_TooMany : PySem.W.exmOne K (.ref C_TooMany) (.ref C_TooMany) = some true)
    (ex_TooMany_BadStep : PySem.W.exmOne K (.ref C_TooMany) (.ref C_BadStep) = some false)
    (ex_TooMany_BadBox : PySem.W.exmOne K (.ref C_TooMany) (.ref C_BadBox) = some false)
    (ex_TooMany_WeaveError : PySem.W.exmOne K (.ref C_TooMany) (.ref C_WeaveError) = some true)
    (e1_BadStep : PySem.W.findIn K (.ref C_BadStep) "__getattribute__" = some (some (.builtin "BaseException.__getattribute__"))) (e2_BadStep : PySem.W.findIn K (.ref C_BadStep) "__getattr__" = some none) (e3_BadStep : PySem.W.hasDictIn K C_BadStep = true) (e4_BadStep : PySem.W.findIn K (.ref C_BadStep) "__class__" = some (some (.builtin "object.__class__"))) (e5_BadStep : PySem.W.specialIn K (.builtin "object.__class__") "__get__" = some (some (.builtin "getset_descriptor.__get__"))) (e6_BadStep : PySem.W.takesIn K (.builtin "object.__class__") = some true) (e7_BadStep : PySem.W.mroIn K C_BadStep (.type "object") = some true) (kv_BadStep : PySem.W.kitOne K (.ref C_BadStep) (.type "ValueError") = some true)
    (ki_BadStep_TooMany : PySem.W.kitOne K (.ref C_BadStep) (.ref C_TooMany) = some false)
    (ki_BadStep_BadStep : PySem.W.kitOne K (.ref C_BadStep) (.ref C_BadStep) = some true)
    (ki_BadStep_BadBox : PySem.W.kitOne K (.ref C_BadStep) (.ref C_BadBox) = some false)
    (ki_BadStep_Again : PySem.W.kitOne K (.ref C_BadStep) (.ref C_Again) = some false)
    (ki_BadStep_NotHeld : PySem.W.kitOne K (.ref C_BadStep) (.ref C_NotHeld) = some false)
    (ki_BadStep_NoTurn : PySem.W.kitOne K (.ref C_BadStep) (.ref C_NoTurn) = some false)
    (ki_BadStep_Waits : PySem.W.kitOne K (.ref C_BadStep) (.ref C_Waits) = some false)
    (ki_BadStep_Stuck : PySem.W.kitOne K (.ref C_BadStep) (.ref C_Stuck) = some false)
    (ex_BadStep_NoTurn : PySem.W.exmOne K (.ref C_BadStep) (.ref C_NoTurn) = some false)
    (ex_BadStep_Waits : PySem.W.exmOne K (.ref C_BadStep) (.ref C_Waits) = some false)
    (ex_BadStep_Again : PySem.W.exmOne K (.ref C_BadStep) (.ref C_Again) = some false)
    (ex_BadStep_NotHeld : PySem.W.exmOne K (.ref C_BadStep) (.ref C_NotHeld) = some false)
    (ex_BadStep_Stuck : PySem.W.exmOne K (.ref C_BadStep) (.ref C_Stuck) = some false)
    (ex_BadStep_TooMany : PySem.W.exmOne K (.ref C_BadStep) (.ref C_TooMany) = some false)
    (ex_BadStep_BadStep : PySem.W.exmOne K (.ref C_BadStep) (.ref C_BadStep) = some true)
    (ex_BadStep_BadBox : PySem.W.exmOne K (.ref C_BadStep) (.ref C_BadBox) = some false)
    (ex_BadStep_WeaveError : PySem.W.exmOne K (.ref C_BadStep) (.ref C_WeaveError) = some true)
    (e1_BadBox : PySem.W.findIn K (.ref C_BadBox) "__getattribute__" = some (some (.builtin "BaseException.__getattribute__"))) (e2_BadBox : PySem.W.findIn K (.ref C_BadBox) "__getattr__" = some none) (e3_BadBox : PySem.W.hasDictIn K C_BadBox = true) (e4_BadBox : PySem.W.findIn K (.ref C_BadBox) "__class__" = some (some (.builtin "object.__class__"))) (e5_BadBox : PySem.W.specialIn K (.builtin "object.__class__") "__get__" = some (some (.builtin "getset_descriptor.__get__"))) (e6_BadBox : PySem.W.takesIn K (.builtin "object.__class__") = some true) (e7_BadBox : PySem.W.mroIn K C_BadBox (.type "object") = some true) (kv_BadBox : PySem.W.kitOne K (.ref C_BadBox) (.type "ValueError") = some true)
    (ki_BadBox_TooMany : PySem.W.kitOne K (.ref C_BadBox) (.ref C_TooMany) = some false)
    (ki_BadBox_BadStep : PySem.W.kitOne K (.ref C_BadBox) (.ref C_BadStep) = some false)
    (ki_BadBox_BadBox : PySem.W.kitOne K (.ref C_BadBox) (.ref C_BadBox) = some true)
    (ki_BadBox_Again : PySem.W.kitOne K (.ref C_BadBox) (.ref C_Again) = some false)
    (ki_BadBox_NotHeld : PySem.W.kitOne K (.ref C_BadBox) (.ref C_NotHeld) = some false)
    (ki_BadBox_NoTurn : PySem.W.kitOne K (.ref C_BadBox) (.ref C_NoTurn) = some false)
    (ki_BadBox_Waits : PySem.W.kitOne K (.ref C_BadBox) (.ref C_Waits) = some false)
    (ki_BadBox_Stuck : PySem.W.kitOne K (.ref C_BadBox) (.ref C_Stuck) = some false)
    (ex_BadBox_NoTurn : PySem.W.exmOne K (.ref C_BadBox) (.ref C_NoTurn) = some false)
    (ex_BadBox_Waits : PySem.W.exmOne K (.ref C_BadBox) (.ref C_Waits) = some false)
    (ex_BadBox_Again : PySem.W.exmOne K (.ref C_BadBox) (.ref C_Again) = some false)
    (ex_BadBox_NotHeld : PySem.W.exmOne K (.ref C_BadBox) (.ref C_NotHeld) = some false)
    (ex_BadBox_Stuck : PySem.W.exmOne K (.ref C_BadBox) (.ref C_Stuck) = some false)
    (ex_BadBox_TooMany : PySem.W.exmOne K (.ref C_BadBox) (.ref C_TooMany) = some false)
    (ex_BadBox_BadStep : PySem.W.exmOne K (.ref C_BadBox) (.ref C_BadStep) = some false)
    (ex_BadBox_BadBox : PySem.W.exmOne K (.ref C_BadBox) (.ref C_BadBox) = some true)
    (ex_BadBox_WeaveError : PySem.W.exmOne K (.ref C_BadBox) (.ref C_WeaveError) = some true)
    : ∃ fd : FuncData, (∀ (s : Shared) (v : Value), BindsTo s fd ⟨[v], []⟩ [("_law_script", v)]) ∧ ∀ base : Heap, K.In base → base.Ns mainGlobals mg → FnOk l.prog w K mg base CX0 16 fa fd ["_law_script"] (SpD K R_law) := by
  have e := hfa.symm.trans (PySem.W.mg_of X G a_law)
  cases e
  let T : Txt K mg := { f_wall := f_wall, d_wall := _, F_wall := fun_mk (st := s_wall) l_wall c_wall k_wall, m_wall := PySem.W.mg_of X G a_wall, b_wall := (fun_mk (st := s_wall) l_wall c_wall k_wall).binds (ps := ["k"]) (fun _ _ _ _ _ _ us hl => match us, hl with | [_], _ => rfl), f_is_whole := f_is_whole, d_is_whole := _, F_is_whole := fun_mk (st := s_is_whole) l_is_whole c_is_whole k_is_whole, m_is_whole := PySem.W.mg_of X G a_is_whole, b_is_whole := (fun_mk (st := s_is_whole) l_is_whole c_is_whole k_is_whole).binds (ps := ["thing"]) (fun _ _ _ _ _ _ us hl => match us, hl with | [_], _ => rfl), f_is_step := f_is_step, d_is_step := _, F_is_step := fun_mk (st := s_is_step) l_is_step c_is_step k_is_step, m_is_step := PySem.W.mg_of X G a_is_step, b_is_step := (fun_mk (st := s_is_step) l_is_step c_is_step k_is_step).binds (ps := ["thing"]) (fun _ _ _ _ _ _ us hl => match us, hl with | [_], _ => rfl), f_check_row := f_check_row, d_check_row := _, F_check_row := fun_mk (st := s_check_row) l_check_row c_check_row k_check_row, m_check_row := PySem.W.mg_of X G a_check_row, b_check_row := (fun_mk (st := s_check_row) l_check_row c_check_row k_check_row).binds (ps := ["row", "boxes"]) (fun _ _ _ _ _ _ us hl => match us, hl with | [_, _], _ => rfl), f_alone := f_alone, d_alone := _, F_alone := fun_mk (st := s_alone) l_alone c_alone k_alone, m_alone := PySem.W.mg_of X G a_alone, b_alone := (fun_mk (st := s_alone) l_alone c_alone k_alone).binds (ps := ["row", "boxes"]) (fun _ _ _ _ _ _ us hl => match us, hl with | [_, _], _ => rfl), f_walked := f_walked, d_walked := _, F_walked := fun_mk (st := s_walked) l_walked c_walked k_walked, m_walked := PySem.W.mg_of X G a_walked, b_walked := (fun_mk (st := s_walked) l_walked c_walked k_walked).binds (ps := ["ones", "others", "boxes", "order"]) (fun _ _ _ _ _ _ us hl => match us, hl with | [_, _, _, _], _ => rfl), f_woven := f_woven, d_woven := _, F_woven := fun_mk (st := s_woven) l_woven c_woven k_woven, m_woven := PySem.W.mg_of X G a_woven, b_woven := (fun_mk (st := s_woven) l_woven c_woven k_woven).binds (ps := ["ones", "others", "boxes", "turns"]) (fun _ _ _ _ _ _ us hl => match us, hl with | [_, _, _, _], _ => rfl), f_can_go := f_can_go, d_can_go := _, F_can_go := fun_mk (st := s_can_go) l_can_go c_can_go k_can_go, m_can_go := PySem.W.mg_of X G a_can_go, b_can_go := (fun_mk (st := s_can_go) l_can_go c_can_go k_can_go).binds (ps := ["loom", "hand"]) (fun _ _ _ _ _ _ us hl => match us, hl with | [_, _], _ => rfl), f_finish := f_finish, d_finish := _, F_finish := fun_mk (st := s_finish) l_finish c_finish k_finish, m_finish := PySem.W.mg_of X G a_finish, b_finish := (fun_mk (st := s_finish) l_finish c_finish k_finish).binds (ps := ["loom", "order"]) (fun _ _ _ _ _ _ us hl => match us, hl with | [_, _], _ => rfl), f_strange := f_strange, d_strange := _, F_strange := fun_mk (st := s_strange) l_strange c_strange k_strange, m_strange := PySem.W.mg_of X G a_strange, b_strange := (fun_mk (st := s_strange) l_strange c_strange k_strange).binds (ps := ["ones", "others", "boxes"]) (fun _ _ _ _ _ _ us hl => match us, hl with | [_, _, _], _ => rfl), f_check_rows := f_check_rows, d_check_rows := _, F_check_rows := fun_mk (st := s_check_rows) l_check_rows c_check_rows k_check_rows, m_check_rows := PySem.W.mg_of X G a_check_rows, b_check_rows := (fun_mk (st := s_check_rows) l_check_rows c_check_rows k_check_rows).binds (ps := ["ones", "others", "boxes"]) (fun _ _ _ _ _ _ us hl => match us, hl with | [_, _, _], _ => rfl), f_told := f_told, d_told := _, F_told := fun_mk (st := s_told) l_told c_told k_told, m_told := PySem.W.mg_of X G a_told, b_told := (fun_mk (st := s_told) l_told c_told k_told).binds (ps := ["ones", "others", "boxes", "order"]) (fun _ _ _ _ _ _ us hl => match us, hl with | [_, _, _, _], _ => rfl), f_plain_orders := f_plain_orders, d_plain_orders := _, F_plain_orders := fun_mk (st := s_plain_orders) l_plain_orders c_plain_orders k_plain_orders, m_plain_orders := PySem.W.mg_of X G a_plain_orders, b_plain_orders := (fun_mk (st := s_plain_orders) l_plain_orders c_plain_orders k_plain_orders).binds (ps := ["first", "second"]) (fun _ _ _ _ _ _ us hl => match us, hl with | [_, _], _ => rfl), f_all_orders := f_all_orders, d_all_orders := _, F_all_orders := fun_mk (st := s_all_orders) l_all_orders c_all_orders k_all_orders, m_all_orders := PySem.W.mg_of X G a_all_orders, b_all_orders := (fun_mk (st := s_all_orders) l_all_orders c_all_orders k_all_orders).binds (ps := ["first", "second"]) (fun _ _ _ _ _ _ us hl => match us, hl with | [_, _], _ => rfl), f_l_cell_at := f_l_cell_at, d_l_cell_at := _, F_l_cell_at := fun_mk (st := s_l_cell_at) l_l_cell_at c_l_cell_at k_l_cell_at, m_l_cell_at := PySem.W.mg_of X G a_l_cell_at, b_l_cell_at := (fun_mk (st := s_l_cell_at) l_l_cell_at c_l_cell_at k_l_cell_at).binds (ps := ["_law_script", "_law_k"]) (fun _ _ _ _ _ _ us hl => match us, hl with | [_, _], _ => rfl), f_l_put := f_l_put, d_l_put := _, F_l_put := fun_mk (st := s_l_put) l_l_put c_l_put k_l_put, m_l_put := PySem.W.mg_of X G a_l_put, b_l_put := (fun_mk (st := s_l_put) l_l_put c_l_put k_l_put).binds (ps := ["_law_row", "_law_at", "_law_thing"]) (fun _ _ _ _ _ _ us hl => match us, hl with | [_, _, _], _ => rfl), f_l_row_by := f_l_row_by, d_l_row_by := _, F_l_row_by := fun_mk (st := s_l_row_by) l_l_row_by c_l_row_by k_l_row_by, m_l_row_by := PySem.W.mg_of X G a_l_row_by, b_l_row_by := (fun_mk (st := s_l_row_by) l_l_row_by c_l_row_by k_l_row_by).binds (ps := ["_law_cell", "_law_many"]) (fun _ _ _ _ _ _ us hl => match us, hl with | [_, _], _ => rfl), f_l_wrong_by := f_l_wrong_by, d_l_wrong_by := _, F_l_wrong_by := fun_mk (st := s_l_wrong_by) l_l_wrong_by c_l_wrong_by k_l_wrong_by, m_l_wrong_by := PySem.W.mg_of X G a_l_wrong_by, b_l_wrong_by := (fun_mk (st := s_l_wrong_by) l_l_wrong_by c_l_wrong_by k_l_wrong_by).binds (ps := ["_law_cell", "_law_many"]) (fun _ _ _ _ _ _ us hl => match us, hl with | [_, _], _ => rfl), f_l_due := f_l_due, d_l_due := _, F_l_due := fun_mk (st := s_l_due) l_l_due c_l_due k_l_due, m_l_due := PySem.W.mg_of X G a_l_due, b_l_due := (fun_mk (st := s_l_due) l_l_due c_l_due k_l_due).binds (ps := ["_law_row", "_law_many"]) (fun _ _ _ _ _ _ us hl => match us, hl with | [_, _], _ => rfl), f_l_asked := f_l_asked, d_l_asked := _, F_l_asked := fun_mk (st := s_l_asked) l_l_asked c_l_asked k_l_asked, m_l_asked := PySem.W.mg_of X G a_l_asked, b_l_asked := (fun_mk (st := s_l_asked) l_l_asked c_l_asked k_l_asked).binds (ps := ["_law_which", "_law_ones", "_law_others", "_law_boxes", "_law_order"]) (fun _ _ _ _ _ _ us hl => match us, hl with | [_, _, _, _, _], _ => rfl), f_l_names := f_l_names, d_l_names := _, F_l_names := fun_mk (st := s_l_names) l_l_names c_l_names k_l_names, m_l_names := PySem.W.mg_of X G a_l_names, b_l_names := (fun_mk (st := s_l_names) l_l_names c_l_names k_l_names).binds (ps := ["_law_error"]) (fun _ _ _ _ _ _ us hl => match us, hl with | [_], _ => rfl), f_l_told := f_l_told, d_l_told := _, F_l_told := fun_mk (st := s_l_told) l_l_told c_l_told k_l_told, m_l_told := PySem.W.mg_of X G a_l_told, b_l_told := (fun_mk (st := s_l_told) l_l_told c_l_told k_l_told).binds (ps := ["_law_which", "_law_ones", "_law_others", "_law_boxes", "_law_kind", "_law_order"]) (fun _ _ _ _ _ _ us hl => match us, hl with | [_, _, _, _, _, _], _ => rfl), f_l_with_guards := f_l_with_guards, d_l_with_guards := _, F_l_with_guards := fun_mk (st := s_l_with_guards) l_l_with_guards c_l_with_guards k_l_with_guards, m_l_with_guards := PySem.W.mg_of X G a_l_with_guards, b_l_with_guards := (fun_mk (st := s_l_with_guards) l_l_with_guards c_l_with_guards k_l_with_guards).binds (ps := ["_law_row", "_law_cell"]) (fun _ _ _ _ _ _ us hl => match us, hl with | [_, _], _ => rfl), f_law := fa, d_law := _, F_law := fun_mk (st := s_law) l_law c_law k_law, m_law := PySem.W.mg_of X G a_law, b_law := (fun_mk (st := s_law) l_law c_law k_law).binds (ps := ["_law_script"]) (fun _ _ _ _ _ _ us hl => match us, hl with | [_], _ => rfl), a_BOX_WORDS := aa_BOX_WORDS, m_BOX_WORDS := PySem.W.mg_of X G a_BOX_WORDS, c_BOX_WORDS := fun H0 => .tup (.inr ⟨_, it_BOX_WORDS, n_BOX_WORDS, l_BOX_WORDS, rfl, rfl, (by have e := Vals.length v_BOX_WORDS; simp only [Array.length_toList] at e; rw [← e]; exact Evl.sz_of (by decide)), v_BOX_WORDS⟩) (.cons (.str _) (.cons (.str _) (.cons (.str _) .nil))), r_BOX_WORDS := rfl, a_GUARD_WORDS := aa_GUARD_WORDS, m_GUARD_WORDS := PySem.W.mg_of X G a_GUARD_WORDS, c_GUARD_WORDS := fun H0 => .tup (.inr ⟨_, it_GUARD_WORDS, n_GUARD_WORDS, l_GUARD_WORDS, rfl, rfl, (by have e := Vals.length v_GUARD_WORDS; simp only [Array.length_toList] at e; rw [← e]; exact Evl.sz_of (by decide)), v_GUARD_WORDS⟩) (.cons (.str _) (.cons (.str _) .nil)), r_GUARD_WORDS := rfl, a_BARE_WORDS := aa_BARE_WORDS, m_BARE_WORDS := PySem.W.mg_of X G a_BARE_WORDS, c_BARE_WORDS := fun H0 => .tup (.inr ⟨_, it_BARE_WORDS, n_BARE_WORDS, l_BARE_WORDS, rfl, rfl, (by have e := Vals.length v_BARE_WORDS; simp only [Array.length_toList] at e; rw [← e]; exact Evl.sz_of (by decide)), v_BARE_WORDS⟩) (.cons (.str _) (.cons (.str _) (.cons (.str _) .nil))), r_BARE_WORDS := rfl, t_MOST_STEPS := tt_MOST_STEPS, m_MOST_STEPS := PySem.W.mg_of X G a_MOST_STEPS, c_MOST_STEPS := fun _ => .int _, r_MOST_STEPS := ⟨_, rfl⟩, t_MOST_SEARCHED := tt_MOST_SEARCHED, m_MOST_SEARCHED := PySem.W.mg_of X G a_MOST_SEARCHED, c_MOST_SEARCHED := fun _ => .int _, r_MOST_SEARCHED := ⟨_, rfl⟩, z_len := PySem.W.mg_none_of X G z_len, z_isinstance := PySem.W.mg_none_of X G z_isinstance, z_int := PySem.W.mg_none_of X G z_int, z_bool := PySem.W.mg_none_of X G z_bool, z_str := PySem.W.mg_none_of X G z_str, z_list := PySem.W.mg_none_of X G z_list, z_tuple := PySem.W.mg_none_of X G z_tuple, z_range := PySem.W.mg_none_of X G z_range, z_enumerate := PySem.W.mg_none_of X G z_enumerate, z_ValueError := PySem.W.mg_none_of X G z_ValueError, C_Loom := C_Loom, cl_Loom := ⟨pg_Loom, hd_Loom, po_Loom, sa_Loom⟩, mg_Loom := PySem.W.mg_of X G aC_Loom, no__rows := no__rows, no_boxes := no_boxes, no_numbers := no_numbers, no_places := no_places, no_holder := no_holder, f_Loom___init := f_Loom___init, d_Loom___init := _, F_Loom___init := fun_mk (st := s_Loom___init) l_Loom___init c_Loom___init k_Loom___init, b_Loom___init := (fun_mk (st := s_Loom___init) l_Loom___init c_Loom___init k_Loom___init).binds (ps := ["self", "ones", "others", "boxes"]) (fun _ _ _ _ _ _ us hl => match us, hl with | [_, _, _, _], _ => rfl), M_Loom___init := ⟨mk_Loom, a_Loom___init, i_Loom___init, kc_Loom⟩, f_Loom_over := f_Loom_over, d_Loom_over := _, F_Loom_over := fun_mk (st := s_Loom_over) l_Loom_over c_Loom_over k_Loom_over, b_Loom_over := (fun_mk (st := s_Loom_over) l_Loom_over c_Loom_over k_Loom_over).binds (ps := ["self", "hand"]) (fun _ _ _ _ _ _ us hl => match us, hl with | [_, _], _ => rfl), M_Loom_over := ⟨a_Loom_over, i_Loom_over, k_Loom_over⟩, f_Loom_waits := f_Loom_waits, d_Loom_waits := _, F_Loom_waits := fun_mk (st := s_Loom_waits) l_Loom_waits c_Loom_waits k_Loom_waits, b_Loom_waits := (fun_mk (st := s_Loom_waits) l_Loom_waits c_Loom_waits k_Loom_waits).binds (ps := ["self", "hand"]) (fun _ _ _ _ _ _ us hl => match us, hl with | [_, _], _ => rfl), M_Loom_waits := ⟨a_Loom_waits, i_Loom_waits, k_Loom_waits⟩, f_Loom_go := f_Loom_go, d_Loom_go := _, F_Loom_go := fun_mk (st := s_Loom_go) l_Loom_go c_Loom_go k_Loom_go, b_Loom_go := (fun_mk (st := s_Loom_go) l_Loom_go c_Loom_go k_Loom_go).binds (ps := ["self", "hand"]) (fun _ _ _ _ _ _ us hl => match us, hl with | [_, _], _ => rfl), M_Loom_go := ⟨a_Loom_go, i_Loom_go, k_Loom_go⟩, f_Loom_twin := f_Loom_twin, d_Loom_twin := _, F_Loom_twin := fun_mk (st := s_Loom_twin) l_Loom_twin c_Loom_twin k_Loom_twin, b_Loom_twin := (fun_mk (st := s_Loom_twin) l_Loom_twin c_Loom_twin k_Loom_twin).binds (ps := ["self"]) (fun _ _ _ _ _ _ us hl => match us, hl with | [_], _ => rfl), M_Loom_twin := ⟨a_Loom_twin, i_Loom_twin, k_Loom_twin⟩, f_Loom__next_step := f_Loom__next_step, d_Loom__next_step := _, F_Loom__next_step := fun_mk (st := s_Loom__next_step) l_Loom__next_step c_Loom__next_step k_Loom__next_step, b_Loom__next_step := (fun_mk (st := s_Loom__next_step) l_Loom__next_step c_Loom__next_step k_Loom__next_step).binds (ps := ["self", "hand"]) (fun _ _ _ _ _ _ us hl => match us, hl with | [_, _], _ => rfl), M_Loom__next_step := ⟨a_Loom__next_step, i_Loom__next_step, k_Loom__next_step⟩, f_Loom__do_guard := f_Loom__do_guard, d_Loom__do_guard := _, F_Loom__do_guard := fun_mk (st := s_Loom__do_guard) l_Loom__do_guard c_Loom__do_guard k_Loom__do_guard, b_Loom__do_guard := (fun_mk (st := s_Loom__do_guard) l_Loom__do_guard c_Loom__do_guard k_Loom__do_guard).binds (ps := ["self", "hand", "word"]) (fun _ _ _ _ _ _ us hl => match us, hl with | [_, _, _], _ => rfl), M_Loom__do_guard := ⟨a_Loom__do_guard, i_Loom__do_guard, k_Loom__do_guard⟩, f_Loom__do_box := f_Loom__do_box, d_Loom__do_box := _, F_Loom__do_box := fun_mk (st := s_Loom__do_box) l_Loom__do_box c_Loom__do_box k_Loom__do_box, b_Loom__do_box := (fun_mk (st := s_Loom__do_box) l_Loom__do_box c_Loom__do_box k_Loom__do_box).binds (ps := ["self", "hand", "word", "box"]) (fun _ _ _ _ _ _ us hl => match us, hl with | [_, _, _, _], _ => rfl), M_Loom__do_box := ⟨a_Loom__do_box, i_Loom__do_box, k_Loom__do_box⟩, C_NoTurn := C_NoTurn, g_NoTurn := PySem.W.mg_of X G g_NoTurn, x_NoTurn := x_NoTurn, k_NoTurn := kx_NoTurn, s_NoTurn := s_NoTurn, t_NoTurn := t_NoTurn, C_Waits := C_Waits, g_Waits := PySem.W.mg_of X G g_Waits, x_Waits := x_Waits, k_Waits := kx_Waits, s_Waits := s_Waits, t_Waits := t_Waits, C_Again := C_Again, g_Again := PySem.W.mg_of X G g_Again, x_Again := x_Again, k_Again := kx_Again, s_Again := s_Again, t_Again := t_Again, C_NotHeld := C_NotHeld, g_NotHeld := PySem.W.mg_of X G g_NotHeld, x_NotHeld := x_NotHeld, k_NotHeld := kx_NotHeld, s_NotHeld := s_NotHeld, t_NotHeld := t_NotHeld, C_Stuck := C_Stuck, g_Stuck := PySem.W.mg_of X G g_Stuck, x_Stuck := x_Stuck, k_Stuck := kx_Stuck, s_Stuck := s_Stuck, t_Stuck := t_Stuck, C_TooMany := C_TooMany, g_TooMany := PySem.W.mg_of X G g_TooMany, x_TooMany := x_TooMany, k_TooMany := kx_TooMany, s_TooMany := s_TooMany, t_TooMany := t_TooMany, C_BadStep := C_BadStep, g_BadStep := PySem.W.mg_of X G g_BadStep, x_BadStep := x_BadStep, k_BadStep := kx_BadStep, s_BadStep := s_BadStep, t_BadStep := t_BadStep, C_BadBox := C_BadBox, g_BadBox := PySem.W.mg_of X G g_BadBox, x_BadBox := x_BadBox, k_BadBox := kx_BadBox, s_BadBox := s_BadBox, t_BadBox := t_BadBox, C_WeaveError := C_WeaveError, g_WeaveError := PySem.W.mg_of X G g_WeaveError, ec_NoTurn := ⟨e1_NoTurn, e2_NoTurn, s_NoTurn, e3_NoTurn, e4_NoTurn, e5_NoTurn, e6_NoTurn, e7_NoTurn⟩, kv_NoTurn := kv_NoTurn, ki_NoTurn_TooMany := ki_NoTurn_TooMany, ki_NoTurn_BadStep := ki_NoTurn_BadStep, ki_NoTurn_BadBox := ki_NoTurn_BadBox, ki_NoTurn_Again := ki_NoTurn_Again, ki_NoTurn_NotHeld := ki_NoTurn_NotHeld, ki_NoTurn_NoTurn := ki_NoTurn_NoTurn, ki_NoTurn_Waits := ki_NoTurn_Waits, ki_NoTurn_Stuck := ki_NoTurn_Stuck, ex_NoTurn_NoTurn := ex_NoTurn_NoTurn, ex_NoTurn_Waits := ex_NoTurn_Waits, ex_NoTurn_Again := ex_NoTurn_Again, ex_NoTurn_NotHeld := ex_NoTurn_NotHeld, ex_NoTurn_Stuck := ex_NoTurn_Stuck, ex_NoTurn_TooMany := ex_NoTurn_TooMany, ex_NoTurn_BadStep := ex_NoTurn_BadStep, ex_NoTurn_BadBox := ex_NoTurn_BadBox, ex_NoTurn_WeaveError := ex_NoTurn_WeaveError, ec_Waits := ⟨e1_Waits, e2_Waits, s_Waits, e3_Waits, e4_Waits, e5_Waits, e6_Waits, e7_Waits⟩, kv_Waits := kv_Waits, ki_Waits_TooMany := ki_Waits_TooMany, ki_Waits_BadStep := ki_Waits_BadStep, ki_Waits_BadBox := ki_Waits_BadBox, ki_Waits_Again := ki_Waits_Again, ki_Waits_NotHeld := ki_Waits_NotHeld, ki_Waits_NoTurn := ki_Waits_NoTurn, ki_Waits_Waits := ki_Waits_Waits, ki_Waits_Stuck := ki_Waits_Stuck, ex_Waits_NoTurn := ex_Waits_NoTurn, ex_Waits_Waits := ex_Waits_Waits, ex_Waits_Again := ex_Waits_Again, ex_Waits_NotHeld := ex_Waits_NotHeld, ex_Waits_Stuck := ex_Waits_Stuck, ex_Waits_TooMany := ex_Waits_TooMany, ex_Waits_BadStep := ex_Waits_BadStep, ex_Waits_BadBox := ex_Waits_BadBox, ex_Waits_WeaveError := ex_Waits_WeaveError, ec_Again := ⟨e1_Again, e2_Again, s_Again, e3_Again, e4_Again, e5_Again, e6_Again, e7_Again⟩, kv_Again := kv_Again, ki_Again_TooMany := ki_Again_TooMany, ki_Again_BadStep := ki_Again_BadStep, ki_Again_BadBox := ki_Again_BadBox, ki_Again_Again := ki_Again_Again, ki_Again_NotHeld := ki_Again_NotHeld, ki_Again_NoTurn := ki_Again_NoTurn, ki_Again_Waits := ki_Again_Waits, ki_Again_Stuck := ki_Again_Stuck, ex_Again_NoTurn := ex_Again_NoTurn, ex_Again_Waits := ex_Again_Waits, ex_Again_Again := ex_Again_Again, ex_Again_NotHeld := ex_Again_NotHeld, ex_Again_Stuck := ex_Again_Stuck, ex_Again_TooMany := ex_Again_TooMany, ex_Again_BadStep := ex_Again_BadStep, ex_Again_BadBox := ex_Again_BadBox, ex_Again_WeaveError := ex_Again_WeaveError, ec_NotHeld := ⟨e1_NotHeld, e2_NotHeld, s_NotHeld, e3_NotHeld, e4_NotHeld, e5_NotHeld, e6_NotHeld, e7_NotHeld⟩, kv_NotHeld := kv_NotHeld, ki_NotHeld_TooMany := ki_NotHeld_TooMany, ki_NotHeld_BadStep := ki_NotHeld_BadStep, ki_NotHeld_BadBox := ki_NotHeld_BadBox, ki_NotHeld_Again := ki_NotHeld_Again, ki_NotHeld_NotHeld := ki_NotHeld_NotHeld, ki_NotHeld_NoTurn := ki_NotHeld_NoTurn, ki_NotHeld_Waits := ki_NotHeld_Waits, ki_NotHeld_Stuck := ki_NotHeld_Stuck, ex_NotHeld_NoTurn := ex_NotHeld_NoTurn, ex_NotHeld_Waits := ex_NotHeld_Waits, ex_NotHeld_Again := ex_NotHeld_Again, ex_NotHeld_NotHeld := ex_NotHeld_NotHeld, ex_NotHeld_Stuck := ex_NotHeld_Stuck, ex_NotHeld_TooMany := ex_NotHeld_TooMany, ex_NotHeld_BadStep := ex_NotHeld_BadStep, ex_NotHeld_BadBox := ex_NotHeld_BadBox, ex_NotHeld_WeaveError := ex_NotHeld_WeaveError, ec_Stuck := ⟨e1_Stuck, e2_Stuck, s_Stuck, e3_Stuck, e4_Stuck, e5_Stuck, e6_Stuck, e7_Stuck⟩, kv_Stuck := kv_Stuck, ki_Stuck_TooMany := ki_Stuck_TooMany, ki_Stuck_BadStep := ki_Stuck_BadStep, ki_Stuck_BadBox := ki_Stuck_BadBox, ki_Stuck_Again := ki_Stuck_Again, ki_Stuck_NotHeld := ki_Stuck_NotHeld, ki_Stuck_NoTurn := ki_Stuck_NoTurn, ki_Stuck_Waits := ki_Stuck_Waits, ki_Stuck_Stuck := ki_Stuck_Stuck, ex_Stuck_NoTurn := ex_Stuck_NoTurn, ex_Stuck_Waits := ex_Stuck_Waits, ex_Stuck_Again := ex_Stuck_Again, ex_Stuck_NotHeld := ex_Stuck_NotHeld, ex_Stuck_Stuck := ex_Stuck_Stuck, ex_Stuck_TooMany := ex_Stuck_TooMany, ex_Stuck_BadStep := ex_Stuck_BadStep, ex_Stuck_BadBox := ex_Stuck_BadBox, ex_Stuck_WeaveError := ex_Stuck_WeaveError, ec_TooMany := ⟨e1_TooMany, e2_TooMany, s_TooMany, e3_TooMany, e4_TooMany, e5_TooMany, e6_TooMany, e7_TooMany⟩, kv_TooMany := kv_TooMany, ki_TooMany_TooMany := ki_TooMany_TooMany, ki_TooMany_BadStep := ki_TooMany_BadStep, ki_TooMany_BadBox := ki_TooMany_BadBox, ki_TooMany_Again := ki_TooMany_Again, ki_TooMany_NotHeld := ki_TooMany_NotHeld, ki_TooMany_NoTurn := ki_TooMany_NoTurn, ki_TooMany_Waits := ki_TooMany_Waits, ki_TooMany_Stuck := ki_TooMany_Stuck, ex_TooMany_NoTurn := ex_TooMany_NoTurn, ex_TooMany_Waits := ex_TooMany_Waits, ex_TooMany_Again := ex_TooMany_Again, ex_TooMany_NotHeld := ex_TooMany_NotHeld, ex_TooMany_Stuck := ex_TooMany_Stuck, ex_TooMany_TooMany := ex_TooMany_TooMany, ex_TooMany_BadStep := ex_TooMany_BadStep, ex_TooMany_BadBox := ex_TooMany_BadBox, ex_TooMany_WeaveError := ex_TooMany_WeaveError, ec_BadStep := ⟨e1_BadStep, e2_BadStep, s_BadStep, e3_BadStep, e4_BadStep, e5_BadStep, e6_BadStep, e7_BadStep⟩, kv_BadStep := kv_BadStep, ki_BadStep_TooMany := ki_BadStep_TooMany, ki_BadStep_BadStep := ki_BadStep_BadStep, ki_BadStep_BadBox := ki_BadStep_BadBox, ki_BadStep_Again := ki_BadStep_Again, ki_BadStep_NotHeld := ki_BadStep_NotHeld, ki_BadStep_NoTurn := ki_BadStep_NoTurn, ki_BadStep_Waits := ki_BadStep_Waits, ki_BadStep_Stuck := ki_BadStep_Stuck, ex_BadStep_NoTurn := ex_BadStep_NoTurn, ex_BadStep_Waits := ex_BadStep_Waits, ex_BadStep_Again := ex_BadStep_Again, ex_BadStep_NotHeld := ex_BadStep_NotHeld, ex_BadStep_Stuck := ex_BadStep_Stuck, ex_BadStep_TooMany := ex_BadStep_TooMany, ex_BadStep_BadStep := ex_BadStep_BadStep, ex_BadStep_BadBox := ex_BadStep_BadBox, ex_BadStep_WeaveError := ex_BadStep_WeaveError, ec_BadBox := ⟨e1_BadBox, e2_BadBox, s_BadBox, e3_BadBox, e4_BadBox, e5_BadBox, e6_BadBox, e7_BadBox⟩, kv_BadBox := kv_BadBox, ki_BadBox_TooMany := ki_BadBox_TooMany, ki_BadBox_BadStep := ki_BadBox_BadStep, ki_BadBox_BadBox := ki_BadBox_BadBox, ki_BadBox_Again := ki_BadBox_Again, ki_BadBox_NotHeld := ki_BadBox_NotHeld, ki_BadBox_NoTurn := ki_BadBox_NoTurn, ki_BadBox_Waits := ki_BadBox_Waits, ki_BadBox_Stuck := ki_BadBox_Stuck, ex_BadBox_NoTurn := ex_BadBox_NoTurn, ex_BadBox_Waits := ex_BadBox_Waits, ex_BadBox_Again := ex_BadBox_Again, ex_BadBox_NotHeld := ex_BadBox_NotHeld, ex_BadBox_Stuck := ex_BadBox_Stuck, ex_BadBox_TooMany := ex_BadBox_TooMany, ex_BadBox_BadStep := ex_BadBox_BadStep, ex_BadBox_BadBox := ex_BadBox_BadBox, ex_BadBox_WeaveError := ex_BadBox_WeaveError }
  exact ⟨T.d_law, fun s v => .of_eq rfl, fun base _ _ => ok_law T⟩
end My
open PySem PySem.W PyProof.Rows
set_option maxRecDepth 100000 in
set_option maxHeartbeats 0 in
theorem PySem.Challenge.cw_guardrows_k04_rows_refused_holds : PySem.Challenge.rw_guardrows_k04_rows_refused.Holds := by
  w_on; o_law; k_head; (case hw => w_witness2)
  k_fill
  refine L2.walk_ofB (l := PySem.Challenge.rw_guardrows_k04_rows_refused) (n := 63) (k := 16) (x := "_law_script") (CX := fun _ => L2.CX0) (sp := fun w => G.SpD _ My.R_law) rfl (by decide) rfl ⟨rfl, by decide, by decide⟩ (fun w h Y => PySem.W.kIn_of Y) ?F (fun w H a ns hl hb _ hS => G.law_sp ⟨ns, rfl, fun z hz => My.bits_log (hb z hz), hl, rfl⟩ hS) (fun _ _ _ _ _ h => h)
  case F =>
    intro w mg fa h KX G hmg
    refine' My.all_mk KX G hmg ?a_wall ?l_wall ?c_wall ?k_wall ?a_is_whole ?l_is_whole ?c_is_whole ?k_is_whole ?a_is_step ?l_is_step ?c_is_step ?k_is_step ?a_check_row ?l_check_row ?c_check_row ?k_check_row ?a_alone ?l_alone ?c_alone ?k_alone ?a_walked ?l_walked ?c_walked ?k_walked ?a_woven ?l_woven ?c_woven ?k_woven ?a_can_go ?l_can_go ?c_can_go ?k_can_go ?a_finish ?l_finish ?c_finish ?k_finish ?a_strange ?l_strange ?c_strange ?k_strange ?a_check_rows ?l_check_rows ?c_check_rows ?k_check_rows ?a_told ?l_told ?c_told ?k_told ?a_plain_orders ?l_plain_orders ?c_plain_orders ?k_plain_orders ?a_all_orders ?l_all_orders ?c_all_orders ?k_all_orders ?a_l_cell_at ?l_l_cell_at ?c_l_cell_at ?k_l_cell_at ?a_l_put ?l_l_put ?c_l_put ?k_l_put ?a_l_row_by ?l_l_row_by ?c_l_row_by ?k_l_row_by ?a_l_wrong_by ?l_l_wrong_by ?c_l_wrong_by ?k_l_wrong_by ?a_l_due ?l_l_due ?c_l_due ?k_l_due ?a_l_asked ?l_l_asked ?c_l_asked ?k_l_asked ?a_l_names ?l_l_names ?c_l_names ?k_l_names ?a_l_told ?l_l_told ?c_l_told ?k_l_told ?a_l_with_guards ?l_l_with_guards ?c_l_with_guards ?k_l_with_guards ?a_law ?l_law ?c_law ?k_law ?a_BOX_WORDS ?l_BOX_WORDS ?v_BOX_WORDS ?a_GUARD_WORDS ?l_GUARD_WORDS ?v_GUARD_WORDS ?a_BARE_WORDS ?l_BARE_WORDS ?v_BARE_WORDS ?a_MOST_STEPS ?a_MOST_SEARCHED ?z_len ?z_isinstance ?z_int ?z_bool ?z_str ?z_list ?z_tuple ?z_range ?z_enumerate ?z_ValueError ?aC_Loom ?pg_Loom ?hd_Loom ?po_Loom ?sa_Loom ?mk_Loom ?kc_Loom ?no__rows ?no_boxes ?no_numbers ?no_places ?no_holder ?a_Loom___init ?i_Loom___init ?l_Loom___init ?c_Loom___init ?k_Loom___init ?a_Loom_over ?i_Loom_over ?l_Loom_over ?c_Loom_over ?k_Loom_over ?a_Loom_waits ?i_Loom_waits ?l_Loom_waits ?c_Loom_waits ?k_Loom_waits ?a_Loom_go ?i_Loom_go ?l_Loom_go ?c_Loom_go ?k_Loom_go ?a_Loom_twin ?i_Loom_twin ?l_Loom_twin ?c_Loom_twin ?k_Loom_twin ?a_Loom__next_step ?i_Loom__next_step ?l_Loom__next_step ?c_Loom__next_step ?k_Loom__next_step ?a_Loom__do_guard ?i_Loom__do_guard ?l_Loom__do_guard ?c_Loom__do_guard ?k_Loom__do_guard ?a_Loom__do_box ?i_Loom__do_box ?l_Loom__do_box ?c_Loom__do_box ?k_Loom__do_box ?g_NoTurn ?x_NoTurn ?kx_NoTurn ?s_NoTurn ?t_NoTurn ?g_Waits ?x_Waits ?kx_Waits ?s_Waits ?t_Waits ?g_Again ?x_Again ?kx_Again ?s_Again ?t_Again ?g_NotHeld ?x_NotHeld ?kx_NotHeld ?s_NotHeld ?t_NotHeld ?g_Stuck ?x_Stuck ?kx_Stuck ?s_Stuck ?t_Stuck ?g_TooMany ?x_TooMany ?kx_TooMany ?s_TooMany ?t_TooMany ?g_BadStep ?x_BadStep ?kx_BadStep ?s_BadStep ?t_BadStep ?g_BadBox ?x_BadBox ?kx_BadBox ?s_BadBox ?t_BadBox ?g_WeaveError ?e1_NoTurn ?e2_NoTurn ?e3_NoTurn ?e4_NoTurn ?e5_NoTurn ?e6_NoTurn ?e7_NoTurn ?kv_NoTurn ?ki_NoTurn_TooMany ?ki_NoTurn_BadStep ?ki_NoTurn_BadBox ?ki_NoTurn_Again ?ki_NoTurn_NotHeld ?ki_NoTurn_NoTurn ?ki_NoTurn_Waits ?ki_NoTurn_Stuck ?ex_NoTurn_NoTurn ?ex_NoTurn_Waits ?ex_NoTurn_Again ?ex_NoTurn_NotHeld ?ex_NoTurn_Stuck ?ex_NoTurn_TooMany ?ex_NoTurn_BadStep ?ex_NoTurn_BadBox ?ex_NoTurn_WeaveError ?e1_Waits ?e2_Waits ?e3_Waits ?e4_Waits ?e5_Waits ?e6_Waits ?e7_Waits ?kv_Waits ?ki_Waits_TooMany ?ki_Waits_BadStep ?ki_Waits_BadBox ?ki_Waits_Again ?ki_Waits_NotHeld ?ki_Waits_NoTurn ?ki_Waits_Waits ?ki_Waits_Stuck ?ex_Waits_NoTurn ?ex_Waits_Waits ?ex_Waits_Again ?ex_Waits_NotHeld ?ex_Waits_Stuck ?ex_Waits_TooMany ?ex_Waits_BadStep ?ex_Waits_BadBox ?ex_Waits_WeaveError ?e1_Again ?e2_Again ?e3_Again ?e4_Again ?e5_Again ?e6_Again ?e7_Again ?kv_Again ?ki_Again_TooMany ?ki_Again_BadStep ?ki_Again_BadBox ?ki_Again_Again ?ki_Again_NotHeld ?ki_Again_NoTurn ?ki_Again_Waits ?ki_Again_Stuck ?ex_Again_NoTurn ?ex_Again_Waits ?ex_Again_Again ?ex_Again_NotHeld ?ex_Again_Stuck ?ex_Again_TooMany ?ex_Again_BadStep ?ex_Again_BadBox ?ex_Again_WeaveError ?e1_NotHeld ?e2_NotHeld ?e3_NotHeld ?e4_NotHeld ?e5_NotHeld ?e6_NotHeld ?e7_NotHeld ?kv_NotHeld ?ki_NotHeld_TooMany ?ki_NotHeld_BadStep ?ki_NotHeld_BadBox ?ki_NotHeld_Again ?ki_NotHeld_NotHeld ?ki_NotHeld_NoTurn ?ki_NotHeld_Waits ?ki_NotHeld_Stuck ?ex_NotHeld_NoTurn ?ex_NotHeld_Waits ?ex_NotHeld_Again ?ex_NotHeld_NotHeld ?ex_NotHeld_Stuck ?ex_NotHeld_TooMany ?ex_NotHeld_BadStep ?ex_NotHeld_BadBox ?ex_NotHeld_WeaveError ?e1_Stuck ?e2_Stuck ?e3_Stuck ?e4_Stuck ?e5_Stuck ?e6_Stuck ?e7_Stuck ?kv_Stuck ?ki_Stuck_TooMany ?ki_Stuck_BadStep ?ki_Stuck_BadBox ?ki_Stuck_Again ?ki_Stuck_NotHeld ?ki_Stuck_NoTurn ?ki_Stuck_Waits ?ki_Stuck_Stuck ?ex_Stuck_NoTurn ?ex_Stuck_Waits ?ex_Stuck_Again ?ex_Stuck_NotHeld ?ex_Stuck_Stuck ?ex_Stuck_TooMany ?ex_Stuck_BadStep ?ex_Stuck_BadBox ?ex_Stuck_WeaveError ?e1_TooMany ?e2_TooMany ?e3_TooMany ?e4_TooMany ?e5_TooMany ?e6_TooMany ?e7_TooMany ?kv_TooMany ?ki_TooMany_TooMany ?ki_TooMany_BadStep ?ki_TooMany_BadBox ?ki_TooMany_Again ?ki_TooMany_NotHeld ?ki_TooMany_NoTurn ?ki_TooMany_Waits ?ki_TooMany_Stuck ?ex_TooMany_NoTurn ?ex_TooMany_Waits ?ex_TooMany_Again ?ex_TooMany_NotHeld ?ex_TooMany_Stuck ?ex_TooMany_TooMany ?ex_TooMany_BadStep ?ex_TooMany_BadBox ?ex_TooMany_WeaveError ?e1_BadStep ?e2_BadStep ?e3_BadStep ?e4_BadStep ?e5_BadStep ?e6_BadStep ?e7_BadStep ?kv_BadStep ?ki_BadStep_TooMany ?ki_BadStep_BadStep ?ki_BadStep_BadBox ?ki_BadStep_Again ?ki_BadStep_NotHeld ?ki_BadStep_NoTurn ?ki_BadStep_Waits ?ki_BadStep_Stuck ?ex_BadStep_NoTurn ?ex_BadStep_Waits ?ex_BadStep_Again ?ex_BadStep_NotHeld ?ex_BadStep_Stuck ?ex_BadStep_TooMany ?ex_BadStep_BadStep ?ex_BadStep_BadBox ?ex_BadStep_WeaveError ?e1_BadBox ?e2_BadBox ?e3_BadBox ?e4_BadBox ?e5_BadBox ?e6_BadBox ?e7_BadBox ?kv_BadBox ?ki_BadBox_TooMany ?ki_BadBox_BadStep ?ki_BadBox_BadBox ?ki_BadBox_Again ?ki_BadBox_NotHeld ?ki_BadBox_NoTurn ?ki_BadBox_Waits ?ki_BadBox_Stuck ?ex_BadBox_NoTurn ?ex_BadBox_Waits ?ex_BadBox_Again ?ex_BadBox_NotHeld ?ex_BadBox_Stuck ?ex_BadBox_TooMany ?ex_BadBox_BadStep ?ex_BadBox_BadBox ?ex_BadBox_WeaveError
    (case a_wall => k_is)
    (case l_wall => k_is)
    (case c_wall => k_is)
    (case k_wall => k_is)
    (case a_is_whole => k_is)
    (case l_is_whole => k_is)
    (case c_is_whole => k_is)
    (case k_is_whole => k_is)
    (case a_is_step => k_is)
    (case l_is_step => k_is)
    (case c_is_step => k_is)
    (case k_is_step => k_is)
    (case a_check_row => k_is)
    (case l_check_row => k_is)
    (case c_check_row => k_is)
    (case k_check_row => k_is)
    (case a_alone => k_is)
    (case l_alone => k_is)
    (case c_alone => k_is)
    (case k_alone => k_is)
    (case a_walked => k_is)
    (case l_walked => k_is)
    (case c_walked => k_is)
    (case k_walked => k_is)
    (case a_woven => k_is)
    (case l_woven => k_is)
    (case c_woven => k_is)
    (case k_woven => k_is)
    (case a_can_go => k_is)
    (case l_can_go => k_is)
    (case c_can_go => k_is)
    (case k_can_go => k_is)
    (case a_finish => k_is)
    (case l_finish => k_is)
    (case c_finish => k_is)
    (case k_finish => k_is)
    (case a_strange => k_is)
    (case l_strange => k_is)
    (case c_strange => k_is)
    (case k_strange => k_is)
    (case a_check_rows => k_is)
    (case l_check_rows => k_is)
    (case c_check_rows => k_is)
    (case k_check_rows => k_is)
    (case a_told => k_is)
    (case l_told => k_is)
    (case c_told => k_is)
    (case k_told => k_is)
    (case a_plain_orders => k_is)
    (case l_plain_orders => k_is)
    (case c_plain_orders => k_is)
    (case k_plain_orders => k_is)
    (case a_all_orders => k_is)
    (case l_all_orders => k_is)
    (case c_all_orders => k_is)
    (case k_all_orders => k_is)
    (case a_l_cell_at => k_is)
    (case l_l_cell_at => k_is)
    (case c_l_cell_at => k_is)
    (case k_l_cell_at => k_is)
    (case a_l_put => k_is)
    (case l_l_put => k_is)
    (case c_l_put => k_is)
    (case k_l_put => k_is)
    (case a_l_row_by => k_is)
    (case l_l_row_by => k_is)
    (case c_l_row_by => k_is)
    (case k_l_row_by => k_is)
    (case a_l_wrong_by => k_is)
    (case l_l_wrong_by => k_is)
    (case c_l_wrong_by => k_is)
    (case k_l_wrong_by => k_is)
    (case a_l_due => k_is)
    (case l_l_due => k_is)
    (case c_l_due => k_is)
    (case k_l_due => k_is)
    (case a_l_asked => k_is)
    (case l_l_asked => k_is)
    (case c_l_asked => k_is)
    (case k_l_asked => k_is)
    (case a_l_names => k_is)
    (case l_l_names => k_is)
    (case c_l_names => k_is)
    (case k_l_names => k_is)
    (case a_l_told => k_is)
    (case l_l_told => k_is)
    (case c_l_told => k_is)
    (case k_l_told => k_is)
    (case a_l_with_guards => k_is)
    (case l_l_with_guards => k_is)
    (case c_l_with_guards => k_is)
    (case k_l_with_guards => k_is)
    (case a_law => k_is)
    (case l_law => k_is)
    (case c_law => k_is)
    (case k_law => k_is)
    (case a_BOX_WORDS => k_is)
    (case l_BOX_WORDS => k_is)
    (case a_GUARD_WORDS => k_is)
    (case l_GUARD_WORDS => k_is)
    (case a_BARE_WORDS => k_is)
    (case l_BARE_WORDS => k_is)
    (case a_MOST_STEPS => k_is)
    (case a_MOST_SEARCHED => k_is)
    (case z_len => k_is)
    (case z_isinstance => k_is)
    (case z_int => k_is)
    (case z_bool => k_is)
    (case z_str => k_is)
    (case z_list => k_is)
    (case z_tuple => k_is)
    (case z_range => k_is)
    (case z_enumerate => k_is)
    (case z_ValueError => k_is)
    (case aC_Loom => k_is)
    (case pg_Loom => k_is)
    (case hd_Loom => k_is)
    (case po_Loom => k_is)
    (case sa_Loom => k_is)
    (case mk_Loom => k_is)
    (case kc_Loom => k_is)
    (case no__rows => k_is)
    (case no_boxes => k_is)
    (case no_numbers => k_is)
    (case no_places => k_is)
    (case no_holder => k_is)
    (case a_Loom___init => k_is)
    (case i_Loom___init => k_is)
    (case l_Loom___init => k_is)
    (case c_Loom___init => k_is)
    (case k_Loom___init => k_is)
    (case a_Loom_over => k_is)
    (case i_Loom_over => k_is)
    (case l_Loom_over => k_is)
    (case c_Loom_over => k_is)
    (case k_Loom_over => k_is)
    (case a_Loom_waits => k_is)
    (case i_Loom_waits => k_is)
    (case l_Loom_waits => k_is)
    (case c_Loom_waits => k_is)
    (case k_Loom_waits => k_is)
    (case a_Loom_go => k_is)
    (case i_Loom_go => k_is)
    (case l_Loom_go => k_is)
    (case c_Loom_go => k_is)
    (case k_Loom_go => k_is)
    (case a_Loom_twin => k_is)
    (case i_Loom_twin => k_is)
    (case l_Loom_twin => k_is)
    (case c_Loom_twin => k_is)
    (case k_Loom_twin => k_is)
    (case a_Loom__next_step => k_is)
    (case i_Loom__next_step => k_is)
    (case l_Loom__next_step => k_is)
    (case c_Loom__next_step => k_is)
    (case k_Loom__next_step => k_is)
    (case a_Loom__do_guard => k_is)
    (case i_Loom__do_guard => k_is)
    (case l_Loom__do_guard => k_is)
    (case c_Loom__do_guard => k_is)
    (case k_Loom__do_guard => k_is)
    (case a_Loom__do_box => k_is)
    (case i_Loom__do_box => k_is)
    (case l_Loom__do_box => k_is)
    (case c_Loom__do_box => k_is)
    (case k_Loom__do_box => k_is)
    (case g_NoTurn => k_is)
    (case x_NoTurn => k_exc)
    (case kx_NoTurn => k_is)
    (case s_NoTurn => k_is)
    (case t_NoTurn => k_is)
    (case g_Waits => k_is)
    (case x_Waits => k_exc)
    (case kx_Waits => k_is)
    (case s_Waits => k_is)
    (case t_Waits => k_is)
    (case g_Again => k_is)
    (case x_Again => k_exc)
    (case kx_Again => k_is)
    (case s_Again => k_is)
    (case t_Again => k_is)
    (case g_NotHeld => k_is)
    (case x_NotHeld => k_exc)
    (case kx_NotHeld => k_is)
    (case s_NotHeld => k_is)
    (case t_NotHeld => k_is)
    (case g_Stuck => k_is)
    (case x_Stuck => k_exc)
    (case kx_Stuck => k_is)
    (case s_Stuck => k_is)
    (case t_Stuck => k_is)
    (case g_TooMany => k_is)
    (case x_TooMany => k_exc)
    (case kx_TooMany => k_is)
    (case s_TooMany => k_is)
    (case t_TooMany => k_is)
    (case g_BadStep => k_is)
    (case x_BadStep => k_exc)
    (case kx_BadStep => k_is)
    (case s_BadStep => k_is)
    (case t_BadStep => k_is)
    (case g_BadBox => k_is)
    (case x_BadBox => k_exc)
    (case kx_BadBox => k_is)
    (case s_BadBox => k_is)
    (case t_BadBox => k_is)
    (case g_WeaveError => k_is)
    (case e1_NoTurn => k_is)
    (case e2_NoTurn => k_is)
    (case e3_NoTurn => k_is)
    (case e4_NoTurn => k_is)
    (case e5_NoTurn => k_is)
    (case e6_NoTurn => k_is)
    (case e7_NoTurn => k_is)
    (case kv_NoTurn => first | rfl | k_is)
    (case ki_NoTurn_TooMany => first | rfl | k_is)
    (case ki_NoTurn_BadStep => first | rfl | k_is)
    (case ki_NoTurn_BadBox => first | rfl | k_is)
    (case ki_NoTurn_Again => first | rfl | k_is)
    (case ki_NoTurn_NotHeld => first | rfl | k_is)
    (case ki_NoTurn_NoTurn => first | rfl | k_is)
    (case ki_NoTurn_Waits => first | rfl | k_is)
    (case ki_NoTurn_Stuck => first | rfl | k_is)
    (case ex_NoTurn_NoTurn => first | rfl | k_is)
    (case ex_NoTurn_Waits => first | rfl | k_is)
    (case ex_NoTurn_Again => first | rfl | k_is)
    (case ex_NoTurn_NotHeld => first | rfl | k_is)
    (case ex_NoTurn_Stuck => first | rfl | k_is)
    (case ex_NoTurn_TooMany => first | rfl | k_is)
    (case ex_NoTurn_BadStep => first | rfl | k_is)
    (case ex_NoTurn_BadBox => first | rfl | k_is)
    (case ex_NoTurn_WeaveError => first | rfl | k_is)
    (case e1_Waits => k_is)
    (case e2_Waits => k_is)
    (case e3_Waits => k_is)
    (case e4_Waits => k_is)
    (case e5_Waits => k_is)
    (case e6_Waits => k_is)
    (case e7_Waits => k_is)
    (case kv_Waits => first | rfl | k_is)
    (case ki_Waits_TooMany => first | rfl | k_is)
    (case ki_Waits_BadStep => first | rfl | k_is)
    (case ki_Waits_BadBox => first | rfl | k_is)
    (case ki_Waits_Again => first | rfl | k_is)
    (case ki_Waits_NotHeld => first | rfl | k_is)
    (case ki_Waits_NoTurn => first | rfl | k_is)
    (case ki_Waits_Waits => first | rfl | k_is)
    (case ki_Waits_Stuck => first | rfl | k_is)
    (case ex_Waits_NoTurn => first | rfl | k_is)
    (case ex_Waits_Waits => first | rfl | k_is)
    (case ex_Waits_Again => first | rfl | k_is)
    (case ex_Waits_NotHeld => first | rfl | k_is)
    (case ex_Waits_Stuck => first | rfl | k_is)
    (case ex_Waits_TooMany => first | rfl | k_is)
    (case ex_Waits_BadStep => first | rfl | k_is)
    (case ex_Waits_BadBox => first | rfl | k_is)
    (case ex_Waits_WeaveError => first | rfl | k_is)
    (case e1_Again => k_is)
    (case e2_Again => k_is)
    (case e3_Again => k_is)
    (case e4_Again => k_is)
    (case e5_Again => k_is)
    (case e6_Again => k_is)
    (case e7_Again => k_is)
    (case kv_Again => first | rfl | k_is)
    (case ki_Again_TooMany => first | rfl | k_is)
    (case ki_Again_BadStep => first | rfl | k_is)
    (case ki_Again_BadBox => first | rfl | k_is)
    (case ki_Again_Again => first | rfl | k_is)
    (case ki_Again_NotHeld => first | rfl | k_is)
    (case ki_Again_NoTurn => first | rfl | k_is)
    (case ki_Again_Waits => first | rfl | k_is)
    (case ki_Again_Stuck => first | rfl | k_is)
    (case ex_Again_NoTurn => first | rfl | k_is)
    (case ex_Again_Waits => first | rfl | k_is)
    (case ex_Again_Again => first | rfl | k_is)
    (case ex_Again_NotHeld => first | rfl | k_is)
    (case ex_Again_Stuck => first | rfl | k_is)
    (case ex_Again_TooMany => first | rfl | k_is)
    (case ex_Again_BadStep => first | rfl | k_is)
    (case ex_Again_BadBox => first | rfl | k_is)
    (case ex_Again_WeaveError => first | rfl | k_is)
    (case e1_NotHeld => k_is)
    (case e2_NotHeld => k_is)
    (case e3_NotHeld => k_is)
    (case e4_NotHeld => k_is)
    (case e5_NotHeld => k_is)
    (case e6_NotHeld => k_is)
    (case e7_NotHeld => k_is)
    (case kv_NotHeld => first | rfl | k_is)
    (case ki_NotHeld_TooMany => first | rfl | k_is)
    (case ki_NotHeld_BadStep => first | rfl | k_is)
    (case ki_NotHeld_BadBox => first | rfl | k_is)
    (case ki_NotHeld_Again => first | rfl | k_is)
    (case ki_NotHeld_NotHeld => first | rfl | k_is)
    (case ki_NotHeld_NoTurn => first | rfl | k_is)
    (case ki_NotHeld_Waits => first | rfl | k_is)
    (case ki_NotHeld_Stuck => first | rfl | k_is)
    (case ex_NotHeld_NoTurn => first | rfl | k_is)
    (case ex_NotHeld_Waits => first | rfl | k_is)
    (case ex_NotHeld_Again => first | rfl | k_is)
    (case ex_NotHeld_NotHeld => first | rfl | k_is)
    (case ex_NotHeld_Stuck => first | rfl | k_is)
    (case ex_NotHeld_TooMany => first | rfl | k_is)
    (case ex_NotHeld_BadStep => first | rfl | k_is)
    (case ex_NotHeld_BadBox => first | rfl | k_is)
    (case ex_NotHeld_WeaveError => first | rfl | k_is)
    (case e1_Stuck => k_is)
    (case e2_Stuck => k_is)
    (case e3_Stuck => k_is)
    (case e4_Stuck => k_is)
    (case e5_Stuck => k_is)
    (case e6_Stuck => k_is)
    (case e7_Stuck => k_is)
    (case kv_Stuck => first | rfl | k_is)
    (case ki_Stuck_TooMany => first | rfl | k_is)
    (case ki_Stuck_BadStep => first | rfl | k_is)
    (case ki_Stuck_BadBox => first | rfl | k_is)
    (case ki_Stuck_Again => first | rfl | k_is)
    (case ki_Stuck_NotHeld => first | rfl | k_is)
    (case ki_Stuck_NoTurn => first | rfl | k_is)
    (case ki_Stuck_Waits => first | rfl | k_is)
    (case ki_Stuck_Stuck => first | rfl | k_is)
    (case ex_Stuck_NoTurn => first | rfl | k_is)
    (case ex_Stuck_Waits => first | rfl | k_is)
    (case ex_Stuck_Again => first | rfl | k_is)
    (case ex_Stuck_NotHeld => first | rfl | k_is)
    (case ex_Stuck_Stuck => first | rfl | k_is)
    (case ex_Stuck_TooMany => first | rfl | k_is)
    (case ex_Stuck_BadStep => first | rfl | k_is)
    (case ex_Stuck_BadBox => first | rfl | k_is)
    (case ex_Stuck_WeaveError => first | rfl | k_is)
    (case e1_TooMany => k_is)
    (case e2_TooMany => k_is)
    (case e3_TooMany => k_is)
    (case e4_TooMany => k_is)
    (case e5_TooMany => k_is)
    (case e6_TooMany => k_is)
    (case e7_TooMany => k_is)
    (case kv_TooMany => first | rfl | k_is)
    (case ki_TooMany_TooMany => first | rfl | k_is)
    (case ki_TooMany_BadStep => first | rfl | k_is)
    (case ki_TooMany_BadBox => first | rfl | k_is)
    (case ki_TooMany_Again => first | rfl | k_is)
    (case ki_TooMany_NotHeld => first | rfl | k_is)
    (case ki_TooMany_NoTurn => first | rfl | k_is)
    (case ki_TooMany_Waits => first | rfl | k_is)
    (case ki_TooMany_Stuck => first | rfl | k_is)
    (case ex_TooMany_NoTurn => first | rfl | k_is)
    (case ex_TooMany_Waits => first | rfl | k_is)
    (case ex_TooMany_Again => first | rfl | k_is)
    (case ex_TooMany_NotHeld => first | rfl | k_is)
    (case ex_TooMany_Stuck => first | rfl | k_is)
    (case ex_TooMany_TooMany => first | rfl | k_is)
    (case ex_TooMany_BadStep => first | rfl | k_is)
    (case ex_TooMany_BadBox => first | rfl | k_is)
    (case ex_TooMany_WeaveError => first | rfl | k_is)
    (case e1_BadStep => k_is)
    (case e2_BadStep => k_is)
    (case e3_BadStep => k_is)
    (case e4_BadStep => k_is)
    (case e5_BadStep => k_is)
    (case e6_BadStep => k_is)
    (case e7_BadStep => k_is)
    (case kv_BadStep => first | rfl | k_is)
    (case ki_BadStep_TooMany => first | rfl | k_is)
    (case ki_BadStep_BadStep => first | rfl | k_is)
    (case ki_BadStep_BadBox => first | rfl | k_is)
    (case ki_BadStep_Again => first | rfl | k_is)
    (case ki_BadStep_NotHeld => first | rfl | k_is)
    (case ki_BadStep_NoTurn => first | rfl | k_is)
    (case ki_BadStep_Waits => first | rfl | k_is)
    (case ki_BadStep_Stuck => first | rfl | k_is)
    (case ex_BadStep_NoTurn => first | rfl | k_is)
    (case ex_BadStep_Waits => first | rfl | k_is)
    (case ex_BadStep_Again => first | rfl | k_is)
    (case ex_BadStep_NotHeld => first | rfl | k_is)
    (case ex_BadStep_Stuck => first | rfl | k_is)
    (case ex_BadStep_TooMany => first | rfl | k_is)
    (case ex_BadStep_BadStep => first | rfl | k_is)
    (case ex_BadStep_BadBox => first | rfl | k_is)
    (case ex_BadStep_WeaveError => first | rfl | k_is)
    (case e1_BadBox => k_is)
    (case e2_BadBox => k_is)
    (case e3_BadBox => k_is)
    (case e4_BadBox => k_is)
    (case e5_BadBox => k_is)
    (case e6_BadBox => k_is)
    (case e7_BadBox => k_is)
    (case kv_BadBox => first | rfl | k_is)
    (case ki_BadBox_TooMany => first | rfl | k_is)
    (case ki_BadBox_BadStep => first | rfl | k_is)
    (case ki_BadBox_BadBox => first | rfl | k_is)
    (case ki_BadBox_Again => first | rfl | k_is)
    (case ki_BadBox_NotHeld => first | rfl | k_is)
    (case ki_BadBox_NoTurn => first | rfl | k_is)
    (case ki_BadBox_Waits => first | rfl | k_is)
    (case ki_BadBox_Stuck => first | rfl | k_is)
    (case ex_BadBox_NoTurn => first | rfl | k_is)
    (case ex_BadBox_Waits => first | rfl | k_is)
    (case ex_BadBox_Again => first | rfl | k_is)
    (case ex_BadBox_NotHeld => first | rfl | k_is)
    (case ex_BadBox_Stuck => first | rfl | k_is)
    (case ex_BadBox_TooMany => first | rfl | k_is)
    (case ex_BadBox_BadStep => first | rfl | k_is)
    (case ex_BadBox_BadBox => first | rfl | k_is)
    (case ex_BadBox_WeaveError => first | rfl | k_is)
    (case v_BOX_WORDS => exact (.cons ⟨_, rfl⟩ (.cons ⟨_, rfl⟩ (.cons ⟨_, rfl⟩ .nil))))
    (case v_GUARD_WORDS => exact (.cons ⟨_, rfl⟩ (.cons ⟨_, rfl⟩ .nil)))
    (case v_BARE_WORDS => exact (.cons ⟨_, rfl⟩ (.cons ⟨_, rfl⟩ (.cons ⟨_, rfl⟩ .nil))))
