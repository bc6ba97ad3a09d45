import PyProof.Rows.All
import Wide.All
import OpenK.AllK
import Wide.FinOn
import HandS.ForMost
import HandS.IsInst
import HandS.Evl
import HandS.EndBits
import HandS.ExcOwn
import HandS.WordsExc
import HandS.TryMany
import HandS.TryOnly
import HandS.RaiseMore
import HandS.FStr
import HandS.HotCalls
import HandS.ExcIs
import HandS.Deep
import PyProof.GenCompD
import HandS.AnyAll
import HandS.EndTab
import HandS.Nested
import HandS.Style
import PySem.Challenge.RW_guardrows_k09_whole_who_is_ahead
set_option Elab.async false
set_option linter.all false
set_option maxRecDepth 100000
namespace L2
open PySem PySem.Spec
theorem PE.imp {X : Cx} {e : Expr} {t u : TE} (h : PE X e t) (k : ∀ σ H Q, u σ H Q → t σ H Q) : PE X e u := ⟨fun pins s σ H Q I q => h.run pins s σ H Q I (k σ H Q q)⟩
theorem PT.imp {X : Cx} {e : Expr} {t u : TT} (h : PT X e t) (k : ∀ σ H Q, u σ H Q → t σ H Q) : PT X e u := ⟨fun pins s σ H Q I q => h.run pins s σ H Q I (k σ H Q q)⟩
theorem PA.imp {X : Cx} {e : List Expr} {t u : TA} (h : PA X e t) (k : ∀ σ H Q, u σ H Q → t σ H Q) : PA X e u := ⟨fun pos pins s σ H Q I q => h.run pos pins s σ H Q I (k σ H Q q)⟩
theorem PS.imp {X : Cx} {e : Stmt} {t u : TS} (h : PS X e t) (k : ∀ D σ H, u D σ H → t D σ H) : PS X e u := ⟨fun pins s σ H D I q => h.run pins s σ H D I (k D σ H q)⟩
theorem PSs.imp {X : Cx} {e : List Stmt} {t u : TS} (h : PSs X e t) (k : ∀ D σ H, u D σ H → t D σ H) : PSs X e u := ⟨fun pins s σ H D I q => h.run pins s σ H D I (k D σ H q)⟩
theorem PW.imp {X : Cx} {e : Expr} {t u : TT} (h : PW X e t) (k : ∀ σ H Q, u σ H Q → t σ H Q) : PW X e u := ⟨fun wh pins s σ H Q I q => h.run wh pins s σ H Q I (k σ H Q q)⟩
end L2
namespace G
open PySem PySem.Spec PyProof.Rows L2
open Evl (Ex ex_l ex_t)
abbrev St := L2.St

/-! ### data in the heap -/
mutual
theorem dp_ex {K : PySem.W.Frag} {H H' : Hp} (e : Ex H H') : ∀ (d : PyData) (v : V), Dp K H v d → Dp K H' v d
  | .none, _, h => by cases h; exact .non
  | .bool b, _, h => by cases h; exact .bl b
  | .int i, _, h => by cases h; exact .int i
  | .str x, _, h => by cases h; exact .str x
  | .list ds, _, h => by
    cases h with
    | lst hs ha => exact .lst (ex_l e hs) (dps_ex e ds _ ha)
  | .tuple ds, _, h => by
    cases h with
    | tup hs ha => exact .tup (ex_t e hs) (dps_ex e ds _ ha)
  | .dict _, _, h => by cases h
theorem dps_ex {K : PySem.W.Frag} {H H' : Hp} (e : Ex H H') : ∀ (ds : List PyData) (vs : List V), DpAll K H vs ds → DpAll K H' vs ds
  | [], _, h => by cases h; exact .nil
  | d :: ds, _, h => by
    cases h with
    | cons h1 h2 => exact .cons (dp_ex e d _ h1) (dps_ex e ds _ h2)
end
theorem dps_len {K : PySem.W.Frag} {H : Hp} : ∀ {vs : List V} {ds : List PyData}, DpAll K H vs ds → vs.length = ds.length
  | _, _, .nil => rfl
  | _, _, .cons _ t => congrArg (· + 1) (dps_len t)
theorem dps_get {K : PySem.W.Frag} {H : Hp} : ∀ {vs : List V} {ds : List PyData} {i : Nat} {d : PyData}, DpAll K H vs ds → ds[i]? = some d → ∃ v, vs[i]? = some v ∧ Dp K H v d
  | _, _, _, _, .nil, e => by simp at e
  | _, _, 0, _, .cons h _, e => by simp at e; subst e; exact ⟨_, rfl, h⟩
  | _, _, i + 1, d, .cons _ t, e => by
    obtain ⟨v, h1, h2⟩ := dps_get (i := i) (d := d) t (by simpa using e)
    exact ⟨v, by simpa using h1, h2⟩
theorem dps_getV {K : PySem.W.Frag} {H : Hp} {vs : List V} {ds : List PyData} {i : Nat} {v : V} (h : DpAll K H vs ds) (e : vs[i]? = some v) : ∃ d, ds[i]? = some d ∧ Dp K H v d := by
  obtain ⟨hi, _⟩ := List.getElem?_eq_some_iff.mp e
  have hi' : i < ds.length := by rw [← dps_len h]; exact hi
  obtain ⟨v', e', hd⟩ := dps_get h (List.getElem?_eq_getElem hi')
  rw [e] at e'
  cases e'
  exact ⟨_, List.getElem?_eq_getElem hi', hd⟩
theorem dps_app {K : PySem.W.Frag} {H : Hp} : ∀ {vs ws : List V} {ds es : List PyData}, DpAll K H vs ds → DpAll K H ws es → DpAll K H (vs ++ ws) (ds ++ es)
  | _, _, _, _, .nil, s => s
  | _, _, _, _, .cons h t, s => .cons h (dps_app t s)
theorem dps_set {K : PySem.W.Frag} {H : Hp} {v : V} {d : PyData} (h : Dp K H v d) : ∀ {vs : List V} {ds : List PyData} (i : Nat), DpAll K H vs ds → DpAll K H (vs.set i v) (ds.set i d)
  | _, _, _, .nil => .nil
  | _, _, 0, .cons _ t => .cons h t
  | _, _, i + 1, .cons g t => .cons g (dps_set h i t)
theorem dps_take {K : PySem.W.Frag} {H : Hp} : ∀ {vs : List V} {ds : List PyData} (n : Nat), DpAll K H vs ds → DpAll K H (vs.take n) (ds.take n)
  | _, _, 0, _ => .nil
  | _, _, _ + 1, .nil => .nil
  | _, _, n + 1, .cons r t => .cons r (dps_take n t)
theorem dps_drop {K : PySem.W.Frag} {H : Hp} : ∀ {vs : List V} {ds : List PyData} (n : Nat), DpAll K H vs ds → DpAll K H (vs.drop n) (ds.drop n)
  | _, _, 0, r => r
  | _, _, _ + 1, .nil => .nil
  | _, _, n + 1, .cons _ t => dps_drop n t
theorem dps_ints {K : PySem.W.Frag} {H : Hp} : ∀ ns : List Int, DpAll K H (ns.map V.int) (ns.map PyData.int)
  | [] => .nil
  | n :: ns => .cons (.int n) (dps_ints ns)
theorem ints_of {K : PySem.W.Frag} {H : Hp} : ∀ {ns : List Int} {vs : List V}, DpAll K H vs (ns.map PyData.int) → vs = ns.map V.int
  | [], _, .nil => rfl
  | n :: ns, _, .cons h t => by
    cases h
    rw [ints_of t]
    rfl
theorem bools_of {K : PySem.W.Frag} {H : Hp} : ∀ {ns : List Bool} {vs : List V}, DpAll K H vs (ns.map PyData.bool) → vs = ns.map V.bl
  | [], _, .nil => rfl
  | n :: ns, _, .cons h t => by
    cases h
    rw [bools_of t]
    rfl

theorem shaped_int (i : Int) : SeqAt.shaped (.int i) = true := by simp [SeqAt.shaped, PyData.canLay0, PyData.depth]
theorem shaped_bool (i : Bool) : SeqAt.shaped (.bool i) = true := by simp [SeqAt.shaped, PyData.canLay0, PyData.depth]
theorem shaped_none : SeqAt.shaped .none = true := by simp [SeqAt.shaped, PyData.canLay0, PyData.depth]
theorem canLay_ints : ∀ ns : List Int, PyData.canLayAll0 (ns.map PyData.int) = true
  | [] => by simp [PyData.canLayAll0]
  | n :: ns => by simp [PyData.canLayAll0, PyData.canLay0, canLay_ints ns]
theorem eqv_int (i j : Int) : PyData.eqv (.int i) (.int j) = decide (i = j) := by simp [PyData.eqv, Bool.beq_eq_decide_eq]
theorem eqv_bool (i j : Bool) : PyData.eqv (.bool i) (.bool j) = (i == j) := by simp [PyData.eqv]
theorem depth_ints : ∀ ns : List Int, PyData.depthAll (ns.map PyData.int) = 0
  | [] => by simp [PyData.depthAll]
  | n :: ns => by simp [PyData.depthAll, PyData.depth, depth_ints ns]
theorem shaped_ints (ns : List Int) : SeqAt.shaped (.list (ns.map PyData.int)) = true := by simp [SeqAt.shaped, PyData.canLay0, PyData.depth, canLay_ints, depth_ints]
theorem shaped_str {x : Str} (h : PyData.strOk x = true) : SeqAt.shaped (.str x) = true := by simp [SeqAt.shaped, PyData.canLay0, PyData.depth, h]
/-! ### the pair of heaps: H0 what is data, H all -/
structure Ext (H0 H H0' H' : Hp) : Prop where
  e0 : Ex H0 H0'
  e1 : Ex H H'
  e2 : Ex H0' H'
  fr : ∀ p, H0 p = none → H p ≠ none → H0' p = none
theorem Ext.refl {H0 H : Hp} (e : Ex H0 H) : Ext H0 H H0 H := ⟨Ex.refl _, Ex.refl _, e, fun _ h _ => h⟩
theorem ne_none {H H' : Hp} (e : Ex H H') {p : Addr} (h : H p ≠ none) : H' p ≠ none := by
  cases q : H p with
  | none => exact absurd q h
  | some o => rw [e p o q]; exact fun z => nomatch z
theorem Ext.trans {H0 H H1 H' H2 H'' : Hp} (a : Ext H0 H H1 H') (b : Ext H1 H' H2 H'') : Ext H0 H H2 H'' :=
  ⟨a.e0.trans b.e0, a.e1.trans b.e1, b.e2, fun p h1 h2 => b.fr p (a.fr p h1 h2) (ne_none a.e1 h2)⟩
theorem free0 {H0 H : Hp} (e : Ex H0 H) {p : Addr} (h : H p = none) : H0 p = none := Evl.fresh_back e h
theorem ex_upd {H0 H : Hp} {p : Addr} {o : HO} (e : Ex H0 H) (h : H p = none) : Ex (upd H0 p o) (upd H p o) := fun a u q => by
  by_cases ha : a = p
  · subst ha; rw [upd_same] at q ⊢; exact q
  · rw [upd_ne ha] at q ⊢; exact e a u q
/-- a new piece of data -/
theorem Ext.new {H0 H : Hp} {p : Addr} {o : HO} (e : Ex H0 H) (h : H p = none) : Ext H0 H (upd H0 p o) (upd H p o) :=
  ⟨Ex.new (free0 e h), Ex.new h, ex_upd e h, fun q h1 h2 => by
    have : q ≠ p := fun z => h2 (by rw [z]; exact h)
    rw [upd_ne this]; exact h1⟩
/-- a new object that is no data -/
theorem Ext.newH {H0 H : Hp} {p : Addr} {o : HO} (e : Ex H0 H) (h : H p = none) : Ext H0 H H0 (upd H p o) :=
  ⟨Ex.refl _, Ex.new h, e.trans (Ex.new h), fun q h1 _ => h1⟩

structure Bs where
  H0 : Hp
  H : Hp
  ks : List Addr
  E : WX := fun _ _ _ _ => False
structure Fra (B : Bs) (H0 H : Hp) : Prop where
  e0 : Ex B.H0 H0
  e1 : ∀ b o, B.H b = some o → b ∉ B.ks → H b = some o
  e2 : Ex H0 H
  fr : ∀ p, B.H0 p = none → B.H p ≠ none → H0 p = none
  th : ∀ p, B.H p ≠ none → H p ≠ none
theorem Fra.ext {B : Bs} {H0 H H0' H' : Hp} (f : Fra B H0 H) (x : Ext H0 H H0' H') : Fra B H0' H' :=
  ⟨f.e0.trans x.e0, fun b o h n => x.e1 b o (f.e1 b o h n), x.e2, fun p h1 h2 => x.fr p (f.fr p h1 h2) (f.th p h2), fun p h => ne_none x.e1 (f.th p h)⟩
theorem Fra.refl {H0 H : Hp} {ks : List Addr} {E : WX} (e : Ex H0 H) : Fra ⟨H0, H, ks, E⟩ H0 H := ⟨Ex.refl _, fun _ _ h _ => h, e, fun _ h _ => h, fun _ h => h⟩
theorem Fra.toExt {H0 H H0' H' : Hp} {E : WX} (f : Fra ⟨H0, H, [], E⟩ H0' H') : Ext H0 H H0' H' := ⟨f.e0, fun b o h => f.e1 b o h (fun z => nomatch z), f.e2, f.fr⟩
theorem Fra.ofExt {H0 H H0' H' : Hp} {ks : List Addr} {E : WX} (x : Ext H0 H H0' H') : Fra ⟨H0, H, ks, E⟩ H0' H' := ⟨x.e0, fun b o h _ => x.e1 b o h, x.e2, x.fr, fun _ h => ne_none x.e1 h⟩
theorem Fra.trans {B : Bs} {H0 H H0' H' : Hp} {ks : List Addr} {E : WX} (f : Fra B H0 H) (g : Fra ⟨H0, H, ks, E⟩ H0' H') (hk : ∀ p ∈ ks, p ∈ B.ks ∨ B.H p = none) : Fra B H0' H' :=
  ⟨f.e0.trans g.e0, fun b o h n => g.e1 b o (f.e1 b o h n) (fun z => (hk b z).elim n fun q => nomatch (q.symm.trans h)), g.e2, fun p h1 h2 => g.fr p (f.fr p h1 h2) (f.th p h2), fun p h => g.th p (f.th p h)⟩

/-- a slot: not known, data, a value as it is -/
inductive Sl where
  | un
  | dat (d : PyData)
  | raw (v : V)
/-- what stands at an address that is owned -/
inductive OV where
  | lst (ds : List PyData)
  | ho (o : HO)
  | obj (C : Addr) (fs : List (Str × Sl))
  | ls (xs : List Sl)
abbrev Gam := List Sl
abbrev Sto := List (Addr × OV)
abbrev keys (S : Sto) : List Addr := S.map (·.1)
def SlOk (K : PySem.W.Frag) (H0 : Hp) (o : Option (Option V)) : Sl → Prop
  | .un => True
  | .dat d => ∃ v, o = some (some v) ∧ Dp K H0 v d
  | .raw v => o = some (some v)
theorem SlOk.ext {K : PySem.W.Frag} {H0 H0' : Hp} {o : Option (Option V)} (e : Ex H0 H0') : ∀ {s : Sl}, SlOk K H0 o s → SlOk K H0' o s
  | .un, _ => trivial
  | .dat d, ⟨v, h1, h2⟩ => ⟨v, h1, dp_ex e d v h2⟩
  | .raw _, h => h
theorem SlOk.dat {K : PySem.W.Frag} {H0 : Hp} {v : V} {d : PyData} (h : Dp K H0 v d) : SlOk K H0 (some (some v)) (.dat d) := ⟨v, rfl, h⟩
theorem SlOk.toDp {K : PySem.W.Frag} {H0 : Hp} {v : V} {d : PyData} (h : SlOk K H0 (some (some v)) (.dat d)) : Dp K H0 v d := by
  obtain ⟨v', e1, hv⟩ := h
  cases e1
  exact hv
/-- the attributes -/
inductive FsOk (K : PySem.W.Frag) (H0 : Hp) : List (Str × V) → List (Str × Sl) → Prop
  | nil : FsOk K H0 [] []
  | cons {x : Str} {v : V} {s : Sl} {vs : List (Str × V)} {fs : List (Str × Sl)} (h : SlOk K H0 (some (some v)) s) (t : FsOk K H0 vs fs) : FsOk K H0 ((x, v) :: vs) ((x, s) :: fs)
theorem FsOk.ext {K : PySem.W.Frag} {H0 H0' : Hp} (e : Ex H0 H0') : ∀ {vs : List (Str × V)} {fs : List (Str × Sl)}, FsOk K H0 vs fs → FsOk K H0' vs fs
  | _, _, .nil => .nil
  | _, _, .cons h t => .cons (h.ext e) (t.ext e)
theorem FsOk.len {K : PySem.W.Frag} {H0 : Hp} : ∀ {vs : List (Str × V)} {fs : List (Str × Sl)}, FsOk K H0 vs fs → vs.length = fs.length
  | _, _, .nil => rfl
  | _, _, .cons _ t => congrArg (· + 1) t.len
theorem FsOk.get {K : PySem.W.Frag} {H0 : Hp} {f : Str} : ∀ {vs : List (Str × V)} {fs : List (Str × Sl)} {s : Sl}, FsOk K H0 vs fs → fs.lookup f = some s → ∃ v, vs.lookup f = some v ∧ SlOk K H0 (some (some v)) s
  | _, _, s, .nil, e => by cases e
  | _, _, s, .cons (x := x) (v := v) h t, e => by
    rw [List.lookup_cons] at e ⊢
    cases hb : f == x with
    | true => rw [hb] at e; cases e; exact ⟨v, rfl, h⟩
    | false => rw [hb] at e; exact t.get e
theorem FsOk.no {K : PySem.W.Frag} {H0 : Hp} {f : Str} : ∀ {vs : List (Str × V)} {fs : List (Str × Sl)}, FsOk K H0 vs fs → fs.lookup f = none → vs.lookup f = none
  | _, _, .nil, _ => rfl
  | _, _, .cons (x := x) h t, e => by
    rw [List.lookup_cons] at e ⊢
    cases hb : f == x with
    | true => rw [hb] at e; cases e
    | false => rw [hb] at e; exact t.no e
def putS (f : Str) (s : Sl) : List (Str × Sl) → List (Str × Sl)
  | [] => [(f, s)]
  | (g, x) :: r => if g = f then (g, s) :: r else (g, x) :: putS f s r
theorem FsOk.put {K : PySem.W.Frag} {H0 : Hp} {f : Str} {v : V} {s : Sl} (h : SlOk K H0 (some (some v)) s) : ∀ {vs : List (Str × V)} {fs : List (Str × Sl)}, FsOk K H0 vs fs → FsOk K H0 (putF f v vs) (putS f s fs)
  | _, _, .nil => .cons h .nil
  | _, _, .cons (x := x) h' t => by
    unfold putF putS
    by_cases e : x = f
    · rw [if_pos e, if_pos e]; exact .cons h t
    · rw [if_neg e, if_neg e]; exact .cons h' (t.put h)
def OvOk (K : PySem.W.Frag) (H0 H : Hp) (p : Addr) : OV → Prop
  | .lst ds => ∃ vs, H p = some (.lst vs) ∧ DpAll K H0 vs ds
  | .ho o => H p = some o
  | .obj C fs => ∃ dx vs, H p = some (.ins C dx vs) ∧ FsOk K H0 vs fs
  | .ls xs => ∃ vs, H p = some (.lst vs) ∧ Paired (fun v s => SlOk K H0 (some (some v)) s) vs xs
theorem paired_imp {α β : Type} {R Q : α → β → Prop} (k : ∀ a b, R a b → Q a b) : ∀ {xs : List α} {ys : List β}, Paired R xs ys → Paired Q xs ys
  | _, _, .nil => .nil
  | _, _, .cons h t => .cons (k _ _ h) (paired_imp k t)
theorem OvOk.ne {K : PySem.W.Frag} {H0 H : Hp} {p : Addr} : ∀ {ov : OV}, OvOk K H0 H p ov → H p ≠ none
  | .lst _, ⟨_, h, _⟩ => by rw [h]; exact fun z => nomatch z
  | .ho _, h => by rw [show H p = _ from h]; exact fun z => nomatch z
  | .obj _ _, ⟨_, _, h, _⟩ => by rw [h]; exact fun z => nomatch z
  | .ls _, ⟨_, h, _⟩ => by rw [h]; exact fun z => nomatch z
theorem OvOk.ext {K : PySem.W.Frag} {H0 H H0' H' : Hp} {p : Addr} (e0 : Ex H0 H0') (e1 : ∀ o, H p = some o → H' p = some o) : ∀ {ov : OV}, OvOk K H0 H p ov → OvOk K H0' H' p ov
  | .lst ds, ⟨vs, h, k⟩ => ⟨vs, e1 _ h, dps_ex e0 ds vs k⟩
  | .ho _, h => e1 _ h
  | .obj _ _, ⟨dx, vs, h, k⟩ => ⟨dx, vs, e1 _ h, k.ext e0⟩
  | .ls _, ⟨vs, h, k⟩ => ⟨vs, e1 _ h, paired_imp (fun _ _ q => q.ext e0) k⟩
structure EnvOk (K : PySem.W.Frag) (H0 : Hp) (σ : St) (Γ : Gam) : Prop where
  len : σ.length = Γ.length
  at_ : ∀ (i : Nat) (s : Sl), Γ[i]? = some s → SlOk K H0 (σ[i]?) s
theorem EnvOk.ext {K : PySem.W.Frag} {H0 H0' : Hp} {σ : St} {Γ : Gam} (e : Ex H0 H0') (h : EnvOk K H0 σ Γ) : EnvOk K H0' σ Γ := ⟨h.len, fun i s q => (h.at_ i s q).ext e⟩
theorem EnvOk.set {K : PySem.W.Frag} {H0 : Hp} {σ : St} {Γ : Gam} (h : EnvOk K H0 σ Γ) (i : Nat) {v : V} {s : Sl} (q : SlOk K H0 (some (some v)) s) : EnvOk K H0 (σ.set i (some v)) (Γ.set i s) := by
  refine ⟨by rw [List.length_set, List.length_set]; exact h.len, fun j t e => ?_⟩
  by_cases hj : i = j
  · subst hj
    have hi : i < Γ.length := by
      by_cases hi : i < Γ.length
      · exact hi
      · rw [List.getElem?_eq_none_iff.mpr (by rw [List.length_set]; omega)] at e; cases e
    rw [List.getElem?_set_self hi] at e
    cases e
    rw [List.getElem?_set_self (by rw [h.len]; exact hi)]
    exact q
  · rw [List.getElem?_set_ne hj] at e ⊢
    exact h.at_ j t e
structure StoOk (K : PySem.W.Frag) (H0 H : Hp) (S : Sto) : Prop where
  at_ : ∀ p ov, (p, ov) ∈ S → H0 p = none ∧ OvOk K H0 H p ov
  nd : (keys S).Nodup
theorem StoOk.ext {K : PySem.W.Frag} {H0 H H0' H' : Hp} {S : Sto} (h : StoOk K H0 H S) (x : Ext H0 H H0' H') : StoOk K H0' H' S := by
  refine ⟨fun p ov m => ?_, h.nd⟩
  obtain ⟨h1, h2⟩ := h.at_ p ov m
  exact ⟨x.fr p h1 (OvOk.ne h2), OvOk.ext x.e0 (fun o => x.e1 p o) h2⟩
theorem StoOk.nil {K : PySem.W.Frag} {H0 H : Hp} : StoOk K H0 H [] := ⟨fun _ _ h => (nomatch h), List.Pairwise.nil⟩
theorem mem_keys {S : Sto} {p : Addr} {ov : OV} (h : (p, ov) ∈ S) : p ∈ keys S := List.mem_map.mpr ⟨_, h, rfl⟩
theorem of_keys {S : Sto} {p : Addr} (h : p ∈ keys S) : ∃ ov, (p, ov) ∈ S := by
  obtain ⟨⟨q, ov⟩, h1, h2⟩ := List.mem_map.mp h
  cases h2
  exact ⟨ov, h1⟩

/-- the state at a point of a body -/
structure At (K : PySem.W.Frag) (B : Bs) (H0 : Hp) (Γ : Gam) (S : Sto) (σ : St) (H : Hp) : Prop where
  fra : Fra B H0 H
  env : EnvOk K H0 σ Γ
  sto : StoOk K H0 H S
  wr : ∀ p ∈ keys S, p ∈ B.ks ∨ B.H p = none
theorem At.ext {K : PySem.W.Frag} {B : Bs} {H0 H H0' H' : Hp} {Γ : Gam} {S : Sto} {σ : St} (a : At K B H0 Γ S σ H) (x : Ext H0 H H0' H') : At K B H0' Γ S σ H' := ⟨a.fra.ext x, a.env.ext x.e0, a.sto.ext x, a.wr⟩
theorem At.set {K : PySem.W.Frag} {B : Bs} {H0 H : Hp} {Γ : Gam} {S : Sto} {σ : St} (a : At K B H0 Γ S σ H) (i : Nat) {v : V} {s : Sl} (q : SlOk K H0 (some (some v)) s) : At K B H0 (Γ.set i s) S (σ.set i (some v)) H := ⟨a.fra, a.env.set i q, a.sto, a.wr⟩
theorem At.e2 {K : PySem.W.Frag} {B : Bs} {H0 H : Hp} {Γ : Gam} {S : Sto} {σ : St} (a : At K B H0 Γ S σ H) : Ex H0 H := a.fra.e2

/-! ### judgements -/
def rd (K : PySem.W.Frag) (B : Bs) (Γ : Gam) (S : Sto) (r : Sl) : TE := fun σ H Q => ∃ H0, At K B H0 Γ S σ H ∧ ∀ v H0' H', At K B H0' Γ S σ H' → Ex H0 H0' → SlOk K H0' (some (some v)) r → Q v H'
def ra (K : PySem.W.Frag) (B : Bs) (Γ : Gam) (S : Sto) (ds : List PyData) : TA := fun σ H Q => ∃ H0, At K B H0 Γ S σ H ∧ ∀ vs H0' H', At K B H0' Γ S σ H' → Ex H0 H0' → DpAll K H0' vs ds → Q vs H'
def rt (K : PySem.W.Frag) (B : Bs) (Γ : Gam) (S : Sto) (b : Bool) : TT := fun σ H Q => ∃ H0, At K B H0 Γ S σ H ∧ ∀ H0' H', At K B H0' Γ S σ H' → Ex H0 H0' → Q b H'
/-- e is the data d; e is the value v; the arguments; the test -/
abbrev GD (X : Cx) (B : Bs) (Γ : Gam) (S : Sto) (e : Expr) (d : PyData) : Prop := PE X e (rd X.K B Γ S (.dat d))
abbrev GR (X : Cx) (B : Bs) (Γ : Gam) (S : Sto) (e : Expr) (v : V) : Prop := PE X e (rd X.K B Γ S (.raw v))
abbrev GA (X : Cx) (B : Bs) (Γ : Gam) (S : Sto) (es : List Expr) (ds : List PyData) : Prop := PA X es (ra X.K B Γ S ds)
abbrev GT (X : Cx) (B : Bs) (Γ : Gam) (S : Sto) (e : Expr) (b : Bool) : Prop := PT X e (rt X.K B Γ S b)
section
variable {X : Cx} {B : Bs} {Γ : Gam} {S : Sto} {a b c e : Expr} {es : List Expr} {d d1 d2 d3 : PyData} {ds : List PyData} {pos : Pos} {i j : Int} {k k1 k2 : Bool} {x y : Str}
theorem gd_cast (h : GD X B Γ S e d) (q : d = d1) : GD X B Γ S e d1 := q ▸ h
theorem gt_cast {k' : Bool} (h : GT X B Γ S e k) (q : k = k') : GT X B Γ S e k' := q ▸ h
theorem ge_var {n : Nat} {r : Sl} (h : PE X e (tVar n)) (q : Γ[n]? = some r) (hu : r ≠ .un) : PE X e (rd X.K B Γ S r) := h.imp fun σ H Q ⟨H0, at0, k⟩ => by
  have z := at0.env.at_ n _ q
  cases r with
  | un => exact absurd rfl hu
  | dat d =>
    obtain ⟨v, h1, h2⟩ := z
    exact ⟨v, h1, k v H0 H at0 (Ex.refl _) ⟨v, rfl, h2⟩⟩
  | raw v => exact ⟨v, z, k v H0 H at0 (Ex.refl _) rfl⟩
theorem gd_var {n : Nat} (h : PE X e (tVar n)) (q : Γ[n]? = some (.dat d)) : GD X B Γ S e d := ge_var h q (fun z => nomatch z)
theorem gr_var {n : Nat} {v : V} (h : PE X e (tVar n)) (q : Γ[n]? = some (.raw v)) : GR X B Γ S e v := ge_var h q (fun z => nomatch z)
theorem gd_con {v : V} (h : PE X e (tC v)) (q : ∀ H0, Dp X.K H0 v d) : GD X B Γ S e d := h.imp fun σ H Q ⟨H0, at0, k⟩ => k v H0 H at0 (Ex.refl _) ⟨v, rfl, q H0⟩
theorem gr_con {v : V} (h : PE X e (tC v)) : GR X B Γ S e v := h.imp fun σ H Q ⟨H0, at0, k⟩ => k v H0 H at0 (Ex.refl _) rfl
theorem gd_int {j : Nat} : GD X B Γ S (.Constant (.int i) j pos) (.int i) := gd_con pe_int fun _ => .int i
theorem gd_str {j : Nat} : GD X B Γ S (.Constant (.str x) j pos) (.str x) := gd_con pe_str fun _ => .str x
theorem gd_bl {j : Nat} : GD X B Γ S (.Constant (.bool k) j pos) (.bool k) := gd_con pe_bl fun _ => .bl k
theorem gd_non {j : Nat} : GD X B Γ S (.Constant .none j pos) .none := gd_con pe_non fun _ => .non

/-! ### operators by values -/
def OpD (K : PySem.W.Frag) (r : R2) (d1 d2 d : PyData) : Prop := ∀ H0 H v w, Ex H0 H → Dp K H0 v d1 → Dp K H0 w d2 → ∀ Q : VK, (∀ z H0' H', Ext H0 H H0' H' → Dp K H0' z d → Q z H') → r v w H Q
theorem bin_go {r : R2} (o : OpD X.K r d1 d2 d) {σ : St} {H : Hp} {Q : VK} (h : rd X.K B Γ S (.dat d) σ H Q) : tOp r (rd X.K B Γ S (.dat d1)) (rd X.K B Γ S (.dat d2)) σ H Q := by
  obtain ⟨H0, at0, k⟩ := h
  refine ⟨H0, at0, fun v H1 H' at1 e1 hv => ⟨H1, at1, fun w H2 H'' at2 e2 hw => ?_⟩⟩
  exact o H2 H'' v w at2.e2 (dp_ex e2 _ _ hv.toDp) hw.toDp Q fun z H3 H3' x3 hz => k z H3 H3' (at2.ext x3) ((e1.trans e2).trans x3.e0) ⟨z, rfl, hz⟩
theorem gd_op {op : Operator} {r : R2} (ho : OpR X (binaryOp op) r) (o : OpD X.K r d1 d2 d) (ha : GD X B Γ S a d1) (hb : GD X B Γ S b d2) : GD X B Γ S (.BinOp a op b pos) d := (pe_op ho ha hb).imp fun _ _ _ h => bin_go o h
theorem gd_cmp {op : CmpOp} {r : R2} (ho : OpR X (compareOp op) r) (o : OpD X.K r d1 d2 d) (hm : behindInMarks op b = false) (ha : GD X B Γ S a d1) (hb : GD X B Γ S b d2) : GD X B Γ S (.Compare a [op] [b] pos) d := (pe_cmpR ho ha hb hm).imp fun _ _ _ h => bin_go o h
theorem test_go {t : TE} (h : ∀ σ H Q, rd X.K B Γ S (.dat (.bool k)) σ H Q → t σ H Q) : ∀ σ H (Q : Bool → Hp → Prop), rt X.K B Γ S k σ H Q → tTest t σ H Q := fun σ H Q ⟨H0, at0, q⟩ => h σ H _ ⟨H0, at0, fun v H0' H' at1 e1 hv => by
  have hv := hv.toDp
  cases hv
  exact ⟨k, rfl, q H0' H' at1 e1⟩⟩
theorem gt_cmp {op : CmpOp} {r : R2} (ho : OpR X (compareOp op) r) (o : OpD X.K r d1 d2 (.bool k)) (hm : behindInMarks op b = false) (ha : GD X B Γ S a d1) (hb : GD X B Γ S b d2) : GT X B Γ S (.Compare a [op] [b] pos) k :=
  (pt_cmpR ho ha hb hm).imp fun σ H Q h => test_go (fun _ _ _ h => bin_go o h) σ H Q h
theorem gt_val (h : GD X B Γ S e (.bool k)) (he : ∀ whole, isTrue e X.env whole = (do let v ← whole; standAt e.pos; holding [v] (truthy v)) := by intro _; rfl) : GT X B Γ S e k :=
  (pt_val h he).imp fun σ H Q ⟨H0, at0, q⟩ => ⟨H0, at0, fun v H0' H' at1 e1 hv => by
    have hv := hv.toDp
    cases hv
    exact ⟨k, rfl, q H0' H' at1 e1⟩⟩
theorem od_I0 {K : PySem.W.Frag} {g : Int → Int → V} {d : PyData} (hd : ∀ H0, Dp K H0 (g i j) d) : OpD K (rI0 g) (.int i) (.int j) d := fun H0 H v w e hv hw Q k => by
  cases hv
  cases hw
  exact ⟨i, j, rfl, rfl, k _ H0 H (Ext.refl e) (hd H0)⟩
theorem od_I {K : PySem.W.Frag} {C : Int → Int → Prop} {g : Int → Int → V} {d : PyData} (hc : C i j) (hd : ∀ H0, Dp K H0 (g i j) d) : OpD K (rI C g) (.int i) (.int j) d := fun H0 H v w e hv hw Q k => by
  cases hv
  cases hw
  exact ⟨i, j, rfl, rfl, hc, k _ H0 H (Ext.refl e) (hd H0)⟩
theorem gd_add (ha : GD X B Γ S a (.int i)) (hb : GD X B Γ S b (.int j)) : GD X B Γ S (.BinOp a .Add b pos) (.int (i + j)) := gd_op op_add (od_I0 fun _ => .int _) ha hb
theorem gd_sub (ha : GD X B Γ S a (.int i)) (hb : GD X B Γ S b (.int j)) : GD X B Γ S (.BinOp a .Sub b pos) (.int (i - j)) := gd_op op_sub (od_I0 fun _ => .int _) ha hb
theorem op_mulB : OpR X (binaryOp .Mult) (rI IntMulOk fun i j => .int (i * j)) := opI fun _ _ _ _ _ _ _ hc q => mul_int q hc
theorem gd_mul (hc : IntMulOk i j) (ha : GD X B Γ S a (.int i)) (hb : GD X B Γ S b (.int j)) : GD X B Γ S (.BinOp a .Mult b pos) (.int (i * j)) := gd_op op_mulB (od_I hc fun _ => .int _) ha hb
theorem gd_mod (hc : 0 < j) (ha : GD X B Γ S a (.int i)) (hb : GD X B Γ S b (.int j)) : GD X B Γ S (.BinOp a .Mod b pos) (.int (i % j)) := gd_op op_mod (od_I hc fun _ => .int _) ha hb
theorem gd_fdiv (hc : CDiv i j) (ha : GD X B Γ S a (.int i)) (hb : GD X B Γ S b (.int j)) : GD X B Γ S (.BinOp a .FloorDiv b pos) (.int (i / j)) := gd_op op_fdiv (od_I hc fun _ => .int _) ha hb
theorem gd_pow (hc : CPow i j) (ha : GD X B Γ S a (.int i)) (hb : GD X B Γ S b (.int j)) : GD X B Γ S (.BinOp a .Pow b pos) (.int (i ^ j.toNat)) := gd_op op_pow (od_I hc fun _ => .int _) ha hb
theorem gd_lt (ha : GD X B Γ S a (.int i)) (hb : GD X B Γ S b (.int j)) : GD X B Γ S (.Compare a [.Lt] [b] pos) (.bool (decide (i < j))) := gd_cmp op_lt (od_I0 fun _ => .bl _) (nomark _) ha hb
theorem gd_le (ha : GD X B Γ S a (.int i)) (hb : GD X B Γ S b (.int j)) : GD X B Γ S (.Compare a [.LtE] [b] pos) (.bool (decide (i ≤ j))) := gd_cmp op_le (od_I0 fun _ => .bl _) (nomark _) ha hb
theorem gd_gt (ha : GD X B Γ S a (.int i)) (hb : GD X B Γ S b (.int j)) : GD X B Γ S (.Compare a [.Gt] [b] pos) (.bool (decide (j < i))) := gd_cmp op_gt (od_I0 fun _ => .bl _) (nomark _) ha hb
theorem gd_ge (ha : GD X B Γ S a (.int i)) (hb : GD X B Γ S b (.int j)) : GD X B Γ S (.Compare a [.GtE] [b] pos) (.bool (decide (j ≤ i))) := gd_cmp op_ge (od_I0 fun _ => .bl _) (nomark _) ha hb
theorem gt_lt (ha : GD X B Γ S a (.int i)) (hb : GD X B Γ S b (.int j)) : GT X B Γ S (.Compare a [.Lt] [b] pos) (decide (i < j)) := gt_cmp op_lt (od_I0 fun _ => .bl _) (nomark _) ha hb
theorem gt_le (ha : GD X B Γ S a (.int i)) (hb : GD X B Γ S b (.int j)) : GT X B Γ S (.Compare a [.LtE] [b] pos) (decide (i ≤ j)) := gt_cmp op_le (od_I0 fun _ => .bl _) (nomark _) ha hb
theorem gt_gt (ha : GD X B Γ S a (.int i)) (hb : GD X B Γ S b (.int j)) : GT X B Γ S (.Compare a [.Gt] [b] pos) (decide (j < i)) := gt_cmp op_gt (od_I0 fun _ => .bl _) (nomark _) ha hb
theorem gt_ge (ha : GD X B Γ S a (.int i)) (hb : GD X B Γ S b (.int j)) : GT X B Γ S (.Compare a [.GtE] [b] pos) (decide (j ≤ i)) := gt_cmp op_ge (od_I0 fun _ => .bl _) (nomark _) ha hb
/-- == and != of data -/
theorem od_eq {K : PySem.W.Frag} (h1 : SeqAt.shaped d1 = true) (h2 : SeqAt.shaped d2 = true) : OpD K (rEqD K) d1 d2 (.bool (PyData.eqv d1 d2)) := fun H0 H v w e hv hw Q k => ⟨d1, d2, dp_ex e _ _ hv, dp_ex e _ _ hw, h1, h2, k _ H0 H (Ext.refl e) (.bl _)⟩
theorem od_ne {K : PySem.W.Frag} (h1 : SeqAt.shaped d1 = true) (h2 : SeqAt.shaped d2 = true) : OpD K (rNeD K) d1 d2 (.bool (!PyData.eqv d1 d2)) := fun H0 H v w e hv hw Q k => ⟨d1, d2, dp_ex e _ _ hv, dp_ex e _ _ hw, h1, h2, k _ H0 H (Ext.refl e) (.bl _)⟩
theorem gd_eq (hu : X.A.units + 64 < cLine) (ha : GD X B Γ S a d1) (hb : GD X B Γ S b d2) (h1 : SeqAt.shaped d1 = true) (h2 : SeqAt.shaped d2 = true) : GD X B Γ S (.Compare a [.Eq] [b] pos) (.bool (PyData.eqv d1 d2)) := gd_cmp (op_eqD hu) (od_eq h1 h2) (nomark _) ha hb
theorem gd_ne (hu : X.A.units + 64 < cLine) (ha : GD X B Γ S a d1) (hb : GD X B Γ S b d2) (h1 : SeqAt.shaped d1 = true) (h2 : SeqAt.shaped d2 = true) : GD X B Γ S (.Compare a [.NotEq] [b] pos) (.bool (!PyData.eqv d1 d2)) := gd_cmp (op_neD hu) (od_ne h1 h2) (nomark _) ha hb
theorem gt_eq (hu : X.A.units + 64 < cLine) (ha : GD X B Γ S a d1) (hb : GD X B Γ S b d2) (h1 : SeqAt.shaped d1 = true) (h2 : SeqAt.shaped d2 = true) : GT X B Γ S (.Compare a [.Eq] [b] pos) (PyData.eqv d1 d2) := gt_cmp (op_eqD hu) (od_eq h1 h2) (nomark _) ha hb
theorem gt_ne (hu : X.A.units + 64 < cLine) (ha : GD X B Γ S a d1) (hb : GD X B Γ S b d2) (h1 : SeqAt.shaped d1 = true) (h2 : SeqAt.shaped d2 = true) : GT X B Γ S (.Compare a [.NotEq] [b] pos) (!PyData.eqv d1 d2) := gt_cmp (op_neD hu) (od_ne h1 h2) (nomark _) ha hb
/-- is None -/
def isN : PyData → Bool
  | .none => true
  | _ => false
theorem isN_of {K : PySem.W.Frag} {H : Hp} {v : V} (h : Dp K H v d) : decide (v = .non) = isN d := by
  cases h <;> rfl
theorem gd_isN {n : Nat} {p2 : Pos} (ha : GD X B Γ S a d) : GD X B Γ S (.Compare a [.Is] [.Constant .none n p2] pos) (.bool (isN d)) := (pe_cmp (pc_isN ha) rfl).imp fun σ H Q ⟨H0, at0, k⟩ => ⟨H0, at0, fun v H0' H' at1 e1 hv => k _ H0' H' at1 e1 ⟨_, rfl, by rw [isN_of hv.toDp]; exact .bl _⟩⟩
theorem gd_notN {n : Nat} {p2 : Pos} (ha : GD X B Γ S a d) : GD X B Γ S (.Compare a [.IsNot] [.Constant .none n p2] pos) (.bool (!isN d)) := (pe_cmp (pc_notN ha) rfl).imp fun σ H Q ⟨H0, at0, k⟩ => ⟨H0, at0, fun v H0' H' at1 e1 hv => k _ H0' H' at1 e1 ⟨_, rfl, by rw [isN_of hv.toDp]; exact .bl _⟩⟩

/-! ### in, of flat data -/
def flatD : PyData → Bool
  | .none => true
  | .bool _ => true
  | .int _ => true
  | .str _ => true
  | _ => false
theorem flat_of {K : PySem.W.Frag} {H : Hp} {v : V} (h : Dp K H v d) (f : flatD d = true) : flatV v = true := by
  cases h <;> first | rfl | exact absurd f Bool.false_ne_true
theorem eqV_of {K : PySem.W.Frag} {H : Hp} {v w : V} (h : Dp K H v d1) (h2 : Dp K H w d2) (f : flatD d1 = true) (g : flatD d2 = true) : eqV v w = PyData.eqv d1 d2 := by
  cases h <;> first | exact absurd f Bool.false_ne_true | (cases h2 <;> first | exact absurd g Bool.false_ne_true | (simp [eqV, PyData.eqv]))
def inD (d : PyData) (ds : List PyData) : Bool := ds.any fun e => PyData.eqv e d
theorem inV_of {K : PySem.W.Frag} {H : Hp} {w : V} (h2 : Dp K H w d) (g : flatD d = true) : ∀ {vs : List V} {ds : List PyData}, DpAll K H vs ds → ds.all flatD = true → vs.all flatV = true ∧ inV w vs = inD d ds
  | _, _, .nil, _ => ⟨rfl, rfl⟩
  | _, _, .cons h t, f => by
    rw [List.all_cons, Bool.and_eq_true] at f
    obtain ⟨i1, i2⟩ := inV_of h2 g t f.2
    refine ⟨by rw [List.all_cons, flat_of h f.1, i1]; rfl, ?_⟩
    unfold inV inD at i2 ⊢
    rw [List.any_cons, List.any_cons, eqV_of h h2 f.1 g, i2]
theorem od_in {K : PySem.W.Frag} (g : flatD d = true) (f : ds.all flatD = true) : OpD K (rIn K false) d (.tuple ds) (.bool (inD d ds)) := fun H0 H v w e hv hw Q k => by
  cases hw with
  | tup hs ha =>
    obtain ⟨i1, i2⟩ := inV_of hv g ha f
    refine ⟨_, _, rfl, .inr (ex_t e hs), flat_of hv g, i1, k _ H0 H (Ext.refl e) ?_⟩
    show Dp K H0 (.bl (inV v _)) _
    rw [i2]
    exact .bl _
theorem od_inL {K : PySem.W.Frag} (g : flatD d = true) (f : ds.all flatD = true) : OpD K (rIn K false) d (.list ds) (.bool (inD d ds)) := fun H0 H v w e hv hw Q k => by
  cases hw with
  | lst hs ha =>
    obtain ⟨i1, i2⟩ := inV_of hv g ha f
    refine ⟨_, _, rfl, .inl (ex_l e hs), flat_of hv g, i1, k _ H0 H (Ext.refl e) ?_⟩
    show Dp K H0 (.bl (inV v _)) _
    rw [i2]
    exact .bl _
theorem gd_in (hm : behindInMarks .In b = false) (ha : GD X B Γ S a d) (hb : GD X B Γ S b (.tuple ds)) (g : flatD d = true) (f : ds.all flatD = true) : GD X B Γ S (.Compare a [.In] [b] pos) (.bool (inD d ds)) := gd_cmp op_in_seq (od_in g f) hm ha hb
theorem gt_in (hm : behindInMarks .In b = false) (ha : GD X B Γ S a d) (hb : GD X B Γ S b (.tuple ds)) (g : flatD d = true) (f : ds.all flatD = true) : GT X B Γ S (.Compare a [.In] [b] pos) (inD d ds) := gt_cmp op_in_seq (od_in g f) hm ha hb

/-! ### subscripts -/
theorem ixh {d : PyData} {l : List PyData} : atI (d :: l) 0 = some d := atI_nat (j := 0) rfl
theorem od_ixL {K : PySem.W.Frag} (q : atI ds i = some d) : OpD K (rIx K) (.list ds) (.int i) d := fun H0 H v w e hv hw Q k => by
  cases hw
  cases hv with
  | @lst p xs _ hs ha =>
    have hl := dps_len ha
    obtain ⟨n, e1, e2⟩ : ∃ n, ixN ds.length i = some n ∧ ds[n]? = some d := by
      unfold atI at q
      cases z : ixN ds.length i with
      | none => rw [z] at q; cases q
      | some n => rw [z] at q; exact ⟨n, rfl, q⟩
    obtain ⟨u, u1, u2⟩ := dps_get ha e2
    exact .inl ⟨p, xs, i, u, rfl, rfl, ex_l e hs, by unfold atI; rw [hl, e1]; exact u1, k u H0 H (Ext.refl e) u2⟩
theorem od_ixT {K : PySem.W.Frag} (q : atI ds i = some d) : OpD K (rIx K) (.tuple ds) (.int i) d := fun H0 H v w e hv hw Q k => by
  cases hw
  cases hv with
  | @tup p xs _ hs ha =>
    have hl := dps_len ha
    obtain ⟨n, e1, e2⟩ : ∃ n, ixN ds.length i = some n ∧ ds[n]? = some d := by
      unfold atI at q
      cases z : ixN ds.length i with
      | none => rw [z] at q; cases q
      | some n => rw [z] at q; exact ⟨n, rfl, q⟩
    obtain ⟨u, u1, u2⟩ := dps_get ha e2
    exact .inr (.inl ⟨p, xs, i, u, rfl, rfl, ex_t e hs, by unfold atI; rw [hl, e1]; exact u1, k u H0 H (Ext.refl e) u2⟩)
theorem gd_ix (o : OpD X.K (rIx X.K) d1 d2 d) (ha : GD X B Γ S a d1) (hb : GD X B Γ S b d2) (hs : PlainIx b := by exact fun _ _ => rfl) : GD X B Γ S (.Subscript a b pos) d := (pe_ix ix_seq ha hb hs).imp fun _ _ _ h => bin_go o h
theorem gd_ixL (ha : GD X B Γ S a (.list ds)) (hb : GD X B Γ S b (.int i)) (q : atI ds i = some d) (hs : PlainIx b := by exact fun _ _ => rfl) : GD X B Γ S (.Subscript a b pos) d := gd_ix (od_ixL q) ha hb hs
theorem gd_ixT (ha : GD X B Γ S a (.tuple ds)) (hb : GD X B Γ S b (.int i)) (q : atI ds i = some d) (hs : PlainIx b := by exact fun _ _ => rfl) : GD X B Γ S (.Subscript a b pos) d := gd_ix (od_ixT q) ha hb hs

/-! ### and, or, not, if -/
theorem gt_not (ha : GT X B Γ S a k) : GT X B Γ S (.UnaryOp .Not a pos) (!k) := (pt_not ha).imp fun σ H Q ⟨H0, at0, q⟩ => ⟨H0, at0, q⟩
theorem gd_not (ha : GD X B Γ S a (.bool k)) : GD X B Γ S (.UnaryOp .Not a pos) (.bool (!k)) := (pe_not ha).imp fun σ H Q ⟨H0, at0, q⟩ => ⟨H0, at0, fun v H0' H' at1 e1 hv => by
  have hv := hv.toDp
  cases hv
  exact ⟨k, rfl, q _ H0' H' at1 e1 ⟨_, rfl, .bl _⟩⟩⟩
abbrev GW (X : Cx) (B : Bs) (Γ : Gam) (S : Sto) (e : Expr) (b : Bool) : Prop := PW X e (rt X.K B Γ S b)
theorem gw_and1 (ha : GT X B Γ S a k) : GW X B Γ S (.BoolOp .And [a] pos) k := pw_and1 ha
theorem gw_or1 (ha : GT X B Γ S a k) : GW X B Γ S (.BoolOp .Or [a] pos) k := pw_or1 ha
variable {rest : List Expr}
theorem gw_and (ha : GT X B Γ S a k1) (hb : k1 = true → GW X B Γ S (.BoolOp .And (b :: rest) pos) k2) : GW X B Γ S (.BoolOp .And (a :: b :: rest) pos) (k1 && k2) := by
  refine ⟨fun wh pins s σ H Q I h => ?_⟩
  obtain ⟨H0, at0, q⟩ := h
  refine isTrue_and (thn (ha.run pins s σ H (fun c H' => c = k1 ∧ ∃ H0', At X.K B H0' Γ S σ H' ∧ Ex H0 H0') I ⟨H0, at0, fun H0' H' at1 e1 => ⟨rfl, H0', at1, e1⟩⟩) fun c s1 h1 => ?_)
  obtain ⟨H1, I1, rfl, H0', at1, x1⟩ := h1
  cases c with
  | true => exact (hb rfl).run wh pins s1 σ H1 Q I1 ⟨H0', at1, fun H2 H2' at2 e2 => q H2 H2' at2 (x1.trans e2)⟩
  | false => exact ⟨H1, I1, q H0' H1 at1 x1⟩
theorem gw_or (ha : GT X B Γ S a k1) (hb : k1 = false → GW X B Γ S (.BoolOp .Or (b :: rest) pos) k2) : GW X B Γ S (.BoolOp .Or (a :: b :: rest) pos) (k1 || k2) := by
  refine ⟨fun wh pins s σ H Q I h => ?_⟩
  obtain ⟨H0, at0, q⟩ := h
  refine isTrue_or (thn (ha.run pins s σ H (fun c H' => c = k1 ∧ ∃ H0', At X.K B H0' Γ S σ H' ∧ Ex H0 H0') I ⟨H0, at0, fun H0' H' at1 e1 => ⟨rfl, H0', at1, e1⟩⟩) fun c s1 h1 => ?_)
  obtain ⟨H1, I1, rfl, H0', at1, x1⟩ := h1
  cases c with
  | true => exact ⟨H1, I1, q H0' H1 at1 x1⟩
  | false => exact (hb rfl).run wh pins s1 σ H1 Q I1 ⟨H0', at1, fun H2 H2' at2 e2 => q H2 H2' at2 (x1.trans e2)⟩
theorem gw_dead (h : False) : GW X B Γ S e false := h.elim
theorem gd_dead (h : False) : GD X B Γ S e (.bool false) := h.elim
theorem gt_of (h : GW X B Γ S e k) : GT X B Γ S e k := h.pt
theorem gd_one {op : BoolOp} (h : GD X B Γ S a d) : GD X B Γ S (.BoolOp op [a] pos) d := pe_one h
theorem gd_and (ha : GD X B Γ S a (.bool k1)) (hb : k1 = true → GD X B Γ S (.BoolOp .And (b :: rest) pos) (.bool k2)) : GD X B Γ S (.BoolOp .And (a :: b :: rest) pos) (.bool (k1 && k2)) := by
  refine ⟨fun pins s σ H Q I h => ?_⟩
  obtain ⟨H0, at0, q⟩ := h
  refine BoolOp_and (thn (ha.run pins s σ H (fun c H' => c = .bl k1 ∧ ∃ H0', At X.K B H0' Γ S σ H' ∧ Ex H0 H0') I ⟨H0, at0, fun v H0' H' at1 e1 hv => ?_⟩) fun v s1 ⟨x, H1, I1, r1, q1⟩ => ?_)
  · have hv := hv.toDp
    cases hv
    exact ⟨rfl, H0', at1, e1⟩
  obtain ⟨rfl, H0', at1, x1⟩ := q1
  cases r1
  refine wpAny_truthy_bool ?_
  cases k1 with
  | true => exact (hb rfl).run pins s1 σ H1 Q I1 ⟨H0', at1, fun v H2 H2' at2 e2 hv => q v H2 H2' at2 (x1.trans e2) hv⟩
  | false => exact ⟨.bl false, H1, I1, rfl, q _ H0' H1 at1 x1 ⟨_, rfl, .bl _⟩⟩
theorem gd_or (ha : GD X B Γ S a (.bool k1)) (hb : k1 = false → GD X B Γ S (.BoolOp .Or (b :: rest) pos) (.bool k2)) : GD X B Γ S (.BoolOp .Or (a :: b :: rest) pos) (.bool (k1 || k2)) := by
  refine ⟨fun pins s σ H Q I h => ?_⟩
  obtain ⟨H0, at0, q⟩ := h
  refine BoolOp_or (thn (ha.run pins s σ H (fun c H' => c = .bl k1 ∧ ∃ H0', At X.K B H0' Γ S σ H' ∧ Ex H0 H0') I ⟨H0, at0, fun v H0' H' at1 e1 hv => ?_⟩) fun v s1 ⟨x, H1, I1, r1, q1⟩ => ?_)
  · have hv := hv.toDp
    cases hv
    exact ⟨rfl, H0', at1, e1⟩
  obtain ⟨rfl, H0', at1, x1⟩ := q1
  cases r1
  refine wpAny_truthy_bool ?_
  cases k1 with
  | true => exact ⟨.bl true, H1, I1, rfl, q _ H0' H1 at1 x1 ⟨_, rfl, .bl _⟩⟩
  | false => exact (hb rfl).run pins s1 σ H1 Q I1 ⟨H0', at1, fun v H2 H2' at2 e2 hv => q v H2 H2' at2 (x1.trans e2) hv⟩
theorem gd_ite (hc : GT X B Γ S c k) (ha : k = true → GD X B Γ S a d) (hb : k = false → GD X B Γ S b d) : GD X B Γ S (.IfExp c a b pos) d := by
  refine ⟨fun pins s σ H Q I h => ?_⟩
  obtain ⟨H0, at0, q⟩ := h
  refine wpAny_IfExp (thn (hc.run pins s σ H (fun c H' => c = k ∧ ∃ H0', At X.K B H0' Γ S σ H' ∧ Ex H0 H0') I ⟨H0, at0, fun H0' H' at1 e1 => ⟨rfl, H0', at1, e1⟩⟩) fun v s1 h1 => ?_)
  obtain ⟨H1, I1, rfl, H0', at1, x1⟩ := h1
  cases v with
  | true => exact (ha rfl).run pins s1 σ H1 Q I1 ⟨H0', at1, fun v H2 H2' at2 e2 hv => q v H2 H2' at2 (x1.trans e2) hv⟩
  | false => exact (hb rfl).run pins s1 σ H1 Q I1 ⟨H0', at1, fun v H2 H2' at2 e2 hv => q v H2 H2' at2 (x1.trans e2) hv⟩

/-! ### argument lists, displays, calls -/
theorem ga_nil : GA X B Γ S [] [] := pa_nil.imp fun σ H Q ⟨H0, at0, k⟩ => k [] H0 H at0 (Ex.refl _) .nil
theorem ga_cons (ha : GD X B Γ S e d) (hr : GA X B Γ S es ds) (hs : starEach (e :: es) X.env = (false, eval e X.env) :: starEach es X.env := by rfl) : GA X B Γ S (e :: es) (d :: ds) := (pa_cons ha hr hs).imp fun σ H Q ⟨H0, at0, k⟩ =>
  ⟨H0, at0, fun v H1 H' at1 e1 hv => ⟨H1, at1, fun vs H2 H'' at2 e2 hvs => k _ H2 H'' at2 (e1.trans e2) (.cons (dp_ex e2 _ _ hv.toDp) hvs)⟩⟩
theorem gd_tup {x1 : Nat} (h : GA X B Γ S es ds) (hl : ds.length ≤ 100000) : GD X B Γ S (.Tuple es x1 pos) (.tuple ds) := (pe_tup h).imp fun σ H Q ⟨H0, at0, k⟩ => ⟨H0, at0, fun vs H1 H' at1 e1 hvs =>
  ⟨by rw [dps_len hvs]; exact Evl.sz_of hl, fun p hp => k (.ref p) _ _ (at1.ext (Ext.new at1.e2 hp)) (e1.trans (Ex.new (free0 at1.e2 hp))) ⟨_, rfl, .tup (.inl (.inl upd_same)) (dps_ex (Ex.new (free0 at1.e2 hp)) _ _ hvs)⟩⟩⟩
theorem gd_lst (h : GA X B Γ S es ds) (hl : ds.length ≤ 100000) : GD X B Γ S (.List es pos) (.list ds) := (pe_lst h).imp fun σ H Q ⟨H0, at0, k⟩ => ⟨H0, at0, fun vs H1 H' at1 e1 hvs =>
  ⟨by rw [dps_len hvs]; exact Evl.sz_of hl, fun p hp => k (.ref p) _ _ (at1.ext (Ext.new at1.e2 hp)) (e1.trans (Ex.new (free0 at1.e2 hp))) ⟨_, rfl, .lst (.inl (.inl upd_same)) (dps_ex (Ex.new (free0 at1.e2 hp)) _ _ hvs)⟩⟩⟩
/-- a call by values -/
def CaD (K : PySem.W.Frag) (r : List V → Hp → VK → Prop) (ds : List PyData) (d : PyData) : Prop := ∀ H0 H vs, Ex H0 H → DpAll K H0 vs ds → ∀ Q : VK, (∀ z H0' H', Ext H0 H H0' H' → Dp K H0' z d → Q z H') → r vs H Q
theorem gd_callB {f : Str} {p : Pos} {id : String} {r : List V → Hp → VK → Prop} (hc : CallR X (.builtin id) r) (o : CaD X.K r ds d) (hg : Gl X f) (hm : X.mg f = none) (hv : bootBuiltins f = some (.builtin id)) (ha : GA X B Γ S (e :: es) ds) (hn : f ≠ "__name__" := by decide) (hdb : (f == ("__debug__" : Str)) = false := by decide)
    (he : starEach (e :: es) X.env = (false, eval e X.env) :: starEach es X.env := by rfl) (hpl : (backTo pos (starEach es X.env)).any (·.1) = false := by rfl) : GD X B Γ S (.Call (.Name f p) (e :: es) [] pos) d :=
  (pe_callB hc hg hm hv ha hn hdb he hpl).imp fun σ H Q ⟨H0, at0, k⟩ => ⟨H0, at0, fun vs H1 H' at1 e1 hvs => o H1 H' vs at1.e2 hvs Q fun z H2 H2' x2 hz => k z H2 H2' (at1.ext x2) (e1.trans x2.e0) ⟨z, rfl, hz⟩⟩
theorem gd_callTy {f : Str} {p : Pos} {T : String} {r : List V → Hp → VK → Prop} (hc : CallR X (.type T) r) (o : CaD X.K r ds d) (hg : Gl X f) (hm : X.mg f = none) (hv : bootBuiltins f = some (.type T)) (ha : GA X B Γ S (e :: es) ds) (hn : f ≠ "__name__" := by decide) (hdb : (f == ("__debug__" : Str)) = false := by decide)
    (he : starEach (e :: es) X.env = (false, eval e X.env) :: starEach es X.env := by rfl) (hpl : (backTo pos (starEach es X.env)).any (·.1) = false := by rfl) : GD X B Γ S (.Call (.Name f p) (e :: es) [] pos) d :=
  (pe_callTy hc hg hm hv ha hn hdb he hpl).imp fun σ H Q ⟨H0, at0, k⟩ => ⟨H0, at0, fun vs H1 H' at1 e1 hvs => o H1 H' vs at1.e2 hvs Q fun z H2 H2' x2 hz => k z H2 H2' (at1.ext x2) (e1.trans x2.e0) ⟨z, rfl, hz⟩⟩
theorem ca_len {K : PySem.W.Frag} {es : List PyData} (h : d = .list es ∨ d = .tuple es) : CaD K (fun xs H Q => ∃ x n, xs = [x] ∧ LenV K x H n ∧ Q (.int n) H) [d] (.int (es.length : Int)) := fun H0 H vs e hvs Q k => by
  cases hvs with
  | cons hv ht =>
    cases ht
    rcases h with rfl | rfl
    · cases hv with
      | lst hs ha => exact ⟨_, es.length, rfl, .inl ⟨_, ex_l e hs, (dps_len ha).symm⟩, k _ H0 H (Ext.refl e) (.int _)⟩
    · cases hv with
      | tup hs ha => exact ⟨_, es.length, rfl, .inr ⟨_, ex_t e hs, (dps_len ha).symm⟩, k _ H0 H (Ext.refl e) (.int _)⟩
theorem ca_list {K : PySem.W.Frag} {es : List PyData} (h : d = .list es ∨ d = .tuple es) : CaD K (fun xs H Q => ∃ p ys, xs = [.ref p] ∧ (SqL K H p ys ∨ SqT K H p ys) ∧ ∀ l, H l = none → Q (.ref l) (upd H l (.lst ys))) [d] (.list es) := fun H0 H vs e hvs Q k => by
  cases hvs with
  | cons hv ht =>
    cases ht
    rcases h with rfl | rfl
    · cases hv with
      | lst hs ha => exact ⟨_, _, rfl, .inl (ex_l e hs), fun l hl => k _ _ _ (Ext.new e hl) (.lst (.inl (.inl upd_same)) (dps_ex (Ex.new (free0 e hl)) _ _ ha))⟩
    · cases hv with
      | tup hs ha => exact ⟨_, _, rfl, .inr (ex_t e hs), fun l hl => k _ _ _ (Ext.new e hl) (.lst (.inl (.inl upd_same)) (dps_ex (Ex.new (free0 e hl)) _ _ ha))⟩
theorem ca_intB {K : PySem.W.Frag} : CaD K (fun xs H Q => (∃ i, xs = [.int i] ∧ Q (.int i) H) ∨ ∃ k, xs = [.bl k] ∧ Q (.int (if k then 1 else 0)) H) [.bool k] (.int (if k then 1 else 0)) := fun H0 H vs e hvs Q q => by
  cases hvs with
  | cons hv ht =>
    cases ht
    cases hv
    exact .inr ⟨k, rfl, q _ H0 H (Ext.refl e) (.int _)⟩
theorem ca_all {K : PySem.W.Frag} {bs : List Bool} : CaD K (rAll K) [.list (bs.map PyData.bool)] (.bool (bs.all id)) := fun H0 H vs e hvs Q k => by
  cases hvs with
  | cons hv ht =>
    cases ht
    cases hv with
    | lst hs ha => exact ⟨_, bs, rfl, by rw [← bools_of ha]; exact ex_l e hs, k _ H0 H (Ext.refl e) (.bl _)⟩
theorem ca_any {K : PySem.W.Frag} {bs : List Bool} : CaD K (rAny K) [.list (bs.map PyData.bool)] (.bool (bs.any id)) := fun H0 H vs e hvs Q k => by
  cases hvs with
  | cons hv ht =>
    cases ht
    cases hv with
    | lst hs ha => exact ⟨_, bs, rfl, by rw [← bools_of ha]; exact ex_l e hs, k _ H0 H (Ext.refl e) (.bl _)⟩
/-- the type's name -/
def tyN : PyData → String
  | .none => "NoneType"
  | .bool _ => "bool"
  | .int _ => "int"
  | .str _ => "str"
  | .list _ => "list"
  | .tuple _ => "tuple"
  | .dict _ => "dict"
theorem tyx_of {K : PySem.W.Frag} {H0 H : Hp} {v : V} (e : Ex H0 H) (h : Dp K H0 v d) : TyX K H v (.type (tyN d)) := by
  cases h with
  | non => exact .base .non
  | bl b => exact .base (.bl b)
  | int i => exact .base (.int i)
  | str x => exact .base (.str x)
  | lst hs ha =>
    rcases ex_l e hs with (h | ⟨o, h⟩) | ⟨o, its, n, h1, h2, _⟩
    · exact .base (.lst h)
    · exact .base (.frz h)
    · exact .kList h1 h2
  | tup hs ha =>
    rcases ex_t e hs with (h | ⟨o, h⟩) | ⟨o, its, n, h1, h2, _⟩
    · exact .base (.tup h)
    · exact .fTuple h
    · exact .kTuple h1 h2
theorem kit_NoneType_int : kitB "NoneType" "int" = some false := by decide +kernel
theorem kit_NoneType_bool : kitB "NoneType" "bool" = some false := by decide +kernel
theorem kit_NoneType_str : kitB "NoneType" "str" = some false := by decide +kernel
theorem kit_NoneType_list : kitB "NoneType" "list" = some false := by decide +kernel
theorem kit_NoneType_tuple : kitB "NoneType" "tuple" = some false := by decide +kernel
theorem kit_bool_int : kitB "bool" "int" = some true := by decide +kernel
theorem kit_bool_bool : kitB "bool" "bool" = some true := by decide +kernel
theorem kit_bool_str : kitB "bool" "str" = some false := by decide +kernel
theorem kit_bool_list : kitB "bool" "list" = some false := by decide +kernel
theorem kit_bool_tuple : kitB "bool" "tuple" = some false := by decide +kernel
theorem kit_int_int : kitB "int" "int" = some true := by decide +kernel
theorem kit_int_bool : kitB "int" "bool" = some false := by decide +kernel
theorem kit_int_str : kitB "int" "str" = some false := by decide +kernel
theorem kit_int_list : kitB "int" "list" = some false := by decide +kernel
theorem kit_int_tuple : kitB "int" "tuple" = some false := by decide +kernel
theorem kit_str_int : kitB "str" "int" = some false := by decide +kernel
theorem kit_str_bool : kitB "str" "bool" = some false := by decide +kernel
theorem kit_str_str : kitB "str" "str" = some true := by decide +kernel
theorem kit_str_list : kitB "str" "list" = some false := by decide +kernel
theorem kit_str_tuple : kitB "str" "tuple" = some false := by decide +kernel
theorem kit_list_int : kitB "list" "int" = some false := by decide +kernel
theorem kit_list_bool : kitB "list" "bool" = some false := by decide +kernel
theorem kit_list_str : kitB "list" "str" = some false := by decide +kernel
theorem kit_list_list : kitB "list" "list" = some true := by decide +kernel
theorem kit_list_tuple : kitB "list" "tuple" = some false := by decide +kernel
theorem kit_tuple_int : kitB "tuple" "int" = some false := by decide +kernel
theorem kit_tuple_bool : kitB "tuple" "bool" = some false := by decide +kernel
theorem kit_tuple_str : kitB "tuple" "str" = some false := by decide +kernel
theorem kit_tuple_list : kitB "tuple" "list" = some false := by decide +kernel
theorem kit_tuple_tuple : kitB "tuple" "tuple" = some true := by decide +kernel
theorem kit_dict_int : kitB "dict" "int" = some false := by decide +kernel
theorem kit_dict_bool : kitB "dict" "bool" = some false := by decide +kernel
theorem kit_dict_str : kitB "dict" "str" = some false := by decide +kernel
theorem kit_dict_list : kitB "dict" "list" = some false := by decide +kernel
theorem kit_dict_tuple : kitB "dict" "tuple" = some false := by decide +kernel
/-- isinstance(e, T), T a built-in type -/
theorem gd_isi {f T : Str} {n : String} {p p2 : Pos} (hg : Gl X f) (hm : X.mg f = none) (hv : bootBuiltins f = some (.builtin "isinstance")) (hT : PE X (.Name T p2) (tC (.ty n))) (ha : GD X B Γ S a d) (hk : kitB (tyN d) n = some k)
    (hn : f ≠ "__name__" := by decide) (hdb : (f == ("__debug__" : Str)) = false := by decide)
    (he : starEach [a, .Name T p2] X.env = (false, eval a X.env) :: starEach [.Name T p2] X.env := by rfl) (he2 : starEach [.Name T p2] X.env = (false, eval (.Name T p2) X.env) :: starEach [] X.env := by rfl) (hpl : (backTo pos (starEach [.Name T p2] X.env)).any (·.1) = false := by rfl) : GD X B Γ S (.Call (.Name f p) [a, .Name T p2] [] pos) (.bool k) :=
  (pe_callB call_isi hg hm hv (pa_cons ha (pa_cons hT pa_nil he2) he) hn hdb he hpl).imp fun σ H Q ⟨H0, at0, q⟩ => ⟨H0, at0, fun v H1 H' at1 e1 hv => ⟨v, .ty n, .type (tyN d), .type n, k, rfl, .ty n, tyx_of at1.e2 hv.toDp, kit_ty hk, q _ H1 H' at1 e1 ⟨_, rfl, .bl _⟩⟩⟩

/-! ### more operators -/
def rCatL (K : PySem.W.Frag) : R2 := fun x y H Q => ∃ l b xs zs, x = .ref l ∧ y = .ref b ∧ SqL K H l xs ∧ SqL K H b zs ∧ xs.length + zs.length ≤ sizeLine ∧ ∀ p, H p = none → Q (.ref p) (upd H p (.lst (xs ++ zs)))
theorem op_catL : OpR X (binaryOp .Add) (rCatL X.K) := fun pins s σ H x y v u Q inv rx ry ⟨l, b, xs, zs, ex, ey, hx, hy, room, q⟩ => by
  subst ex ey
  cases rx; cases ry
  obtain ⟨left, rl, pl, _⟩ := inv.list hx
  obtain ⟨right, rr, pr, _⟩ := inv.list hy
  have n1 := rl.length
  have n2 := rr.length
  rcases pl.isList with ⟨⟨_, d1, _, sl1⟩, o1, c1, m1, e1⟩
  rcases pr.isList with ⟨⟨_, d2, _, sl2⟩, o2, c2, m2, e2⟩
  dsimp only at c1 e1 c2 e2
  subst c1 e1 c2 e2
  have joined : left.toArray ++ right.toArray = (left ++ right).toArray := by simp
  refine concat_meets ⟨_, o1, rfl⟩ ⟨_, o2, rfl⟩ noFill_list_add seq_list_add PySem.F.slot_list_add PySem.F.entry_list_add (PySem.F.args_list_add_2 _ _) (list_addW l b left.toArray right.toArray m1 m2 d1 d2 sl1 sl2 (by simp only [List.size_toArray]; omega)) ⟨o1, o2, ?_⟩
  rw [joined]
  exact ⟨.ref _, _, inv.lnew (t' := s.toks) (rl.append rr) (by rw [List.length_append]; omega), rfl, q _ inv.fresh⟩
theorem od_cat {K : PySem.W.Frag} {xs ys : List PyData} (h : xs.length + ys.length ≤ 100000) : OpD K (rCatL K) (.list xs) (.list ys) (.list (xs ++ ys)) := fun H0 H v w e hv hw Q k => by
  cases hv with
  | lst hs ha =>
    cases hw with
    | lst hs' ha' =>
      exact ⟨_, _, _, _, rfl, rfl, ex_l e hs, ex_l e hs', by rw [dps_len ha, dps_len ha']; exact Evl.sz_of h, fun p hp => k _ _ _ (Ext.new e hp) (.lst (.inl (.inl upd_same)) (dps_ex (Ex.new (free0 e hp)) _ _ (dps_app ha ha')))⟩
theorem gd_cat {xs ys : List PyData} (ha : GD X B Γ S a (.list xs)) (hb : GD X B Γ S b (.list ys)) (h : xs.length + ys.length ≤ 100000) : GD X B Γ S (.BinOp a .Add b pos) (.list (xs ++ ys)) := gd_op op_catL (od_cat h) ha hb
theorem od_addS {K : PySem.W.Frag} {x y : Str} (h : x.length + y.length ≤ sizeLine) : OpD K (fun x y H Q => ∃ i j, x = .str i ∧ y = .str j ∧ i.length + j.length ≤ sizeLine ∧ Q (.str (i ++ j)) H) (.str x) (.str y) (.str (x ++ y)) := fun H0 H v w e hv hw Q k => by
  cases hv
  cases hw
  exact ⟨x, y, rfl, rfl, h, k _ H0 H (Ext.refl e) (.str _)⟩
theorem gd_addS (ha : GD X B Γ S a (.str x)) (hb : GD X B Γ S b (.str y)) (h : x.length + y.length ≤ sizeLine) : GD X B Γ S (.BinOp a .Add b pos) (.str (x ++ y)) := gd_op op_add_str (od_addS h) ha hb
theorem gd_neg (ha : GD X B Γ S a (.int i)) : GD X B Γ S (.UnaryOp .USub a pos) (.int (-i)) := (pe_un un_neg ha).imp fun σ H Q ⟨H0, at0, k⟩ => ⟨H0, at0, fun v H0' H' at1 e1 hv => by
  have hv := hv.toDp
  cases hv
  exact ⟨i, rfl, k _ H0' H' at1 e1 ⟨_, rfl, .int _⟩⟩⟩
theorem od_notIn {K : PySem.W.Frag} (g : flatD d = true) (f : ds.all flatD = true) : OpD K (rIn K true) d (.tuple ds) (.bool (!inD d ds)) := fun H0 H v w e hv hw Q k => by
  cases hw with
  | tup hs ha =>
    obtain ⟨i1, i2⟩ := inV_of hv g ha f
    refine ⟨_, _, rfl, .inr (ex_t e hs), flat_of hv g, i1, k _ H0 H (Ext.refl e) ?_⟩
    show Dp K H0 (.bl (!inV v _)) _
    rw [i2]
    exact .bl _
theorem gd_notIn (hm : behindInMarks .NotIn b = false) (ha : GD X B Γ S a d) (hb : GD X B Γ S b (.tuple ds)) (g : flatD d = true) (f : ds.all flatD = true) : GD X B Γ S (.Compare a [.NotIn] [b] pos) (.bool (!inD d ds)) := gd_cmp op_notIn_seq (od_notIn g f) hm ha hb
theorem gt_notIn (hm : behindInMarks .NotIn b = false) (ha : GD X B Γ S a d) (hb : GD X B Γ S b (.tuple ds)) (g : flatD d = true) (f : ds.all flatD = true) : GT X B Γ S (.Compare a [.NotIn] [b] pos) (!inD d ds) := gt_cmp op_notIn_seq (od_notIn g f) hm ha hb
theorem gd_inL (hm : behindInMarks .In b = false) (ha : GD X B Γ S a d) (hb : GD X B Γ S b (.list ds)) (g : flatD d = true) (f : ds.all flatD = true) : GD X B Γ S (.Compare a [.In] [b] pos) (.bool (inD d ds)) := gd_cmp op_in_seq (od_inL g f) hm ha hb
theorem gt_inL (hm : behindInMarks .In b = false) (ha : GD X B Γ S a d) (hb : GD X B Γ S b (.list ds)) (g : flatD d = true) (f : ds.all flatD = true) : GT X B Γ S (.Compare a [.In] [b] pos) (inD d ds) := gt_cmp op_in_seq (od_inL g f) hm ha hb
/-- a op b op' c of ints -/
theorem chain_goT {p p' : Int → Int → Bool} {l : Int} (hp : p i j = true) {σ : St} {H : Hp} {Q : VK} (h : rd X.K B Γ S (.dat (.bool (p i j && p' j l))) σ H Q) : tChain (rI0 fun i j => .bl (p i j)) (rI0 fun i j => .bl (p' i j)) (rd X.K B Γ S (.dat (.int i))) (rd X.K B Γ S (.dat (.int j))) (rd X.K B Γ S (.dat (.int l))) σ H Q := by
  obtain ⟨H0, at0, k⟩ := h
  refine ⟨H0, at0, fun v H1 H' at1 x1 hv => ⟨H1, at1, fun w H2 H'' at2 x2 hw => ?_⟩⟩
  have hv := hv.toDp
  cases hv
  have hw := hw.toDp
  cases hw
  refine ⟨i, j, rfl, rfl, p i j, rfl, ?_⟩
  rw [hp] at k ⊢
  exact iteT ⟨H2, at2, fun z H3 H3' at3 x3 hz => by
    have hz := hz.toDp
    cases hz
    exact ⟨j, l, rfl, rfl, k _ H3 H3' at3 ((x1.trans x2).trans x3) ⟨_, rfl, by rw [Bool.true_and]; exact .bl _⟩⟩⟩
theorem chain_goF {p p' : Int → Int → Bool} {l : Int} (hp : p i j = false) {σ : St} {H : Hp} {Q : VK} (h : rd X.K B Γ S (.dat (.bool (p i j && p' j l))) σ H Q) : tChain (rI0 fun i j => .bl (p i j)) (rI0 fun i j => .bl (p' i j)) (rd X.K B Γ S (.dat (.int i))) (rd X.K B Γ S (.dat (.int j))) (fun _ _ _ => False) σ H Q := by
  obtain ⟨H0, at0, k⟩ := h
  refine ⟨H0, at0, fun v H1 H' at1 x1 hv => ⟨H1, at1, fun w H2 H'' at2 x2 hw => ?_⟩⟩
  have hv := hv.toDp
  cases hv
  have hw := hw.toDp
  cases hw
  refine ⟨i, j, rfl, rfl, p i j, rfl, ?_⟩
  rw [hp] at k ⊢
  exact iteF (k _ H2 H'' at2 (x1.trans x2) ⟨_, rfl, by rw [Bool.false_and]; exact .bl _⟩)
theorem gd_chain {op op' : CmpOp} {p p' : Int → Int → Bool} {l : Int} (ho : OpR X (compareOp op) (rI0 fun i j => .bl (p i j))) (ho' : OpR X (compareOp op') (rI0 fun i j => .bl (p' i j))) (ha : GD X B Γ S a (.int i)) (hb : GD X B Γ S b (.int j)) (hc : p i j = true → GD X B Γ S c (.int l))
    (hm : lastMarks [op, op'] [b, c] = false := by with_unfolding_all rfl) : GD X B Γ S (.Compare a [op, op'] [b, c] pos) (.bool (p i j && p' j l)) := by
  cases hp : p i j with
  | true => exact (pe_chain ho ho' ha hb (hc hp) hm).imp fun σ H Q h => chain_goT hp (by rw [hp]; exact h)
  | false =>
    have hn : PE X c (fun _ _ _ => False) := ⟨fun _ _ _ _ _ _ h => h.elim⟩
    exact (pe_chain ho ho' ha hb hn hm).imp fun σ H Q h => chain_goF (p' := p') (l := l) hp (by rw [hp]; exact h)
theorem gt_chain {op op' : CmpOp} {p p' : Int → Int → Bool} {l : Int} (ho : OpR X (compareOp op) (rI0 fun i j => .bl (p i j))) (ho' : OpR X (compareOp op') (rI0 fun i j => .bl (p' i j))) (ha : GD X B Γ S a (.int i)) (hb : GD X B Γ S b (.int j)) (hc : p i j = true → GD X B Γ S c (.int l))
    (hm : lastMarks [op, op'] [b, c] = false := by with_unfolding_all rfl) : GT X B Γ S (.Compare a [op, op'] [b, c] pos) (p i j && p' j l) := by
  cases hp : p i j with
  | true => exact (pt_chain ho ho' ha hb (hc hp) hm).imp (test_go fun σ H Q h => chain_goT hp (by rw [hp]; exact h))
  | false =>
    have hn : PE X c (fun _ _ _ => False) := ⟨fun _ _ _ _ _ _ h => h.elim⟩
    exact (pt_chain ho ho' ha hb hn hm).imp (test_go fun σ H Q h => chain_goF (p' := p') (l := l) hp (by rw [hp]; exact h))
theorem gt_chain_le_lt {l : Int} (ha : GD X B Γ S a (.int i)) (hb : GD X B Γ S b (.int j)) (hc : decide (i ≤ j) = true → GD X B Γ S c (.int l)) (hm : lastMarks [.LtE, .Lt] [b, c] = false := by with_unfolding_all rfl) : GT X B Γ S (.Compare a [.LtE, .Lt] [b, c] pos) (decide (i ≤ j) && decide (j < l)) := gt_chain op_le op_lt ha hb hc hm
theorem gd_chain_le_lt {l : Int} (ha : GD X B Γ S a (.int i)) (hb : GD X B Γ S b (.int j)) (hc : decide (i ≤ j) = true → GD X B Γ S c (.int l)) (hm : lastMarks [.LtE, .Lt] [b, c] = false := by with_unfolding_all rfl) : GD X B Γ S (.Compare a [.LtE, .Lt] [b, c] pos) (.bool (decide (i ≤ j) && decide (j < l))) := gd_chain op_le op_lt ha hb hc hm
/-- slices of lists -/
abbrev GO (X : Cx) (B : Bs) (Γ : Gam) (S : Sto) (e : Option Expr) (o : Option Int) : Prop := PO X e (fun σ H Q => ∃ H0, At X.K B H0 Γ S σ H ∧ ∀ H0' H', At X.K B H0' Γ S σ H' → Ex H0 H0' → Q o H')
theorem go_none : GO X B Γ S none none := ⟨fun pins s σ H Q I ⟨H0, at0, k⟩ => (po_none (X := X)).run pins s σ H Q I (k H0 H at0 (Ex.refl _))⟩
theorem go_some (h : GD X B Γ S e (.int i)) : GO X B Γ S (some e) (some i) := ⟨fun pins s σ H Q I ⟨H0, at0, k⟩ => (po_some h).run pins s σ H Q I ⟨H0, at0, fun v H0' H' at1 e1 hv => by
  have hv := hv.toDp
  cases hv
  exact ⟨i, rfl, k H0' H' at1 e1⟩⟩⟩
def cutD (xs : List PyData) (lo hi : Option Int) : List PyData := (xs.drop (HT.sIx xs.length 0 lo)).take (HT.sIx xs.length xs.length hi - HT.sIx xs.length 0 lo)
theorem gd_slice {xs : List PyData} {lo hi : Option Expr} {l u : Option Int} {p2 : Pos} (ha : GD X B Γ S a (.list xs)) (hl : GO X B Γ S lo l) (hu : GO X B Γ S hi u) : GD X B Γ S (.Subscript a (.Slice lo hi none p2) pos) (.list (cutD xs l u)) :=
  (pe_slice sl_list ha hl hu).imp fun σ H Q ⟨H0, at0, k⟩ => ⟨H0, at0, fun v H1 H' at1 x1 hv => ⟨H1, at1, fun H2 H'' at2 x2 => ⟨H2, at2, fun H3 H3' at3 x3 => by
    have hv := dp_ex (x2.trans x3) _ _ hv.toDp
    cases hv with
    | @lst q vs _ hs ha =>
      refine ⟨q, vs, rfl, ex_l at3.e2 hs, fun p hp => k _ _ _ (at3.ext (Ext.new at3.e2 hp)) (((x1.trans x2).trans x3).trans (Ex.new (free0 at3.e2 hp))) ⟨_, rfl, .lst (.inl (.inl upd_same)) (dps_ex (Ex.new (free0 at3.e2 hp)) _ _ ?_)⟩⟩
      unfold cutV cutD
      rw [dps_len ha]
      exact dps_take _ (dps_drop _ ha)⟩⟩⟩
theorem ca_strI {K : PySem.W.Frag} (h : i.natAbs.log2 < 1920) : CaD K (fun xs H Q => ∃ i, xs = [.int i] ∧ i.natAbs.log2 < 1920 ∧ Q (.str (toString i)) H) [.int i] (.str (toString i)) := fun H0 H vs e hvs Q q => by
  cases hvs with
  | cons hv ht =>
    cases ht
    cases hv
    exact ⟨i, rfl, h, q _ H0 H (Ext.refl e) (.str _)⟩
/-! ### calls of defs -/
/-- a pure def: R tells what it gives -/
def SpD (K : PySem.W.Frag) (R : List PyData → PyData → Prop) : Sp := fun vs H Q _ => ∃ H0 ds d, Ex H0 H ∧ R ds d ∧ DpAll K H0 vs ds ∧ ∀ v H0' H', Ext H0 H H0' H' → Dp K H0' v d → Q v H'
theorem gd_call {CX : CXT} {n : Nat} {f : Addr} {fd : FuncData} {ps : List Str} {R : List PyData → PyData → Prop} {E : XK} {x : Str} {p : Pos} (F : FnOk X.prog X.w X.K X.mg X.base CX n f fd ps (SpD X.K R)) (hr : Room n X.A) (hg : Gl X x) (hm : X.mg x = some (.ref f)) (hk : PySem.W.keepIn X.K (.ref f) = true) (hb : Binds X.K fd ps []) (hx : Passes CX X E)
    (ha : GA X B Γ S (e :: es) ds) (q : R ds d) (hdb : (x == ("__debug__" : Str)) = false := by decide) (he : starEach (e :: es) X.env = (false, eval e X.env) :: starEach es X.env := by rfl) (hpl : (backTo pos (starEach es X.env)).any (·.1) = false := by rfl) :
    GD X B Γ S (.Call (.Name x p) (e :: es) [] pos) d := (pe_call F hr hg hm hk hb .nil hx ha hdb he hpl).imp fun σ H Q ⟨H0, at0, k⟩ => ⟨H0, at0, fun vs H1 H' at1 e1 hvs => by
  show SpD X.K R (vs ++ []) H' Q E
  rw [List.append_nil]
  exact ⟨H1, ds, d, at1.e2, q, hvs, fun v H2 H2' x2 hv => k v H2 H2' (at1.ext x2) (e1.trans x2.e0) ⟨v, rfl, hv⟩⟩⟩
end

/-! ### statements -/
structure Po where
  N : Gam → Sto → Prop
  R : Sl → Sto → Prop
  bk : Gam → Sto → Prop := fun _ _ => False
  ct : Gam → Sto → Prop := fun _ _ => False
  ex : Value → Gam → Sto → Prop := fun _ _ _ => False
structure Endz (K : PySem.W.Frag) (B : Bs) (P : Po) (D : Ends) : Prop where
  nx : ∀ Γ S H0 σ H, P.N Γ S → At K B H0 Γ S σ H → D.nx σ H
  rt : ∀ r Γ S v H0 σ H, P.R r S → At K B H0 Γ S σ H → SlOk K H0 (some (some v)) r → D.rt v H
  bk : ∀ Γ S H0 σ H, P.bk Γ S → At K B H0 Γ S σ H → D.bk σ H
  ct : ∀ Γ S H0 σ H, P.ct Γ S → At K B H0 Γ S σ H → D.ct σ H
  ex : ∀ cls Γ S H0 σ H, P.ex cls Γ S → At K B H0 Γ S σ H → B.E cls none σ H
def rs (K : PySem.W.Frag) (B : Bs) (Γ : Gam) (S : Sto) (P : Po) : TS := fun D σ H => ∃ H0, At K B H0 Γ S σ H ∧ Endz K B P D
abbrev GS (X : Cx) (B : Bs) (Γ : Gam) (S : Sto) (st : Stmt) (P : Po) : Prop := PS X st (rs X.K B Γ S P)
abbrev GSs (X : Cx) (B : Bs) (Γ : Gam) (S : Sto) (st : List Stmt) (P : Po) : Prop := PSs X st (rs X.K B Γ S P)
/-- an expression that may change what is owned, and may raise -/
def re (K : PySem.W.Frag) (B : Bs) (Γ : Gam) (S : Sto) (Pe : Sl → Sto → Prop) (ex : Value → Gam → Sto → Prop) : TE := fun σ H Q => ∃ H0, At K B H0 Γ S σ H ∧
  (∀ r S' v H0' H', Pe r S' → At K B H0' Γ S' σ H' → Ex H0 H0' → SlOk K H0' (some (some v)) r → Q v H') ∧ ∀ cls S' H0' H', ex cls Γ S' → At K B H0' Γ S' σ H' → B.E cls none σ H'
/-- a test of that kind -/
def rtE (K : PySem.W.Frag) (B : Bs) (Γ : Gam) (S : Sto) (Pt : Bool → Sto → Prop) (ex : Value → Gam → Sto → Prop) : TT := fun σ H Q => ∃ H0, At K B H0 Γ S σ H ∧
  (∀ b S' H0' H', Pt b S' → At K B H0' Γ S' σ H' → Ex H0 H0' → Q b H') ∧ ∀ cls S' H0' H', ex cls Γ S' → At K B H0' Γ S' σ H' → B.E cls none σ H'
abbrev GE (X : Cx) (B : Bs) (Γ : Gam) (S : Sto) (e : Expr) (Pe : Sl → Sto → Prop) (ex : Value → Gam → Sto → Prop) : Prop := PE X e (re X.K B Γ S Pe ex)
abbrev GTE (X : Cx) (B : Bs) (Γ : Gam) (S : Sto) (e : Expr) (Pt : Bool → Sto → Prop) (ex : Value → Gam → Sto → Prop) : Prop := PT X e (rtE X.K B Γ S Pt ex)
section
variable {X : Cx} {B : Bs} {Γ : Gam} {S : Sto} {st : Stmt} {rest : List Stmt} {a b c e : Expr} {d : PyData} {pos : Pos} {k : Bool} {P : Po}
theorem gss_nil (h : P.N Γ S) : GSs X B Γ S [] P := pss_nil.imp fun D σ H ⟨H0, at0, z⟩ => z.nx Γ S H0 σ H h at0
theorem gss_cons {M : Gam → Sto → Prop} (h1 : GS X B Γ S st { P with N := M }) (h2 : ∀ Γ' S', M Γ' S' → GSs X B Γ' S' rest P) : GSs X B Γ S (st :: rest) P := by
  have h2' : PSs X rest (fun D σ H => ∃ Γ' S', M Γ' S' ∧ rs X.K B Γ' S' P D σ H) := ⟨fun pins s σ H D I ⟨Γ', S', m, q⟩ => (h2 Γ' S' m).run pins s σ H D I q⟩
  exact (pss_cons h1 h2').imp fun D σ H ⟨H0, at0, z⟩ => ⟨H0, at0, fun Γ' S' H1 σ' H' m at1 => ⟨Γ', S', m, H1, at1, z⟩, z.rt, z.bk, z.ct, z.ex⟩
theorem gss_seq {Γ' : Gam} {S' : Sto} (h1 : GS X B Γ S st { P with N := fun Γ1 S1 => Γ1 = Γ' ∧ S1 = S' }) (h2 : GSs X B Γ' S' rest P) : GSs X B Γ S (st :: rest) P := gss_cons h1 fun _ _ ⟨e1, e2⟩ => by subst e1 e2; exact h2
theorem gss_one (h1 : GS X B Γ S st P) : GSs X B Γ S [st] P := pss_one h1
theorem gs_set {i : Nat} {x : Str} {pos' : Pos} {r : Sl} (hN : X.N.Nodup) (hi : X.N[i]? = some x) (hx : Loc X.env.scope x) (he : PE X e (rd X.K B Γ S r)) (q : P.N (Γ.set i r) S) (hs : swapsWith e (some (.Name x pos')) pos.line X.env = pure false := by rfl)
    (hf : X.fn x = true ∨ X.env.scope.names.lookup x = some .local := by first | exact .inl rfl | exact .inr rfl | assumption) : GS X B Γ S (.Assign [.Name x pos'] e pos) P :=
  (ps_set hN hi hx he hs hf).imp fun D σ H ⟨H0, at0, z⟩ => ⟨H0, at0, fun v H0' H' at1 e1 hv => z.nx _ _ H0' _ H' q (at1.set i hv)⟩
theorem gss_set {i : Nat} {x : Str} {pos' : Pos} {r : Sl} (hN : X.N.Nodup) (hi : X.N[i]? = some x) (hx : Loc X.env.scope x) (he : PE X e (rd X.K B Γ S r)) (h2 : GSs X B (Γ.set i r) S rest P) (hs : swapsWith e (some (.Name x pos')) pos.line X.env = pure false := by rfl)
    (hf : X.fn x = true ∨ X.env.scope.names.lookup x = some .local := by first | exact .inl rfl | exact .inr rfl | assumption) : GSs X B Γ S (.Assign [.Name x pos'] e pos :: rest) P := gss_seq (gs_set hN hi hx he ⟨rfl, rfl⟩ hs hf) h2
theorem gs_if {t u : List Stmt} (hc : GT X B Γ S c k) (h1 : k = true → GSs X B Γ S t P) (h2 : k = false → GSs X B Γ S u P) : GS X B Γ S (.If c t u pos) P := by
  cases k with
  | true => exact (ps_if hc (h1 rfl) pss_never).imp fun D σ H ⟨H0, at0, z⟩ => ⟨H0, at0, fun H0' H' at1 _ => iteT ⟨H0', at1, z⟩⟩
  | false => exact (ps_if hc pss_never (h2 rfl)).imp fun D σ H ⟨H0, at0, z⟩ => ⟨H0, at0, fun H0' H' at1 _ => iteF ⟨H0', at1, z⟩⟩
theorem gss_if {t u : List Stmt} (hc : GT X B Γ S c k) (h1 : k = true → GSs X B Γ S t { P with N := fun Γ' S' => GSs X B Γ' S' rest P }) (h2 : k = false → GSs X B Γ S u { P with N := fun Γ' S' => GSs X B Γ' S' rest P }) : GSs X B Γ S (.If c t u pos :: rest) P :=
  gss_cons (gs_if hc h1 h2) fun _ _ h => h
/-- an if behind which the slots are F of some x with Pr x -/
theorem gss_join {α : Type} (F : Gam → α → Gam) (Pr : α → Prop) {t u : List Stmt} (hc : GT X B Γ S c k) (h1 : k = true → GSs X B Γ S t { P with N := fun Γ' S' => ∃ x, Pr x ∧ Γ' = F Γ x ∧ S' = S })
    (h2 : k = false → GSs X B Γ S u { P with N := fun Γ' S' => ∃ x, Pr x ∧ Γ' = F Γ x ∧ S' = S }) (h3 : ∀ x, Pr x → GSs X B (F Γ x) S rest P) : GSs X B Γ S (.If c t u pos :: rest) P :=
  gss_cons (gs_if hc h1 h2) fun Γ' S' h => by obtain ⟨x, p, rfl, rfl⟩ := h; exact h3 x p
theorem gs_ret {r : Sl} (he : PE X e (rd X.K B Γ S r)) (q : P.R r S) : GS X B Γ S (.Return (some e) pos) P := (ps_ret he).imp fun D σ H ⟨H0, at0, z⟩ => ⟨H0, at0, fun v H0' H' at1 _ hv => z.rt r Γ S v H0' σ H' q at1 hv⟩
theorem ret_all {t : Stmt} (h : GS X B Γ S t { P with N := fun _ _ => False }) : GSs X B Γ S (t :: rest) P := by
  have h2 : PSs X rest tNever := pss_never
  exact (pss_cons h h2).imp fun D σ H ⟨H0, at0, z⟩ => ⟨H0, at0, fun _ _ _ _ _ m _ => m.elim, z.rt, z.bk, z.ct, z.ex⟩
theorem gss_ret {r : Sl} (he : PE X e (rd X.K B Γ S r)) (q : P.R r S) : GSs X B Γ S (.Return (some e) pos :: rest) P := ret_all (gs_ret he q)
theorem gs_doc {x : Str} {j : Nat} {pos' : Pos} (q : P.N Γ S) : GS X B Γ S (.Expr (.Constant (.str x) j pos) pos') P := ps_doc.imp fun D σ H ⟨H0, at0, z⟩ => z.nx Γ S H0 σ H q at0
theorem gss_mono {Q : Po} (h : GSs X B Γ S rest P) (n : ∀ Γ S, P.N Γ S → Q.N Γ S) (r : ∀ v S, P.R v S → Q.R v S) (b : ∀ Γ S, P.bk Γ S → Q.bk Γ S) (c : ∀ Γ S, P.ct Γ S → Q.ct Γ S) (x : ∀ z Γ S, P.ex z Γ S → Q.ex z Γ S) : GSs X B Γ S rest Q := h.imp fun D σ H ⟨H0, at0, z⟩ =>
  ⟨H0, at0, fun Γ S H0 σ H q => z.nx Γ S H0 σ H (n Γ S q), fun v Γ S u H0 σ H q => z.rt v Γ S u H0 σ H (r v S q), fun Γ S H0 σ H q => z.bk Γ S H0 σ H (b Γ S q), fun Γ S H0 σ H q => z.ct Γ S H0 σ H (c Γ S q), fun y Γ S H0 σ H q => z.ex y Γ S H0 σ H (x y Γ S q)⟩
/-! ### with effects -/
variable {Pe : Sl → Sto → Prop} {ex : Value → Gam → Sto → Prop} {Pt : Bool → Sto → Prop}
theorem ge_of {r : Sl} (h : PE X e (rd X.K B Γ S r)) (q : Pe r S) : GE X B Γ S e Pe ex := h.imp fun σ H Q ⟨H0, at0, k, _⟩ => ⟨H0, at0, fun v H0' H' at1 e1 hv => k r S v H0' H' q at1 e1 hv⟩
theorem gs_setE {i : Nat} {x : Str} {pos' : Pos} (hN : X.N.Nodup) (hi : X.N[i]? = some x) (hx : Loc X.env.scope x) (he : GE X B Γ S e (fun r S' => P.N (Γ.set i r) S') P.ex) (hs : swapsWith e (some (.Name x pos')) pos.line X.env = pure false := by rfl)
    (hf : X.fn x = true ∨ X.env.scope.names.lookup x = some .local := by first | exact .inl rfl | exact .inr rfl | assumption) : GS X B Γ S (.Assign [.Name x pos'] e pos) P :=
  (ps_set hN hi hx he hs hf).imp fun D σ H ⟨H0, at0, z⟩ => ⟨H0, at0, fun r S' v H0' H' q at1 e1 hv => z.nx _ _ H0' _ H' q (at1.set i hv), fun cls S' H0' H' q at1 => z.ex cls Γ S' H0' σ H' q at1⟩
theorem gs_exprE (he : GE X B Γ S e (fun _ S' => P.N Γ S') P.ex) (hs : swapsWith e none pos.line X.env = pure false := by rfl) : GS X B Γ S (.Expr e pos) P :=
  (ps_expr he hs).imp fun D σ H ⟨H0, at0, z⟩ => ⟨H0, at0, fun r S' v H0' H' q at1 e1 hv => z.nx _ _ H0' _ H' q at1, fun cls S' H0' H' q at1 => z.ex cls Γ S' H0' σ H' q at1⟩
theorem gs_retE (he : GE X B Γ S e P.R P.ex) : GS X B Γ S (.Return (some e) pos) P :=
  (ps_ret he).imp fun D σ H ⟨H0, at0, z⟩ => ⟨H0, at0, fun r S' v H0' H' q at1 e1 hv => z.rt r Γ S' v H0' σ H' q at1 hv, fun cls S' H0' H' q at1 => z.ex cls Γ S' H0' σ H' q at1⟩
theorem gte_of {k : Bool} (h : GT X B Γ S c k) (q : Pt k S) : GTE X B Γ S c Pt ex := h.imp fun σ H Q ⟨H0, at0, k1, _⟩ => ⟨H0, at0, fun H0' H' at1 e1 => k1 k S H0' H' q at1 e1⟩
theorem gs_ifE {t u : List Stmt} (hc : GTE X B Γ S c Pt P.ex) (h1 : ∀ S', Pt true S' → GSs X B Γ S' t P) (h2 : ∀ S', Pt false S' → GSs X B Γ S' u P) : GS X B Γ S (.If c t u pos) P := by
  have h1' : PSs X t (fun D σ H => ∃ S', Pt true S' ∧ rs X.K B Γ S' P D σ H) := ⟨fun pins s σ H D I ⟨S', m, q⟩ => (h1 S' m).run pins s σ H D I q⟩
  have h2' : PSs X u (fun D σ H => ∃ S', Pt false S' ∧ rs X.K B Γ S' P D σ H) := ⟨fun pins s σ H D I ⟨S', m, q⟩ => (h2 S' m).run pins s σ H D I q⟩
  exact (ps_if hc h1' h2').imp fun D σ H ⟨H0, at0, z⟩ => ⟨H0, at0, fun b S' H0' H' q at1 e1 => by
    cases b with
    | true => exact iteT ⟨S', q, H0', at1, z⟩
    | false => exact iteF ⟨S', q, H0', at1, z⟩, fun cls S' H0' H' q at1 => z.ex cls Γ S' H0' σ H' q at1⟩
end

/-! ### a pure def by its body -/
/-- the slots at the entry -/
def gam (n : Nat) (ds : List PyData) : Gam := ds.map Sl.dat ++ List.replicate (n - ds.length) .un
def gamS (n : Nat) (as : List Sl) : Gam := as ++ List.replicate (n - as.length) .un
abbrev ArgsOk (K : PySem.W.Frag) (H0 : Hp) (vs : List V) (as : List Sl) : Prop := Paired (fun v s => SlOk K H0 (some (some v)) s) vs as
theorem ArgsOk.get {K : PySem.W.Frag} {H0 : Hp} : ∀ {vs : List V} {as : List Sl} {i : Nat} {s : Sl}, ArgsOk K H0 vs as → as[i]? = some s → ∃ v, vs[i]? = some v ∧ SlOk K H0 (some (some v)) s
  | _, _, _, _, .nil, e => by simp at e
  | _, _, 0, _, .cons r _, e => by simp at e; subst e; exact ⟨_, rfl, r⟩
  | _, _, i + 1, s, .cons _ t, e => by
    obtain ⟨u, h1, h2⟩ := ArgsOk.get (i := i) (s := s) t (by simpa using e)
    exact ⟨u, by simpa using h1, h2⟩
theorem args_of {K : PySem.W.Frag} {H0 : Hp} : ∀ {vs : List V} {ds : List PyData}, DpAll K H0 vs ds → ArgsOk K H0 vs (ds.map Sl.dat)
  | _, _, .nil => .nil
  | _, _, .cons h t => .cons (SlOk.dat h) (args_of t)
theorem env_startS {K : PySem.W.Frag} {H0 : Hp} {N : List Str} {vs : List V} {as : List Sl} (h : ArgsOk K H0 vs as) (hl : as.length ≤ N.length) : EnvOk K H0 (L2.start N vs) (gamS N.length as) := by
  have e : vs.length = as.length := Paired.length h
  refine ⟨?_, fun i s q => ?_⟩
  · unfold L2.start gamS
    rw [List.length_append, List.length_append, List.length_map, List.length_replicate, List.length_replicate, e]
  · unfold gamS at q
    by_cases hi : i < as.length
    · rw [List.getElem?_append_left hi] at q
      obtain ⟨v, h1, h2⟩ := ArgsOk.get h q
      unfold L2.start
      rw [List.getElem?_append_left (by rw [List.length_map, e]; exact hi), List.getElem?_map, h1]
      exact h2
    · rw [List.getElem?_append_right (by omega), List.getElem?_replicate] at q
      split at q
      · cases q; trivial
      · cases q
theorem gam_S {n : Nat} {ds : List PyData} : gam n ds = gamS n (ds.map Sl.dat) := by unfold gam gamS; rw [List.length_map]
/-- a def or method that may change what is owned and may raise: what is asked, what is told -/
def NewK (H : Hp) (S S' : Sto) : Prop := ∀ p ∈ keys S', p ∈ keys S ∨ H p = none
abbrev Rq := List Sl → Sto → (Sl → Sto → Prop) → (Value → Sto → Prop) → Prop
def SpM (K : PySem.W.Frag) (R : Rq) : Sp := fun vs H Q E => ∃ H0 as S PR PX, Ex H0 H ∧ R as S PR PX ∧ ArgsOk K H0 vs as ∧ StoOk K H0 H S ∧
  (∀ r S' v H0' H', PR r S' → Fra ⟨H0, H, keys S, fun _ _ _ _ => False⟩ H0' H' → StoOk K H0' H' S' → NewK H S S' → SlOk K H0' (some (some v)) r → Q v H') ∧
  ∀ cls S' H0' H', PX cls S' → Fra ⟨H0, H, keys S, fun _ _ _ _ => False⟩ H0' H' → StoOk K H0' H' S' → NewK H S S' → E cls none H'
theorem Fra.toE {H0 H H0' H' : Hp} {ks : List Addr} {E E' : WX} (f : Fra ⟨H0, H, ks, E⟩ H0' H') : Fra ⟨H0, H, ks, E'⟩ H0' H' := ⟨f.e0, f.e1, f.e2, f.fr, f.th⟩
section
variable {P : Program} {w : World} {K : PySem.W.Frag} {mg : Str → Option Value} {base : Heap}
theorem pure_def {x qual : Str} {st : Stmt} {f : Addr} {fd : FuncData} {N ps : List Str} {n : Nat} {R : List PyData → PyData → Prop} (F : Fun K x qual st f fd) (Sc : FnScope N ps (defScope st)) (hlen : ∀ ds d, R ds d → ds.length = ps.length)
    (hbody : ∀ (cdv : Value) (A : Around) (outer : List Env) (s : Shared) (H : Hp) (E : XK) (B : Bs) (ds : List PyData) (d : PyData), Room n (A.deeper (envOfC qual (defScope st) s.heap.objs.size f cdv)) → R ds d →
      GSs (cxOf CX0 P w K mg base N qual (defScope st) f cdv A outer s H E).nox B (gam N.length ds) [] (defBody st) { N := fun _ _ => d = .none, R := fun r _ => r = .dat d }) : FnOk P w K mg base CX0 (n + 1) f fd ps (SpD K R) := by
  refine F.ok Sc (fun vs H Q E h => ?_) (fun cdv A outer s H vs Q E hr h => ?_)
  · obtain ⟨H0, ds, d, _, hR, hv, _⟩ := h
    rw [dps_len hv]
    exact hlen ds d hR
  · obtain ⟨H0, ds, d, e, hR, hv, k⟩ := h
    have hle : ps.length ≤ N.length := by have := congrArg List.length Sc.pre; rw [List.length_take] at this; omega
    refine ⟨_, hbody cdv A outer s H E ⟨H0, H, [], fun _ _ _ _ => False⟩ ds d hr hR, H0, ⟨Fra.refl e, by rw [gam_S]; exact env_startS (args_of hv) (by rw [List.length_map, hlen ds d hR]; exact hle), StoOk.nil, fun p z => nomatch z⟩, ?_, ?_, ?_, ?_, ?_⟩
    · intro Γ S H0' σ H' hd at1
      subst hd
      exact k .non H0' H' at1.fra.toExt .non
    · intro r Γ S v H0' σ H' hr at1 hv
      subst hr
      exact k v H0' H' at1.fra.toExt hv.toDp
    · intro _ _ _ _ _ h _
      exact h.elim
    · intro _ _ _ _ _ h _
      exact h.elim
    · intro _ _ _ _ _ _ h _
      exact h.elim
/-- .. with owned things, nothing raised -/
theorem mut_def0 {x qual : Str} {st : Stmt} {f : Addr} {fd : FuncData} {N ps : List Str} {n : Nat} {R : Rq} (F : Fun K x qual st f fd) (Sc : FnScope N ps (defScope st)) (hlen : ∀ as S PR PX, R as S PR PX → as.length = ps.length)
    (hbody : ∀ (cdv : Value) (A : Around) (outer : List Env) (s : Shared) (H : Hp) (E : XK) (B : Bs) (as : List Sl) (S : Sto) (PR : Sl → Sto → Prop) (PX : Value → Sto → Prop), Room n (A.deeper (envOfC qual (defScope st) s.heap.objs.size f cdv)) → R as S PR PX →
      GSs (cxOf CX0 P w K mg base N qual (defScope st) f cdv A outer s H E).nox B (gamS N.length as) S (defBody st) { N := fun _ S' => PR (.dat .none) S', R := PR }) : FnOk P w K mg base CX0 (n + 1) f fd ps (SpM K R) := by
  refine F.ok Sc (fun vs H Q E h => ?_) (fun cdv A outer s H vs Q E hr h => ?_)
  · obtain ⟨H0, as, S, PR, PX, _, hR, hv, _⟩ := h
    rw [Paired.length hv]
    exact hlen as S PR PX hR
  · obtain ⟨H0, as, S, PR, PX, e, hR, hv, hS, k, kx⟩ := h
    have hle : ps.length ≤ N.length := by have := congrArg List.length Sc.pre; rw [List.length_take] at this; omega
    refine ⟨_, hbody cdv A outer s H E ⟨H0, H, keys S, fun _ _ _ _ => False⟩ as S PR PX hr hR, H0, ⟨Fra.refl e, env_startS hv (by rw [hlen as S PR PX hR]; exact hle), hS, fun p z => .inl z⟩, ?_, ?_, ?_, ?_, ?_⟩
    · intro Γ S' H0' σ H' hd at1
      exact k _ S' .non H0' H' hd at1.fra at1.sto at1.wr ⟨_, rfl, .non⟩
    · intro r Γ S' v H0' σ H' hr at1 hv
      exact k r S' v H0' H' hr at1.fra at1.sto at1.wr hv
    · intro _ _ _ _ _ h _
      exact h.elim
    · intro _ _ _ _ _ h _
      exact h.elim
    · intro _ _ _ _ _ _ h _
      exact h.elim
end
theorem law_sp {K : PySem.W.Frag} {R : List PyData → PyData → Prop} {H : Hp} {a : Addr} {ns : List Int} {E : XK} (hR : R [.list (ns.map PyData.int)] (.bool true)) (hS : SqL K H a (ns.map V.int)) : SpD K R [.ref a] H (fun v _ => v = .bl true) E :=
  ⟨H, _, _, Ex.refl H, hR, .cons (.lst hS (dps_ints ns)) .nil, fun v H0' H' _ hv => by cases hv; rfl⟩
/-! ### what is owned, changed -/
theorem free_of {K : PySem.W.Frag} {H0 H : Hp} {S : Sto} {p : Addr} (h : StoOk K H0 H S) (hp : H p = none) : p ∉ keys S := fun z => by
  obtain ⟨ov, m⟩ := of_keys z
  exact OvOk.ne (h.at_ p ov m).2 hp
theorem nd_at {S : Sto} (nd : (keys S).Nodup) {n : Nat} {p : Addr} {ov : OV} (hn : S[n]? = some (p, ov)) {q : Addr} {ow : OV} {m : Nat} (hm : S[m]? = some (q, ow)) (h : m ≠ n) : q ≠ p := fun e => by
  subst e
  have h1 : (keys S)[n]? = some q := by rw [List.getElem?_map, hn]; rfl
  have h2 : (keys S)[m]? = some q := by rw [List.getElem?_map, hm]; rfl
  exact h (nd_ix nd h2 h1)
theorem keys_set {S : Sto} {n : Nat} {p : Addr} {ov ow : OV} (hn : S[n]? = some (p, ov)) : keys (S.set n (p, ow)) = keys S := by
  refine List.ext_getElem? fun m => ?_
  rw [List.getElem?_map, List.getElem?_map]
  by_cases h : n = m
  · subst h
    obtain ⟨hl, _⟩ := List.getElem?_eq_some_iff.mp hn
    rw [List.getElem?_set_self hl, hn]
    rfl
  · rw [List.getElem?_set_ne h]
theorem At.write {K : PySem.W.Frag} {B : Bs} {H0 H : Hp} {Γ : Gam} {S : Sto} {σ : St} {n : Nat} {p : Addr} {ov ow : OV} {o : HO} (a : At K B H0 Γ S σ H) (hn : S[n]? = some (p, ov)) (hw : OvOk K H0 (upd H p o) p ow) : At K B H0 Γ (S.set n (p, ow)) σ (upd H p o) := by
  have hm : (p, ov) ∈ S := List.mem_of_getElem? hn
  obtain ⟨h0, h1⟩ := a.sto.at_ p ov hm
  have hne := OvOk.ne h1
  have hp : ∀ b, H b = none → b ≠ p := fun b e z => hne (by rw [← z]; exact e)
  refine ⟨⟨a.fra.e0, fun b o' e nb => ?_, fun b o' e => ?_, a.fra.fr, fun b e => ?_⟩, a.env, ⟨fun q ow' hq => ?_, ?_⟩, fun q hq => ?_⟩
  · have : b ≠ p := fun z => (a.wr p (mem_keys hm)).elim (fun k => nb (by rw [z]; exact k)) fun k => by rw [z, k] at e; cases e
    rw [upd_ne this]; exact a.fra.e1 b o' e nb
  · rw [upd_ne (ne_of_none e h0)]; exact a.fra.e2 b o' e
  · by_cases z : b = p
    · subst z; rw [upd_same]; exact fun q => nomatch q
    · rw [upd_ne z]; exact a.fra.th b e
  · obtain ⟨m, hm'⟩ := List.getElem?_of_mem hq
    by_cases z : n = m
    · subst z
      obtain ⟨hl, _⟩ := List.getElem?_eq_some_iff.mp hn
      rw [List.getElem?_set_self hl] at hm'
      cases hm'
      exact ⟨h0, hw⟩
    · rw [List.getElem?_set_ne z] at hm'
      obtain ⟨k0, k1⟩ := a.sto.at_ q ow' (List.mem_of_getElem? hm')
      have : q ≠ p := nd_at a.sto.nd hn hm' (fun e => z e.symm)
      exact ⟨k0, OvOk.ext (Ex.refl _) (fun o' e => by rw [upd_ne this]; exact e) k1⟩
  · rw [keys_set hn]; exact a.sto.nd
  · rw [keys_set hn] at hq; exact a.wr q hq
/-- a new owned thing -/
theorem At.own {K : PySem.W.Frag} {B : Bs} {H0 H : Hp} {Γ : Gam} {S : Sto} {σ : St} {p : Addr} {ow : OV} {o : HO} (a : At K B H0 Γ S σ H) (hp : H p = none) (hw : OvOk K H0 (upd H p o) p ow) : At K B H0 Γ ((p, ow) :: S) σ (upd H p o) := by
  have b := a.ext (Ext.newH (o := o) a.e2 hp)
  refine ⟨b.fra, b.env, ⟨fun q ow' hq => ?_, ?_⟩, fun q hq => ?_⟩
  · rcases List.mem_cons.mp hq with e | hq
    · cases e; exact ⟨free0 a.e2 hp, hw⟩
    · exact b.sto.at_ q ow' hq
  · exact List.nodup_cons.mpr ⟨free_of a.sto hp, b.sto.nd⟩
  · rcases List.mem_cons.mp hq with e | hq
    · cases e
      refine .inr ?_
      cases z : B.H p with
      | none => rfl
      | some o' => exact absurd hp (a.fra.th p (by rw [z]; exact fun q => nomatch q))
    · exact a.wr q hq
/-- an owned list is data from now on -/
theorem At.freeze {K : PySem.W.Frag} {B : Bs} {H0 H : Hp} {Γ : Gam} {S : Sto} {σ : St} {n : Nat} {p : Addr} {ds : List PyData} (a : At K B H0 Γ S σ H) (hn : S[n]? = some (p, .lst ds)) (hk : B.H p = none) : ∃ H0', Ex H0 H0' ∧ At K B H0' Γ (S.eraseIdx n) σ H ∧ Dp K H0' (.ref p) (.list ds) := by
  have hm : (p, OV.lst ds) ∈ S := List.mem_of_getElem? hn
  obtain ⟨h0, vs, h1, h2⟩ := a.sto.at_ p _ hm
  have e0 : Ex H0 (upd H0 p (.lst vs)) := Ex.new h0
  refine ⟨upd H0 p (.lst vs), e0, ⟨⟨a.fra.e0.trans e0, a.fra.e1, fun b o e => ?_, fun b e1 e2 => ?_, a.fra.th⟩, a.env.ext e0, ⟨fun q ow hq => ?_, ?_⟩, fun q hq => ?_⟩, .lst (.inl (.inl upd_same)) (dps_ex e0 _ _ h2)⟩
  · by_cases z : b = p
    · subst z; rw [upd_same] at e; cases e; exact h1
    · rw [upd_ne z] at e; exact a.fra.e2 b o e
  · have : b ≠ p := fun z => e2 (by rw [z]; exact hk)
    rw [upd_ne this]; exact a.fra.fr b e1 e2
  · obtain ⟨m, hm'⟩ := List.getElem?_of_mem hq
    obtain ⟨m', hne, hm''⟩ : ∃ m', m' ≠ n ∧ S[m']? = some (q, ow) := by
      rw [List.getElem?_eraseIdx] at hm'
      split at hm'
      · exact ⟨m, by omega, hm'⟩
      · exact ⟨m + 1, by omega, hm'⟩
    obtain ⟨k0, k1⟩ := a.sto.at_ q ow (List.mem_of_getElem? hm'')
    have : q ≠ p := nd_at a.sto.nd hn hm'' hne
    exact ⟨by rw [upd_ne this]; exact k0, OvOk.ext e0 (fun o' e => e) k1⟩
  · have sub : (keys (S.eraseIdx n)).Sublist (keys S) := (List.eraseIdx_sublist S n).map _
    exact a.sto.nd.sublist sub
  · have sub : (keys (S.eraseIdx n)).Sublist (keys S) := (List.eraseIdx_sublist S n).map _
    exact a.wr q (sub.subset hq)

/-! ### attributes -/
def idxF (f : Str) : List Str → Option Nat
  | [] => none
  | g :: r => if g = f then some 0 else (idxF f r).map (· + 1)
theorem idxF_cons {f g : Str} {s : Sl} {t : List (Str × Sl)} : idxF f (((g, s) :: t).map (·.1)) = if g = f then some 0 else (idxF f (t.map (·.1))).map (· + 1) := rfl
theorem idxF_look {f : Str} : ∀ {fs : List (Str × Sl)} {j : Nat} {x : Str} {r : Sl}, idxF f (fs.map (·.1)) = some j → fs[j]? = some (x, r) → fs.lookup f = some r
  | [], _, _, _, h, _ => by cases h
  | (g, s) :: t, j, x, r, h, e => by
    rw [idxF_cons] at h
    rw [List.lookup_cons]
    by_cases z : g = f
    · rw [if_pos z] at h; cases h
      cases e
      rw [beq_iff_eq.mpr z.symm]
    · rw [if_neg z] at h
      rw [beq_eq_false_iff_ne.mpr (fun q => z q.symm)]
      cases q : idxF f (t.map (·.1)) with
      | none => rw [q] at h; cases h
      | some k =>
        rw [q] at h; cases h
        exact idxF_look q (by simpa using e)
theorem idxF_no {f : Str} : ∀ {fs : List (Str × Sl)}, idxF f (fs.map (·.1)) = none → fs.lookup f = none
  | [], _ => rfl
  | (g, s) :: t, h => by
    rw [idxF_cons] at h
    rw [List.lookup_cons]
    by_cases z : g = f
    · rw [if_pos z] at h; cases h
    · rw [if_neg z] at h
      rw [beq_eq_false_iff_ne.mpr (fun q => z q.symm)]
      cases q : idxF f (t.map (·.1)) with
      | none => exact idxF_no q
      | some k => rw [q] at h; cases h
theorem putS_at {f : Str} {r : Sl} : ∀ {fs : List (Str × Sl)} {j : Nat}, idxF f (fs.map (·.1)) = some j → putS f r fs = fs.set j (f, r)
  | [], _, h => by cases h
  | (g, s) :: t, j, h => by
    rw [idxF_cons] at h
    unfold putS
    by_cases z : g = f
    · rw [if_pos z] at h; cases h
      rw [if_pos z, z]; rfl
    · rw [if_neg z] at h
      rw [if_neg z]
      cases q : idxF f (t.map (·.1)) with
      | none => rw [q] at h; cases h
      | some k =>
        rw [q] at h; cases h
        rw [putS_at q]; rfl
def setF (j : Option Nat) (f : Str) (r : Sl) (fs : List (Str × Sl)) : List (Str × Sl) := match j with
  | some j => fs.set j (f, r)
  | none => fs ++ [(f, r)]
theorem putS_no {f : Str} {r : Sl} : ∀ {fs : List (Str × Sl)}, idxF f (fs.map (·.1)) = none → putS f r fs = fs ++ [(f, r)]
  | [], _ => rfl
  | (g, s) :: t, h => by
    rw [idxF_cons] at h
    unfold putS
    by_cases z : g = f
    · rw [if_pos z] at h; cases h
    · rw [if_neg z] at h
      rw [if_neg z]
      cases q : idxF f (t.map (·.1)) with
      | none => rw [putS_no q]; rfl
      | some k => rw [q] at h; cases h
section
variable {X : Cx} {B : Bs} {Γ : Gam} {S : Sto} {st : Stmt} {rest : List Stmt} {a b c e o : Expr} {es : List Expr} {d : PyData} {ds : List PyData} {pos : Pos} {k : Bool} {P : Po} {n : Nat} {p : Addr} {i : Int} {f : Str} {C : Addr} {fs : List (Str × Sl)} {names : List Str} {r : Sl}
/-- o.f -/
theorem ge_fld {j : Nat} {x : Str} (ho : GR X B Γ S o (.ref p)) (hn : S[n]? = some (p, .obj C fs)) (hc : Cls X.K C) (hf : NoAttr X.K C f) (hnm : fs.map (·.1) = names) (hj : idxF f names = some j) (hr : fs[j]? = some (x, r)) (hu : r ≠ .un)
    (hb : attributeBase o f X.env (eval o X.env) = eval o X.env := by rfl) : PE X (.Attribute o f pos) (rd X.K B Γ S r) := (pe_fld ho hb).imp fun σ H Q ⟨H0, at0, k⟩ => ⟨H0, at0, fun v H1 H' at1 e1 hv => by
  have hv : (some (some v) : Option (Option V)) = some (some (.ref p)) := hv
  cases hv
  obtain ⟨h0, dx, vs, h1, h2⟩ := at1.sto.at_ p _ (List.mem_of_getElem? hn)
  subst hnm
  obtain ⟨v, h3, h4⟩ := h2.get (idxF_look hj hr)
  exact ⟨p, C, dx, vs, v, rfl, h1, hc, hf, h3, k v H1 H' at1 e1 h4⟩⟩
/-- o.f = e, an attribute that is there -/
theorem gs_fld {j : Nat} {pos' : Pos} (ho : GR X B Γ S o (.ref p)) (he : PE X e (rd X.K B Γ S r)) (hn : S[n]? = some (p, .obj C fs)) (hc : Cls X.K C) (hf : NoAttr X.K C f) (hnm : fs.map (·.1) = names) (hj : idxF f names = some j) (hl : fs.length < 1000)
    (q : P.N Γ (S.set n (p, .obj C (fs.set j (f, r))))) (hs : swapsWith e (some (.Attribute o f pos')) pos.line X.env = pure false := by rfl) : GS X B Γ S (.Assign [.Attribute o f pos'] e pos) P := (ps_fld ho he hs).imp fun D σ H ⟨H0, at0, z⟩ => ⟨H0, at0, fun y H1 H' at1 e1 hy => ⟨H1, at1, fun v H2 H'' at2 e2 hv => by
  have hv : (some (some v) : Option (Option V)) = some (some (.ref p)) := hv
  cases hv
  obtain ⟨h0, dx, vs, h1, h2⟩ := at2.sto.at_ p _ (List.mem_of_getElem? hn)
  subst hnm
  refine ⟨p, C, dx, vs, rfl, h1, hc, hf, by rw [h2.len]; exact hl, ?_⟩
  exact z.nx _ _ H2 σ _ q (at2.write hn ⟨dx, _, upd_same, by rw [← putS_at hj]; exact FsOk.put (hy.ext e2) h2⟩)⟩⟩
/-- o.f = e, a new attribute -/
theorem gs_fldNew {pos' : Pos} (ho : GR X B Γ S o (.ref p)) (he : PE X e (rd X.K B Γ S r)) (hn : S[n]? = some (p, .obj C fs)) (hc : Cls X.K C) (hf : NoAttr X.K C f) (hnm : fs.map (·.1) = names) (hj : idxF f names = none) (hl : fs.length < 1000)
    (q : P.N Γ (S.set n (p, .obj C (fs ++ [(f, r)])))) (hs : swapsWith e (some (.Attribute o f pos')) pos.line X.env = pure false := by rfl) : GS X B Γ S (.Assign [.Attribute o f pos'] e pos) P := (ps_fld ho he hs).imp fun D σ H ⟨H0, at0, z⟩ => ⟨H0, at0, fun y H1 H' at1 e1 hy => ⟨H1, at1, fun v H2 H'' at2 e2 hv => by
  have hv : (some (some v) : Option (Option V)) = some (some (.ref p)) := hv
  cases hv
  obtain ⟨h0, dx, vs, h1, h2⟩ := at2.sto.at_ p _ (List.mem_of_getElem? hn)
  subst hnm
  refine ⟨p, C, dx, vs, rfl, h1, hc, hf, by rw [h2.len]; exact hl, ?_⟩
  exact z.nx _ _ H2 σ _ q (at2.write hn ⟨dx, _, upd_same, by rw [← putS_no hj]; exact FsOk.put (hy.ext e2) h2⟩)⟩⟩
/-- o.f = e, e with effects (a new list): the object stands at n behind it -/
theorem gs_fldE {j : Option Nat} {pos' : Pos} {Pe : Sl → Sto → Prop} (he : GE X B Γ S e Pe P.ex) (hc : Cls X.K C) (hf : NoAttr X.K C f)
    (q : ∀ r S', Pe r S' → ∃ n fs names, GR X B Γ S' o (.ref p) ∧ S'[n]? = some (p, .obj C fs) ∧ fs.map (·.1) = names ∧ idxF f names = j ∧ fs.length < 1000 ∧ P.N Γ (S'.set n (p, .obj C (setF j f r fs))))
    (hs : swapsWith e (some (.Attribute o f pos')) pos.line X.env = pure false := by rfl) : GS X B Γ S (.Assign [.Attribute o f pos'] e pos) P := by
  have ho : PE X o (fun σ H Q => ∃ r S', Pe r S' ∧ rd X.K B Γ S' (.raw (.ref p)) σ H Q) := ⟨fun pins s σ H Q I ⟨r, S', m, z⟩ => by
    obtain ⟨n, fs, names, h1, _⟩ := q r S' m
    exact h1.run pins s σ H Q I z⟩
  refine (ps_fld ho he hs).imp fun D σ H ⟨H0, at0, z⟩ => ⟨H0, at0, fun r S' y H1 H' m at1 e1 hy => ⟨r, S', m, H1, at1, fun v H2 H'' at2 e2 hv => ?_⟩, fun cls S' H0' H' q at1 => z.ex cls Γ S' H0' σ H' q at1⟩
  have hv : (some (some v) : Option (Option V)) = some (some (.ref p)) := hv
  cases hv
  obtain ⟨n, fs, names, _, hn, hnm, hj, hl, qq⟩ := q r S' m
  obtain ⟨h0, dx, vs, h1, h2⟩ := at2.sto.at_ p _ (List.mem_of_getElem? hn)
  subst hnm
  refine ⟨p, C, dx, vs, rfl, h1, hc, hf, by rw [h2.len]; exact hl, ?_⟩
  refine z.nx _ _ H2 σ _ qq (at2.write hn ⟨dx, _, upd_same, ?_⟩)
  cases j with
  | some j => show FsOk _ _ _ (fs.set j (f, r)); rw [← putS_at hj]; exact FsOk.put (hy.ext e2) h2
  | none => show FsOk _ _ _ (fs ++ [(f, r)]); rw [← putS_no hj]; exact FsOk.put (hy.ext e2) h2
/-! ### owned lists -/
theorem gd_ixO (ho : GR X B Γ S o (.ref p)) (hi : GD X B Γ S b (.int i)) (hn : S[n]? = some (p, .lst ds)) (q : atI ds i = some d) (hs : PlainIx b := by exact fun _ _ => rfl) : GD X B Γ S (.Subscript o b pos) d := (pe_ix ix_list ho hi hs).imp fun σ H Q ⟨H0, at0, k⟩ => ⟨H0, at0, fun v H1 H' at1 e1 hv => ⟨H1, at1, fun w H2 H'' at2 e2 hw => by
  have hv : (some (some v) : Option (Option V)) = some (some (.ref p)) := hv
  cases hv
  have hw := hw.toDp
  cases hw
  obtain ⟨h0, vs, h1, h2⟩ := at2.sto.at_ p _ (List.mem_of_getElem? hn)
  have hl := dps_len h2
  obtain ⟨m, q1, q2⟩ : ∃ m, ixN ds.length i = some m ∧ ds[m]? = some d := by
    unfold atI at q
    cases z : ixN ds.length i with
    | none => rw [z] at q; cases q
    | some m => rw [z] at q; exact ⟨m, rfl, q⟩
  obtain ⟨u, u1, u2⟩ := dps_get h2 q2
  exact ⟨p, vs, i, u, rfl, rfl, .inl (.inl h1), by unfold atI; rw [hl, q1]; exact u1, k u H2 H'' at2 (e1.trans e2) ⟨u, rfl, u2⟩⟩⟩⟩
theorem gd_lenO {nm : Str} {p2 : Pos} (hg : Gl X nm) (hm : X.mg nm = none) (hv : bootBuiltins nm = some (.builtin "len")) (ho : GR X B Γ S o (.ref p)) (hn : S[n]? = some (p, .lst ds)) (hnn : nm ≠ "__name__" := by decide) (hdb : (nm == ("__debug__" : Str)) = false := by decide)
    (he : starEach [o] X.env = (false, eval o X.env) :: starEach [] X.env := by rfl) (hpl : (backTo pos (starEach [] X.env)).any (·.1) = false := by rfl) : GD X B Γ S (.Call (.Name nm p2) [o] [] pos) (.int (ds.length : Int)) :=
  (pe_callB call_len_seq hg hm hv (pa_cons ho pa_nil he) hnn hdb he hpl).imp fun σ H Q ⟨H0, at0, k⟩ => ⟨H0, at0, fun v H1 H' at1 e1 hv => by
    have hv : (some (some v) : Option (Option V)) = some (some (.ref p)) := hv
    cases hv
    obtain ⟨h0, vs, h1, h2⟩ := at1.sto.at_ p _ (List.mem_of_getElem? hn)
    exact ⟨p, vs, rfl, .inl (.inl (.inl h1)), k _ H1 H' at1 e1 ⟨_, rfl, by rw [dps_len h2]; exact .int _⟩⟩⟩
/-- o[i] = e -/
theorem gs_setO {m : Nat} {tpos : Pos} (ho : GR X B Γ S o (.ref p)) (hi : GD X B Γ S b (.int i)) (he : GD X B Γ S e d) (hn : S[n]? = some (p, .lst ds)) (hx : ixN ds.length i = some m) (q : P.N Γ (S.set n (p, .lst (ds.set m d))))
    (ha : ∀ v, assign (.Subscript o b tpos) X.env v = (do
      let ov ← holding [v] (eval o X.env)
      let iv ← holding [v, ov] (eval b X.env)
      standAt tpos
      holding [v, ov, iv] (setItem ov iv v)
      release [v, ov, iv] []) := by intro _; rfl)
    (hs : swapsWithSole [.Subscript o b tpos] e pos.line X.env = pure false := by rfl) (hw : swappedStores [.Subscript o b tpos] e X.env = pure none := by rfl)
    (h1 : (assignEach [.Subscript o b tpos] X.env).map (·.2) = [assign (.Subscript o b tpos) X.env] := by rfl) : GS X B Γ S (.Assign [.Subscript o b tpos] e pos) P :=
  (ps_asg he (pg_sub ho hi set_list ha) hs hw h1).imp fun D σ H ⟨H0, at0, z⟩ => ⟨H0, at0, fun y H1 H' at1 e1 hy => ⟨H1, at1, fun v H2 H'' at2 e2 hv => ⟨H2, at2, fun w H3 H3' at3 e3 hw => by
    have hv : (some (some v) : Option (Option V)) = some (some (.ref p)) := hv
    cases hv
    have hw := hw.toDp
    cases hw
    obtain ⟨h0, vs, h1, h2⟩ := at3.sto.at_ p _ (List.mem_of_getElem? hn)
    refine ⟨p, vs, i, m, rfl, rfl, h1, by rw [dps_len h2]; exact hx, ?_⟩
    exact z.nx _ _ H3 σ _ q (at3.write hn ⟨_, upd_same, dps_set (dp_ex (e2.trans e3) _ _ hy.toDp) m h2⟩)⟩⟩⟩
/-- o.append(e) -/
theorem gs_appO {apos epos : Pos} (ho : GR X B Γ S o (.ref p)) (he : GD X B Γ S e d) (hn : S[n]? = some (p, .lst ds)) (hz : ds.length < 100000) (q : P.N Γ (S.set n (p, .lst (ds ++ [d]))))
    (hbase : attributeBase o "append" X.env (eval o X.env) = eval o X.env := by rfl)
    (hfew : ((backTo pos (starEach [e] X.env)).all (fun x => !x.1) && (backToKw pos (keywordEach [] X.env)).all (fun x => x.1.isSome)
      && decide (([e] : List Expr).length + ([] : List Keyword).length + (if ([] : List Keyword).isEmpty then 0 else 1) < 30)) = true := by rfl)
    (hline : (apos.endLine == pos.line) = true := by rfl) (hs : starEach [e] X.env = (false, eval e X.env) :: starEach [] X.env := by rfl) (hplain : (backTo pos (starEach [] X.env)).any (·.1) = false := by rfl)
    (hsw : swapsWith (.Call (.Attribute o "append" apos) [e] [] pos) none epos.line X.env = pure false := by rfl) : GS X B Γ S (.Expr (.Call (.Attribute o "append" apos) [e] [] pos) epos) P :=
  (ps_expr (pe_bm PySem.F.plainAttrs_list PySem.F.slot_list_append PySem.F.type_list_append mt_append ho (pa_cons he pa_nil hs) hbase hfew hline hs hplain) hsw).imp fun D σ H ⟨H0, at0, z⟩ => ⟨H0, at0, fun v H1 H' at1 e1 hv => by
    have hv : (some (some v) : Option (Option V)) = some (some (.ref p)) := hv
    cases hv
    obtain ⟨h0, vs, h1, h2⟩ := at1.sto.at_ p _ (List.mem_of_getElem? hn)
    refine ⟨.inl ⟨rfl, _, .inl (.inl h1)⟩, H1, at1, fun y H2 H'' at2 e2 hy => ?_⟩
    obtain ⟨h0', vs', h1', h2'⟩ := at2.sto.at_ p _ (List.mem_of_getElem? hn)
    exact ⟨p, vs', y, rfl, rfl, h1', by rw [dps_len h2']; exact Evl.sz_lt hz, z.nx _ _ H2 σ _ q (at2.write hn ⟨_, upd_same, dps_app h2' (.cons hy.toDp .nil)⟩)⟩⟩
/-- a new owned list -/
theorem ge_lst (h : GA X B Γ S es ds) (hl : ds.length ≤ 100000) {ex : Value → Gam → Sto → Prop} : GE X B Γ S (.List es pos) (fun r S' => ∃ p, B.H p = none ∧ r = .raw (.ref p) ∧ S' = (p, .lst ds) :: S) ex := (pe_lst h).imp fun σ H Q ⟨H0, at0, k, _⟩ => ⟨H0, at0, fun vs H1 H' at1 e1 hvs =>
  ⟨by rw [dps_len hvs]; exact Evl.sz_of hl, fun p hp => k _ _ (.ref p) H1 _ ⟨p, by
      have := (at1.own (ow := .lst ds) (o := .lst vs) hp ⟨vs, upd_same, hvs⟩)
      cases z : B.H p with
      | none => rfl
      | some o' => exact absurd hp (at1.fra.th p (by rw [z]; exact fun q => nomatch q)), rfl, rfl⟩ (at1.own hp ⟨vs, upd_same, hvs⟩) e1 rfl⟩⟩
/-- list(e), owned -/
theorem ge_list {nm : Str} {p2 : Pos} {es : List PyData} (hg : Gl X nm) (hm : X.mg nm = none) (hv : bootBuiltins nm = some (.type "list")) (he : GD X B Γ S e (.list es)) {ex : Value → Gam → Sto → Prop} (hnn : nm ≠ "__name__" := by decide) (hdb : (nm == ("__debug__" : Str)) = false := by decide)
    (hst : starEach [e] X.env = (false, eval e X.env) :: starEach [] X.env := by rfl) (hpl : (backTo pos (starEach [] X.env)).any (·.1) = false := by rfl) : GE X B Γ S (.Call (.Name nm p2) [e] [] pos) (fun r S' => ∃ p, B.H p = none ∧ r = .raw (.ref p) ∧ S' = (p, .lst es) :: S) ex :=
  (pe_callTy call_list_of hg hm hv (pa_cons he pa_nil hst) hnn hdb hst hpl).imp fun σ H Q ⟨H0, at0, k, _⟩ => ⟨H0, at0, fun v H1 H' at1 e1 hv => by
    have hv := hv.toDp
    cases hv with
    | @lst q vs _ hs ha =>
      refine ⟨q, vs, rfl, .inl (ex_l at1.e2 hs), fun l hl => k _ _ (.ref l) H1 _ ⟨l, ?_, rfl, rfl⟩ (at1.own hl ⟨vs, upd_same, ha⟩) e1 rfl⟩
      cases z : B.H l with
      | none => rfl
      | some o' => exact absurd hl (at1.fra.th l (by rw [z]; exact fun q => nomatch q))⟩
/-- list(e) of an owned list, owned -/
theorem ge_listO {nm : Str} {p2 : Pos} {es : List PyData} (hg : Gl X nm) (hm : X.mg nm = none) (hv : bootBuiltins nm = some (.type "list")) (he : GR X B Γ S e (.ref p)) (hn : S[n]? = some (p, .lst es)) {ex : Value → Gam → Sto → Prop} (hnn : nm ≠ "__name__" := by decide) (hdb : (nm == ("__debug__" : Str)) = false := by decide)
    (hst : starEach [e] X.env = (false, eval e X.env) :: starEach [] X.env := by rfl) (hpl : (backTo pos (starEach [] X.env)).any (·.1) = false := by rfl) : GE X B Γ S (.Call (.Name nm p2) [e] [] pos) (fun r S' => ∃ p, B.H p = none ∧ r = .raw (.ref p) ∧ S' = (p, .lst es) :: S) ex :=
  (pe_callTy call_list_of hg hm hv (pa_cons he pa_nil hst) hnn hdb hst hpl).imp fun σ H Q ⟨H0, at0, k, _⟩ => ⟨H0, at0, fun v H1 H' at1 e1 hv => by
    have hv : (some (some v) : Option (Option V)) = some (some (.ref p)) := hv
    cases hv
    obtain ⟨h0, vs, h1, h2⟩ := at1.sto.at_ p _ (List.mem_of_getElem? hn)
    refine ⟨p, vs, rfl, .inl (.inl (.inl h1)), fun l hl => k _ _ (.ref l) H1 _ ⟨l, ?_, rfl, rfl⟩ (at1.own hl ⟨vs, upd_same, h2⟩) e1 rfl⟩
    cases z : B.H l with
    | none => rfl
    | some o' => exact absurd hl (at1.fra.th l (by rw [z]; exact fun q => nomatch q))⟩
/-- an owned list handed on as data -/
theorem ge_freeze {ex : Value → Gam → Sto → Prop} (h : GR X B Γ S e (.ref p)) (hn : S[n]? = some (p, .lst ds)) (hk : B.H p = none) : GE X B Γ S e (fun r S' => r = .dat (.list ds) ∧ S' = S.eraseIdx n) ex := h.imp fun σ H Q ⟨H0, at0, k, _⟩ => ⟨H0, at0, fun v H1 H' at1 e1 hv => by
  have hv : (some (some v) : Option (Option V)) = some (some (.ref p)) := hv
  cases hv
  obtain ⟨H2, e2, at2, hd⟩ := at1.freeze hn hk
  exact k _ _ _ H2 H' ⟨rfl, rfl⟩ at2 (e1.trans e2) ⟨_, rfl, hd⟩⟩
end
/-! ### calls that may change what is owned -/
def raS (K : PySem.W.Frag) (B : Bs) (Γ : Gam) (S : Sto) (as : List Sl) : TA := fun σ H Q => ∃ H0, At K B H0 Γ S σ H ∧ ∀ vs H0' H', At K B H0' Γ S σ H' → Ex H0 H0' → ArgsOk K H0' vs as → Q vs H'
abbrev GAS (X : Cx) (B : Bs) (Γ : Gam) (S : Sto) (es : List Expr) (as : List Sl) : Prop := PA X es (raS X.K B Γ S as)
theorem ArgsOk.ext {K : PySem.W.Frag} {H0 H0' : Hp} (e : Ex H0 H0') {vs : List V} {as : List Sl} (h : ArgsOk K H0 vs as) : ArgsOk K H0' vs as := Paired.mapP h fun _ _ z => SlOk.ext e z
theorem none_B {B : Bs} {H0 H : Hp} (f : Fra B H0 H) {p : Addr} (hp : H p = none) : B.H p = none := by
  cases z : B.H p with
  | none => rfl
  | some o' => exact absurd hp (f.th p (by rw [z]; exact fun q => nomatch q))
theorem At.call {K : PySem.W.Frag} {B : Bs} {H0 H H0' H' : Hp} {Γ : Gam} {S1 S1' F : Sto} {σ : St} {E : WX} (a : At K B H0 Γ (S1 ++ F) σ H) (g : Fra ⟨H0, H, keys S1, E⟩ H0' H') (hS : StoOk K H0' H' S1') (nk : NewK H S1 S1') : At K B H0' Γ (S1' ++ F) σ H' := by
  have hk : keys (S1 ++ F) = keys S1 ++ keys F := List.map_append
  have nd := a.sto.nd
  rw [hk] at nd
  obtain ⟨nd1, nd2, nd3⟩ := List.nodup_append.mp nd
  have w1 : ∀ p ∈ keys S1, p ∈ B.ks ∨ B.H p = none := fun p hp => a.wr p (by rw [hk]; exact List.mem_append_left _ hp)
  have inF : ∀ q ow, (q, ow) ∈ F → H0 q = none ∧ OvOk K H0 H q ow ∧ q ∉ keys S1 := fun q ow hq => by
    obtain ⟨k0, k1⟩ := a.sto.at_ q ow (List.mem_append_right _ hq)
    exact ⟨k0, k1, fun z => nd3 q z q (mem_keys hq) rfl⟩
  refine ⟨a.fra.trans g w1, a.env.ext g.e0, ⟨fun q ow hq => ?_, ?_⟩, fun q hq => ?_⟩
  · rcases List.mem_append.mp hq with hq | hq
    · exact hS.at_ q ow hq
    · obtain ⟨k0, k1, k2⟩ := inF q ow hq
      exact ⟨g.fr q k0 (OvOk.ne k1), OvOk.ext g.e0 (fun o e => g.e1 q o e k2) k1⟩
  · rw [show keys (S1' ++ F) = keys S1' ++ keys F from List.map_append]
    refine List.nodup_append.mpr ⟨hS.nd, nd2, fun p hp q hq => ?_⟩
    obtain ⟨ow, hq⟩ := of_keys hq
    obtain ⟨_, k1, k2⟩ := inF q ow hq
    intro e
    subst e
    exact (nk p hp).elim k2 fun z => OvOk.ne k1 z
  · rw [show keys (S1' ++ F) = keys S1' ++ keys F from List.map_append] at hq
    rcases List.mem_append.mp hq with hq | hq
    · exact (nk q hq).elim (w1 q) fun z => .inr (none_B a.fra z)
    · exact a.wr q (by rw [hk]; exact List.mem_append_right _ hq)
theorem StoOk.left {K : PySem.W.Frag} {H0 H : Hp} {S1 F : Sto} (h : StoOk K H0 H (S1 ++ F)) : StoOk K H0 H S1 := ⟨fun p ov m => h.at_ p ov (List.mem_append_left _ m), by
  have nd := h.nd
  rw [show keys (S1 ++ F) = keys S1 ++ keys F from List.map_append] at nd
  exact (List.nodup_append.mp nd).1⟩
theorem spm_of {K : PySem.W.Frag} {B : Bs} {H0 H : Hp} {Γ : Gam} {S1 F : Sto} {σ : St} {R : Rq} {as : List Sl} {PR : Sl → Sto → Prop} {PX : Value → Sto → Prop} {vs : List V} {Q : VK} {E : XK} (a : At K B H0 Γ (S1 ++ F) σ H) (hR : R as S1 PR PX) (ha : ArgsOk K H0 vs as)
    (k : ∀ r S1' v H0' H', PR r S1' → At K B H0' Γ (S1' ++ F) σ H' → Ex H0 H0' → SlOk K H0' (some (some v)) r → Q v H') (kx : ∀ cls S1' H0' H', PX cls S1' → At K B H0' Γ (S1' ++ F) σ H' → Ex H0 H0' → E cls none H') : SpM K R vs H Q E :=
  ⟨H0, as, S1, PR, PX, a.e2, hR, ha, a.sto.left, fun r S' v H0' H' p g hS nk hv => k r S' v H0' H' p (a.call g hS nk) g.e0 hv, fun cls S' H0' H' p g hS nk => kx cls S' H0' H' p (a.call g hS nk) g.e0⟩
/-- how a call of a method is evaluated -/
abbrev MethForm (X : Cx) (o : Expr) (m : Str) (es : List Expr) (pos apos : Pos) (pl : Sem Bool) : Prop := eval (.Call (.Attribute o m apos) es [] pos) X.env = (do let recv ← eval o X.env; standAt apos.atName; let (fn, fst) ← holding [recv] (getMethod recv m pl); callWith pos fn fst (backTo pos (starEach es X.env)) (backToKw pos (keywordEach [] X.env)))
/-- a method call whose exception is wished for at the slots -/
def tMethW (C : Addr) (m : Str) (sp : Sp) (E : St → XK) (ta : TE) (t : TA) : TE := fun σ H Q => ta σ H fun x H1 => ∃ a dx fs, x = .ref a ∧ H1 a = some (.ins C dx fs) ∧ fs.lookup m = none ∧ t σ H1 fun vs H2 => sp (x :: vs) H2 Q (E σ)
section
variable {X : Cx} {CX : CXT} {k : Nat} {f C : Addr} {fd : FuncData} {ps : List Str} {sp : Sp} {E : St → XK} {m : Str} {pos apos : Pos} {e o : Expr} {es : List Expr} {ta : TE} {t : TA}
theorem pe_methW {pl : Sem Bool} (he : PE X o ta) (c : Cls X.K C) (hm : Meth X.K C m f) (F : FnOk X.prog X.w X.K X.mg X.base CX k f fd ps sp) (hr : Room k X.A) (hb : Binds X.K fd ps []) (hx : ∀ σ, PassesAt CX X σ (E σ)) (ha : PA X (e :: es) t)
    (hst : starEach (e :: es) X.env = (false, eval e X.env) :: starEach es X.env := by rfl)
    (hpl : (backTo pos (starEach es X.env)).any (·.1) = false := by rfl) (ht : MethForm X o m (e :: es) pos apos pl := by rfl) : PE X (.Call (.Attribute o m apos) (e :: es) [] pos) (tMethW C m sp E ta t) :=
  ⟨fun pins s0 σ0 H0 Q0 inv hq => PySem.W.methodCall_KW (pl := pl) (thn (he.run pins s0 σ0 H0 _ inv hq) fun recv s1 ⟨_, H1, inv1, hrel, a, dx, fs, hxa, hobj, hno, q1⟩ => by
    subst hxa
    have hrecv : recv = Value.ref a := hrel
    subst hrecv
    exact getmeth_ok inv1 hobj c hm hno (PySem.W.callWith_K (h₀ := X.base) (first := [.ref a]) inv.ok.mod.kin hm.kp (thn (ha.run pos pins s1 σ0 H1 _ inv1 q1) fun us s2 ⟨vs, H2, inv2, hv, q2⟩ => ⟨inv2.kIn, run_fnS (us := .ref a :: us) (vs := .ref a :: vs) F hr hb (hx σ0) inv2 (.cons rfl hv) q2⟩) hst hpl)) ht⟩
theorem pe_methW0 {pl : Sem Bool} (he : PE X o ta) (c : Cls X.K C) (hm : Meth X.K C m f) (F : FnOk X.prog X.w X.K X.mg X.base CX k f fd ps sp) (hr : Room k X.A) (hb : Binds X.K fd ps []) (hx : ∀ σ, PassesAt CX X σ (E σ)) (ht : MethForm X o m [] pos apos pl := by rfl) : PE X (.Call (.Attribute o m apos) [] [] pos) (tMethW C m sp E ta tNil) :=
  ⟨fun pins s0 σ0 H0 Q0 inv hq => PySem.W.methodCall_KW (pl := pl) (thn (he.run pins s0 σ0 H0 _ inv hq) fun recv s1 ⟨_, H1, inv1, hrel, a, dx, fs, hxa, hobj, hno, q1⟩ => by
    subst hxa
    have hrecv : recv = Value.ref a := hrel
    subst hrecv
    exact getmeth_ok inv1 hobj c hm hno (PySem.W.callWith_K0 (first := [.ref a]) inv1.kIn hm.kp (run_fnS (us := [.ref a]) (vs := [.ref a]) F hr hb (hx σ0) inv1 (.cons rfl .nil) q1))) ht⟩
end
section
variable {X : Cx} {B : Bs} {Γ : Gam} {S S1 F : Sto} {a b c e o : Expr} {es : List Expr} {pos apos : Pos} {P : Po} {n : Nat} {q : Addr} {fs : List (Str × Sl)} {names : List Str} {r : Sl} {as : List Sl} {CX : CXT} {lv : Nat} {f C : Addr} {fd : FuncData} {ps : List Str} {R : Rq} {PR : Sl → Sto → Prop} {PX : Value → Sto → Prop} {m x : Str} {p : Pos}
theorem gas_nil : GAS X B Γ S [] [] := pa_nil.imp fun σ H Q ⟨H0, at0, k⟩ => k [] H0 H at0 (Ex.refl _) .nil
theorem gas_cons (he : PE X e (rd X.K B Γ S r)) (ht : GAS X B Γ S es as) (hs : starEach (e :: es) X.env = (false, eval e X.env) :: starEach es X.env := by rfl) : GAS X B Γ S (e :: es) (r :: as) := (pa_cons he ht hs).imp fun σ H Q ⟨H0, at0, k⟩ =>
  ⟨H0, at0, fun v H1 H' at1 e1 hv => ⟨H1, at1, fun vs H2 H'' at2 e2 hvs => k _ H2 H'' at2 (e1.trans e2) (.cons (hv.ext e2) hvs)⟩⟩
abbrev PostR (PR : Sl → Sto → Prop) (F : Sto) : Sl → Sto → Prop := fun r S' => ∃ S1', PR r S1' ∧ S' = S1' ++ F
abbrev PostX (PX : Value → Sto → Prop) (F : Sto) : Value → Gam → Sto → Prop := fun cls _ S' => ∃ S1', PX cls S1' ∧ S' = S1' ++ F
/-- o.m(e, ..) -/
theorem ge_meth {pl : Sem Bool} (ho : GR X B Γ (S1 ++ F) o (.ref q)) (hn : (S1 ++ F)[n]? = some (q, .obj C fs)) (c : Cls X.K C) (hm : Meth X.K C m f) (hnm : fs.map (·.1) = names) (hj : idxF m names = none) (Gf : FnOk X.prog X.w X.K X.mg X.base CX lv f fd ps (SpM X.K R)) (hr : Room lv X.A) (hb : Binds X.K fd ps [])
    (hx : ∀ σ, PassesAt CX X σ fun cls d H => B.E cls d σ H) (ha : GAS X B Γ (S1 ++ F) (e :: es) as) (hR : R (.raw (.ref q) :: as) S1 PR PX)
    (hst : starEach (e :: es) X.env = (false, eval e X.env) :: starEach es X.env := by rfl) (hpl : (backTo pos (starEach es X.env)).any (·.1) = false := by rfl)
    (ht : MethForm X o m (e :: es) pos apos pl := by rfl) :
    GE X B Γ (S1 ++ F) (.Call (.Attribute o m apos) (e :: es) [] pos) (PostR PR F) (PostX PX F) := (pe_methW ho c hm Gf hr hb hx ha hst hpl ht).imp fun σ H Q ⟨H0, at0, k, kx⟩ => ⟨H0, at0, fun v H1 H' at1 e1 hv => by
  have hv : (some (some v) : Option (Option V)) = some (some (.ref q)) := hv
  cases hv
  obtain ⟨h0, dx, vs, h1, h2⟩ := at1.sto.at_ q _ (List.mem_of_getElem? hn)
  subst hnm
  exact ⟨q, dx, vs, rfl, h1, h2.no (idxF_no hj), H1, at1, fun us H2 H'' at2 e2 hus => spm_of at2 hR (.cons rfl hus) (fun r S1' v H0' H' p a2 e3 hv => k r _ v H0' H' ⟨S1', p, rfl⟩ a2 ((e1.trans e2).trans e3) hv) fun cls S1' H0' H' p a2 e3 => kx cls _ H0' H' ⟨S1', p, rfl⟩ a2⟩⟩
/-- o.m() -/
theorem ge_meth0 {pl : Sem Bool} (ho : GR X B Γ (S1 ++ F) o (.ref q)) (hn : (S1 ++ F)[n]? = some (q, .obj C fs)) (c : Cls X.K C) (hm : Meth X.K C m f) (hnm : fs.map (·.1) = names) (hj : idxF m names = none) (Gf : FnOk X.prog X.w X.K X.mg X.base CX lv f fd ps (SpM X.K R)) (hr : Room lv X.A) (hb : Binds X.K fd ps [])
    (hx : ∀ σ, PassesAt CX X σ fun cls d H => B.E cls d σ H) (hR : R [.raw (.ref q)] S1 PR PX)
    (ht : MethForm X o m [] pos apos pl := by rfl) :
    GE X B Γ (S1 ++ F) (.Call (.Attribute o m apos) [] [] pos) (PostR PR F) (PostX PX F) := (pe_methW0 ho c hm Gf hr hb hx ht).imp fun σ H Q ⟨H0, at0, k, kx⟩ => ⟨H0, at0, fun v H1 H' at1 e1 hv => by
  have hv : (some (some v) : Option (Option V)) = some (some (.ref q)) := hv
  cases hv
  obtain ⟨h0, dx, vs, h1, h2⟩ := at1.sto.at_ q _ (List.mem_of_getElem? hn)
  subst hnm
  refine ⟨q, dx, vs, rfl, h1, h2.no (idxF_no hj), ?_⟩
  show SpM X.K R [V.ref q] H' Q fun cls d H => B.E cls d σ H
  exact spm_of at1 hR (.cons rfl .nil) (fun r S1' v H0' H' p a2 e3 hv => k r _ v H0' H' ⟨S1', p, rfl⟩ a2 (e1.trans e3) hv) fun cls S1' H0' H' p a2 e3 => kx cls _ H0' H' ⟨S1', p, rfl⟩ a2⟩
/-- f(e, ..) -/
theorem ge_call (Gf : FnOk X.prog X.w X.K X.mg X.base CX lv f fd ps (SpM X.K R)) (hr : Room lv X.A) (hg : Gl X x) (hm : X.mg x = some (.ref f)) (hk : PySem.W.keepIn X.K (.ref f) = true) (hb : Binds X.K fd ps []) (hx : ∀ σ, PassesAt CX X σ fun cls d H => B.E cls d σ H)
    (ha : GAS X B Γ (S1 ++ F) (e :: es) as) (hR : R as S1 PR PX) (hdb : (x == ("__debug__" : Str)) = false := by decide) (he : starEach (e :: es) X.env = (false, eval e X.env) :: starEach es X.env := by rfl) (hpl : (backTo pos (starEach es X.env)).any (·.1) = false := by rfl) :
    GE X B Γ (S1 ++ F) (.Call (.Name x p) (e :: es) [] pos) (PostR PR F) (PostX PX F) := (pe_callS (E := fun σ cls d H => B.E cls d σ H) Gf hr hg hm hk hb hx ha hdb he hpl).imp fun σ H Q ⟨H0, at0, k, kx⟩ => ⟨H0, at0, fun us H2 H'' at2 e2 hus =>
  spm_of at2 hR hus (fun r S1' v H0' H' p a2 e3 hv => k r _ v H0' H' ⟨S1', p, rfl⟩ a2 (e2.trans e3) hv) fun cls S1' H0' H' p a2 e3 => kx cls _ H0' H' ⟨S1', p, rfl⟩ a2⟩
/-- a pure one: what is owned stays -/
theorem gd_ofE {d : PyData} (h : GE X B Γ S e (fun r S' => r = .dat d ∧ S' = S) (fun _ _ _ => False)) : GD X B Γ S e d := h.imp fun σ H Q ⟨H0, at0, k⟩ => ⟨H0, at0, fun r S' v H0' H' ⟨e1, e2⟩ at1 e3 hv => by subst e1 e2; exact k v H0' H' at1 e3 hv, fun _ _ _ _ z => z.elim⟩
theorem ge_mono {Pe Pe' : Sl → Sto → Prop} {ex ex' : Value → Gam → Sto → Prop} (h : GE X B Γ S e Pe ex) (h1 : ∀ r S', Pe r S' → Pe' r S') (h2 : ∀ c S', ex c Γ S' → ex' c Γ S') : GE X B Γ S e Pe' ex' := h.imp fun σ H Q ⟨H0, at0, k, kx⟩ => ⟨H0, at0, fun r S' v H0' H' p => k r S' v H0' H' (h1 r S' p), fun cls S' H0' H' p => kx cls S' H0' H' (h2 cls S' p)⟩
/-- C(e, ..): a new object, by its __init__ -/
theorem ge_make {E : XK} (M : Mk X.K C f) (Gf : FnOk X.prog X.w X.K X.mg X.base CX lv f fd ps (SpM X.K R)) (hr : Room (lv + 1) X.A) (hg : Gl X x) (hm : X.mg x = some (.ref C)) (hb : Binds X.K fd ps []) (hx : Passes CX X E) (hE : ∀ cls σ H, B.E cls none σ H → E cls none H)
    (ha : GAS X B Γ (S1 ++ F) (e :: es) as) {PRx : Addr → Sto → Prop} {PXx : Addr → Value → Sto → Prop} (hR : ∀ y, R (.raw (.ref y) :: as) ((y, .obj C []) :: S1) (fun r S' => r = .dat .none ∧ PRx y S') (PXx y)) (hdb : (x == ("__debug__" : Str)) = false := by decide)
    (he : starEach (e :: es) X.env = (false, eval e X.env) :: starEach es X.env := by rfl) (hpl : (backTo pos (starEach es X.env)).any (·.1) = false := by rfl) :
    GE X B Γ (S1 ++ F) (.Call (.Name x p) (e :: es) [] pos) (fun r S' => ∃ y S1', B.H y = none ∧ PRx y S1' ∧ r = .raw (.ref y) ∧ S' = S1' ++ F) (fun cls _ S' => ∃ y S1', PXx y cls S1' ∧ S' = S1' ++ F) := (pe_make M Gf hr hg hm hb .nil hx ha hdb he hpl).imp fun σ H Q ⟨H0, at0, k, kx⟩ => ⟨H0, at0, fun us H2 H'' at2 e2 hus => by
  intro y dx hy hdx hne
  have a3 := at2.ext (Ext.newH (o := .own y) at2.e2 hdx)
  have hy' : (upd H'' dx (.own y)) y = none := by rw [upd_ne (fun z => hne z.symm)]; exact hy
  have a4 := a3.own (ow := .obj C []) (o := .ins C dx []) hy' ⟨dx, [], upd_same, .nil⟩
  have hB : B.H y = none := none_B at2.fra hy
  show SpM X.K R (V.ref y :: (us ++ [])) _ _ _
  rw [List.append_nil]
  refine spm_of (S1 := (y, .obj C []) :: S1) a4 (hR y) (.cons rfl hus) (fun r S1' v H0' H' pp a5 e5 hv => ?_) fun cls S1' H0' H' pp a5 e5 => ?_
  · obtain ⟨hr', hp⟩ := pp
    subst hr'
    have hv := hv.toDp
    cases hv
    exact ⟨rfl, k _ _ (.ref y) H0' H' ⟨y, S1', hB, hp, rfl, rfl⟩ a5 (e2.trans e5) rfl⟩
  · exact hE cls σ H' (kx cls _ H0' H' ⟨y, S1', pp, rfl⟩ a5)⟩
end
/-! ### texts made, errors raised -/
def okJ : Str → List Str → Prop
  | _, [] => True
  | acc, y :: r => (acc ++ y).length ≤ sizeLine ∧ okJ (acc ++ y) r
section
variable {X : Cx} {B : Bs} {Γ : Gam} {S : Sto} {a b c e e0 : Expr} {es : List Expr} {d : PyData} {pos pos2 : Pos} {P : Po} {i : Int} {x : Str} {p : Pos} {r : Sl}
theorem rd_un (h : PE X e (rd X.K B Γ S r)) : PE X e (rd X.K B Γ S .un) := h.imp fun σ H Q ⟨H0, at0, k⟩ => ⟨H0, at0, fun v H0' H' at1 e1 _ => k v H0' H' at1 e1 trivial⟩
theorem gd_fmt (h : GD X B Γ S e (.int i)) (hi : i.natAbs.log2 < 1920) : GD X B Γ S (.FormattedValue e (-1) none pos) (.str (toString i)) := (pe_fmt h).imp fun σ H Q ⟨H0, at0, k⟩ => ⟨H0, at0, fun v H1 H' at1 e1 hv => by
  have hv := hv.toDp
  cases hv
  exact .inr ⟨i, rfl, hi, k _ H1 H' at1 e1 ⟨_, rfl, .str _⟩⟩⟩
inductive PJd (X : Cx) (B : Bs) (Γ : Gam) (S : Sto) : List Expr → List Str → Prop
  | nil : PJd X B Γ S [] []
  | cons {e : Expr} {y : Str} {es : List Expr} {ys : List Str} (h : GD X B Γ S e (.str y)) (t : PJd X B Γ S es ys) : PJd X B Γ S (e :: es) (y :: ys)
theorem pjd_run : ∀ {es : List Expr} {ys : List Str}, PJd X B Γ S es ys → ∃ ts, PJ X es ts ∧ ∀ (acc : Str) (σ : St) (H : Hp) (Q : Str → Hp → Prop) (H0 : Hp), At X.K B H0 Γ S σ H → okJ acc ys → (∀ out H0' H', At X.K B H0' Γ S σ H' → Ex H0 H0' → Q out H') → tJs ts acc σ H Q
  | _, _, .nil => ⟨[], .nil, fun acc σ H Q H0 at0 _ k => k acc H0 H at0 (Ex.refl _)⟩
  | _, _, .cons (y := y) h t => by
    obtain ⟨ts, h1, h2⟩ := pjd_run t
    refine ⟨_ :: ts, .cons h h1, fun acc σ H Q H0 at0 ok k => ⟨H0, at0, fun v H1 H' at1 e1 hv => ?_⟩⟩
    have hv := hv.toDp
    cases hv
    exact ⟨y, rfl, ok.1, h2 _ σ H' Q H1 at1 ok.2 fun out H2 H'' at2 e2 => k out H2 H'' at2 (e1.trans e2)⟩
theorem ge_join {v1 v2 : Expr} {rest : List Expr} {ys : List Str} (h : PJd X B Γ S (v1 :: v2 :: rest) ys) (ok : okJ Str.empty ys) : PE X (.JoinedStr (v1 :: v2 :: rest) pos) (rd X.K B Γ S .un) := by
  obtain ⟨ts, h1, h2⟩ := pjd_run h
  exact (pe_joined h1).imp fun σ H Q ⟨H0, at0, k⟩ => h2 _ σ H _ H0 at0 ok fun out H0' H' at1 e1 => k _ H0' H' at1 e1 trivial
/-- an own exception made from one argument: its context is none -/
theorem mkN {C : Addr} {bmB : List Value} {nB newId initId : String} {x : Str} {e0 : Expr} {ta : TE} {p p2 : Pos} (Fx : ExcBaseFacts nB newId initId bmB) (q : PySem.W.excIn X.K C bmB newId = true) (gC : X.mg x = some (.ref C)) (kC : PySem.W.keepIn X.K (.ref C) = true) (rC : Raises X (.ref C)) (hg : Gl X x)
    (he : PE X e0 ta) (hst : starEach [e0] X.env = (false, eval e0 X.env) :: starEach [] X.env := by rfl) (hdb : (x == ("__debug__" : Str)) = false := by decide) :
    L2N.PMk X (.Call (.Name x p) [e0] [] p2) (fun σ0 H0 Q0 => ta σ0 H0 fun _ H1 => Q0 (.ref C) none H1) := fun pins s0 σ0 H0 Q0 inv hq => wpAny_Call_Name_kw (ld_glob inv hg gC (PySem.W.callWith_K (h₀ := X.base) inv.ok.mod.kin kC (by
      rw [hst]
      show wpAny _ _ (spliced ((false, eval e0 X.env) :: backTo p2 (starEach [] X.env))) _ _ s0
      exact Calls.spliced_cons (thn (he.run pins s0 σ0 H0 _ inv hq) fun u0 s2 ⟨v0, H2, inv2, r2, q2⟩ => Calls.spliced_nil ⟨inv2.kIn, by
        show wpAny _ _ (call (.ref C) [u0]) _ _ _
        obtain ⟨w1, w2, w3, w4, w5, w6, w7, w8, w9, v1, v2, v3, v4, v5, v6, v7, mN, hC, hN, hni, TT⟩ := exc_obj inv2.kIn q
        exact wpAny_call_exc_subT Fx TT hC hN hni (fun _ _ made => L2N.mk_of inv2 made rC q2 (inv2.hok.gone made.new)) (by show 1 ≤ sizeLine; rw [sizeLine_eq]; omega)⟩)) hst (by rfl)) hdb)
theorem gs_raise {C : Addr} {bmB : List Value} {nB newId initId : String} (hc : X.calm = true) (tk : L2N.Takes X B.E) (Fx : ExcBaseFacts nB newId initId bmB) (q : PySem.W.excIn X.K C bmB newId = true) (gC : X.mg x = some (.ref C)) (kC : PySem.W.keepIn X.K (.ref C) = true) (rC : Raises X (.ref C)) (hg : Gl X x)
    (he : PE X e0 (rd X.K B Γ S r)) (hp : P.ex (.ref C) Γ S) (hs : starEach [e0] X.env = (false, eval e0 X.env) :: starEach [] X.env := by rfl) (hdb : (x == ("__debug__" : Str)) = false := by decide) : GS X B Γ S (.Raise (some (.Call (.Name x p) [e0] [] pos2)) none pos) P :=
  (L2N.ps_raise hc tk (mkN Fx q gC kC rC hg (rd_un he) hs hdb)).imp fun D σ H ⟨H0, at0, z⟩ => ⟨H0, at0, fun v H1 H' at1 e1 hv => z.ex (.ref C) Γ S H1 σ H' hp at1⟩
/-- a statement that isn't come to -/
theorem gs_dead {st : Stmt} (h : False) : GS X B Γ S st P := h.elim
end
section
variable {P : Program} {w : World} {K : PySem.W.Frag} {mg : Str → Option Value} {base : Heap}
/-- a def that may raise, what it raises having no context -/
theorem okN {x qual : Str} {st : Stmt} {f : Addr} {fd : FuncData} {N ps : List Str} {n : Nat} {sp : Sp} (F : Fun K x qual st f fd) (Sc : FnScope N ps (defScope st)) (hl : ∀ vs H Q E, sp vs H Q E → vs.length = ps.length)
    (hb : ∀ (cd0 : Value) (A : Around) (out : List Env) (s0 : Shared) (H : Hp) (vs : List V) (Q : VK) (E : XK), Room n (A.deeper (envOfC qual (defScope st) s0.heap.objs.size f cd0)) → sp vs H Q E →
      ∃ t, PSs (cxOf (L2N.CX P w) P w K mg base N qual (defScope st) f cd0 A out s0 H E) (defBody st) t ∧ t { nx := fun _ H' => Q .non H', rt := Q } (start N vs) H) : FnOk P w K mg base (L2N.CX P w) (n + 1) f fd ps sp := by
  obtain ⟨_, _, _, _, _, _, cd0, _, _, hfd, hlk, hcode⟩ := F.ex
  subst hfd
  exact fn_of hlk hcode Sc hl fun A out s0 H vs Q E hr h => hb cd0 A out s0 H vs Q E hr h
/-- a def that may change what is owned, and may raise -/
theorem mut_def {x qual : Str} {st : Stmt} {f : Addr} {fd : FuncData} {N ps : List Str} {n : Nat} {R : Rq} (F : Fun K x qual st f fd) (Sc : FnScope N ps (defScope st)) (hlen : ∀ as S PR PX, R as S PR PX → as.length = ps.length)
    (hbody : ∀ (cdv : Value) (A : Around) (outer : List Env) (s : Shared) (H : Hp) (E : XK) (H0 Hh : Hp) (ks : List Addr) (as : List Sl) (S : Sto) (PR : Sl → Sto → Prop) (PX : Value → Sto → Prop), Room n (A.deeper (envOfC qual (defScope st) s.heap.objs.size f cdv)) → R as S PR PX →
      GSs (cxOf (L2N.CX P w) P w K mg base N qual (defScope st) f cdv A outer s H E) ⟨H0, Hh, ks, fun cls d _ H => E cls d H⟩ (gamS N.length as) S (defBody st) { N := fun _ S' => PR (.dat .none) S', R := PR, ex := fun cls _ S' => PX cls S' }) : FnOk P w K mg base (L2N.CX P w) (n + 1) f fd ps (SpM K R) := by
  refine okN F Sc (fun vs H Q E h => ?_) (fun cdv A outer s H vs Q E hr h => ?_)
  · obtain ⟨H0, as, S, PR, PX, _, hR, hv, _⟩ := h
    rw [Paired.length hv]
    exact hlen as S PR PX hR
  · obtain ⟨H0, as, S, PR, PX, e, hR, hv, hS, k, kx⟩ := h
    have hle : ps.length ≤ N.length := by have := congrArg List.length Sc.pre; rw [List.length_take] at this; omega
    refine ⟨_, hbody cdv A outer s H E H0 H (keys S) as S PR PX hr hR, H0, ⟨Fra.refl e, env_startS hv (by rw [hlen as S PR PX hR]; exact hle), hS, fun p z => .inl z⟩, ?_, ?_, ?_, ?_, ?_⟩
    · intro Γ S' H0' σ H' hd at1
      exact k _ S' .non H0' H' hd at1.fra.toE at1.sto at1.wr ⟨_, rfl, .non⟩
    · intro r Γ S' v H0' σ H' hr at1 hv
      exact k r S' v H0' H' hr at1.fra.toE at1.sto at1.wr hv
    · intro _ _ _ _ _ h _
      exact h.elim
    · intro _ _ _ _ _ h _
      exact h.elim
    · intro cls Γ S' H0' σ H' h at1
      exact kx cls S' H0' H' h at1.fra.toE at1.sto at1.wr
end

/-! ### loops -/
theorem At.rebase {K : PySem.W.Frag} {B : Bs} {H0 H : Hp} {Γ : Gam} {S : Sto} {σ : St} (a : At K B H0 Γ S σ H) : At K { B with H0 := H0 } H0 Γ S σ H := ⟨⟨Ex.refl _, a.fra.e1, a.fra.e2, fun _ h _ => h, a.fra.th⟩, a.env, a.sto, a.wr⟩
theorem At.unbase {K : PySem.W.Frag} {B : Bs} {G Hg H0 H : Hp} {Γ : Gam} {S : Sto} {σ : St} (g : Fra B G Hg) (a : At K { B with H0 := G } H0 Γ S σ H) : At K B H0 Γ S σ H := ⟨⟨g.e0.trans a.fra.e0, a.fra.e1, a.fra.e2, fun p h1 h2 => a.fra.fr p (g.fr p h1 h2) h2, a.fra.th⟩, a.env, a.sto, a.wr⟩
abbrev Bs.at (B : Bs) (G : Hp) : Bs := { B with H0 := G }
section
variable {X : Cx} {B : Bs} {Γ : Gam} {S : Sto} {a b c e it : Expr} {es : List Expr} {d : PyData} {ds : List PyData} {pos pos2 pos3 : Pos} {P : Po} {n : Int} {x : Str} {p : Pos} {j : Nat} {body : List Stmt}
/-- what the turn number i of a loop is to reach -/
abbrev Po.turn (P : Po) (I : Nat → Gam → Sto → Prop) (i : Nat) : Po := { N := I (i + 1), R := P.R, bk := P.N, ct := I (i + 1), ex := P.ex }
theorem turn_endz {K : PySem.W.Frag} {D : Ends} {I : Nat → Gam → Sto → Prop} {i : Nat} {G Hg : Hp} (g : Fra B G Hg) (z : Endz K B P D) (N : St → Hp → Prop) (hN : ∀ Γ' S' H0 σ H, I (i + 1) Γ' S' → At K B H0 Γ' S' σ H → Ex G H0 → N σ H) : Endz K (B.at G) (P.turn I i) { D with nx := N, ct := N, bk := D.nx } :=
  ⟨fun Γ' S' H0 σ H q a => hN Γ' S' H0 σ H q (a.unbase g) a.fra.e0, fun r Γ' S' v H0 σ H q a hv => z.rt r Γ' S' v H0 σ H q (a.unbase g) hv, fun Γ' S' H0 σ H q a => z.nx Γ' S' H0 σ H q (a.unbase g), fun Γ' S' H0 σ H q a => hN Γ' S' H0 σ H q (a.unbase g) a.fra.e0, fun cls Γ' S' H0 σ H q a => z.ex cls Γ' S' H0 σ H q (a.unbase g)⟩
/-- for x in range(n) -/
theorem gs_forR (hp : PassesOwn (model X.prog X.w) X.A X.env X.xe) (hc : X.calm = true) (hg : Gl X "range") (hm : X.mg "range" = none) (he : GD X B Γ S e (.int n)) (hn : 0 ≤ n ∧ n < 2 ^ 62) (hN : X.N.Nodup) (hj : X.N[j]? = some x) (hx : Loc X.env.scope x) (I : Nat → Gam → Sto → Prop) (h0 : I 0 Γ S)
    (hb : ∀ (i : Nat) Γ' S' G, (i : Int) < n → I i Γ' S' → GSs X (B.at G) (Γ'.set j (.dat (.int (i : Int)))) S' body (P.turn I i)) (hd : ∀ Γ' S', I n.toNat Γ' S' → P.N Γ' S')
    (hs : starEach [e] X.env = [(false, eval e X.env)] := by rfl) (hf : X.fn x = true ∨ X.env.scope.names.lookup x = some .local := by first | exact .inl rfl | exact .inr rfl | assumption) : GS X B Γ S (.For (.Name x p) (.Call (.Name "range" pos2) [e] [] pos3) body [] pos) P := by
  have hbody : PSs X body (fun D σ H => ∃ (i : Nat) (Γ' : Gam) (S' : Sto) (G : Hp), (i : Int) < n ∧ I i Γ' S' ∧ rs X.K (B.at G) (Γ'.set j (.dat (.int (i : Int)))) S' (P.turn I i) D σ H) := ⟨fun pins s σ H D Iv ⟨i, Γ', S', G, h1, h2, z⟩ => (hb i Γ' S' G h1 h2).run pins s σ H D Iv z⟩
  refine (ps_for hp hc (pi_range1 hg hm (pa_cons he pa_nil (by rw [hs]; rfl)) hs) (pg_name (i := j) hN hj hx hf) hbody).imp fun D σ H ⟨H0, at0, z⟩ => ⟨H0, at0, fun v H1 H' at1 e1 hv => ?_⟩
  have hv := hv.toDp
  cases hv
  refine ⟨n, rfl, by omega, by omega, for_range (lo := 0) (n := n.toNat) (g := gName j) (tb := fun D σ H => ∃ (i : Nat) (Γ' : Gam) (S' : Sto) (G : Hp), (i : Int) < n ∧ I i Γ' S' ∧ rs X.K (B.at G) (Γ'.set j (.dat (.int (i : Int)))) S' (P.turn I i) D σ H) (D := D) (fun i σ H => ∃ Γ' S' H0, I i Γ' S' ∧ At X.K B H0 Γ' S' σ H) ⟨Γ, S, H1, h0, at1⟩ (fun i σ H hi pv => ?_) fun σ H pv => ?_⟩
  · obtain ⟨Γ', S', G, hI, at2⟩ := pv
    have e0 : (0 : Int) + (i : Int) = (i : Int) := Int.zero_add _
    show ∃ (i' : Nat) (Γ' : Gam) (S' : Sto) (G : Hp), (i' : Int) < n ∧ I i' Γ' S' ∧ rs X.K (B.at G) (Γ'.set j (.dat (.int (i' : Int)))) S' (P.turn I i') _ (σ.set j (some (.int ((0 : Int) + (i : Int))))) H
    rw [e0]
    exact ⟨i, Γ', S', G, by omega, hI, G, at2.rebase.set j ⟨_, rfl, .int _⟩, turn_endz at2.fra z _ fun Γ1 S1 H2 σ2 H3 q a _ => ⟨Γ1, S1, H2, q, a⟩⟩
  · obtain ⟨Γ', S', G, hI, at2⟩ := pv
    exact z.nx Γ' S' G σ H (hd Γ' S' hI) at2
/-- for x in a list that is data -/
theorem gs_forL (hp : PassesOwn (model X.prog X.w) X.A X.env X.xe) (hc : X.calm = true) (he : GD X B Γ S it (.list ds)) (hN : X.N.Nodup) (hj : X.N[j]? = some x) (hx : Loc X.env.scope x) (I : Nat → Gam → Sto → Prop) (h0 : I 0 Γ S)
    (hb : ∀ (i : Nat) d Γ' S' G, ds[i]? = some d → I i Γ' S' → GSs X (B.at G) (Γ'.set j (.dat d)) S' body (P.turn I i)) (hd : ∀ Γ' S', I ds.length Γ' S' → P.N Γ' S')
    (hs : ∀ y, foldedSetIterable it X.env y = pure y := by intro _; rfl) (hf : X.fn x = true ∨ X.env.scope.names.lookup x = some .local := by first | exact .inl rfl | exact .inr rfl | assumption) : GS X B Γ S (.For (.Name x p) it body [] pos) P := by
  have hbody : PSs X body (fun D σ H => ∃ (i : Nat) (d : PyData) (Γ' : Gam) (S' : Sto) (G : Hp), ds[i]? = some d ∧ I i Γ' S' ∧ rs X.K (B.at G) (Γ'.set j (.dat d)) S' (P.turn I i) D σ H) := ⟨fun pins s σ H D Iv ⟨i, d, Γ', S', G, h1, h2, z⟩ => (hb i d Γ' S' G h1 h2).run pins s σ H D Iv z⟩
  refine (ps_for hp hc (pi_list he) (pg_name (i := j) hN hj hx hf) hbody hs).imp fun D σ H ⟨H0, at0, z⟩ => ⟨H0, at0, fun v H1 H' at1 e1 hv => ?_⟩
  have hv := hv.toDp
  cases hv with
  | @lst a xs _ hl ha =>
    refine ⟨a, rfl, ⟨xs, ex_l at1.e2 hl⟩, for_list (K := X.K) (a := a) (xs := xs) (g := gName j) (tb := fun D σ H => ∃ (i : Nat) (d : PyData) (Γ' : Gam) (S' : Sto) (G : Hp), ds[i]? = some d ∧ I i Γ' S' ∧ rs X.K (B.at G) (Γ'.set j (.dat d)) S' (P.turn I i) D σ H) (D := D) (fun i σ H => ∃ Γ' S' H0, I i Γ' S' ∧ At X.K B H0 Γ' S' σ H ∧ Ex H1 H0) ⟨Γ, S, H1, h0, at1, Ex.refl _⟩ (fun i σ H _ pv => ?_) (fun i y σ H hi pv => ?_) fun σ H pv => ?_⟩
    · obtain ⟨Γ', S', G, hI, at2, e2⟩ := pv
      exact ex_l at2.e2 (ex_l e2 hl)
    · obtain ⟨Γ', S', G, hI, at2, e2⟩ := pv
      obtain ⟨d, h1, h2⟩ := dps_getV ha hi
      exact ⟨i, d, Γ', S', G, h1, hI, G, at2.rebase.set j ⟨_, rfl, dp_ex e2 _ _ h2⟩, turn_endz at2.fra z _ fun Γ1 S1 H2 σ2 H3 q a e3 => ⟨Γ1, S1, H2, q, a, e2.trans e3⟩⟩
    · obtain ⟨Γ', S', G, hI, at2, e2⟩ := pv
      rw [dps_len ha] at hI
      exact z.nx Γ' S' G σ H (hd Γ' S' hI) at2
/-- for k, x in enumerate(a list that is data) -/
theorem gs_forE {k : Nat} {kk : Nat} {y : Str} {p2 tpos : Pos} (hp : PassesOwn (model X.prog X.w) X.A X.env X.xe) (hc : X.calm = true) (hg : Gl X "enumerate") (hm : X.mg "enumerate" = none) (he : GD X B Γ S it (.list ds)) (hN : X.N.Nodup) (hj : X.N[j]? = some x) (hx : Loc X.env.scope x) (hk : X.N[k]? = some y) (hy : Loc X.env.scope y) (I : Nat → Gam → Sto → Prop) (h0 : I 0 Γ S)
    (hb : ∀ (i : Nat) d Γ' S' G, ds[i]? = some d → I i Γ' S' → GSs X (B.at G) ((Γ'.set j (.dat (.int (i : Int)))).set k (.dat d)) S' body (P.turn I i)) (hd : ∀ Γ' S', I ds.length Γ' S' → P.N Γ' S')
    (hs : starEach [it] X.env = [(false, eval it X.env)] := by rfl) (hl2 : (assignEach [.Name x p, .Name y p2] X.env).length = 2 := by rfl) (hst : (assignEach [.Name x p, .Name y p2] X.env).findIdx? (·.1) = none := by rfl)
    (ha1 : (assignEach [.Name x p, .Name y p2] X.env).map (·.2) = assign (.Name x p) X.env :: (assignEach [.Name y p2] X.env).map (·.2) := by rfl) (ha2 : (assignEach [.Name y p2] X.env).map (·.2) = assign (.Name y p2) X.env :: (assignEach [] X.env).map (·.2) := by rfl)
    (hf : X.fn x = true ∨ X.env.scope.names.lookup x = some .local := by first | exact .inl rfl | exact .inr rfl | assumption) (hf2 : X.fn y = true ∨ X.env.scope.names.lookup y = some .local := by first | exact .inl rfl | exact .inr rfl | assumption) :
    GS X B Γ S (.For (.Tuple [.Name x p, .Name y p2] kk tpos) (.Call (.Name "enumerate" pos2) [it] [] pos3) body [] pos) P := by
  have hbody : PSs X body (fun D σ H => ∃ (i : Nat) (d : PyData) (Γ' : Gam) (S' : Sto) (G : Hp), ds[i]? = some d ∧ I i Γ' S' ∧ rs X.K (B.at G) ((Γ'.set j (.dat (.int (i : Int)))).set k (.dat d)) S' (P.turn I i) D σ H) := ⟨fun pins s σ H D Iv ⟨i, d, Γ', S', G, h1, h2, z⟩ => (hb i d Γ' S' G h1 h2).run pins s σ H D Iv z⟩
  refine (ps_for hp hc (pi_enum hg hm (pa_cons he pa_nil (by rw [hs]; rfl)) hs) (pg_tup hc (pgs_cons (pg_name (i := j) hN hj hx hf) (pgs_cons (pg_name (i := k) hN hk hy hf2) pgs_nil ha2) ha1) hl2 hst) hbody).imp fun D σ H ⟨H0, at0, z⟩ => ⟨H0, at0, fun v H1 H' at1 e1 hv => ?_⟩
  have hv := hv.toDp
  cases hv with
  | @lst a xs _ hl ha =>
    refine ⟨a, xs, rfl, ex_l at1.e2 hl, fun i m σ H => m = xs.length - i ∧ i ≤ xs.length ∧ ∃ Γ' S' H0, I i Γ' S' ∧ At X.K B H0 Γ' S' σ H ∧ Ex H1 H0, ⟨xs.length, by simp, Nat.zero_le _, Γ, S, H1, h0, at1, Ex.refl _⟩, ?_⟩
    rintro i m σ H ⟨rfl, hi, Γ', S', G, hI, at2, e2⟩
    have hq : SqL X.K H a xs := ex_l at2.e2 (ex_l e2 hl)
    by_cases hlt : i < xs.length
    · refine .inr ⟨⟨xs, xs[i], hq, by simp [hlt]⟩, fun σ' H' => i + 1 ≤ xs.length ∧ ∃ Γ' S' H0, I (i + 1) Γ' S' ∧ At X.K B H0 Γ' S' σ' H' ∧ Ex H1 H0, fun σ' H' p' => ⟨xs.length - (i + 1), by omega, rfl, p'⟩, fun v H' y => ?_⟩
      obtain ⟨T, u, rfl, hT, rfl, hu⟩ := y
      have hi2 := hu xs hq
      obtain ⟨d, h1, h2⟩ := dps_getV ha hi2
      have xt := Ext.new (o := .tup [.int (i : Nat), u]) at2.e2 hT
      have at3 := at2.ext xt
      refine ⟨T, [.int (i : Nat), u], rfl, .inl (.inl upd_same), rfl, _, _, rfl, _, _, rfl, rfl, ?_⟩
      exact ⟨i, d, Γ', S', _, h1, hI, _, (at3.rebase.set j (s := .dat (.int (i : Int))) ⟨_, rfl, .int _⟩).set k (s := .dat d) ⟨_, rfl, dp_ex (e2.trans xt.e0) _ _ h2⟩, turn_endz at3.fra z _ fun Γ1 S1 H2 σ2 H3 q a e3 => ⟨hlt, Γ1, S1, H2, q, a, (e2.trans xt.e0).trans e3⟩⟩
    · have e : i = xs.length := by omega
      subst e
      rw [dps_len ha] at hI
      exact .inl ⟨⟨xs, hq, Nat.le_refl _⟩, z.nx Γ' S' G σ H (hd Γ' S' hI) at2⟩

/-! ### comprehensions -/
def wipeG (Γ : Gam) : List Nat → Gam
  | [] => Γ
  | v :: vs => (wipeG Γ vs).set v .un
theorem env_un {K : PySem.W.Frag} {H0 : Hp} {σ : St} {Γ : Gam} {v : Nat} (h : EnvOk K H0 σ Γ) : EnvOk K H0 (σ.set v none) (Γ.set v .un) := by
  refine ⟨by rw [List.length_set, List.length_set]; exact h.len, fun i s q => ?_⟩
  by_cases hj : v = i
  · subst hj
    have hi : v < Γ.length := by
      by_cases hi : v < Γ.length
      · exact hi
      · rw [List.getElem?_eq_none_iff.mpr (by rw [List.length_set]; omega)] at q; cases q
    rw [List.getElem?_set_self hi] at q
    cases q
    trivial
  · rw [List.getElem?_set_ne hj] at q ⊢
    exact h.at_ i s q
theorem env_wipe {K : PySem.W.Frag} {H0 : Hp} {σ : St} {Γ : Gam} (h : EnvOk K H0 σ Γ) : ∀ vs, EnvOk K H0 (wipe σ vs) (wipeG Γ vs)
  | [] => h
  | v :: vs => env_un (env_wipe h vs)
theorem At.wipe {K : PySem.W.Frag} {B : Bs} {H0 H : Hp} {Γ : Gam} {S : Sto} {σ : St} (a : At K B H0 Γ S σ H) (vs : List Nat) : At K B H0 (wipeG Γ vs) S (L2.wipe σ vs) H := ⟨a.fra, env_wipe a.env vs, a.sto, a.wr⟩
theorem wipe_set1 {σ : St} {j : Nat} {x : Option V} : wipe ((wipe σ [j]).set j x) [j] = wipe σ [j] := by
  show ((σ.set j none).set j x).set j none = σ.set j none
  rw [List.set_set, List.set_set]
theorem At.frame {K : PySem.W.Frag} {B : Bs} {H0 H H0' H' : Hp} {Γ Γ' : Gam} {S : Sto} {σ σ' : St} (a : At K B H0 Γ S σ H) (b : At K B H0' Γ' S σ' H') (e : Ex H0 H0') : At K B H0' Γ S σ H' := ⟨b.fra, a.env.ext e, b.sto, b.wr⟩
/-- what the block's element is to give -/
def teR (K : PySem.W.Frag) (B : Bs) (Γ : Gam) (S : Sto) (n : Int) (j : Nat) (g : Nat → PyData) : TE := fun σ H Q => ∃ (i : Nat) (D : Addr) (acc : List PyData), (i : Int) < n ∧ rd K B ((wipeG Γ [j]).set j (.dat (.int (i : Int)))) ((D, .lst acc) :: S) (.dat (g i)) σ H Q
theorem lcR_go (g : Nat → PyData) (hn : 0 ≤ n ∧ n ≤ 100000) {σ : St} {H : Hp} {Q : VK} (h : rd X.K B Γ S (.dat (.list ((List.range n.toNat).map g))) σ H Q) : tLc (iRng1 (tCons (rd X.K B Γ S (.dat (.int n))) tNil)) (gName j) tYes (teR X.K B Γ S n j g) [j] σ H Q := by
  obtain ⟨H0, at0, k⟩ := h
  refine ⟨H0, at0, fun v H1 H' at1 e1 hv => ?_⟩
  have hv := hv.toDp
  cases hv
  refine ⟨n, rfl, by omega, by omega, fun D hD => ?_⟩
  have hB : B.H D = none := none_B at1.fra hD
  refine lc_range (lo := 0) (n := n.toNat) (g := gName j) (tt := tYes) (te := teR X.K B Γ S n j g) (vs := [j]) (σ := σ) (D := D) (Qd := fun H => Q (.ref D) H) (fun i H => i ≤ n.toNat ∧ ∃ H0, At X.K B H0 Γ ((D, .lst ((List.range i).map g)) :: S) σ H ∧ Ex H1 H0) ⟨Nat.zero_le _, H1, at1.own hD ⟨[], upd_same, .nil⟩, Ex.refl _⟩ (fun i H hi pv => ?_) fun H pv => ?_
  · obtain ⟨_, G, at2, e2⟩ := pv
    have e0 : (0 : Int) + (i : Int) = (i : Int) := Int.zero_add _
    refine ⟨wipe_set1, ?_⟩
    refine ⟨i, D, _, by omega, G, (at2.wipe [j]).set j ⟨_, rfl, by rw [e0]; exact .int _⟩, fun v H2 H'' at3 e3 hv => ?_⟩
    obtain ⟨_, acc, h1, h2⟩ := at3.sto.at_ D _ List.mem_cons_self
    refine ⟨acc, h1, ?_, by omega, H2, ?_, e2.trans e3⟩
    · rw [dps_len h2, List.length_map, List.length_range]; exact Evl.sz_lt (by omega)
    · have a4 := at2.frame at3 e3
      have a5 := a4.write (n := 0) (ow := .lst ((List.range i).map g ++ [g i])) (o := .lst (acc ++ [v])) rfl ⟨_, upd_same, dps_app h2 (.cons hv.toDp .nil)⟩
      rw [List.range_succ, List.map_append]
      exact a5
  · obtain ⟨_, G, at2, e2⟩ := pv
    obtain ⟨G', e3, at3, hd⟩ := at2.freeze (n := 0) rfl hB
    exact k _ G' H at3 ((e1.trans e2).trans e3) ⟨_, rfl, hd⟩
/-- [elt for x in range(n)] -/
theorem gd_lcR {elt : Expr} {scope : Scope} {lp : Pos} (g : Nat → PyData) (hc : X.calm = true) (hN : X.N.Nodup) (hg : Gl X "range") (hm : X.mg "range" = none) (he : GD X B Γ S e (.int n)) (hn : 0 ≤ n ∧ n ≤ 100000) (ok : BlkOk X.N X.env.scope scope [(x, j)])
    (htg : ∀ (s : Shared) (H : Hp) (C : Addr) (cl : List (Str × Addr)) (fp : List Addr), PG (X.blk s H scope (compEnvC scope cl C X.env) fp) (.Name x p) (gName j))
    (hel : ∀ (i : Nat) (D : Addr) (acc : List PyData), (i : Int) < n → ∀ (s : Shared) (H : Hp) (C : Addr) (cl : List (Str × Addr)) (fp : List Addr), GD (X.blk s H scope (compEnvC scope cl C X.env) fp) B ((wipeG Γ [j]).set j (.dat (.int (i : Int)))) ((D, .lst acc) :: S) elt (g i))
    (hs : starEach [e] X.env = [(false, eval e X.env)] := by rfl) : GD X B Γ S (.ListComp elt [⟨.Name x p, .Call (.Name "range" pos2) [e] [] pos3, [], 0⟩] scope lp) (.list ((List.range n.toNat).map g)) :=
  (pe_lc (own := [(x, j)]) hc hN (pi_range1 hg hm (pa_cons he pa_nil (by rw [hs]; rfl)) hs) ok htg (fun _ _ _ _ _ => pts_nil) (te := teR X.K B Γ S n j g) (fun s H C cl fp => ⟨fun pins s' σ H' Q Iv ⟨i, D, acc, h1, z⟩ => (hel i D acc h1 s H C cl fp).run pins s' σ H' Q Iv z⟩)).imp fun σ H Q h => lcR_go g hn h
/-- y = [elt for x in range(n)] -/
theorem gs_setLcR {elt : Expr} {scope : Scope} {lp spos py : Pos} {y : Str} {P : Po} (i : Nat) (g : Nat → PyData) (hy : X.N[i]? = some y) (hyl : X.env.scope.names.lookup y = some .local) (hsw : swapsWith (.ListComp elt [⟨.Name x p, .Call (.Name "range" pos2) [e] [] pos3, [], 0⟩] scope lp) (some (.Name y py)) spos.line X.env = pure true) (hc : X.calm = true) (hN : X.N.Nodup) (hg : Gl X "range") (hm : X.mg "range" = none) (he : GD X B Γ S e (.int n)) (hn : 0 ≤ n ∧ n ≤ 100000) (ok : BlkOk X.N X.env.scope scope [(x, j)])
    (htg : ∀ (s : Shared) (H : Hp) (C : Addr) (cl : List (Str × Addr)) (fp : List Addr), PG (X.blk s H scope (compEnvC scope cl C X.env) fp) (.Name x p) (gName j))
    (hel : ∀ (i : Nat) (D : Addr) (acc : List PyData), (i : Int) < n → ∀ (s : Shared) (H : Hp) (C : Addr) (cl : List (Str × Addr)) (fp : List Addr), GD (X.blk s H scope (compEnvC scope cl C X.env) fp) B ((wipeG Γ [j]).set j (.dat (.int (i : Int)))) ((D, .lst acc) :: S) elt (g i))
    (hs : starEach [e] X.env = [(false, eval e X.env)] := by rfl) 
    (q : P.N (Γ.set i (.dat (.list ((List.range n.toNat).map g)))) S) : GS X B Γ S (.Assign [.Name y py] (.ListComp elt [⟨.Name x p, .Call (.Name "range" pos2) [e] [] pos3, [], 0⟩] scope lp) spos) P :=
  (ps_setLc (own := [(x, j)]) hc hN hy hyl hsw (pi_range1 hg hm (pa_cons he pa_nil (by rw [hs]; rfl)) hs) ok htg (fun _ _ _ _ _ => pts_nil) (te := teR X.K B Γ S n j g) (fun s H C cl fp => ⟨fun pins s' σ H' Q Iv ⟨i, D, acc, h1, z⟩ => (hel i D acc h1 s H C cl fp).run pins s' σ H' Q Iv z⟩)).imp fun D σ H ⟨H0, at0, z⟩ => lcR_go g hn ⟨H0, at0, fun v H0' H' at1 e1 hv => z.nx _ _ H0' _ H' q (at1.set i hv)⟩
end
/-! ### xs[i] op= e of an owned list of ints -/
def rGetN (K : PySem.W.Frag) : V → V → Hp → VK → Prop := fun x y H Q => ∃ p xs i v, x = .ref p ∧ y = .int i ∧ 0 ≤ i ∧ SqL K H p xs ∧ xs[i.toNat]? = some v ∧ Q v H
theorem get_listN {X : Cx} : PGet X (rGetN X.K) := by
  intro pins s σ H x y v u Q I rx ry h
  obtain ⟨p, xs, i, z, rfl, rfl, h0, hq, he, q⟩ := h
  cases rx
  obtain ⟨t, rfl⟩ := ry
  obtain ⟨its, r, pl, hz⟩ := I.list hq
  obtain ⟨w, ew, rw'⟩ := r.get he
  have hl := r.length
  have hn := line63
  have hi := (List.getElem?_eq_some_iff.mp he).1
  exact wpAny_getItem_list pl.isList h0 (by omega) (by simpa using ew) ⟨z, H, I, rw', q⟩
def tipI (C : Int → Int → Prop) (f : Int → Int → Int) : TIp := fun x y H Q => ∃ i j, x = .int i ∧ y = .int j ∧ C i j ∧ Q (.int (f i j)) H
theorem ip_addT {X : Cx} : PIp X .Add (tipI (fun _ _ => True) fun i j => i + j) := fun pins s σ H x y v u Q I r1 r2 ⟨i, j, e1, e2, _, q⟩ => ip_add pins s σ H x y v u Q I r1 r2 ⟨i, j, e1, e2, q⟩
theorem ip_mulT {X : Cx} : PIp X .Mult (tipI IntMulOk fun i j => i * j) := by
  intro pins s σ H x y v u Q I r1 r2 h
  obtain ⟨i, j, e1, e2, hc, q⟩ := h
  subst e1 e2
  obtain ⟨t, rfl⟩ := r1
  obtain ⟨t', rfl⟩ := r2
  exact PyProof.Rows.imul_int ⟨.int _, H, I.tok _, ⟨_, rfl⟩, q⟩ hc
section
variable {X : Cx} {B : Bs} {Γ : Gam} {S : Sto} {a b c e o : Expr} {ds : List PyData} {pos tpos : Pos} {P : Po} {n : Nat} {p : Addr} {z w : Int} {m : Nat}
theorem gs_augO {op : Operator} {C : Int → Int → Prop} {f : Int → Int → Int} (hp : PIp X op (tipI C f)) (ho : GR X B Γ S o (.ref p)) (hi : GD X B Γ S b (.int (m : Int))) (he : GD X B Γ S e (.int w)) (hn : S[n]? = some (p, .lst ds)) (hz : ds[m]? = some (.int z)) (hC : C z w)
    (q : P.N Γ (S.set n (p, .lst (ds.set m (.int (f z w))))))
    (ha : ∀ ov iv new, augStore b ov iv new = (do holding [new, ov, iv] (setItem ov iv new); release [new, ov, iv] []; pure .next) := by intros; rfl) : GS X B Γ S (.AugAssign (.Subscript o b tpos) op e pos) P :=
  (ps_augS ho hi get_listN he hp set_list ha).imp fun D σ H ⟨H0, at0, zz⟩ => ⟨H0, at0, fun v H1 H' at1 e1 hv => ⟨H1, at1, fun y H2 H'' at2 e2 hy => by
    have hv : (some (some v) : Option (Option V)) = some (some (.ref p)) := hv
    cases hv
    have hy := hy.toDp
    cases hy
    obtain ⟨h0, vs, h1, h2⟩ := at2.sto.at_ p _ (List.mem_of_getElem? hn)
    obtain ⟨u, u1, u2⟩ := dps_get h2 hz
    cases u2
    refine ⟨p, vs, _, _, rfl, rfl, Int.natCast_nonneg m, .inl (.inl h1), u1, H2, at2, fun v3 H3 H3' at3 e3 hv3 => ?_⟩
    have hv3 := hv3.toDp
    cases hv3
    refine ⟨z, w, rfl, rfl, hC, ?_⟩
    obtain ⟨h0', vs', h1', h2'⟩ := at3.sto.at_ p _ (List.mem_of_getElem? hn)
    have hm := (List.getElem?_eq_some_iff.mp hz).1
    refine ⟨p, vs', _, m, rfl, rfl, h1', ?_, ?_⟩
    · unfold ixN
      rw [if_pos (Int.natCast_nonneg m), if_pos (by rw [dps_len h2']; omega), Int.toNat_natCast]
    · exact zz.nx _ _ H3 σ _ q (at3.write hn ⟨_, upd_same, dps_set (.int _) m h2'⟩)⟩⟩
end
/-! ### a part of what is owned, in another order -/
theorem At.pick {K : PySem.W.Frag} {B : Bs} {H0 H : Hp} {Γ : Gam} {S S2 : Sto} {σ : St} (a : At K B H0 Γ S σ H) (is : List Nat) (nd : is.Nodup) (h : is.map (fun i => S[i]?) = S2.map some) : At K B H0 Γ S2 σ H := by
  have hm : ∀ e ∈ S2, e ∈ S := fun e he => by
    have : some e ∈ S2.map some := List.mem_map.mpr ⟨e, he, rfl⟩
    rw [← h] at this
    obtain ⟨i, _, hi⟩ := List.mem_map.mp this
    exact List.mem_of_getElem? hi
  have key : ∀ (is : List Nat) (S2 : Sto), is.Nodup → is.map (fun i => S[i]?) = S2.map some → (keys S2).Nodup := by
    intro is
    induction is with
    | nil => intro S2 _ h; cases S2 with
      | nil => exact List.nodup_nil
      | cons _ _ => cases h
    | cons i is ih =>
      intro S2 nd h
      cases S2 with
      | nil => cases h
      | cons e S2 =>
        obtain ⟨p, ov⟩ := e
        have h1 : S[i]? = some (p, ov) := (List.cons.inj h).1
        have h2 := (List.cons.inj h).2
        obtain ⟨n1, n2⟩ := List.nodup_cons.mp nd
        refine List.nodup_cons.mpr ⟨fun z => ?_, ih S2 n2 h2⟩
        obtain ⟨ow, hz⟩ := of_keys z
        have : some (p, ow) ∈ S2.map some := List.mem_map.mpr ⟨_, hz, rfl⟩
        rw [← h2] at this
        obtain ⟨k, hk, hk2⟩ := List.mem_map.mp this
        exact nd_at a.sto.nd h1 hk2 (fun e => n1 (e ▸ hk)) rfl
  refine ⟨a.fra, a.env, ⟨fun p ov m => a.sto.at_ p ov (hm _ m), key is S2 nd h⟩, fun p hp => ?_⟩
  obtain ⟨ov, m⟩ := of_keys hp
  exact a.wr p (mem_keys (hm _ m))
section
variable {X : Cx} {B : Bs} {Γ : Gam} {S S1 S2 F : Sto} {a b c e o : Expr} {es : List Expr} {pos apos : Pos} {P : Po} {n : Nat} {q : Addr} {fs : List (Str × Sl)} {names : List Str} {r : Sl} {as : List Sl} {CX : CXT} {lv : Nat} {f C : Addr} {fd : FuncData} {ps : List Str} {R : Rq} {PR : Sl → Sto → Prop} {PX : Value → Sto → Prop} {m x : Str} {p : Pos} {rest : List Stmt} {d : PyData}
theorem gss_pick (is : List Nat) (nd : is.Nodup) (h : is.map (fun i => S[i]?) = S2.map some) (k : GSs X B Γ S2 rest P) : GSs X B Γ S rest P := k.imp fun D σ H ⟨H0, at0, z⟩ => ⟨H0, at0.pick is nd h, z⟩
/-- a statement that leaves the slots as they are -/
theorem gss_keep {st : Stmt} (Ms : Sto → Prop) (h1 : GS X B Γ S st { P with N := fun Γ' S' => Γ' = Γ ∧ Ms S' }) (h2 : ∀ S', Ms S' → GSs X B Γ S' rest P) : GSs X B Γ S (st :: rest) P := gss_cons h1 fun Γ' S' ⟨e, m⟩ => e ▸ h2 S' m
theorem gs_imp {st : Stmt} {Q : Po} (h : GS X B Γ S st P) (n : ∀ Γ S, P.N Γ S → Q.N Γ S) (r : ∀ v S, P.R v S → Q.R v S) (b : ∀ Γ S, P.bk Γ S → Q.bk Γ S) (c : ∀ Γ S, P.ct Γ S → Q.ct Γ S) (x : ∀ z Γ S, P.ex z Γ S → Q.ex z Γ S) : GS X B Γ S st Q := h.imp fun D σ H ⟨H0, at0, z⟩ =>
  ⟨H0, at0, fun Γ S H0 σ H q => z.nx Γ S H0 σ H (n Γ S q), fun v Γ S u H0 σ H q => z.rt v Γ S u H0 σ H (r v S q), fun Γ S H0 σ H q => z.bk Γ S H0 σ H (b Γ S q), fun Γ S H0 σ H q => z.ct Γ S H0 σ H (c Γ S q), fun y Γ S H0 σ H q => z.ex y Γ S H0 σ H (x y Γ S q)⟩
/-- the same store, told otherwise -/
theorem gss_sto (h : S = S2) (k : GSs X B Γ S2 rest P) : GSs X B Γ S rest P := h ▸ k
/-- a method that changes nothing and gives data -/
theorem gd_methP {pl : Sem Bool} (ho : GR X B Γ (S1 ++ F) o (.ref q)) (hn : (S1 ++ F)[n]? = some (q, .obj C fs)) (c : Cls X.K C) (hm : Meth X.K C m f) (hnm : fs.map (·.1) = names) (hj : idxF m names = none) (Gf : FnOk X.prog X.w X.K X.mg X.base CX0 lv f fd ps (SpM X.K R)) (hr : Room lv X.A) (hb : Binds X.K fd ps [])
    (ha : GAS X B Γ (S1 ++ F) (e :: es) as) (hR : R (.raw (.ref q) :: as) S1 (fun r S' => r = .dat d ∧ S' = S1) (fun _ _ => False))
    (hst : starEach (e :: es) X.env = (false, eval e X.env) :: starEach es X.env := by rfl) (hpl : (backTo pos (starEach es X.env)).any (·.1) = false := by rfl)
    (ht : MethForm X o m (e :: es) pos apos pl := by rfl) : GD X B Γ (S1 ++ F) (.Call (.Attribute o m apos) (e :: es) [] pos) d :=
  gd_ofE (ge_mono (ge_meth ho hn c hm hnm hj Gf hr hb (fun _ _ _ _ _ _ _ h => h.elim) ha hR hst hpl ht) (fun r S' ⟨S1', ⟨h1, h2⟩, h3⟩ => by subst h1 h2 h3; exact ⟨rfl, rfl⟩) fun cls S' ⟨_, h, _⟩ => h)
/-- a def that changes nothing and gives data, some of its arguments owned -/
theorem gd_callP (Gf : FnOk X.prog X.w X.K X.mg X.base CX0 lv f fd ps (SpM X.K R)) (hr : Room lv X.A) (hg : Gl X x) (hm : X.mg x = some (.ref f)) (hk : PySem.W.keepIn X.K (.ref f) = true) (hb : Binds X.K fd ps []) (ha : GAS X B Γ (S1 ++ F) (e :: es) as) (hR : R as S1 (fun r S' => r = .dat d ∧ S' = S1) (fun _ _ => False))
    (hdb : (x == ("__debug__" : Str)) = false := by decide) (he : starEach (e :: es) X.env = (false, eval e X.env) :: starEach es X.env := by rfl) (hpl : (backTo pos (starEach es X.env)).any (·.1) = false := by rfl) : GD X B Γ (S1 ++ F) (.Call (.Name x p) (e :: es) [] pos) d :=
  gd_ofE (ge_mono (ge_call Gf hr hg hm hk hb (fun _ _ _ _ _ _ _ h => h.elim) ha hR hdb he hpl) (fun r S' ⟨S1', ⟨h1, h2⟩, h3⟩ => by subst h1 h2 h3; exact ⟨rfl, rfl⟩) fun cls S' ⟨_, h, _⟩ => h)
end
/-! ### lists that are data or owned -/
section
variable {X : Cx} {B : Bs} {Γ : Gam} {S : Sto} {e o it : Expr} {es : List Expr} {d : PyData} {ds : List PyData} {pos pos2 pos3 : Pos} {P : Po} {n : Nat} {x nm : Str} {p2 : Pos} {j : Nat} {body : List Stmt}
def LSl (S : Sto) (r : Sl) (ds : List PyData) : Prop := r = .dat (.list ds) ∨ ∃ p, r = .raw (.ref p) ∧ (p, OV.lst ds) ∈ S
inductive GLs (X : Cx) (B : Bs) (Γ : Gam) (S : Sto) (e : Expr) (ds : List PyData) : Prop
  | dat (h : GD X B Γ S e (.list ds))
  | own (p : Addr) (n : Nat) (h : GR X B Γ S e (.ref p)) (hn : S[n]? = some (p, .lst ds))
theorem gls_var {r : Sl} (h : PE X e (tVar n)) (q : Γ[n]? = some r) (hr : LSl S r ds) : GLs X B Γ S e ds := by
  rcases hr with rfl | ⟨p, rfl, hm⟩
  · exact .dat (gd_var h q)
  · obtain ⟨i, hi⟩ := List.getElem?_of_mem hm
    exact .own p i (gr_var h q) hi
theorem gl_len (hg : Gl X nm) (hm : X.mg nm = none) (hv : bootBuiltins nm = some (.builtin "len")) (ho : GLs X B Γ S o ds) (hnn : nm ≠ "__name__" := by decide) (hdb : (nm == ("__debug__" : Str)) = false := by decide)
    (he : starEach [o] X.env = (false, eval o X.env) :: starEach [] X.env := by rfl) (hpl : (backTo pos (starEach [] X.env)).any (·.1) = false := by rfl) : GD X B Γ S (.Call (.Name nm p2) [o] [] pos) (.int (ds.length : Int)) := by
  cases ho with
  | dat h => exact gd_callB call_len (ca_len (.inl rfl)) hg hm hv (ga_cons h ga_nil he) hnn hdb he hpl
  | own p n h hn => exact gd_lenO hg hm hv h hn hnn hdb he hpl
theorem gl_list (hg : Gl X nm) (hm : X.mg nm = none) (hv : bootBuiltins nm = some (.type "list")) (he : GLs X B Γ S e ds) {ex : Value → Gam → Sto → Prop} (hnn : nm ≠ "__name__" := by decide) (hdb : (nm == ("__debug__" : Str)) = false := by decide)
    (hst : starEach [e] X.env = (false, eval e X.env) :: starEach [] X.env := by rfl) (hpl : (backTo pos (starEach [] X.env)).any (·.1) = false := by rfl) : GE X B Γ S (.Call (.Name nm p2) [e] [] pos) (fun r S' => ∃ p, B.H p = none ∧ r = .raw (.ref p) ∧ S' = (p, .lst ds) :: S) ex := by
  cases he with
  | dat h => exact ge_list hg hm hv h hnn hdb hst hpl
  | own p n h hn => exact ge_listO hg hm hv h hn hnn hdb hst hpl
/-- .. and given as data at once: nobody else holds it -/
theorem gl_listD (hg : Gl X nm) (hm : X.mg nm = none) (hv : bootBuiltins nm = some (.type "list")) (he : GLs X B Γ S e ds) (hnn : nm ≠ "__name__" := by decide) (hdb : (nm == ("__debug__" : Str)) = false := by decide)
    (hst : starEach [e] X.env = (false, eval e X.env) :: starEach [] X.env := by rfl) (hpl : (backTo pos (starEach [] X.env)).any (·.1) = false := by rfl) : GD X B Γ S (.Call (.Name nm p2) [e] [] pos) (.list ds) :=
  (gl_list hg hm hv he (ex := fun _ _ _ => False) hnn hdb hst hpl).imp fun σ H Q ⟨H0, at0, k⟩ => ⟨H0, at0, fun r S' v H0' H' ⟨p, hp, er, es⟩ at1 e1 hv => by
    subst er es
    have hv : (some (some v) : Option (Option V)) = some (some (.ref p)) := hv
    cases hv
    obtain ⟨H2, e2, at2, hd⟩ := at1.freeze (n := 0) rfl hp
    exact k _ H2 H' at2 (e1.trans e2) ⟨_, rfl, hd⟩, fun _ _ _ _ z => z.elim⟩
/-- for k, x in enumerate(a list that is owned and stays) -/
theorem gs_forEO {p : Addr} {px : Pos} {k : Nat} {kk : Nat} {y : Str} {p2 tpos : Pos} (hp : PassesOwn (model X.prog X.w) X.A X.env X.xe) (hc : X.calm = true) (hg : Gl X "enumerate") (hm : X.mg "enumerate" = none) (he : GR X B Γ S it (.ref p)) (hN : X.N.Nodup) (hj : X.N[j]? = some x) (hx : Loc X.env.scope x) (hk : X.N[k]? = some y) (hy : Loc X.env.scope y) (I : Nat → Gam → Sto → Prop) (h0 : I 0 Γ S)
    (hkp : ∀ i Γ' S', I i Γ' S' → (p, OV.lst ds) ∈ S')
    (hb : ∀ (i : Nat) d Γ' S' G, ds[i]? = some d → I i Γ' S' → GSs X (B.at G) ((Γ'.set j (.dat (.int (i : Int)))).set k (.dat d)) S' body (P.turn I i)) (hd : ∀ Γ' S', I ds.length Γ' S' → P.N Γ' S')
    (hs : starEach [it] X.env = [(false, eval it X.env)] := by rfl) (hl2 : (assignEach [.Name x px, .Name y p2] X.env).length = 2 := by rfl) (hst : (assignEach [.Name x px, .Name y p2] X.env).findIdx? (·.1) = none := by rfl)
    (ha1 : (assignEach [.Name x px, .Name y p2] X.env).map (·.2) = assign (.Name x px) X.env :: (assignEach [.Name y p2] X.env).map (·.2) := by rfl) (ha2 : (assignEach [.Name y p2] X.env).map (·.2) = assign (.Name y p2) X.env :: (assignEach [] X.env).map (·.2) := by rfl)
    (hf : X.fn x = true ∨ X.env.scope.names.lookup x = some .local := by first | exact .inl rfl | exact .inr rfl | assumption) (hf2 : X.fn y = true ∨ X.env.scope.names.lookup y = some .local := by first | exact .inl rfl | exact .inr rfl | assumption) :
    GS X B Γ S (.For (.Tuple [.Name x px, .Name y p2] kk tpos) (.Call (.Name "enumerate" pos2) [it] [] pos3) body [] pos) P := by
  have hbody : PSs X body (fun D σ H => ∃ (i : Nat) (d : PyData) (Γ' : Gam) (S' : Sto) (G : Hp), ds[i]? = some d ∧ I i Γ' S' ∧ rs X.K (B.at G) ((Γ'.set j (.dat (.int (i : Int)))).set k (.dat d)) S' (P.turn I i) D σ H) := ⟨fun pins s σ H D Iv ⟨i, d, Γ', S', G, h1, h2, z⟩ => (hb i d Γ' S' G h1 h2).run pins s σ H D Iv z⟩
  refine (ps_for hp hc (pi_enum hg hm (pa_cons he pa_nil (by rw [hs]; rfl)) hs) (pg_tup hc (pgs_cons (pg_name (i := j) hN hj hx hf) (pgs_cons (pg_name (i := k) hN hk hy hf2) pgs_nil ha2) ha1) hl2 hst) hbody).imp fun D σ H ⟨H0, at0, z⟩ => ⟨H0, at0, fun v H1 H' at1 e1 hv => ?_⟩
  have hv : (some (some v) : Option (Option V)) = some (some (.ref p)) := hv
  cases hv
  obtain ⟨_, xs, hl, _⟩ := at1.sto.at_ p _ (hkp 0 Γ S h0)
  refine ⟨p, xs, rfl, .inl (.inl hl), fun i m σ H => m = ds.length - i ∧ i ≤ ds.length ∧ ∃ Γ' S' H0, I i Γ' S' ∧ At X.K B H0 Γ' S' σ H ∧ Ex H1 H0, ⟨ds.length, by simp, Nat.zero_le _, Γ, S, H1, h0, at1, Ex.refl _⟩, ?_⟩
  rintro i m σ H ⟨rfl, hi, Γ', S', G, hI, at2, e2⟩
  obtain ⟨_, xs, hl, ha⟩ := at2.sto.at_ p _ (hkp i Γ' S' hI)
  have hq : SqL X.K H p xs := .inl (.inl hl)
  have hln := dps_len ha
  by_cases hlt : i < ds.length
  · have hlx : i < xs.length := by omega
    refine .inr ⟨⟨xs, xs[i], hq, by simp [hlx]⟩, fun σ' H' => i + 1 ≤ ds.length ∧ ∃ Γ' S' H0, I (i + 1) Γ' S' ∧ At X.K B H0 Γ' S' σ' H' ∧ Ex H1 H0, fun σ' H' p' => ⟨ds.length - (i + 1), by omega, rfl, p'⟩, fun v H' y => ?_⟩
    obtain ⟨T, u, rfl, hT, rfl, hu⟩ := y
    have hi2 := hu xs hq
    obtain ⟨d, h1, h2⟩ := dps_getV ha hi2
    have xt := Ext.new (o := .tup [.int (i : Nat), u]) at2.e2 hT
    have at3 := at2.ext xt
    refine ⟨T, [.int (i : Nat), u], rfl, .inl (.inl upd_same), rfl, _, _, rfl, _, _, rfl, rfl, ?_⟩
    exact ⟨i, d, Γ', S', _, h1, hI, _, (at3.rebase.set j (s := .dat (.int (i : Int))) ⟨_, rfl, .int _⟩).set k (s := .dat d) ⟨_, rfl, dp_ex xt.e0 _ _ h2⟩, turn_endz at3.fra z _ fun Γ1 S1 H2 σ2 H3 q a e3 => ⟨hlt, Γ1, S1, H2, q, a, (e2.trans xt.e0).trans e3⟩⟩
  · have e : i = ds.length := by omega
    subst e
    exact .inl ⟨⟨xs, hq, by omega⟩, z.nx Γ' S' G σ H (hd Γ' S' hI) at2⟩
theorem gl_forE {px : Pos} {k : Nat} {kk : Nat} {y : Str} {p2 tpos : Pos} (hp : PassesOwn (model X.prog X.w) X.A X.env X.xe) (hc : X.calm = true) (hg : Gl X "enumerate") (hm : X.mg "enumerate" = none) (he : GLs X B Γ S it ds) (hN : X.N.Nodup) (hj : X.N[j]? = some x) (hx : Loc X.env.scope x) (hk : X.N[k]? = some y) (hy : Loc X.env.scope y) (I : Nat → Gam → Sto → Prop) (h0 : I 0 Γ S)
    (hkp : ∀ i Γ' S', I i Γ' S' → S' = S)
    (hb : ∀ (i : Nat) d Γ' S' G, ds[i]? = some d → I i Γ' S' → GSs X (B.at G) ((Γ'.set j (.dat (.int (i : Int)))).set k (.dat d)) S' body (P.turn I i)) (hd : ∀ Γ' S', I ds.length Γ' S' → P.N Γ' S')
    (hs : starEach [it] X.env = [(false, eval it X.env)] := by rfl) (hl2 : (assignEach [.Name x px, .Name y p2] X.env).length = 2 := by rfl) (hst : (assignEach [.Name x px, .Name y p2] X.env).findIdx? (·.1) = none := by rfl)
    (ha1 : (assignEach [.Name x px, .Name y p2] X.env).map (·.2) = assign (.Name x px) X.env :: (assignEach [.Name y p2] X.env).map (·.2) := by rfl) (ha2 : (assignEach [.Name y p2] X.env).map (·.2) = assign (.Name y p2) X.env :: (assignEach [] X.env).map (·.2) := by rfl)
    (hf : X.fn x = true ∨ X.env.scope.names.lookup x = some .local := by first | exact .inl rfl | exact .inr rfl | assumption) (hf2 : X.fn y = true ∨ X.env.scope.names.lookup y = some .local := by first | exact .inl rfl | exact .inr rfl | assumption) :
    GS X B Γ S (.For (.Tuple [.Name x px, .Name y p2] kk tpos) (.Call (.Name "enumerate" pos2) [it] [] pos3) body [] pos) P := by
  cases he with
  | dat h => exact gs_forE hp hc hg hm h hN hj hx hk hy I h0 hb hd hs hl2 hst ha1 ha2 hf hf2
  | own p n h hn => exact gs_forEO hp hc hg hm h hN hj hx hk hy I h0 (fun i Γ' S' q => hkp i Γ' S' q ▸ List.mem_of_getElem? hn) hb hd hs hl2 hst ha1 ha2 hf hf2
end
section
variable {X : Cx} {B : Bs} {Γ : Gam} {S F : Sto} {e : Expr} {es : List Expr} {d : PyData} {ds : List PyData} {pos : Pos} {P : Po} {n lv : Nat} {x : Str} {p : Pos} {as : List Sl} {f : Addr} {fd : FuncData} {ps : List Str} {R : Rq} {r : Sl} {o : Addr × OV}
theorem LSl.cons (h : LSl S r ds) : LSl (o :: S) r ds := h.imp id fun ⟨p, h1, h2⟩ => ⟨p, h1, List.mem_cons_of_mem _ h2⟩
theorem LSl.app (h : LSl F r ds) : LSl (S ++ F) r ds := h.imp id fun ⟨p, h1, h2⟩ => ⟨p, h1, List.mem_append_right _ h2⟩
theorem LSl.ne (h : LSl S r ds) : r ≠ .un := by
  rcases h with rfl | ⟨p, rfl, _⟩ <;> exact fun z => nomatch z
theorem gd_callP0 (Gf : FnOk X.prog X.w X.K X.mg X.base CX0 lv f fd ps (SpM X.K R)) (hr : Room lv X.A) (hg : Gl X x) (hm : X.mg x = some (.ref f)) (hk : PySem.W.keepIn X.K (.ref f) = true) (hb : Binds X.K fd ps []) (ha : GAS X B Γ S (e :: es) as) (hR : R as S (fun r S' => r = .dat d ∧ S' = S) (fun _ _ => False))
    (hdb : (x == ("__debug__" : Str)) = false := by decide) (he : starEach (e :: es) X.env = (false, eval e X.env) :: starEach es X.env := by rfl) (hpl : (backTo pos (starEach es X.env)).any (·.1) = false := by rfl) : GD X B Γ S (.Call (.Name x p) (e :: es) [] pos) d := by
  have ha' : GAS X B Γ (S ++ []) (e :: es) as := by rw [List.append_nil]; exact ha
  have := gd_callP (F := []) (p := p) Gf hr hg hm hk hb ha' hR hdb he hpl
  rwa [List.append_nil] at this
theorem gss_then {st : Stmt} {rest : List Stmt} (h : GS X B Γ S st { P with N := fun Γ' S' => GSs X B Γ' S' rest P }) : GSs X B Γ S (st :: rest) P := gss_cons h fun _ _ q => q
end
/-! ### a new list -/
def GF (X : Cx) (B : Bs) (Γ : Gam) (S : Sto) (e : Expr) (ds : List PyData) : Prop := ∀ ex : Value → Gam → Sto → Prop, GE X B Γ S e (fun r S' => ∃ p, B.H p = none ∧ r = .raw (.ref p) ∧ S' = (p, .lst ds) :: S) ex
section
variable {X : Cx} {B : Bs} {Γ : Gam} {S : Sto} {e o : Expr} {es : List Expr} {ds : List PyData} {pos pos' p2 : Pos} {P : Po} {n : Nat} {p C : Addr} {fs : List (Str × Sl)} {names : List Str} {f nm x : Str}
theorem gf_lst (h : GA X B Γ S es ds) (hl : ds.length ≤ 100000) : GF X B Γ S (.List es pos) ds := fun _ => ge_lst h hl
theorem gf_list (hg : Gl X nm) (hm : X.mg nm = none) (hv : bootBuiltins nm = some (.type "list")) (he : GLs X B Γ S e ds) (hnn : nm ≠ "__name__" := by decide) (hdb : (nm == ("__debug__" : Str)) = false := by decide)
    (hst : starEach [e] X.env = (false, eval e X.env) :: starEach [] X.env := by rfl) (hpl : (backTo pos (starEach [] X.env)).any (·.1) = false := by rfl) : GF X B Γ S (.Call (.Name nm p2) [e] [] pos) ds := fun _ => gl_list hg hm hv he hnn hdb hst hpl
theorem gs_fldF {j : Option Nat} (he : GF X B Γ S e ds) (ho : ∀ S', GR X B Γ S' o (.ref p)) (hn : S[n]? = some (p, .obj C fs)) (hc : Cls X.K C) (hf : NoAttr X.K C f) (hnm : fs.map (·.1) = names) (hj : idxF f names = j) (hl : fs.length < 1000)
    (q : ∀ b, B.H b = none → P.N Γ ((b, .lst ds) :: S.set n (p, .obj C (setF j f (.raw (.ref b)) fs))))
    (hs : swapsWith e (some (.Attribute o f pos')) pos.line X.env = pure false := by rfl) : GS X B Γ S (.Assign [.Attribute o f pos'] e pos) P :=
  gs_fldE (he P.ex) hc hf (fun r S' ⟨b, hb, hr, hS⟩ => by subst hr hS; exact ⟨n + 1, fs, names, ho _, by rw [List.getElem?_cons_succ]; exact hn, hnm, hj, hl, q b hb⟩) hs
/-- x = a new list -/
theorem gs_setF {i : Nat} (he : GF X B Γ S e ds) (hN : X.N.Nodup) (hi : X.N[i]? = some x) (hx : Loc X.env.scope x) (q : ∀ b, B.H b = none → P.N (Γ.set i (.raw (.ref b))) ((b, .lst ds) :: S)) (hs : swapsWith e (some (.Name x pos')) pos.line X.env = pure false := by rfl) (hf : X.fn x = true ∨ X.env.scope.names.lookup x = some .local := by first | exact .inl rfl | exact .inr rfl | assumption) : GS X B Γ S (.Assign [.Name x pos'] e pos) P :=
  gs_setE hN hi hx (ge_mono (he P.ex) (fun r S' ⟨b, hb, hr, hS⟩ => by subst hr hS; exact q b hb) fun _ _ h => h) hs
end
section
variable {X : Cx} {B : Bs} {Γ : Gam} {S S1 F : Sto} {e : Expr} {es : List Expr} {pos : Pos} {n lv : Nat} {x : Str} {p : Pos} {as : List Sl} {C f : Addr} {fd : FuncData} {ps : List Str} {R : Rq} {CX : CXT}
/-- C(e, ..), told by what follows -/
theorem ge_makeQ {E : XK} {Pe : Sl → Sto → Prop} {ex : Value → Gam → Sto → Prop} (M : Mk X.K C f) (Gf : FnOk X.prog X.w X.K X.mg X.base CX lv f fd ps (SpM X.K R)) (hr : Room (lv + 1) X.A) (hg : Gl X x) (hm : X.mg x = some (.ref C)) (hb : Binds X.K fd ps []) (hx : Passes CX X E) (hE : ∀ cls σ H, B.E cls none σ H → E cls none H)
    {PRx : Addr → Sto → Prop} {PXx : Addr → Value → Sto → Prop} (ha : GAS X B Γ (S1 ++ F) (e :: es) as) (hR : ∀ y, R (.raw (.ref y) :: as) ((y, .obj C []) :: S1) (fun r S' => r = .dat .none ∧ PRx y S') (PXx y)) 
    (q : ∀ y S1', B.H y = none → PRx y S1' → Pe (.raw (.ref y)) (S1' ++ F)) (qx : ∀ y cls S1', PXx y cls S1' → ex cls Γ (S1' ++ F)) (hdb : (x == ("__debug__" : Str)) = false := by decide)
    (he : starEach (e :: es) X.env = (false, eval e X.env) :: starEach es X.env := by rfl) (hpl : (backTo pos (starEach es X.env)).any (·.1) = false := by rfl) :
    GE X B Γ (S1 ++ F) (.Call (.Name x p) (e :: es) [] pos) Pe ex :=
  ge_mono (ge_make (PRx := PRx) (PXx := PXx) M Gf hr hg hm hb hx hE ha hR hdb he hpl) (fun r S' ⟨y, S1', hy, hp, h1, h2⟩ => by subst h1 h2; exact q y S1' hy hp) fun cls S' ⟨y, S1', hp, h⟩ => by subst h; exact qx y cls S1' hp
end
section
variable {X : Cx} {B : Bs} {Γ : Gam} {S : Sto} {a : Expr} {d : PyData} {pos : Pos}
theorem gt_isN {n : Nat} {p2 : Pos} (ha : GD X B Γ S a d) : GT X B Γ S (.Compare a [.Is] [.Constant .none n p2] pos) (isN d) := (pt_cmp (pc_isN ha) rfl).imp (test_go fun σ H Q ⟨H0, at0, k⟩ => ⟨H0, at0, fun v H0' H' at1 e1 hv => k _ H0' H' at1 e1 ⟨_, rfl, by rw [isN_of hv.toDp]; exact .bl _⟩⟩)
theorem gt_notN {n : Nat} {p2 : Pos} (ha : GD X B Γ S a d) : GT X B Γ S (.Compare a [.IsNot] [.Constant .none n p2] pos) (!isN d) := (pt_cmp (pc_notN ha) rfl).imp (test_go fun σ H Q ⟨H0, at0, k⟩ => ⟨H0, at0, fun v H0' H' at1 e1 hv => k _ H0' H' at1 e1 ⟨_, rfl, by rw [isN_of hv.toDp]; exact .bl _⟩⟩)
end
section
variable {X : Cx} {B : Bs} {Γ : Gam} {S : Sto} {rest : List Stmt} {P : Po} {p : Addr} {ds : List PyData} {n i : Nat}
/-- what a slot alone holds is data from here on -/
theorem gss_freeze (i n : Nat) (hi : Γ[i]? = some (.raw (.ref p))) (hn : S[n]? = some (p, .lst ds)) (hB : B.H p = none) (k : GSs X B (Γ.set i (.dat (.list ds))) (S.eraseIdx n) rest P) : GSs X B Γ S rest P := k.imp fun D σ H ⟨H0, at0, z⟩ => by
  obtain ⟨H2, e2, at2, hd⟩ := at0.freeze hn hB
  refine ⟨H2, ⟨at2.fra, ⟨by rw [List.length_set]; exact at2.env.len, fun j s q => ?_⟩, at2.sto, at2.wr⟩, z⟩
  by_cases e : i = j
  · subst e
    have hl : i < Γ.length := (List.getElem?_eq_some_iff.mp hi).1
    rw [List.getElem?_set_self hl] at q
    cases q
    have := at2.env.at_ i _ hi
    exact ⟨_, this, hd⟩
  · rw [List.getElem?_set_ne e] at q
    exact at2.env.at_ j s q
end
section
variable {X : Cx} {B : Bs} {Γ : Gam} {S : Sto} {o b a : Expr} {ds : List PyData} {d : PyData} {i : Int} {pos : Pos}
theorem gl_ix (ho : GLs X B Γ S o ds) (hi : GD X B Γ S b (.int i)) (q : atI ds i = some d) (hs : PlainIx b := by exact fun _ _ => rfl) : GD X B Γ S (.Subscript o b pos) d := by
  cases ho with
  | dat h => exact gd_ixL h hi q hs
  | own p n h hn => exact gd_ixO h hi hn q hs
theorem gl_isL {f : Str} {p p2 : Pos} (hg : Gl X f) (hm : X.mg f = none) (hv : bootBuiltins f = some (.builtin "isinstance")) (hT : PE X (.Name "list" p2) (tC (.ty "list"))) (ha : GLs X B Γ S a ds)
    (hn : f ≠ "__name__" := by decide) (hdb : (f == ("__debug__" : Str)) = false := by decide)
    (he : starEach [a, .Name "list" p2] X.env = (false, eval a X.env) :: starEach [.Name "list" p2] X.env := by rfl) (he2 : starEach [.Name "list" p2] X.env = (false, eval (.Name "list" p2) X.env) :: starEach [] X.env := by rfl) (hpl : (backTo pos (starEach [.Name "list" p2] X.env)).any (·.1) = false := by rfl) : GD X B Γ S (.Call (.Name f p) [a, .Name "list" p2] [] pos) (.bool true) := by
  cases ha with
  | dat h => exact gd_isi hg hm hv hT h kit_list_list hn hdb he he2 hpl
  | own q n h hnn =>
    exact (pe_callB call_isi hg hm hv (pa_cons h (pa_cons hT pa_nil he2) he) hn hdb he hpl).imp fun σ H Q ⟨H0, at0, k⟩ => ⟨H0, at0, fun v H1 H' at1 e1 hv => by
      have hv : (some (some v) : Option (Option V)) = some (some (.ref q)) := hv
      cases hv
      obtain ⟨_, vs, h1, _⟩ := at1.sto.at_ q _ (List.mem_of_getElem? hnn)
      exact ⟨.ref q, .ty "list", .type "list", .type "list", true, rfl, .ty "list", .base (.lst h1), kit_ty kit_list_list, k _ H1 H' at1 e1 ⟨_, rfl, .bl _⟩⟩⟩
end
/-! ### try -/
section
variable {X : Cx} {B : Bs} {Γ : Gam} {S : Sto} {pos : Pos} {P : Po} {body : List Stmt}
abbrev Bs.E0 (B : Bs) (W : WX) : Bs := { B with E := W }
theorem At.reE {K : PySem.W.Frag} {W : WX} {H0 H : Hp} {σ : St} (a : At K B H0 Γ S σ H) : At K (B.E0 W) H0 Γ S σ H := ⟨a.fra.toE, a.env, a.sto, a.wr⟩
theorem At.unE {K : PySem.W.Frag} {W : WX} {H0 H : Hp} {σ : St} (a : At K (B.E0 W) H0 Γ S σ H) : At K B H0 Γ S σ H := ⟨a.fra.toE, a.env, a.sto, a.wr⟩
/-- which clause an exception of the class goes to; none lets it through -/
def Sel (K : PySem.W.Frag) (cls : Value) (Γ : Gam) (S : Sto) : List (Value × (Gam → Sto → Prop)) → Prop
  | [] => False
  | (c, Pc) :: r => ∃ b, PySem.W.exmOne K cls c = some b ∧ (b = true → Pc Γ S) ∧ (b = false → Sel K cls Γ S r)
inductive HdG (X : Cx) (B : Bs) (P : Po) : List ExceptHandler → List (Value × (Gam → Sto → Prop)) → Prop
  | nil : HdG X B P [] []
  | cons {x : Str} {c : Value} {Pc : Gam → Sto → Prop} {b₀ : Stmt} {suite : List Stmt} {np pos' : Pos} {hds : List ExceptHandler} {l : List (Value × (Gam → Sto → Prop))} (hc : Names X x c)
      (hsu : ∀ (a : Addr) (oe : Obj) (pn : List (Addr × Obj)) Γ' S', Pc Γ' S' → GSs (X.suite a ((a, oe) :: pn)) B Γ' S' (b₀ :: suite) P) (r : HdG X B P hds l) : HdG X B P (.ExceptHandler (some (.Name x np)) none (b₀ :: suite) pos' :: hds) ((c, Pc) :: l)
def tsOf (K : PySem.W.Frag) (B : Bs) (P : Po) (Pc : Gam → Sto → Prop) : Addr → Value → Option Addr → TS := fun _ _ _ D σ H => ∃ Γ' S', Pc Γ' S' ∧ rs K B Γ' S' P D σ H
theorem HdG.toOk {hds : List ExceptHandler} {l : List (Value × (Gam → Sto → Prop))} (h : HdG X B P hds l) : L2N.HdsOk X hds (l.map fun p => (p.1, tsOf X.K B P p.2)) := by
  induction h with
  | nil => exact .nil
  | cons hc hsu r ih => exact .cons hc (fun a oe cls d pn _ _ => ⟨fun pins s σ H D I ⟨Γ', S', hp, z⟩ => (hsu a oe pn Γ' S' hp).run pins s σ H D I z⟩) ih
/-- try: body, except A: .., except B: .. (what the body raises is caught) -/
theorem gs_tryM {h₀ : ExceptHandler} {hds : List ExceptHandler} {l : List (Value × (Gam → Sto → Prop))} (hs : X.stack = X.env :: X.outer) (hf : X.env.frame = some X.env.locals) (Px : Value → Gam → Sto → Prop)
    (hb : ∀ (W : WX) (pn : List (Addr × Obj)) (xe : Value → Shared → Prop), L2N.Takes (X.tr pn xe) W → PassesOwn (model X.prog X.w) X.A X.env xe → GSs (X.tr pn xe) (B.E0 W) Γ S body { N := P.N, R := P.R, bk := P.bk, ct := P.ct, ex := Px })
    (hsel : ∀ cls Γ' S', Px cls Γ' S' → Sel X.K cls Γ' S' l) (hh : HdG X B P (h₀ :: hds) l) : GS X B Γ S (.Try body (h₀ :: hds) [] [] pos) P :=
  (L2N.ps_try_many (Wout := fun _ _ _ _ => False) (tb := fun W => rs X.K (B.E0 W) Γ S { N := P.N, R := P.R, bk := P.bk, ct := P.ct, ex := Px }) hs hf (fun _ _ ⟨_, _, _, _, _, _, _, _, _, _, _, _, _, _, _, _, w⟩ => w.elim) hb hh.toOk).imp fun D σ H ⟨H0, at0, z⟩ =>
    ⟨H0, at0.reE, fun Γ' S' H0' σ' H' q a => z.nx Γ' S' H0' σ' H' q a.unE, fun r Γ' S' v H0' σ' H' q a hv => z.rt r Γ' S' v H0' σ' H' q a.unE hv, fun Γ' S' H0' σ' H' q a => z.bk Γ' S' H0' σ' H' q a.unE, fun Γ' S' H0' σ' H' q a => z.ct Γ' S' H0' σ' H' q a.unE, fun cls Γ' S' H0' σ' H' q a => by
      have h := hsel cls Γ' S' q
      have a2 : At X.K B H0' Γ' S' σ' H' := a.unE
      show wMany X.K _ D _ cls none σ' H'
      clear q hsel hh hb a
      induction l with
      | nil => exact h.elim
      | cons p r ih =>
        obtain ⟨b, h1, h2, h3⟩ := h
        exact ⟨b, h1, fun hb _ _ => ⟨Γ', S', h2 hb, H0', a2, z⟩, fun hb => ih (h3 hb)⟩⟩
end
/-! ### a def that is asked of the exception in hand -/
structure FnE (P : Program) (w : World) (K : PySem.W.Frag) (mg : Str → Option Value) (base : Heap) (n : Nat) (f : Addr) (fd : FuncData) (ps : List Str) (R : Value → PyData → Prop) : Prop where
  one : ps.length = 1
  run : ∀ (A : Around) (out : List Env) (s0 : Shared) (H : Hp) (ag : Args) (p : Addr × Obj) (cls : Value) (d : PyData) (Q : VK) (E : XK), L2H.RoomH n A → L2H.Hot1 A p → L2H.PinOk out H s0 p → Env0 P w K mg base A out s0 H → BindsTo s0 fd ag (ps.zip [Value.ref p.1]) → Zc cls none p.2 → (∃ v, p.2.data = .fields v) → R cls d →
    (∃ H0, Ex H0 H ∧ ∀ v H0' H', Ext H0 H H0' H' → Dp K H0' v d → Q v H') → codeAny (model P w) A (.call (.ref f) ag) (CR CX0 out P w H s0 Q E) s0
section
variable {P : Program} {w : World} {K : PySem.W.Frag} {mg : Str → Option Value} {base : Heap}
theorem fnE_of {x qual : Str} {st : Stmt} {f : Addr} {fd : FuncData} {N ps : List Str} {n : Nat} {R : Value → PyData → Prop} (F : Fun K x qual st f fd) (Sc : FnScope N ps (defScope st)) (h1 : ps.length = 1)
    (hbody : ∀ (cd0 : Value) (A : Around) (out : List Env) (s0 : Shared) (H : Hp) (E : XK) (B : Bs) (p : Addr × Obj) (cls : Value) (d : PyData), L2H.RoomH n (A.deeper (envOfC qual (defScope st) s0.heap.objs.size f cd0)) → Zc cls none p.2 → (∃ v, p.2.data = .fields v) → R cls d →
      GSs (L2H.cxH CX0 P w K mg base N qual (defScope st) f cd0 A out s0 H E p) B (gamS N.length [.raw (.ref p.1)]) [] (defBody st) { N := fun _ _ => d = .none, R := fun r _ => r = .dat d }) : FnE P w K mg base (n + 1) f fd ps R := by
  refine ⟨h1, ?_⟩
  intro A out s0 H ag p cls d Q E room hot pin env hbind hz hdat hR ⟨H0, hex, hQ⟩
  obtain ⟨_, _, _, _, _, _, cd0, _, _, hfd, hlk, hcode⟩ := F.ex
  subst hfd
  have kin : K.In s0.heap := env.mod.kin.keeps fun _ _ e => (env.bs _ _ e).1
  have free : s0.heap.NoLimit := env.mod.nolimit.keeps fun _ _ e => (env.bs _ _ e).1
  have hv : Vals [V.ref p.1] [Value.ref p.1] := .cons rfl .nil
  refine codeAny_call_function room.depth (kin _ _ hlk) rfl Sc.co Sc.gen rfl (PySem.W.codeRec_of kin hcode) (hbind _ _ _ _ (wpAny_newFunctionEnv_cells Sc.kind (fun y hy => ?_) fun env2 he s1 made => ?_))
  · rcases Sc.par y.1 (List.of_mem_zip (a := y.1) (b := y.2) hy).1 with q | q
    · exact Or.inl q
    · exact Or.inr ⟨q, PySem.W.cellsFrom_some _ _ _ (Or.inl q)⟩
  subst he
  refine ⟨free.keeps made.toInCall.keep, codeAny_func ?_⟩
  have start : Inv (L2H.cxH CX0 P w K mg base N qual (defScope st) f cd0 A out s0 H E p) [] (L2.start N [V.ref p.1]) H s1 := L2H.inv_startH Sc pin env (by rw [h1]; rfl) hv made
  have hle : ps.length ≤ N.length := by have := congrArg List.length Sc.pre; rw [List.length_take] at this; omega
  have go := hbody cd0 A out s0 H E ⟨H0, H, [], fun _ _ _ _ => False⟩ p cls d (room.deeper _) hz hdat hR
  have done : ∀ {σ2 : St} {H2 : Hp} {v2 : V} {u2 : Value} {s2 : Shared}, Inv (L2H.cxH CX0 P w K mg base N qual (defScope st) f cd0 A out s0 H E p) [] σ2 H2 s2 → RelV v2 u2 → Q v2 H2 → CE out P w H s0 Q u2 s2 := fun {σ2 H2 v2 u2 s2} J rv q => ⟨v2, H2, J.os, J.bare, J.base, J.hok, rv, q⟩
  refine wpAny_mono (go.run [] s1 (L2.start N [V.ref p.1]) H { nx := fun _ H' => Q .non H', rt := Q } start ⟨H0, ⟨Fra.refl hex, env_startS (as := [.raw (.ref p.1)]) (.cons rfl .nil) (by show 1 ≤ N.length; omega), StoOk.nil, fun _ z => nomatch z⟩, ?_, ?_, ?_, ?_, ?_⟩) (fun fl s2 hs => ?_) fun _ _ z => z
  · intro Γ S' H0' σ2 H2 hd a
    subst hd
    exact hQ _ H0' H2 a.fra.toExt .non
  · intro r Γ S' v H0' σ2 H2 hr a hv2
    subst hr
    exact hQ _ H0' H2 a.fra.toExt hv2.toDp
  · exact fun _ _ _ _ _ z => z.elim
  · exact fun _ _ _ _ _ z => z.elim
  · exact fun _ _ _ _ _ _ z => z.elim
  · cases fl with
    | ret u2 =>
      obtain ⟨_, _, _, J, rv, q⟩ := hs
      exact done J rv q
    | next =>
      obtain ⟨_, _, J, q⟩ := hs
      exact done (v2 := V.non) (u2 := Value.none) J rfl q
    | brk => exact False.elim hs.choose_spec.choose_spec.2
    | cont => exact False.elim hs.choose_spec.choose_spec.2
end
section
variable {X : Cx} {B : Bs} {Γ : Gam} {S : Sto} {a e : Expr} {d : PyData} {pos : Pos}
theorem call_isP {q D : Addr} {oe : Obj} (hin : (q, oe) ∈ X.pn) (C : ExcC X.K D) (hz : Zc (.ref D) none oe) (hf : ∃ v, oe.data = .fields v) : CallR X (.builtin "isinstance") (rIsE X.K D q) := by
  intro pins s σ H xs us Q inv r ⟨c, cv, b, hxs, hcv, hk, hQ⟩
  subst hxs
  obtain ⟨u1, u2, rfl, r1, r2⟩ : ∃ u1 u2, us = [u1, u2] ∧ RelV (.ref q) u1 ∧ RelV c u2 := by
    cases r with
    | cons r1 r =>
      cases r with
      | cons r2 r =>
        cases r
        exact ⟨_, _, rfl, r1, r2⟩
  cases r1
  have e2 := hcv _ r2
  subst e2
  have stands := (inv.pin (q, oe) (List.mem_append_left _ hin)).1
  obtain ⟨v, hv⟩ := hf
  have at_ : PySem.W.InstAt s.heap q oe D none := by
    rcases oe with ⟨_, _, _, _⟩
    obtain ⟨z1, z2⟩ := hz
    simp only at z1 z2 hv
    subst z1 z2 hv
    exact ⟨stands, rfl, rfl, trivial⟩
  exact PySem.W.kia_one (PySem.W.handS_kitx_exc C.hg C.hk C.hs C.hd C.ha C.hn C.ht C.hm) inv.kIn at_ hk (fun z => nomatch z) fun t => ⟨.bl b, H, inv.kept (t' := t) fun _ _ z => z, rfl, hQ⟩
/-- isinstance(e, T), e the exception in hand -/
theorem gd_isE {q D : Addr} {oe : Obj} {f T : Str} {p p2 : Pos} {c : V} {cv : Value} {b : Bool} (hin : (q, oe) ∈ X.pn) (C : ExcC X.K D) (hz : Zc (.ref D) none oe) (hf : ∃ v, oe.data = .fields v) (hg : Gl X f) (hm : X.mg f = none) (hv : bootBuiltins f = some (.builtin "isinstance"))
    (hT : PE X (.Name T p2) (tC c)) (hcv : ∀ u, RelV c u → u = cv) (hk : PySem.W.kitOne X.K (.ref D) cv = some b) (ha : GR X B Γ S a (.ref q)) (hn : f ≠ "__name__" := by decide) (hdb : (f == ("__debug__" : Str)) = false := by decide)
    (he : starEach [a, .Name T p2] X.env = (false, eval a X.env) :: starEach [.Name T p2] X.env := by rfl) (he2 : starEach [.Name T p2] X.env = (false, eval (.Name T p2) X.env) :: starEach [] X.env := by rfl) (hpl : (backTo pos (starEach [.Name T p2] X.env)).any (·.1) = false := by rfl) : GD X B Γ S (.Call (.Name f p) [a, .Name T p2] [] pos) (.bool b) :=
  (pe_callB (call_isP hin C hz hf) hg hm hv (pa_cons ha (pa_cons hT pa_nil he2) he) hn hdb he hpl).imp fun σ H Q ⟨H0, at0, k⟩ => ⟨H0, at0, fun v H1 H' at1 e1 hv => by
    have hv : (some (some v) : Option (Option V)) = some (some (.ref q)) := hv
    cases hv
    exact ⟨c, cv, b, rfl, hcv, hk, k _ H1 H' at1 e1 ⟨_, rfl, .bl _⟩⟩⟩
/-- f(e), e the exception in hand -/
theorem gd_callE {n : Nat} {x : Str} {q : Pos} {f : Addr} {fd : FuncData} {ps : List Str} {R : Value → PyData → Prop} {p : Addr × Obj} {cls : Value} (F : FnE X.prog X.w X.K X.mg X.base n f fd ps R) (room : L2H.RoomH n X.A) (hot : L2H.Hot1 X.A p) (hin : p ∈ X.pn) (hz : Zc cls none p.2) (hdat : ∃ v, p.2.data = .fields v) (hR : R cls d)
    (hg : Gl X x) (hm : X.mg x = some (.ref f)) (hk : PySem.W.keepIn X.K (.ref f) = true) (hb : Binds X.K fd ps []) (ha : GR X B Γ S e (.ref p.1)) (hdb : (x == ("__debug__" : Str)) = false := by decide)
    (he : starEach [e] X.env = (false, eval e X.env) :: starEach [] X.env := by rfl) (hpl : (backTo pos (starEach [] X.env)).any (·.1) = false := by rfl) : GD X B Γ S (.Call (.Name x q) [e] [] pos) d := by
  refine ⟨fun pins s σ H Q inv ⟨H0, at0, k⟩ => wpAny_Call_Name_kw (ld_glob inv hg hm (PySem.W.callWith_K (h₀ := X.base) inv.ok.mod.kin hk (thn ((gas_cons ha gas_nil he).run pos pins s σ H (fun vs H1 => vs = [V.ref p.1] ∧ ∃ H2, At X.K B H2 Γ S σ H1 ∧ Ex H0 H2) inv ⟨H0, at0, fun vs H1 H' at1 e1 hvs => ?_⟩) fun us s1 hh => ?_) he hpl) hdb)⟩
  · cases hvs with
    | cons h1 h2 =>
      cases h2
      have h1 : (some (some _) : Option (Option V)) = some (some (.ref p.1)) := h1
      cases h1
      exact ⟨rfl, H1, at1, e1⟩
  · obtain ⟨vs, H1, inv1, r, hvs, H2, at1, e1⟩ := hh
    subst hvs
    refine ⟨inv1.kIn, ?_⟩
    obtain ⟨rfl⟩ : us = [Value.ref p.1] := by
      cases r with
      | cons r1 r2 =>
        cases r2
        cases r1
        rfl
    have bnd := hb s1 [Value.ref p.1] inv1.kIn (by rw [List.append_nil, F.one]; rfl)
    rw [List.append_nil] at bnd
    have there := inv1.pin p (List.mem_append_left _ hin)
    have pin : L2H.PinOk X.stack H1 s1 p := ⟨there.1, there.2.1, fun z => (List.mem_cons.mp (inv1.stkSub p.1 z)).elim there.2.2.1 there.2.2.2.1, there.2.2.2.2⟩
    have run := F.run X.A X.stack s1 H1 ⟨[Value.ref p.1], []⟩ p cls d Q (fun _ _ _ => False) room hot pin inv1.env0 bnd hz hdat hR ⟨H2, at1.e2, fun v H0' H' ext hd => k v H0' H' (at1.ext ext) (e1.trans ext.e0) ⟨_, rfl, hd⟩⟩
    refine wpAny_call (codeAny_mono run fun r s2 hq => ?_)
    match r, hq with
    | .error _, hq => exact False.elim hq
    | .ok (.ret _), hq => exact inv1.after hq
    | .ok .next, hq => exact False.elim hq
    | .ok .brk, hq => exact False.elim hq
    | .ok .cont, hq => exact False.elim hq
end
section
variable {X : Cx} {B : Bs} {Γ : Gam} {S : Sto} {pos pos' np : Pos} {P : Po} {body suite : List Stmt} {b₀ : Stmt} {x n : Str} {c : Value} {i : Nat}
/-- the ends of a suite whose name goes -/
abbrev Po.named (P : Po) (i : Nat) : Po := { N := fun Γ S => P.N (Γ.set i .un) S, R := P.R, bk := fun Γ S => P.bk (Γ.set i .un) S, ct := fun Γ S => P.ct (Γ.set i .un) S }
theorem At.unset {K : PySem.W.Frag} {H0 H : Hp} {σ : St} (a : At K B H0 Γ S σ H) (i : Nat) : At K B H0 (Γ.set i .un) S (σ.set i none) H := ⟨a.fra, env_un a.env, a.sto, a.wr⟩
def tsA (K : PySem.W.Frag) (B : Bs) (P : Po) (i : Nat) (Pc : Value → Gam → Sto → Prop) : Addr → Value → Option Addr → TS := fun a cls d D σ H => d = none ∧ ∃ Γ' S', Pc cls Γ' S' ∧ rs K B (Γ'.set i (.raw (.ref a))) S' (P.named i) D σ H
/-- try: body, except T as n: suite (all that the body raises is of T) -/
theorem gs_tryA (hs : X.stack = X.env :: X.outer) (hf : X.env.frame = some X.env.locals) (hN : X.N.Nodup) (hi : X.N[i]? = some n) (hln : X.env.kindOf n = some .local) (hc : Names X x c) (Px : Value → Gam → Sto → Prop)
    (hb : ∀ (W : WX) (pn : List (Addr × Obj)) (xe : Value → Shared → Prop), L2N.Takes (X.tr pn xe) W → PassesOwn (model X.prog X.w) X.A X.env xe → GSs (X.tr pn xe) (B.E0 W) Γ S body { N := P.N, R := P.R, bk := P.bk, ct := P.ct, ex := Px })
    (hm : ∀ cls Γ' S', Px cls Γ' S' → PySem.W.exmOne X.K cls c = some true)
    (hsu : ∀ (a : Addr) (oe : Obj) (cls : Value) (pn : List (Addr × Obj)) Γ' S', L2N.Zn cls none oe → (∃ v, oe.data = .fields v) → Px cls Γ' S' → GSs (X.suite a ((a, oe) :: pn)) B (Γ'.set i (.raw (.ref a))) S' (b₀ :: suite) (P.named i)) :
    GS X B Γ S (.Try body [.ExceptHandler (some (.Name x np)) (some n) (b₀ :: suite) pos'] [] [] pos) P :=
  (L2N.ps_try_as (Wout := fun _ _ _ _ => False) (ts := tsA X.K B P i Px) (tb := fun W => rs X.K (B.E0 W) Γ S { N := P.N, R := P.R, bk := P.bk, ct := P.ct, ex := Px }) hs hf hN hi hln hc (fun _ _ ⟨_, _, _, _, _, _, _, _, _, _, _, _, _, _, _, _, w⟩ => w.elim) hb
    (fun a oe cls d pn hz hd => ⟨fun pins s σ H D inv ⟨e, Γ', S', q, z⟩ => by subst e; exact (hsu a oe cls pn Γ' S' hz hd q).run pins s σ H D inv z⟩)).imp fun D σ H ⟨H0, at0, z⟩ =>
    ⟨H0, at0.reE, fun Γ' S' H0' σ' H' q a => z.nx Γ' S' H0' σ' H' q a.unE, fun r Γ' S' v H0' σ' H' q a hv => z.rt r Γ' S' v H0' σ' H' q a.unE hv, fun Γ' S' H0' σ' H' q a => z.bk Γ' S' H0' σ' H' q a.unE, fun Γ' S' H0' σ' H' q a => z.ct Γ' S' H0' σ' H' q a.unE, fun cls Γ' S' H0' σ' H' q a =>
      ⟨true, hm cls Γ' S' q, fun _ b _ => ⟨rfl, Γ', S', q, H0', a.unE.set i (v := .ref b) (s := .raw (.ref b)) rfl, fun Γ1 S1 G σ1 H1 q1 a1 => z.nx _ _ G _ H1 q1 (a1.unset i), fun r Γ1 S1 v G σ1 H1 q1 a1 hv => z.rt r Γ1 S1 v G σ1 H1 q1 a1 hv, fun Γ1 S1 G σ1 H1 q1 a1 => z.bk _ _ G _ H1 q1 (a1.unset i), fun Γ1 S1 G σ1 H1 q1 a1 => z.ct _ _ G _ H1 q1 (a1.unset i), fun _ _ _ _ _ _ w _ => w.elim⟩, fun w => nomatch w⟩⟩
end
/-! ### lists of what is no data -/
def raE (K : PySem.W.Frag) (B : Bs) (Γ : Gam) (S : Sto) (Pa : List Sl → Sto → Prop) : TA := fun σ H Q => ∃ H0, At K B H0 Γ S σ H ∧ ∀ as S' vs H0' H', Pa as S' → At K B H0' Γ S' σ H' → Ex H0 H0' → ArgsOk K H0' vs as → Q vs H'
/-- a row of expressions, each with effects, nothing raised -/
abbrev GEA (X : Cx) (B : Bs) (Γ : Gam) (S : Sto) (es : List Expr) (Pa : List Sl → Sto → Prop) : Prop := PA X es (raE X.K B Γ S Pa)
section
variable {X : Cx} {B : Bs} {Γ : Gam} {S : Sto} {e o b it : Expr} {es : List Expr} {ds : List PyData} {ws : List V} {pos : Pos} {P : Po} {n : Nat} {p : Addr} {r : Sl} {x : Str} {j : Nat} {body : List Stmt} {px : Pos}
theorem gea_nil {Pa : List Sl → Sto → Prop} (h : Pa [] S) : GEA X B Γ S [] Pa := pa_nil.imp fun σ H Q ⟨H0, at0, k⟩ => k [] S [] H0 H h at0 (Ex.refl _) .nil
theorem gea_cons {Pe : Sl → Sto → Prop} {Pa : List Sl → Sto → Prop} (he : GE X B Γ S e Pe (fun _ _ _ => False)) (ht : ∀ r S', Pe r S' → GEA X B Γ S' es (fun as S'' => Pa (r :: as) S'')) (hs : starEach (e :: es) X.env = (false, eval e X.env) :: starEach es X.env := by rfl) : GEA X B Γ S (e :: es) Pa := by
  have hrest : PA X es (fun σ H Q => ∃ r S', Pe r S' ∧ raE X.K B Γ S' (fun as S'' => Pa (r :: as) S'') σ H Q) := ⟨fun pos pins s σ H Q I ⟨r, S', hp, z⟩ => (ht r S' hp).run pos pins s σ H Q I z⟩
  exact (pa_cons he hrest hs).imp fun σ H Q ⟨H0, at0, k⟩ => ⟨H0, at0, fun r S' v H1 H' hp at1 e1 hv => ⟨r, S', hp, H1, at1, fun as S'' vs H2 H'' hp2 at2 e2 hvs => k (r :: as) S'' (v :: vs) H2 H'' hp2 at2 (e1.trans e2) (.cons (hv.ext e2) hvs)⟩, fun _ _ _ _ w => w.elim⟩
theorem raws_of {K : PySem.W.Frag} {H0 : Hp} : ∀ {ws vs : List V}, ArgsOk K H0 vs (ws.map Sl.raw) → vs = ws
  | [], _, .nil => rfl
  | w :: ws, _, .cons h t => by
    have h : (some (some _) : Option (Option V)) = some (some w) := h
    cases h
    rw [raws_of t]
/-- [e, ..], the elements no data -/
theorem ge_lsR {Pa : List V → Sto → Prop} (h : GEA X B Γ S es (fun as S' => ∃ ws, as = ws.map Sl.raw ∧ ws.length ≤ 100000 ∧ Pa ws S')) {ex : Value → Gam → Sto → Prop} : GE X B Γ S (.List es pos) (fun r S' => ∃ p ws S1, B.H p = none ∧ Pa ws S1 ∧ r = .raw (.ref p) ∧ S' = (p, .ho (.lst ws)) :: S1) ex :=
  (pe_lst h).imp fun σ H Q ⟨H0, at0, k, _⟩ => ⟨H0, at0, fun as S' vs H1 H' ⟨ws, e, hl, hp⟩ at1 e1 hvs => by
    subst e
    have e := raws_of hvs
    subst e
    exact ⟨Evl.sz_of hl, fun q hq => k _ _ (.ref q) H1 _ ⟨q, vs, S', none_B at1.fra hq, hp, rfl, rfl⟩ (at1.own (ow := .ho (.lst vs)) (o := .lst vs) hq upd_same) e1 rfl⟩⟩
/-- [e, ..], each element data or not -/
theorem ge_lsS {Pa : List Sl → Sto → Prop} (h : GEA X B Γ S es (fun as S' => as.length ≤ 100000 ∧ Pa as S')) {ex : Value → Gam → Sto → Prop} : GE X B Γ S (.List es pos) (fun r S' => ∃ p as S1, B.H p = none ∧ Pa as S1 ∧ r = .raw (.ref p) ∧ S' = (p, .ls as) :: S1) ex :=
  (pe_lst h).imp fun σ H Q ⟨H0, at0, k, _⟩ => ⟨H0, at0, fun as S' vs H1 H' ⟨hl, hp⟩ at1 e1 hvs =>
    ⟨by rw [Paired.length hvs]; exact Evl.sz_of hl, fun q hq => k _ _ (.ref q) H1 _ ⟨q, as, S', none_B at1.fra hq, hp, rfl, rfl⟩ (at1.own (ow := .ls as) (o := .lst vs) hq ⟨vs, upd_same, hvs⟩) e1 rfl⟩⟩
theorem atI_V {vs : List V} {i : Nat} {v : V} (h : vs[i]? = some v) : atI vs (i : Int) = some v := atI_nat h
/-- o[i] of such a list -/
theorem ge_ixS {as : List Sl} {i : Nat} (ho : GR X B Γ S o (.ref p)) (hi : GD X B Γ S b (.int (i : Int))) (hn : S[n]? = some (p, .ls as)) (q : as[i]? = some r) (hs : PlainIx b := by exact fun _ _ => rfl) : PE X (.Subscript o b pos) (rd X.K B Γ S r) := (pe_ix ix_list ho hi hs).imp fun σ H Q ⟨H0, at0, k⟩ => ⟨H0, at0, fun v H1 H' at1 e1 hv => ⟨H1, at1, fun w H2 H'' at2 e2 hw => by
  have hv : (some (some v) : Option (Option V)) = some (some (.ref p)) := hv
  cases hv
  have hw := hw.toDp
  cases hw
  obtain ⟨_, vs, h1, h2⟩ := at2.sto.at_ p _ (List.mem_of_getElem? hn)
  have hl := Paired.length h2
  obtain ⟨hj, _⟩ := List.getElem?_eq_some_iff.mp q
  have hu : vs[i]? = some vs[i] := List.getElem?_eq_getElem (by omega)
  exact ⟨p, vs, _, vs[i], rfl, rfl, .inl (.inl h1), atI_V hu, k _ H2 H'' at2 (e1.trans e2) (by
    obtain ⟨u, h3, h4⟩ := ArgsOk.get (i := i) h2 q
    rw [hu] at h3
    cases h3
    exact h4)⟩⟩⟩
theorem gr_ixR {v : V} {i : Nat} (ho : GR X B Γ S o (.ref p)) (hi : GD X B Γ S b (.int (i : Int))) (hn : S[n]? = some (p, .ho (.lst ws))) (q : ws[i]? = some v) (hs : PlainIx b := by exact fun _ _ => rfl) : GR X B Γ S (.Subscript o b pos) v := (pe_ix ix_list ho hi hs).imp fun σ H Q ⟨H0, at0, k⟩ => ⟨H0, at0, fun z H1 H' at1 e1 hv => ⟨H1, at1, fun w H2 H'' at2 e2 hw => by
  have hv : (some (some z) : Option (Option V)) = some (some (.ref p)) := hv
  cases hv
  have hw := hw.toDp
  cases hw
  obtain ⟨_, h1⟩ := at2.sto.at_ p _ (List.mem_of_getElem? hn)
  exact ⟨p, ws, _, v, rfl, rfl, .inl (.inl h1), atI_V q, k _ H2 H'' at2 (e1.trans e2) rfl⟩⟩⟩
/-- o.append(e), e no data, perhaps made there -/
theorem gs_appR {apos epos : Pos} {Pe : Sl → Sto → Prop} (ho : GR X B Γ S o (.ref p)) (hz0 : ∃ ws, (p, OV.ho (.lst ws)) ∈ S) (he : GE X B Γ S e Pe P.ex) (q : ∀ r S', Pe r S' → ∃ n ws v, r = .raw v ∧ S'[n]? = some (p, .ho (.lst ws)) ∧ ws.length < 100000 ∧ P.N Γ (S'.set n (p, .ho (.lst (ws ++ [v])))))
    (hbase : attributeBase o "append" X.env (eval o X.env) = eval o X.env := by rfl)
    (hfew : ((backTo pos (starEach [e] X.env)).all (fun x => !x.1) && (backToKw pos (keywordEach [] X.env)).all (fun x => x.1.isSome)
      && decide (([e] : List Expr).length + ([] : List Keyword).length + (if ([] : List Keyword).isEmpty then 0 else 1) < 30)) = true := by rfl)
    (hline : (apos.endLine == pos.line) = true := by rfl) (hs : starEach [e] X.env = (false, eval e X.env) :: starEach [] X.env := by rfl) (hplain : (backTo pos (starEach [] X.env)).any (·.1) = false := by rfl)
    (hsw : swapsWith (.Call (.Attribute o "append" apos) [e] [] pos) none epos.line X.env = pure false := by rfl) : GS X B Γ S (.Expr (.Call (.Attribute o "append" apos) [e] [] pos) epos) P :=
  (ps_expr (pe_bm PySem.F.plainAttrs_list PySem.F.slot_list_append PySem.F.type_list_append mt_append ho (pa_cons he pa_nil hs) hbase hfew hline hs hplain) hsw).imp fun D σ H ⟨H0, at0, z⟩ => ⟨H0, at0, fun v H1 H' at1 e1 hv => by
    have hv : (some (some v) : Option (Option V)) = some (some (.ref p)) := hv
    cases hv
    obtain ⟨ws0, hm0⟩ := hz0
    obtain ⟨_, h1⟩ := at1.sto.at_ p _ hm0
    refine ⟨.inl ⟨rfl, _, .inl (.inl h1)⟩, H1, at1, fun r S' y H2 H'' hp at2 e2 hy => ?_, fun cls S' H2 H'' hx at2 => z.ex cls Γ S' H2 σ H'' hx at2⟩
    obtain ⟨n, ws, u, rfl, hn, hl, hN⟩ := q r S' hp
    have hy : (some (some y) : Option (Option V)) = some (some u) := hy
    cases hy
    obtain ⟨_, h2⟩ := at2.sto.at_ p _ (List.mem_of_getElem? hn)
    exact ⟨p, ws, _, rfl, rfl, h2, Evl.sz_lt hl, z.nx _ _ H2 σ _ hN (at2.write hn upd_same)⟩⟩
/-- for x in such a list, which stays -/
theorem gs_forRaw (hp : PassesOwn (model X.prog X.w) X.A X.env X.xe) (hc : X.calm = true) (he : GR X B Γ S it (.ref p)) (hN : X.N.Nodup) (hj : X.N[j]? = some x) (hx : Loc X.env.scope x) (I : Nat → Gam → Sto → Prop) (h0 : I 0 Γ S) (hk : ∀ i Γ' S', I i Γ' S' → (p, OV.ho (.lst ws)) ∈ S')
    (hb : ∀ (i : Nat) v Γ' S' G, ws[i]? = some v → I i Γ' S' → GSs X (B.at G) (Γ'.set j (.raw v)) S' body (P.turn I i)) (hd : ∀ Γ' S', I ws.length Γ' S' → P.N Γ' S')
    (hs : ∀ y, foldedSetIterable it X.env y = pure y := by intro _; rfl) (hf : X.fn x = true ∨ X.env.scope.names.lookup x = some .local := by first | exact .inl rfl | exact .inr rfl | assumption) : GS X B Γ S (.For (.Name x px) it body [] pos) P := by
  have hbody : PSs X body (fun D σ H => ∃ (i : Nat) (v : V) (Γ' : Gam) (S' : Sto) (G : Hp), ws[i]? = some v ∧ I i Γ' S' ∧ rs X.K (B.at G) (Γ'.set j (.raw v)) S' (P.turn I i) D σ H) := ⟨fun pins s σ H D Iv ⟨i, v, Γ', S', G, h1, h2, z⟩ => (hb i v Γ' S' G h1 h2).run pins s σ H D Iv z⟩
  refine (ps_for hp hc (pi_list he) (pg_name (i := j) hN hj hx hf) hbody hs).imp fun D σ H ⟨H0, at0, z⟩ => ⟨H0, at0, fun v H1 H' at1 e1 hv => ?_⟩
  have hv : (some (some v) : Option (Option V)) = some (some (.ref p)) := hv
  cases hv
  have now : ∀ {i : Nat} {Γ' : Gam} {S' : Sto} {G Hn : Hp} {σ' : St}, I i Γ' S' → At X.K B G Γ' S' σ' Hn → SqL X.K Hn p ws := fun hI a => .inl (.inl (a.sto.at_ p _ (hk _ _ _ hI)).2)
  refine ⟨p, rfl, ⟨ws, now h0 at1⟩, for_list (K := X.K) (a := p) (xs := ws) (g := gName j) (tb := fun D σ H => ∃ (i : Nat) (v : V) (Γ' : Gam) (S' : Sto) (G : Hp), ws[i]? = some v ∧ I i Γ' S' ∧ rs X.K (B.at G) (Γ'.set j (.raw v)) S' (P.turn I i) D σ H) (D := D) (fun i σ H => ∃ Γ' S' H0, I i Γ' S' ∧ At X.K B H0 Γ' S' σ H) ⟨Γ, S, H1, h0, at1⟩ (fun i σ H _ pv => ?_) (fun i y σ H hi pv => ?_) fun σ H pv => ?_⟩
  · obtain ⟨Γ', S', G, hI, at2⟩ := pv
    exact now hI at2
  · obtain ⟨Γ', S', G, hI, at2⟩ := pv
    exact ⟨i, y, Γ', S', G, hi, hI, G, at2.rebase.set j (s := .raw y) rfl, turn_endz at2.fra z _ fun Γ1 S1 H2 σ2 H3 q a _ => ⟨Γ1, S1, H2, q, a⟩⟩
  · obtain ⟨Γ', S', G, hI, at2⟩ := pv
    exact z.nx Γ' S' G σ H (hd Γ' S' hI) at2
end
section
variable {X : Cx} {B : Bs} {Γ : Gam} {S : Sto} {a b : Expr} {ds es : List PyData} {ws : List V} {d : PyData} {pos : Pos} {p : Addr}
/-- lists that are owned, seen as data as they stand -/
abbrev Seen (S : Sto) (ws : List V) (ds : List PyData) : Prop := Paired (fun w d => ∃ q es, w = .ref q ∧ d = .list es ∧ (q, OV.lst es) ∈ S) ws ds
theorem seen_all {K : PySem.W.Frag} {H0 H : Hp} (e : Ex H0 H) (h : StoOk K H0 H S) : ∀ {ws : List V} {ds : List PyData}, Seen S ws ds → DpAll K H ws ds
  | _, _, .nil => .nil
  | _, _, .cons ⟨q, es, h1, h2, h3⟩ t => by
    subst h1 h2
    obtain ⟨_, vs, k1, k2⟩ := h.at_ q _ h3
    exact .cons (.lst (.inl (.inl k1)) (dps_ex e _ _ k2)) (seen_all e h t)
theorem gt_neV (hu : X.A.units + 64 < cLine) (ha : GR X B Γ S a (.ref p)) (hb : GD X B Γ S b d) (hm : (p, OV.ho (.lst ws)) ∈ S) (hs : Seen S ws ds) (h1 : SeqAt.shaped (.list ds) = true) (h2 : SeqAt.shaped d = true) : GT X B Γ S (.Compare a [.NotEq] [b] pos) (!PyData.eqv (.list ds) d) :=
  (pt_cmpR (op_neD hu) ha hb (nomark _)).imp fun σ H Q ⟨H0, at0, k⟩ => ⟨H0, at0, fun v H1 H' at1 e1 hv => ⟨H1, at1, fun w H2 H'' at2 e2 hw => by
    have hv : (some (some v) : Option (Option V)) = some (some (.ref p)) := hv
    cases hv
    obtain ⟨_, k1⟩ := at2.sto.at_ p _ hm
    exact ⟨.list ds, d, .lst (.inl (.inl k1)) (seen_all at2.e2 at2.sto hs), dp_ex at2.e2 _ _ hw.toDp, h1, h2, _, rfl, k H2 H'' at2 (e1.trans e2)⟩⟩⟩
end
/-! ### tests with effects -/
section
variable {X : Cx} {B : Bs} {Γ : Gam} {S : Sto} {a b : Expr} {rest : List Expr} {d : PyData} {pos : Pos} {Pe : Sl → Sto → Prop} {Pt Pt' : Bool → Sto → Prop} {ex : Value → Gam → Sto → Prop}
abbrev GWE (X : Cx) (B : Bs) (Γ : Gam) (S : Sto) (e : Expr) (Pt : Bool → Sto → Prop) (ex : Value → Gam → Sto → Prop) : Prop := PW X e (rtE X.K B Γ S Pt ex)
theorem gwe_or1 (ha : GTE X B Γ S a Pt ex) : GWE X B Γ S (.BoolOp .Or [a] pos) Pt ex := pw_or1 ha
theorem gwe_or (ha : GTE X B Γ S a Pt' ex) (ht : ∀ S', Pt' true S' → Pt true S') (hb : ∀ S', Pt' false S' → GWE X B Γ S' (.BoolOp .Or (b :: rest) pos) Pt ex) : GWE X B Γ S (.BoolOp .Or (a :: b :: rest) pos) Pt ex := by
  refine ⟨fun wh pins s σ H Q I h => ?_⟩
  obtain ⟨H0, at0, q, qx⟩ := h
  refine isTrue_or (thn (ha.run pins s σ H (fun c H' => ∃ S' H0', Pt' c S' ∧ At X.K B H0' Γ S' σ H' ∧ Ex H0 H0') I ⟨H0, at0, fun c S' H0' H' hp at1 e1 => ⟨S', H0', hp, at1, e1⟩, qx⟩) fun c s1 h1 => ?_)
  obtain ⟨H1, I1, S', H0', hp, at1, x1⟩ := h1
  cases c with
  | true => exact ⟨H1, I1, q true S' H0' H1 (ht S' hp) at1 x1⟩
  | false => exact (hb S' hp).run wh pins s1 σ H1 Q I1 ⟨H0', at1, fun c2 S2 H2 H2' hp2 at2 e2 => q c2 S2 H2 H2' hp2 at2 (x1.trans e2), qx⟩
theorem gte_w (h : GWE X B Γ S a Pt ex) : GTE X B Γ S a Pt ex := h.pt
/-- e != f, e with effects -/
theorem gte_ne (hu : X.A.units + 64 < cLine) (ha : GE X B Γ S a Pe ex) (hb : ∀ r S', Pe r S' → GD X B Γ S' b d) (hd : ∀ r S', Pe r S' → ∃ d1, r = .dat d1 ∧ SeqAt.shaped d1 = true ∧ SeqAt.shaped d = true ∧ Pt (!PyData.eqv d1 d) S') : GTE X B Γ S (.Compare a [.NotEq] [b] pos) Pt ex := by
  have hb' : PE X b (fun σ H Q => ∃ r S', Pe r S' ∧ rd X.K B Γ S' (.dat d) σ H Q) := ⟨fun pins s σ H Q I ⟨r, S', m, z⟩ => (hb r S' m).run pins s σ H Q I z⟩
  refine (pt_cmpR (op_neD hu) ha hb' (nomark _)).imp fun σ H Q ⟨H0, at0, k, kx⟩ => ⟨H0, at0, fun r S' v H1 H' hp at1 e1 hv => ⟨r, S', hp, H1, at1, fun w H2 H'' at2 e2 hw => ?_⟩, kx⟩
  obtain ⟨d1, hr, s1, s2, hP⟩ := hd r S' hp
  subst hr
  exact ⟨d1, d, dp_ex (e2.trans at2.e2) _ _ hv.toDp, dp_ex at2.e2 _ _ hw.toDp, s1, s2, _, rfl, k _ S' H2 H'' hP at2 (e1.trans e2)⟩
end
/-! ### what is owned, in any order, less some -/
def Within (S2 S : Sto) : Prop := ∃ l : Sto, l.Perm S2 ∧ l.Sublist S
theorem Within.of_perm {S2 S : Sto} (h : S.Perm S2) : Within S2 S := ⟨S, h, List.Sublist.refl _⟩
theorem Within.keys_nd {S2 S : Sto} (h : Within S2 S) (nd : (keys S).Nodup) : (keys S2).Nodup := by
  obtain ⟨l, hp, hs⟩ := h
  exact (hp.map _).nodup_iff.mp (nd.sublist (hs.map _))
theorem At.within {K : PySem.W.Frag} {B : Bs} {H0 H : Hp} {Γ : Gam} {S S2 : Sto} {σ : St} (a : At K B H0 Γ S σ H) (h : Within S2 S) : At K B H0 Γ S2 σ H := by
  have hin : ∀ e ∈ S2, e ∈ S := fun e he => by
    obtain ⟨l, hp, hs⟩ := h
    exact hs.subset (hp.mem_iff.mpr he)
  refine ⟨a.fra, a.env, ⟨fun p ov m => a.sto.at_ p ov (hin _ m), h.keys_nd a.sto.nd⟩, fun p hp => ?_⟩
  obtain ⟨ov, m⟩ := of_keys hp
  exact a.wr p (mem_keys (hin _ m))
section
variable {X : Cx} {B : Bs} {Γ : Gam} {S S2 : Sto} {rest : List Stmt} {P : Po}
theorem gss_within (h : Within S2 S) (k : GSs X B Γ S2 rest P) : GSs X B Γ S rest P := k.imp fun D σ H ⟨H0, at0, z⟩ => ⟨H0, at0.within h, z⟩
end
/-! ### a comprehension over a list of what is no data -/
section
variable {X : Cx} {B : Bs} {Γ : Gam} {S : Sto} {o elt : Expr} {ws : List V} {q : Addr} {x : Str} {p lp : Pos} {j : Nat} {scope : Scope}
def teW (K : PySem.W.Frag) (B : Bs) (Γ : Gam) (S : Sto) (ws : List V) (j : Nat) (g : Nat → PyData) : TE := fun σ H Q => ∃ (i : Nat) (D : Addr) (acc : List PyData) (v : V), ws[i]? = some v ∧ rd K B ((wipeG Γ [j]).set j (.raw v)) ((D, .lst acc) :: S) (.dat (g i)) σ H Q
theorem gd_lcW (g : Nat → PyData) (hc : X.calm = true) (hN : X.N.Nodup) (ho : GR X B Γ S o (.ref q)) (hm : (q, OV.ho (.lst ws)) ∈ S) (hl : ws.length ≤ 100000) (ok : BlkOk X.N X.env.scope scope [(x, j)])
    (htg : ∀ (s : Shared) (H : Hp) (C : Addr) (cl : List (Str × Addr)) (fp : List Addr), PG (X.blk s H scope (compEnvC scope cl C X.env) fp) (.Name x p) (gName j))
    (hel : ∀ (i : Nat) (D : Addr) (acc : List PyData) (v : V), ws[i]? = some v → ∀ (s : Shared) (H : Hp) (C : Addr) (cl : List (Str × Addr)) (fp : List Addr), GD (X.blk s H scope (compEnvC scope cl C X.env) fp) B ((wipeG Γ [j]).set j (.raw v)) ((D, .lst acc) :: S) elt (g i))
    (hfs : ∀ y, foldedSetIterable o X.env y = pure y := by intro _; rfl) : GD X B Γ S (.ListComp elt [⟨.Name x p, o, [], 0⟩] scope lp) (.list ((List.range ws.length).map g)) :=
  (pe_lc (own := [(x, j)]) hc hN (pi_list ho) ok htg (fun _ _ _ _ _ => pts_nil) (te := teW X.K B Γ S ws j g) (fun s H C cl fp => ⟨fun pins s' σ H' Q Iv ⟨i, D, acc, v, h1, z⟩ => (hel i D acc v h1 s H C cl fp).run pins s' σ H' Q Iv z⟩) hfs).imp fun σ H Q ⟨H0, at0, k⟩ => ⟨H0, at0, fun v H1 H' at1 e1 hv => by
    have hv : (some (some v) : Option (Option V)) = some (some (.ref q)) := hv
    cases hv
    obtain ⟨_, here⟩ := at1.sto.at_ q _ hm
    refine ⟨q, rfl, ⟨ws, .inl (.inl here)⟩, fun D hD => ?_⟩
    have hB : B.H D = none := none_B at1.fra hD
    refine lc_list (K := X.K) (a := q) (xs := ws) (g := gName j) (tt := tYes) (te := teW X.K B Γ S ws j g) (vs := [j]) (σ := σ) (D := D) (Qd := fun H => Q (.ref D) H) (fun i H => i ≤ ws.length ∧ ∃ H0, At X.K B H0 Γ ((D, .lst ((List.range i).map g)) :: S) σ H ∧ Ex H1 H0) ⟨Nat.zero_le _, H1, at1.own hD ⟨[], upd_same, .nil⟩, Ex.refl _⟩ (fun i H _ pv => ?_) (fun i y H hi pv => ?_) fun H pv => ?_
    · obtain ⟨_, G, at2, _⟩ := pv
      exact .inl (.inl (at2.sto.at_ q _ (List.mem_cons_of_mem _ hm)).2)
    · obtain ⟨_, G, at2, e2⟩ := pv
      have hlt : i < ws.length := (List.getElem?_eq_some_iff.mp hi).1
      refine ⟨wipe_set1, ?_⟩
      refine ⟨i, D, _, y, hi, G, (at2.wipe [j]).set j (s := .raw y) rfl, fun v H2 H'' at3 e3 hv => ?_⟩
      obtain ⟨_, acc, h1, h2⟩ := at3.sto.at_ D _ List.mem_cons_self
      refine ⟨acc, h1, ?_, hlt, H2, ?_, e2.trans e3⟩
      · rw [dps_len h2, List.length_map, List.length_range]; exact Evl.sz_lt (by omega)
      · have a4 := at2.frame at3 e3
        have a5 := a4.write (n := 0) (ow := .lst ((List.range i).map g ++ [g i])) (o := .lst (acc ++ [v])) rfl ⟨_, upd_same, dps_app h2 (.cons hv.toDp .nil)⟩
        rw [List.range_succ, List.map_append]
        exact a5
    · obtain ⟨_, G, at2, e2⟩ := pv
      obtain ⟨G', e3, at3, hd⟩ := at2.freeze (n := 0) rfl hB
      exact k _ G' H at3 ((e1.trans e2).trans e3) ⟨_, rfl, hd⟩⟩
/-- a pure expression asks for a part of the store only -/
theorem gd_within {S2 F : Sto} {e : Expr} {d : PyData} (hp : S.Perm (S2 ++ F)) (h : GD X B Γ (S2 ++ F) e d) : GD X B Γ S e d := h.imp fun σ H Q ⟨H0, at0, k⟩ => ⟨H0, at0.within (.of_perm hp), fun v H1 H' at1 e1 hv => k v H1 H' (at1.within (.of_perm hp.symm)) e1 hv⟩
end
/-! ### more of lists, stores -/
section
variable {X : Cx} {B : Bs} {Γ Γ2 : Gam} {S S2 : Sto} {e : Expr} {es : List Expr} {ds : List PyData} {pos pos' lpos : Pos} {P : Po} {x : Str} {r : Sl} {rest : List Stmt}
theorem gea_F {Pa : List Sl → Sto → Prop} (he : GF X B Γ S e ds) (ht : ∀ p, B.H p = none → GEA X B Γ ((p, .lst ds) :: S) es (fun as S'' => Pa (.raw (.ref p) :: as) S'')) (hs : starEach (e :: es) X.env = (false, eval e X.env) :: starEach es X.env := by rfl) : GEA X B Γ S (e :: es) Pa :=
  gea_cons (he _) (fun r S' ⟨p, hp, hr, hS⟩ => by subst hr hS; exact ht p hp) hs
theorem gea_v {Pa : List Sl → Sto → Prop} (he : PE X e (rd X.K B Γ S r)) (ht : GEA X B Γ S es (fun as S'' => Pa (r :: as) S'')) (hs : starEach (e :: es) X.env = (false, eval e X.env) :: starEach es X.env := by rfl) : GEA X B Γ S (e :: es) Pa :=
  gea_cons (Pe := fun r' S' => r' = r ∧ S' = S) (ge_of he ⟨rfl, rfl⟩) (fun r' S' ⟨h1, h2⟩ => by subst h1 h2; exact ht) hs
/-- x = [e, ..], the elements no data -/
theorem gs_setLsR {i : Nat} (hN : X.N.Nodup) (hi : X.N[i]? = some x) (hx : Loc X.env.scope x) (h : GEA X B Γ S es (fun as S' => ∃ ws, as = ws.map Sl.raw ∧ ws.length ≤ 100000 ∧ ∀ p, B.H p = none → P.N (Γ.set i (.raw (.ref p))) ((p, .ho (.lst ws)) :: S')))
    (hs : swapsWith (.List es lpos) (some (.Name x pos')) pos.line X.env = pure false := by rfl) (hf : X.fn x = true ∨ X.env.scope.names.lookup x = some .local := by first | exact .inl rfl | exact .inr rfl | assumption) : GS X B Γ S (.Assign [.Name x pos'] (.List es lpos) pos) P :=
  gs_setE hN hi hx (ge_mono (ge_lsR (ex := P.ex) (Pa := fun ws S' => ∀ p, B.H p = none → P.N (Γ.set i (.raw (.ref p))) ((p, .ho (.lst ws)) :: S')) h) (fun r S' ⟨p, ws, S1, hp, hN, hr, hS⟩ => by subst hr hS; exact hN p hp) fun _ _ h => h) hs hf
/-- the same state, told otherwise -/
theorem gss_at (h1 : Γ = Γ2) (h2 : S = S2) (k : GSs X B Γ2 S2 rest P) : GSs X B Γ S rest P := h1 ▸ h2 ▸ k
end
/-! ### while; what is told at the ends; tuples -/
section
variable {X : Cx} {B : Bs} {Γ : Gam} {S : Sto} {a b c e it : Expr} {es : List Expr} {d : PyData} {ds : List PyData} {pos lpos : Pos} {P : Po} {x : Str} {px : Pos} {r : Sl} {rest body : List Stmt} {k : Bool} {j : Nat} {i : Int}
abbrev Po.wturn (P : Po) (I : Nat → Gam → Sto → Prop) (m : Nat) : Po := { N := fun Γ' S' => ∃ m', m' < m ∧ I m' Γ' S', R := P.R, bk := P.N, ct := fun Γ' S' => ∃ m', m' < m ∧ I m' Γ' S', ex := P.ex }
theorem gs_while (hp : PassesOwn (model X.prog X.w) X.A X.env X.xe) (I : Nat → Gam → Sto → Prop) (m0 : Nat) (h0 : I m0 Γ S)
    (hb : ∀ m Γ' S', I m Γ' S' → ∃ k, GT X B Γ' S' c k ∧ (k = true → GSs X B Γ' S' body (P.wturn I m)) ∧ (k = false → P.N Γ' S')) : GS X B Γ S (.While c body [] pos) P := by
  have hc : PT X c (fun σ H Q => ∃ Γ' S' k, GT X B Γ' S' c k ∧ rt X.K B Γ' S' k σ H Q) := ⟨fun pins s σ H Q Iv ⟨_, _, _, h, z⟩ => h.run pins s σ H Q Iv z⟩
  have hbody : PSs X body (fun D σ H => ∃ m Γ' S', GSs X B Γ' S' body (P.wturn I m) ∧ rs X.K B Γ' S' (P.wturn I m) D σ H) := ⟨fun pins s σ H D Iv ⟨_, _, _, h, z⟩ => h.run pins s σ H D Iv z⟩
  refine (ps_while hp hc hbody).imp fun D σ H ⟨H0, at0, z⟩ => ⟨fun m σ H => ∃ Γ' S' H0, I m Γ' S' ∧ At X.K B H0 Γ' S' σ H, ⟨m0, Γ, S, H0, h0, at0⟩, fun m σ H ⟨Γ', S', H0, hI, at1⟩ => ?_⟩
  obtain ⟨k, ht, h1, h2⟩ := hb m Γ' S' hI
  refine ⟨Γ', S', k, ht, H0, at1, fun H0' H' at2 _ => ?_⟩
  cases k with
  | true =>
    rw [if_pos rfl]
    have nx : ∀ Γ1 S1 H1 σ1 H1', (∃ m', m' < m ∧ I m' Γ1 S1) → At X.K B H1 Γ1 S1 σ1 H1' → ∃ m', m' < m ∧ ∃ Γ' S' H0, I m' Γ' S' ∧ At X.K B H0 Γ' S' σ1 H1' := fun Γ1 S1 H1 σ1 H1' ⟨m', hm, q⟩ a => ⟨m', hm, Γ1, S1, H1, q, a⟩
    exact ⟨fun σ' H' => ∃ m', m' < m ∧ ∃ Γ' S' H0, I m' Γ' S' ∧ At X.K B H0 Γ' S' σ' H', fun σ' H' q => q, m, Γ', S', h1 rfl, H0', at2, nx, z.rt, z.nx, nx, z.ex⟩
  | false => rw [if_neg Bool.false_ne_true]; exact z.nx Γ' S' H0' σ H' (h2 rfl) at2
/-- what is told, with a part of what is owned -/
theorem gss_post {R' : Sl → Sto → Prop} {ex' : Value → Gam → Sto → Prop} (h : GSs X B Γ S rest { P with R := R', ex := ex' }) (kr : ∀ r S', R' r S' → ∃ S2, Within S2 S' ∧ P.R r S2) (kx : ∀ cls Γ' S', ex' cls Γ' S' → ∃ S2, Within S2 S' ∧ P.ex cls Γ' S2) : GSs X B Γ S rest P :=
  h.imp fun D σ H ⟨H0, at0, z⟩ => ⟨H0, at0, z.nx, fun r Γ' S' v H0' σ' H' q a hv => by
    obtain ⟨S2, w, p⟩ := kr r S' q
    exact z.rt r Γ' S2 v H0' σ' H' p (a.within w) hv, z.bk, z.ct, fun cls Γ' S' H0' σ' H' q a => by
    obtain ⟨S2, w, p⟩ := kx cls Γ' S' q
    exact z.ex cls Γ' S2 H0' σ' H' p (a.within w)⟩
theorem Within.refl {S : Sto} : Within S S := ⟨S, .refl _, .refl _⟩
theorem Within.right {S1 S : Sto} : Within S (S1 ++ S) := ⟨S, .refl _, List.sublist_append_right _ _⟩
theorem Within.left {S1 S : Sto} : Within S1 (S1 ++ S) := ⟨S1, .refl _, List.sublist_append_left _ _⟩
theorem Within.skip {o : Addr × OV} {S1 S : Sto} (h : Within S1 S) : Within S1 (o :: S) := by
  obtain ⟨l, hp, hs⟩ := h
  exact ⟨l, hp, hs.cons _⟩
theorem Within.keep {o : Addr × OV} {S1 S : Sto} (h : Within S1 S) : Within (o :: S1) (o :: S) := by
  obtain ⟨l, hp, hs⟩ := h
  exact ⟨o :: l, hp.cons _, hs.cons_cons _⟩
/-- for x in a list that is owned and stays -/
theorem gs_forO {p : Addr} (hp : PassesOwn (model X.prog X.w) X.A X.env X.xe) (hc : X.calm = true) (he : GR X B Γ S it (.ref p)) (hN : X.N.Nodup) (hj : X.N[j]? = some x) (hx : Loc X.env.scope x) (I : Nat → Gam → Sto → Prop) (h0 : I 0 Γ S)
    (hkp : ∀ i Γ' S', I i Γ' S' → (p, OV.lst ds) ∈ S')
    (hb : ∀ (i : Nat) d Γ' S' G, ds[i]? = some d → I i Γ' S' → GSs X (B.at G) (Γ'.set j (.dat d)) S' body (P.turn I i)) (hd : ∀ Γ' S', I ds.length Γ' S' → P.N Γ' S')
    (hs : ∀ y, foldedSetIterable it X.env y = pure y := by intro _; rfl) (hf : X.fn x = true ∨ X.env.scope.names.lookup x = some .local := by first | exact .inl rfl | exact .inr rfl | assumption) : GS X B Γ S (.For (.Name x px) it body [] pos) P := by
  have hbody : PSs X body (fun D σ H => ∃ (i : Nat) (d : PyData) (Γ' : Gam) (S' : Sto) (G : Hp), ds[i]? = some d ∧ I i Γ' S' ∧ rs X.K (B.at G) (Γ'.set j (.dat d)) S' (P.turn I i) D σ H) := ⟨fun pins s σ H D Iv ⟨i, d, Γ', S', G, h1, h2, z⟩ => (hb i d Γ' S' G h1 h2).run pins s σ H D Iv z⟩
  refine (ps_for hp hc (pi_list he) (pg_name (i := j) hN hj hx hf) hbody hs).imp fun D σ H ⟨H0, at0, z⟩ => ⟨H0, at0, fun v H1 H' at1 e1 hv => ?_⟩
  have hv : (some (some v) : Option (Option V)) = some (some (.ref p)) := hv
  cases hv
  obtain ⟨_, xs, hl, _⟩ := at1.sto.at_ p _ (hkp 0 Γ S h0)
  refine ⟨p, rfl, ⟨xs, .inl (.inl hl)⟩, fun i m σ H => m = ds.length - i ∧ i ≤ ds.length ∧ ∃ Γ' S' H0, I i Γ' S' ∧ At X.K B H0 Γ' S' σ H, ⟨ds.length, by simp, Nat.zero_le _, Γ, S, H1, h0, at1⟩, ?_⟩
  rintro i m σ H ⟨rfl, hi, Γ', S', G, hI, at2⟩
  obtain ⟨_, xs, hl, ha⟩ := at2.sto.at_ p _ (hkp i Γ' S' hI)
  have hq : SqL X.K H p xs := .inl (.inl hl)
  have hln := dps_len ha
  by_cases hlt : i < ds.length
  · have hlx : i < xs.length := by omega
    refine .inr ⟨⟨xs, xs[i], hq, by simp [hlx]⟩, fun σ' H' => i + 1 ≤ ds.length ∧ ∃ Γ' S' H0, I (i + 1) Γ' S' ∧ At X.K B H0 Γ' S' σ' H', fun σ' H' p' => ⟨ds.length - (i + 1), by omega, rfl, p'⟩, fun v H' y => ?_⟩
    obtain ⟨rfl, hu⟩ := y
    have hi2 := hu xs hq
    obtain ⟨d, h1, h2⟩ := dps_getV ha hi2
    exact ⟨i, d, Γ', S', G, h1, hI, G, at2.rebase.set j (s := .dat d) ⟨_, rfl, h2⟩, turn_endz at2.fra z _ fun Γ1 S1 H2 σ2 H3 q a e3 => ⟨hlt, Γ1, S1, H2, q, a⟩⟩
  · have e : i = ds.length := by omega
    subst e
    exact .inl ⟨⟨xs, hq, by omega⟩, z.nx Γ' S' G σ H (hd Γ' S' hI) at2⟩
/-- for x in a list that is data or owned (among F, which stays) -/
theorem gl_for {n : Nat} {F : Sto} (hp : PassesOwn (model X.prog X.w) X.A X.env X.xe) (hc : X.calm = true) (he : PE X it (tVar n)) (hq : Γ[n]? = some r) (hr : LSl F r ds) (hN : X.N.Nodup) (hj : X.N[j]? = some x) (hx : Loc X.env.scope x) (I : Nat → Gam → Sto → Prop) (h0 : I 0 Γ S)
    (hkp : ∀ i Γ' S', I i Γ' S' → ∀ e ∈ F, e ∈ S')
    (hb : ∀ (i : Nat) d Γ' S' G, ds[i]? = some d → I i Γ' S' → GSs X (B.at G) (Γ'.set j (.dat d)) S' body (P.turn I i)) (hd : ∀ Γ' S', I ds.length Γ' S' → P.N Γ' S')
    (hs : ∀ y, foldedSetIterable it X.env y = pure y := by intro _; rfl) (hf : X.fn x = true ∨ X.env.scope.names.lookup x = some .local := by first | exact .inl rfl | exact .inr rfl | assumption) : GS X B Γ S (.For (.Name x px) it body [] pos) P := by
  rcases hr with rfl | ⟨p, rfl, hm⟩
  · exact gs_forL hp hc (gd_var he hq) hN hj hx I h0 hb hd hs hf
  · exact gs_forO hp hc (gr_var he hq) hN hj hx I h0 (fun i Γ' S' q => hkp i Γ' S' q _ hm) hb hd hs hf
theorem dats_of {K : PySem.W.Frag} {H0 : Hp} : ∀ {ds : List PyData} {vs : List V}, ArgsOk K H0 vs (ds.map Sl.dat) → DpAll K H0 vs ds
  | [], _, .nil => .nil
  | d :: ds, _, .cons h t => .cons (SlOk.toDp h) (dats_of t)
/-- a tuple of data, its parts with effects -/
theorem ge_tupD {n : Nat} {Pe : Sl → Sto → Prop} {ex : Value → Gam → Sto → Prop} (h : GEA X B Γ S es (fun as S' => ∃ ds, as = ds.map Sl.dat ∧ ds.length ≤ 100000 ∧ Pe (.dat (.tuple ds)) S')) : GE X B Γ S (.Tuple es n pos) Pe ex :=
  (pe_tup h).imp fun σ H Q ⟨H0, at0, k, _⟩ => ⟨H0, at0, fun as S' vs H1 H' ⟨ds, e, hl, hp⟩ at1 e1 hvs => by
    subst e
    have hvs := dats_of hvs
    exact ⟨by rw [dps_len hvs]; exact Evl.sz_of hl, fun p hp' => k _ S' (.ref p) _ _ hp (at1.ext (Ext.new at1.e2 hp')) (e1.trans (Ex.new (free0 at1.e2 hp'))) ⟨_, rfl, .tup (.inl (.inl upd_same)) (dps_ex (Ex.new (free0 at1.e2 hp')) _ _ hvs)⟩⟩⟩
/-- a tuple whose parts are no data -/
theorem ge_tupR {n : Nat} {Pe : Sl → Sto → Prop} {ex : Value → Gam → Sto → Prop} (h : GEA X B Γ S es (fun as S' => ∃ ws, as = ws.map Sl.raw ∧ ws.length ≤ 100000 ∧ ∀ p, B.H p = none → Pe (.raw (.ref p)) ((p, .ho (.tup ws)) :: S'))) : GE X B Γ S (.Tuple es n pos) Pe ex :=
  (pe_tup h).imp fun σ H Q ⟨H0, at0, k, _⟩ => ⟨H0, at0, fun as S' vs H1 H' ⟨ws, e, hl, hp⟩ at1 e1 hvs => by
    subst e
    have e := raws_of hvs
    subst e
    exact ⟨Evl.sz_of hl, fun q hq => k _ _ (.ref q) H1 _ (hp q (none_B at1.fra hq)) (at1.own (ow := .ho (.tup vs)) (o := .tup vs) hq upd_same) e1 rfl⟩⟩
/-- a part that is an owned list, handed on as data -/
theorem gea_fz {p : Addr} {n : Nat} {Pa : List Sl → Sto → Prop} (he : GR X B Γ S e (.ref p)) (hn : S[n]? = some (p, .lst ds)) (hk : B.H p = none) (ht : GEA X B Γ (S.eraseIdx n) es (fun as S'' => Pa (.dat (.list ds) :: as) S'')) (hs : starEach (e :: es) X.env = (false, eval e X.env) :: starEach es X.env := by rfl) : GEA X B Γ S (e :: es) Pa :=
  gea_cons (ge_freeze he hn hk) (fun r S' ⟨hr, hS⟩ => by subst hr hS; exact ht) hs
theorem gl_dp {K : PySem.W.Frag} {H0 H : Hp} {σ : St} {p : Addr} {n : Nat} (a : At K B H0 Γ S σ H) (hn : S[n]? = some (p, .lst ds)) : Dp K H (.ref p) (.list ds) := by
  obtain ⟨_, vs, h1, h2⟩ := a.sto.at_ p _ (List.mem_of_getElem? hn)
  exact .lst (.inl (.inl h1)) (dps_ex a.e2 _ _ h2)
theorem gd_eqO {d2 : PyData} (hu : X.A.units + 64 < cLine) (ha : GLs X B Γ S a ds) (hb : GD X B Γ S b d2) (h1 : SeqAt.shaped (.list ds) = true) (h2 : SeqAt.shaped d2 = true) : GD X B Γ S (.Compare a [.Eq] [b] pos) (.bool (PyData.eqv (.list ds) d2)) := by
  cases ha with
  | dat h => exact gd_eq hu h hb h1 h2
  | own p n h hn =>
    exact (pe_cmpR (op_eqD hu) h hb (nomark _)).imp fun σ H Q ⟨H0, at0, k⟩ => ⟨H0, at0, fun v H1 H' at1 e1 hv => ⟨H1, at1, fun w H2 H'' at2 e2 hw => by
      have hv : (some (some v) : Option (Option V)) = some (some (.ref p)) := hv
      cases hv
      exact ⟨_, _, gl_dp at2 hn, dp_ex at2.e2 _ _ hw.toDp, h1, h2, k _ H2 H'' at2 (e1.trans e2) ⟨_, rfl, .bl _⟩⟩⟩⟩
theorem gd_neO {d2 : PyData} (hu : X.A.units + 64 < cLine) (ha : GLs X B Γ S a ds) (hb : GD X B Γ S b d2) (h1 : SeqAt.shaped (.list ds) = true) (h2 : SeqAt.shaped d2 = true) : GD X B Γ S (.Compare a [.NotEq] [b] pos) (.bool (!PyData.eqv (.list ds) d2)) := by
  cases ha with
  | dat h => exact gd_ne hu h hb h1 h2
  | own p n h hn =>
    exact (pe_cmpR (op_neD hu) h hb (nomark _)).imp fun σ H Q ⟨H0, at0, k⟩ => ⟨H0, at0, fun v H1 H' at1 e1 hv => ⟨H1, at1, fun w H2 H'' at2 e2 hw => by
      have hv : (some (some v) : Option (Option V)) = some (some (.ref p)) := hv
      cases hv
      exact ⟨_, _, gl_dp at2 hn, dp_ex at2.e2 _ _ hw.toDp, h1, h2, k _ H2 H'' at2 (e1.trans e2) ⟨_, rfl, .bl _⟩⟩⟩⟩
theorem gt_eqO {d2 : PyData} (hu : X.A.units + 64 < cLine) (ha : GLs X B Γ S a ds) (hb : GD X B Γ S b d2) (h1 : SeqAt.shaped (.list ds) = true) (h2 : SeqAt.shaped d2 = true) : GT X B Γ S (.Compare a [.Eq] [b] pos) (PyData.eqv (.list ds) d2) := by
  cases ha with
  | dat h => exact gt_eq hu h hb h1 h2
  | own p n h hn =>
    exact (pt_cmpR (op_eqD hu) h hb (nomark _)).imp fun σ H Q ⟨H0, at0, k⟩ => ⟨H0, at0, fun v H1 H' at1 e1 hv => ⟨H1, at1, fun w H2 H'' at2 e2 hw => by
      have hv : (some (some v) : Option (Option V)) = some (some (.ref p)) := hv
      cases hv
      exact ⟨_, _, gl_dp at2 hn, dp_ex at2.e2 _ _ hw.toDp, h1, h2, _, rfl, k H2 H'' at2 (e1.trans e2)⟩⟩⟩
theorem gt_neO {d2 : PyData} (hu : X.A.units + 64 < cLine) (ha : GLs X B Γ S a ds) (hb : GD X B Γ S b d2) (h1 : SeqAt.shaped (.list ds) = true) (h2 : SeqAt.shaped d2 = true) : GT X B Γ S (.Compare a [.NotEq] [b] pos) (!PyData.eqv (.list ds) d2) := by
  cases ha with
  | dat h => exact gt_ne hu h hb h1 h2
  | own p n h hn =>
    exact (pt_cmpR (op_neD hu) h hb (nomark _)).imp fun σ H Q ⟨H0, at0, k⟩ => ⟨H0, at0, fun v H1 H' at1 e1 hv => ⟨H1, at1, fun w H2 H'' at2 e2 hw => by
      have hv : (some (some v) : Option (Option V)) = some (some (.ref p)) := hv
      cases hv
      exact ⟨_, _, gl_dp at2 hn, dp_ex at2.e2 _ _ hw.toDp, h1, h2, _, rfl, k H2 H'' at2 (e1.trans e2)⟩⟩⟩
theorem gd_rawI (h : GR X B Γ S e (.int i)) : GD X B Γ S e (.int i) := h.imp fun σ H Q ⟨H0, at0, k⟩ => ⟨H0, at0, fun v H1 H' at1 e1 hv => by
  have hv : (some (some v) : Option (Option V)) = some (some (.int i)) := hv
  cases hv
  exact k _ H1 H' at1 e1 ⟨_, rfl, .int _⟩⟩
end
/-! ### what is new; defs that tell what was owned at first -/
section
variable {X : Cx} {B : Bs} {Γ : Gam} {S1 F : Sto} {rest : List Stmt} {P : Po}
theorem gss_new (hk : ∀ q ∈ B.ks, q ∈ keys F) (k : (∀ e ∈ S1, B.H e.1 = none) → GSs X B Γ (S1 ++ F) rest P) : GSs X B Γ (S1 ++ F) rest P := by
  by_cases q : ∀ e ∈ S1, B.H e.1 = none
  · exact k q
  · refine ⟨fun pins s σ H D I ⟨H0, at0, z⟩ => absurd (fun e he => ?_) q⟩
    have nd := at0.sto.nd
    rw [show keys (S1 ++ F) = keys S1 ++ keys F from List.map_append] at nd
    rcases at0.wr e.1 (by rw [show keys (S1 ++ F) = keys S1 ++ keys F from List.map_append]; exact List.mem_append_left _ (List.mem_map.mpr ⟨e, he, rfl⟩)) with h | h
    · exact absurd rfl ((List.nodup_append.mp nd).2.2 e.1 (List.mem_map.mpr ⟨e, he, rfl⟩) e.1 (hk _ h))
    · exact h
end
section
variable {P : Program} {w : World} {K : PySem.W.Frag} {mg : Str → Option Value} {base : Heap}
theorem mut_defK {x qual : Str} {st : Stmt} {f : Addr} {fd : FuncData} {N ps : List Str} {n : Nat} {R : Rq} (F : Fun K x qual st f fd) (Sc : FnScope N ps (defScope st)) (hlen : ∀ as S PR PX, R as S PR PX → as.length = ps.length)
    (hbody : ∀ (cdv : Value) (A : Around) (outer : List Env) (s : Shared) (H : Hp) (E : XK) (H0 Hh : Hp) (as : List Sl) (S : Sto) (PR : Sl → Sto → Prop) (PX : Value → Sto → Prop), Room n (A.deeper (envOfC qual (defScope st) s.heap.objs.size f cdv)) → R as S PR PX →
      GSs (cxOf (L2N.CX P w) P w K mg base N qual (defScope st) f cdv A outer s H E) ⟨H0, Hh, keys S, fun cls d _ H => E cls d H⟩ (gamS N.length as) S (defBody st) { N := fun _ S' => PR (.dat .none) S', R := PR, ex := fun cls _ S' => PX cls S' }) : FnOk P w K mg base (L2N.CX P w) (n + 1) f fd ps (SpM K R) := by
  refine okN F Sc (fun vs H Q E h => ?_) (fun cdv A outer s H vs Q E hr h => ?_)
  · obtain ⟨H0, as, S, PR, PX, _, hR, hv, _⟩ := h
    rw [Paired.length hv]
    exact hlen as S PR PX hR
  · obtain ⟨H0, as, S, PR, PX, e, hR, hv, hS, k, kx⟩ := h
    have hle : ps.length ≤ N.length := by have := congrArg List.length Sc.pre; rw [List.length_take] at this; omega
    refine ⟨_, hbody cdv A outer s H E H0 H as S PR PX hr hR, H0, ⟨Fra.refl e, env_startS hv (by rw [hlen as S PR PX hR]; exact hle), hS, fun p z => .inl z⟩, ?_, ?_, ?_, ?_, ?_⟩
    · intro Γ S' H0' σ H' hd at1
      exact k _ S' .non H0' H' hd at1.fra.toE at1.sto at1.wr ⟨_, rfl, .non⟩
    · intro r Γ S' v H0' σ H' hr at1 hv
      exact k r S' v H0' H' hr at1.fra.toE at1.sto at1.wr hv
    · intro _ _ _ _ _ h _
      exact h.elim
    · intro _ _ _ _ _ h _
      exact h.elim
    · intro cls Γ S' H0' σ H' h at1
      exact kx cls S' H0' H' h at1.fra.toE at1.sto at1.wr
theorem mut_def0K {x qual : Str} {st : Stmt} {f : Addr} {fd : FuncData} {N ps : List Str} {n : Nat} {R : Rq} (F : Fun K x qual st f fd) (Sc : FnScope N ps (defScope st)) (hlen : ∀ as S PR PX, R as S PR PX → as.length = ps.length)
    (hbody : ∀ (cdv : Value) (A : Around) (outer : List Env) (s : Shared) (H : Hp) (E : XK) (B : Bs) (as : List Sl) (S : Sto) (PR : Sl → Sto → Prop) (PX : Value → Sto → Prop), Room n (A.deeper (envOfC qual (defScope st) s.heap.objs.size f cdv)) → B.ks = keys S → R as S PR PX →
      GSs (cxOf CX0 P w K mg base N qual (defScope st) f cdv A outer s H E).nox B (gamS N.length as) S (defBody st) { N := fun _ S' => PR (.dat .none) S', R := PR }) : FnOk P w K mg base CX0 (n + 1) f fd ps (SpM K R) := by
  refine F.ok Sc (fun vs H Q E h => ?_) (fun cdv A outer s H vs Q E hr h => ?_)
  · obtain ⟨H0, as, S, PR, PX, _, hR, hv, _⟩ := h
    rw [Paired.length hv]
    exact hlen as S PR PX hR
  · obtain ⟨H0, as, S, PR, PX, e, hR, hv, hS, k, kx⟩ := h
    have hle : ps.length ≤ N.length := by have := congrArg List.length Sc.pre; rw [List.length_take] at this; omega
    refine ⟨_, hbody cdv A outer s H E ⟨H0, H, keys S, fun _ _ _ _ => False⟩ as S PR PX hr rfl hR, H0, ⟨Fra.refl e, env_startS hv (by rw [hlen as S PR PX hR]; exact hle), hS, fun p z => .inl z⟩, ?_, ?_, ?_, ?_, ?_⟩
    · intro Γ S' H0' σ H' hd at1
      exact k _ S' .non H0' H' hd at1.fra at1.sto at1.wr ⟨_, rfl, .non⟩
    · intro r Γ S' v H0' σ H' hr at1 hv
      exact k r S' v H0' H' hr at1.fra at1.sto at1.wr hv
    · intro _ _ _ _ _ h _
      exact h.elim
    · intro _ _ _ _ _ h _
      exact h.elim
    · intro _ _ _ _ _ _ h _
      exact h.elim
theorem pure_defK {x qual : Str} {st : Stmt} {f : Addr} {fd : FuncData} {N ps : List Str} {n : Nat} {R : List PyData → PyData → Prop} (F : Fun K x qual st f fd) (Sc : FnScope N ps (defScope st)) (hlen : ∀ ds d, R ds d → ds.length = ps.length)
    (hbody : ∀ (cdv : Value) (A : Around) (outer : List Env) (s : Shared) (H : Hp) (E : XK) (B : Bs) (ds : List PyData) (d : PyData), Room n (A.deeper (envOfC qual (defScope st) s.heap.objs.size f cdv)) → B.ks = [] → R ds d →
      GSs (cxOf CX0 P w K mg base N qual (defScope st) f cdv A outer s H E).nox B (gam N.length ds) [] (defBody st) { N := fun _ _ => d = .none, R := fun r _ => r = .dat d }) : FnOk P w K mg base CX0 (n + 1) f fd ps (SpD K R) := by
  refine F.ok Sc (fun vs H Q E h => ?_) (fun cdv A outer s H vs Q E hr h => ?_)
  · obtain ⟨H0, ds, d, _, hR, hv, _⟩ := h
    rw [dps_len hv]
    exact hlen ds d hR
  · obtain ⟨H0, ds, d, e, hR, hv, k⟩ := h
    have hle : ps.length ≤ N.length := by have := congrArg List.length Sc.pre; rw [List.length_take] at this; omega
    refine ⟨_, hbody cdv A outer s H E ⟨H0, H, [], fun _ _ _ _ => False⟩ ds d hr rfl hR, H0, ⟨Fra.refl e, by rw [gam_S]; exact env_startS (args_of hv) (by rw [List.length_map, hlen ds d hR]; exact hle), StoOk.nil, fun p z => nomatch z⟩, ?_, ?_, ?_, ?_, ?_⟩
    · intro Γ S H0' σ H' hd at1
      subst hd
      exact k .non H0' H' at1.fra.toExt .non
    · intro r Γ S v H0' σ H' hr at1 hv
      subst hr
      exact k v H0' H' at1.fra.toExt hv.toDp
    · intro _ _ _ _ _ h _
      exact h.elim
    · intro _ _ _ _ _ h _
      exact h.elim
    · intro _ _ _ _ _ _ h _
      exact h.elim
end
/-! ### lists of slots changed; comprehensions over data; tuples that are no data -/
theorem paired_set {α β : Type} {R : α → β → Prop} {x : α} {y : β} (h : R x y) : ∀ {xs : List α} {ys : List β} (i : Nat), Paired R xs ys → Paired R (xs.set i x) (ys.set i y)
  | _, _, _, .nil => .nil
  | _, _, 0, .cons _ t => .cons h t
  | _, _, i + 1, .cons g t => .cons g (paired_set h i t)
theorem ca_min2 {K : PySem.W.Frag} {i j : Int} : CaD K (fun xs H Q => ∃ i j, xs = [.int i, .int j] ∧ Q (.int (if j < i then j else i)) H) [.int i, .int j] (.int (if j < i then j else i)) := fun H0 H vs e hvs Q k => by
  cases hvs with
  | cons hv ht =>
    cases ht with
    | cons hw hn =>
      cases hn
      cases hv
      cases hw
      exact ⟨i, j, rfl, k _ H0 H (Ext.refl e) (.int _)⟩
theorem ca_max2 {K : PySem.W.Frag} {i j : Int} : CaD K (fun xs H Q => ∃ i j, xs = [.int i, .int j] ∧ Q (.int (if j > i then j else i)) H) [.int i, .int j] (.int (if j > i then j else i)) := fun H0 H vs e hvs Q k => by
  cases hvs with
  | cons hv ht =>
    cases ht with
    | cons hw hn =>
      cases hn
      cases hv
      cases hw
      exact ⟨i, j, rfl, k _ H0 H (Ext.refl e) (.int _)⟩
section
variable {X : Cx} {B : Bs} {Γ : Gam} {S : Sto} {a b e o it elt : Expr} {d : PyData} {ds : List PyData} {ws : List V} {as : List Sl} {pos : Pos} {P : Po} {x f T : Str} {r : Sl} {k : Bool} {j n m : Nat} {i : Int} {p : Addr} {v : V} {px lp p2 : Pos} {scope : Scope}
/-- o[i] = e of a list of slots -/
theorem gs_setS {tpos : Pos} (ho : GR X B Γ S o (.ref p)) (hi : GD X B Γ S b (.int i)) (he : PE X e (rd X.K B Γ S r)) (hn : S[n]? = some (p, .ls as)) (hx : ixN as.length i = some m) (q : P.N Γ (S.set n (p, .ls (as.set m r))))
    (ha : ∀ v, assign (.Subscript o b tpos) X.env v = (do
      let ov ← holding [v] (eval o X.env)
      let iv ← holding [v, ov] (eval b X.env)
      standAt tpos
      holding [v, ov, iv] (setItem ov iv v)
      release [v, ov, iv] []) := by intro _; rfl)
    (hs : swapsWithSole [.Subscript o b tpos] e pos.line X.env = pure false := by rfl) (hw : swappedStores [.Subscript o b tpos] e X.env = pure none := by rfl)
    (h1 : (assignEach [.Subscript o b tpos] X.env).map (·.2) = [assign (.Subscript o b tpos) X.env] := by rfl) : GS X B Γ S (.Assign [.Subscript o b tpos] e pos) P :=
  (ps_asg he (pg_sub ho hi set_list ha) hs hw h1).imp fun D σ H ⟨H0, at0, z⟩ => ⟨H0, at0, fun y H1 H' at1 e1 hy => ⟨H1, at1, fun v H2 H'' at2 e2 hv => ⟨H2, at2, fun w H3 H3' at3 e3 hw => by
    have hv : (some (some v) : Option (Option V)) = some (some (.ref p)) := hv
    cases hv
    have hw := hw.toDp
    cases hw
    obtain ⟨_, vs, h1, h2⟩ := at3.sto.at_ p _ (List.mem_of_getElem? hn)
    refine ⟨p, vs, i, m, rfl, rfl, h1, by rw [Paired.length h2]; exact hx, ?_⟩
    exact z.nx _ _ H3 σ _ q (at3.write hn ⟨_, upd_same, paired_set (R := fun v s => SlOk X.K H3 (some (some v)) s) (hy.ext (e2.trans e3)) m h2⟩)⟩⟩⟩
def teL (K : PySem.W.Frag) (B : Bs) (Γ : Gam) (S : Sto) (ds : List PyData) (j : Nat) (g : Nat → PyData) : TE := fun σ H Q => ∃ (i : Nat) (D : Addr) (acc : List PyData) (d : PyData), ds[i]? = some d ∧ rd K B ((wipeG Γ [j]).set j (.dat d)) ((D, .lst acc) :: S) (.dat (g i)) σ H Q
theorem lcL_go (g : Nat → PyData) (hl : ds.length ≤ 100000) {σ : St} {H : Hp} {Q : VK} (h : rd X.K B Γ S (.dat (.list ((List.range ds.length).map g))) σ H Q) : tLc (iList X.K (rd X.K B Γ S (.dat (.list ds)))) (gName j) tYes (teL X.K B Γ S ds j g) [j] σ H Q := by
  obtain ⟨H0, at0, k⟩ := h
  refine ⟨H0, at0, fun v H1 H' at1 e1 hv => ?_⟩
  have hv := hv.toDp
  cases hv with
  | @lst q vs _ hq ha =>
    have hln := dps_len ha
    refine ⟨q, rfl, ⟨vs, ex_l at1.e2 hq⟩, fun D hD => ?_⟩
    have hB : B.H D = none := none_B at1.fra hD
    refine L2.lc_list (K := X.K) (a := q) (xs := vs) (g := gName j) (tt := tYes) (te := teL X.K B Γ S ds j g) (vs := [j]) (σ := σ) (D := D) (Qd := fun H => Q (.ref D) H) (fun i H => i ≤ vs.length ∧ ∃ H0, At X.K B H0 Γ ((D, .lst ((List.range i).map g)) :: S) σ H ∧ Ex H1 H0) ⟨Nat.zero_le _, H1, at1.own hD ⟨[], upd_same, .nil⟩, Ex.refl _⟩ (fun i H _ pv => ?_) (fun i y H hi pv => ?_) fun H pv => ?_
    · obtain ⟨_, G, at2, e2⟩ := pv
      exact ex_l at2.e2 (ex_l e2 hq)
    · obtain ⟨_, G, at2, e2⟩ := pv
      have hlt : i < vs.length := (List.getElem?_eq_some_iff.mp hi).1
      obtain ⟨d, h1, h2⟩ := dps_getV ha hi
      refine ⟨wipe_set1, ?_⟩
      refine ⟨i, D, _, d, h1, G, (at2.wipe [j]).set j (s := .dat d) ⟨_, rfl, dp_ex e2 _ _ h2⟩, fun v H2 H'' at3 e3 hv => ?_⟩
      obtain ⟨_, acc, h1, h2⟩ := at3.sto.at_ D _ List.mem_cons_self
      refine ⟨acc, h1, ?_, hlt, H2, ?_, e2.trans e3⟩
      · rw [dps_len h2, List.length_map, List.length_range]; exact Evl.sz_lt (by omega)
      · have a4 := at2.frame at3 e3
        have a5 := a4.write (n := 0) (ow := .lst ((List.range i).map g ++ [g i])) (o := .lst (acc ++ [v])) rfl ⟨_, upd_same, dps_app h2 (.cons hv.toDp .nil)⟩
        rw [List.range_succ, List.map_append]
        exact a5
    · obtain ⟨_, G, at2, e2⟩ := pv
      obtain ⟨G', e3, at3, hd⟩ := at2.freeze (n := 0) rfl hB
      rw [hln] at hd
      exact k _ G' H at3 ((e1.trans e2).trans e3) ⟨_, rfl, hd⟩
theorem gd_lcL (g : Nat → PyData) (hc : X.calm = true) (hN : X.N.Nodup) (ho : GD X B Γ S o (.list ds)) (hl : ds.length ≤ 100000) (ok : BlkOk X.N X.env.scope scope [(x, j)])
    (htg : ∀ (s : Shared) (H : Hp) (C : Addr) (cl : List (Str × Addr)) (fp : List Addr), PG (X.blk s H scope (compEnvC scope cl C X.env) fp) (.Name x px) (gName j))
    (hel : ∀ (i : Nat) (D : Addr) (acc : List PyData) (d : PyData), ds[i]? = some d → ∀ (s : Shared) (H : Hp) (C : Addr) (cl : List (Str × Addr)) (fp : List Addr), GD (X.blk s H scope (compEnvC scope cl C X.env) fp) B ((wipeG Γ [j]).set j (.dat d)) ((D, .lst acc) :: S) elt (g i))
    (hfs : ∀ y, foldedSetIterable o X.env y = pure y := by intro _; rfl) : GD X B Γ S (.ListComp elt [⟨.Name x px, o, [], 0⟩] scope lp) (.list ((List.range ds.length).map g)) :=
  (pe_lc (own := [(x, j)]) hc hN (pi_list ho) ok htg (fun _ _ _ _ _ => pts_nil) (te := teL X.K B Γ S ds j g) (fun s H C cl fp => ⟨fun pins s' σ H' Q Iv ⟨i, D, acc, d, h1, z⟩ => (hel i D acc d h1 s H C cl fp).run pins s' σ H' Q Iv z⟩) hfs).imp fun σ H Q h => lcL_go g hl h
/-- y = [elt for x in a list that is data] -/
theorem gs_setLcL {spos py : Pos} {y : Str} (i : Nat) (g : Nat → PyData) (hy : X.N[i]? = some y) (hyl : X.env.scope.names.lookup y = some .local) (hsw : swapsWith (.ListComp elt [⟨.Name x px, o, [], 0⟩] scope lp) (some (.Name y py)) spos.line X.env = pure true) (hc : X.calm = true) (hN : X.N.Nodup) (ho : GD X B Γ S o (.list ds)) (hl : ds.length ≤ 100000) (ok : BlkOk X.N X.env.scope scope [(x, j)])
    (htg : ∀ (s : Shared) (H : Hp) (C : Addr) (cl : List (Str × Addr)) (fp : List Addr), PG (X.blk s H scope (compEnvC scope cl C X.env) fp) (.Name x px) (gName j))
    (hel : ∀ (i : Nat) (D : Addr) (acc : List PyData) (d : PyData), ds[i]? = some d → ∀ (s : Shared) (H : Hp) (C : Addr) (cl : List (Str × Addr)) (fp : List Addr), GD (X.blk s H scope (compEnvC scope cl C X.env) fp) B ((wipeG Γ [j]).set j (.dat d)) ((D, .lst acc) :: S) elt (g i))
    (q : P.N (Γ.set i (.dat (.list ((List.range ds.length).map g)))) S)
    (hfs : ∀ y, foldedSetIterable o X.env y = pure y := by intro _; rfl) : GS X B Γ S (.Assign [.Name y py] (.ListComp elt [⟨.Name x px, o, [], 0⟩] scope lp) spos) P :=
  (ps_setLc (own := [(x, j)]) hc hN hy hyl hsw (pi_list ho) ok htg (fun _ _ _ _ _ => pts_nil) (te := teL X.K B Γ S ds j g) (fun s H C cl fp => ⟨fun pins s' σ H' Q Iv ⟨i, D, acc, d, h1, z⟩ => (hel i D acc d h1 s H C cl fp).run pins s' σ H' Q Iv z⟩) hfs).imp fun D σ H ⟨H0, at0, z⟩ => lcL_go g hl ⟨H0, at0, fun v H0' H' at1 e1 hv => z.nx _ _ H0' _ H' q (at1.set i hv)⟩
/-- o[i] of a tuple that is no data -/
theorem gr_ixT {i : Nat} (ho : GR X B Γ S o (.ref p)) (hi : GD X B Γ S b (.int (i : Int))) (hn : S[n]? = some (p, .ho (.tup ws))) (q : ws[i]? = some v) (hs : PlainIx b := by exact fun _ _ => rfl) : GR X B Γ S (.Subscript o b pos) v := (pe_ix ix_seq ho hi hs).imp fun σ H Q ⟨H0, at0, k⟩ => ⟨H0, at0, fun z H1 H' at1 e1 hv => ⟨H1, at1, fun w H2 H'' at2 e2 hw => by
  have hv : (some (some z) : Option (Option V)) = some (some (.ref p)) := hv
  cases hv
  have hw := hw.toDp
  cases hw
  obtain ⟨_, h1⟩ := at2.sto.at_ p _ (List.mem_of_getElem? hn)
  exact .inr (.inl ⟨p, ws, _, v, rfl, rfl, .inl (.inl h1), atI_V q, k _ H2 H'' at2 (e1.trans e2) rfl⟩)⟩⟩
/-- len of it -/
theorem gd_lenT {nm : Str} (hg : Gl X nm) (hm : X.mg nm = none) (hv : bootBuiltins nm = some (.builtin "len")) (ho : GR X B Γ S o (.ref p)) (hn : S[n]? = some (p, .ho (.tup ws))) (hnn : nm ≠ "__name__" := by decide) (hdb : (nm == ("__debug__" : Str)) = false := by decide)
    (he : starEach [o] X.env = (false, eval o X.env) :: starEach [] X.env := by rfl) (hpl : (backTo pos (starEach [] X.env)).any (·.1) = false := by rfl) : GD X B Γ S (.Call (.Name nm p2) [o] [] pos) (.int (ws.length : Int)) :=
  (pe_callB call_len hg hm hv (pa_cons ho pa_nil he) hnn hdb he hpl).imp fun σ H Q ⟨H0, at0, k⟩ => ⟨H0, at0, fun v H1 H' at1 e1 hv => by
    have hv : (some (some v) : Option (Option V)) = some (some (.ref p)) := hv
    cases hv
    obtain ⟨_, h1⟩ := at1.sto.at_ p _ (List.mem_of_getElem? hn)
    exact ⟨.ref p, ws.length, rfl, .inr ⟨ws, .inl (.inl h1), rfl⟩, k _ H1 H' at1 e1 ⟨_, rfl, .int _⟩⟩⟩
/-- isinstance of it -/
theorem gd_isT {nm : String} (hg : Gl X f) (hm : X.mg f = none) (hv : bootBuiltins f = some (.builtin "isinstance")) (hT : PE X (.Name T p2) (tC (.ty nm))) (ha : GR X B Γ S a (.ref p)) (hnn : S[n]? = some (p, .ho (.tup ws))) (hk : kitB "tuple" nm = some k)
    (hn : f ≠ "__name__" := by decide) (hdb : (f == ("__debug__" : Str)) = false := by decide)
    (he : starEach [a, .Name T p2] X.env = (false, eval a X.env) :: starEach [.Name T p2] X.env := by rfl) (he2 : starEach [.Name T p2] X.env = (false, eval (.Name T p2) X.env) :: starEach [] X.env := by rfl) (hpl : (backTo pos (starEach [.Name T p2] X.env)).any (·.1) = false := by rfl) : GD X B Γ S (.Call (.Name f px) [a, .Name T p2] [] pos) (.bool k) :=
  (pe_callB call_isi hg hm hv (pa_cons ha (pa_cons hT pa_nil he2) he) hn hdb he hpl).imp fun σ H Q ⟨H0, at0, q⟩ => ⟨H0, at0, fun v H1 H' at1 e1 hv => by
    have hv : (some (some v) : Option (Option V)) = some (some (.ref p)) := hv
    cases hv
    obtain ⟨_, h1⟩ := at1.sto.at_ p _ (List.mem_of_getElem? hnn)
    exact ⟨.ref p, .ty nm, .type "tuple", .type nm, k, rfl, .ty nm, .base (.tup h1), kit_ty hk, q _ H1 H' at1 e1 ⟨_, rfl, .bl _⟩⟩⟩
end
section
variable {X : Cx} {B : Bs} {Γ : Gam} {S : Sto} {es : List Expr} {pos pos' lpos : Pos} {P : Po} {x : Str}
/-- x = [e, ..], the elements data or not -/
theorem gs_setLsS {i : Nat} (hN : X.N.Nodup) (hi : X.N[i]? = some x) (hx : Loc X.env.scope x) (h : GEA X B Γ S es (fun as S' => as.length ≤ 100000 ∧ ∀ p, B.H p = none → P.N (Γ.set i (.raw (.ref p))) ((p, .ls as) :: S')))
    (hs : swapsWith (.List es lpos) (some (.Name x pos')) pos.line X.env = pure false := by rfl) (hf : X.fn x = true ∨ X.env.scope.names.lookup x = some .local := by first | exact .inl rfl | exact .inr rfl | assumption) : GS X B Γ S (.Assign [.Name x pos'] (.List es lpos) pos) P :=
  gs_setE hN hi hx (ge_mono (ge_lsS (ex := P.ex) (Pa := fun as S' => ∀ p, B.H p = none → P.N (Γ.set i (.raw (.ref p))) ((p, .ls as) :: S')) h) (fun r S' ⟨p, as, S1, hp, hN, hr, hS⟩ => by subst hr hS; exact hN p hp) fun _ _ h => h) hs hf
end
section
variable {X : Cx} {B : Bs} {Γ : Gam} {S : Sto} {a b c e it : Expr} {es : List Expr} {d : PyData} {ds : List PyData} {pos pos2 pos3 : Pos} {P : Po} {n : Int} {x : Str} {p : Pos} {j : Nat} {body : List Stmt}
/-- for x in range(n), n perhaps below nought -/
theorem gs_forRn (hp : PassesOwn (model X.prog X.w) X.A X.env X.xe) (hc : X.calm = true) (hg : Gl X "range") (hm : X.mg "range" = none) (he : GD X B Γ S e (.int n)) (hn : -2 ^ 62 ≤ n ∧ n < 2 ^ 62) (hN : X.N.Nodup) (hj : X.N[j]? = some x) (hx : Loc X.env.scope x) (I : Nat → Gam → Sto → Prop) (h0 : I 0 Γ S)
    (hb : ∀ (i : Nat) Γ' S' G, (i : Int) < n → I i Γ' S' → GSs X (B.at G) (Γ'.set j (.dat (.int (i : Int)))) S' body (P.turn I i)) (hd : ∀ Γ' S', I n.toNat Γ' S' → P.N Γ' S')
    (hs : starEach [e] X.env = [(false, eval e X.env)] := by rfl) (hf : X.fn x = true ∨ X.env.scope.names.lookup x = some .local := by first | exact .inl rfl | exact .inr rfl | assumption) : GS X B Γ S (.For (.Name x p) (.Call (.Name "range" pos2) [e] [] pos3) body [] pos) P := by
  have hbody : PSs X body (fun D σ H => ∃ (i : Nat) (Γ' : Gam) (S' : Sto) (G : Hp), (i : Int) < n ∧ I i Γ' S' ∧ rs X.K (B.at G) (Γ'.set j (.dat (.int (i : Int)))) S' (P.turn I i) D σ H) := ⟨fun pins s σ H D Iv ⟨i, Γ', S', G, h1, h2, z⟩ => (hb i Γ' S' G h1 h2).run pins s σ H D Iv z⟩
  refine (ps_for hp hc (pi_range1 hg hm (pa_cons he pa_nil (by rw [hs]; rfl)) hs) (pg_name (i := j) hN hj hx hf) hbody).imp fun D σ H ⟨H0, at0, z⟩ => ⟨H0, at0, fun v H1 H' at1 e1 hv => ?_⟩
  have hv := hv.toDp
  cases hv
  refine ⟨n, rfl, hn.1, hn.2, for_range (lo := 0) (n := n.toNat) (g := gName j) (tb := fun D σ H => ∃ (i : Nat) (Γ' : Gam) (S' : Sto) (G : Hp), (i : Int) < n ∧ I i Γ' S' ∧ rs X.K (B.at G) (Γ'.set j (.dat (.int (i : Int)))) S' (P.turn I i) D σ H) (D := D) (fun i σ H => ∃ Γ' S' H0, I i Γ' S' ∧ At X.K B H0 Γ' S' σ H) ⟨Γ, S, H1, h0, at1⟩ (fun i σ H hi pv => ?_) fun σ H pv => ?_⟩
  · obtain ⟨Γ', S', G, hI, at2⟩ := pv
    have e0 : (0 : Int) + (i : Int) = (i : Int) := Int.zero_add _
    show ∃ (i' : Nat) (Γ' : Gam) (S' : Sto) (G : Hp), (i' : Int) < n ∧ I i' Γ' S' ∧ rs X.K (B.at G) (Γ'.set j (.dat (.int (i' : Int)))) S' (P.turn I i') _ (σ.set j (some (.int ((0 : Int) + (i : Int))))) H
    rw [e0]
    exact ⟨i, Γ', S', G, by omega, hI, G, at2.rebase.set j ⟨_, rfl, .int _⟩, turn_endz at2.fra z _ fun Γ1 S1 H2 σ2 H3 q a _ => ⟨Γ1, S1, H2, q, a⟩⟩
  · obtain ⟨Γ', S', G, hI, at2⟩ := pv
    exact z.nx Γ' S' G σ H (hd Γ' S' hI) at2
end
/-! ### a call that might raise, and doesn't -/
section
variable {X : Cx} {B : Bs} {Γ : Gam} {S1 F : Sto} {e : Expr} {es : List Expr} {pos : Pos} {lv : Nat} {x : Str} {p : Pos} {as : List Sl} {f : Addr} {fd : FuncData} {ps : List Str} {R : Rq} {PR : Sl → Sto → Prop} {PX : Value → Sto → Prop} {ex : Value → Gam → Sto → Prop}
theorem passF {P : Program} {w : World} {σ : St} : PassesAt (L2N.CX P w) X σ (fun _ _ _ => False) := by
  intro pins H s e s' _ h
  obtain ⟨_, _, _, _, _, h⟩ := h
  exact h.2.2.2.2.2.2.2.elim
theorem ge_callF (Gf : FnOk X.prog X.w X.K X.mg X.base (L2N.CX X.prog X.w) lv f fd ps (SpM X.K R)) (hr : Room lv X.A) (hg : Gl X x) (hm : X.mg x = some (.ref f)) (hk : PySem.W.keepIn X.K (.ref f) = true) (hb : Binds X.K fd ps [])
    (ha : GAS X B Γ (S1 ++ F) (e :: es) as) (hR : R as S1 PR PX) (hX : ∀ cls S', PX cls S' → False) (hdb : (x == ("__debug__" : Str)) = false := by decide) (he : starEach (e :: es) X.env = (false, eval e X.env) :: starEach es X.env := by rfl) (hpl : (backTo pos (starEach es X.env)).any (·.1) = false := by rfl) :
    GE X B Γ (S1 ++ F) (.Call (.Name x p) (e :: es) [] pos) (PostR PR F) ex := (pe_callS (E := fun _ _ _ _ => False) Gf hr hg hm hk hb (fun _ => passF) ha hdb he hpl).imp fun σ H Q ⟨H0, at0, k, kx⟩ => ⟨H0, at0, fun us H2 H'' at2 e2 hus =>
  spm_of at2 hR hus (fun r S1' v H0' H' p a2 e3 hv => k r _ v H0' H' ⟨S1', p, rfl⟩ a2 (e2.trans e3) hv) fun cls S1' H0' H' p a2 e3 => hX cls S1' p⟩
end
section
variable {X : Cx} {B : Bs} {Γ : Gam} {S : Sto} {a b c e it : Expr} {es : List Expr} {d : PyData} {ds : List PyData} {pos pos2 pos3 : Pos} {P : Po} {n : Int} {x : Str} {p : Pos} {j : Nat} {body : List Stmt}
/-- for x in a tuple that is data -/
theorem gs_forT (hp : PassesOwn (model X.prog X.w) X.A X.env X.xe) (hc : X.calm = true) (he : GD X B Γ S it (.tuple ds)) (hN : X.N.Nodup) (hj : X.N[j]? = some x) (hx : Loc X.env.scope x) (I : Nat → Gam → Sto → Prop) (h0 : I 0 Γ S)
    (hb : ∀ (i : Nat) d Γ' S' G, ds[i]? = some d → I i Γ' S' → GSs X (B.at G) (Γ'.set j (.dat d)) S' body (P.turn I i)) (hd : ∀ Γ' S', I ds.length Γ' S' → P.N Γ' S')
    (hs : ∀ y, foldedSetIterable it X.env y = pure y := by intro _; rfl) (hf : X.fn x = true ∨ X.env.scope.names.lookup x = some .local := by first | exact .inl rfl | exact .inr rfl | assumption) : GS X B Γ S (.For (.Name x p) it body [] pos) P := by
  have hbody : PSs X body (fun D σ H => ∃ (i : Nat) (d : PyData) (Γ' : Gam) (S' : Sto) (G : Hp), ds[i]? = some d ∧ I i Γ' S' ∧ rs X.K (B.at G) (Γ'.set j (.dat d)) S' (P.turn I i) D σ H) := ⟨fun pins s σ H D Iv ⟨i, d, Γ', S', G, h1, h2, z⟩ => (hb i d Γ' S' G h1 h2).run pins s σ H D Iv z⟩
  refine (ps_for hp hc (pi_tup he) (pg_name (i := j) hN hj hx hf) hbody hs).imp fun D σ H ⟨H0, at0, z⟩ => ⟨H0, at0, fun v H1 H' at1 e1 hv => ?_⟩
  have hv := hv.toDp
  cases hv with
  | @tup a xs _ hl ha =>
    refine ⟨a, rfl, ⟨xs, ex_t at1.e2 hl⟩, for_tup (K := X.K) (a := a) (xs := xs) (g := gName j) (tb := fun D σ H => ∃ (i : Nat) (d : PyData) (Γ' : Gam) (S' : Sto) (G : Hp), ds[i]? = some d ∧ I i Γ' S' ∧ rs X.K (B.at G) (Γ'.set j (.dat d)) S' (P.turn I i) D σ H) (D := D) (fun i σ H => ∃ Γ' S' H0, I i Γ' S' ∧ At X.K B H0 Γ' S' σ H ∧ Ex H1 H0) ⟨Γ, S, H1, h0, at1, Ex.refl _⟩ (fun i σ H _ pv => ?_) (fun i y σ H hi pv => ?_) fun σ H pv => ?_⟩
    · obtain ⟨Γ', S', G, hI, at2, e2⟩ := pv
      exact ex_t at2.e2 (ex_t e2 hl)
    · obtain ⟨Γ', S', G, hI, at2, e2⟩ := pv
      obtain ⟨d, h1, h2⟩ := dps_getV ha hi
      exact ⟨i, d, Γ', S', G, h1, hI, G, at2.rebase.set j ⟨_, rfl, dp_ex e2 _ _ h2⟩, turn_endz at2.fra z _ fun Γ1 S1 H2 σ2 H3 q a e3 => ⟨Γ1, S1, H2, q, a, e2.trans e3⟩⟩
    · obtain ⟨Γ', S', G, hI, at2, e2⟩ := pv
      rw [dps_len ha] at hI
      exact z.nx Γ' S' G σ H (hd Γ' S' hI) at2
end
section
variable {X : Cx} {B : Bs} {Γ : Gam} {S : Sto} {a e : Expr} {pos : Pos} {Pe : Sl → Sto → Prop} {Pt : Bool → Sto → Prop} {ex : Value → Gam → Sto → Prop}
/-- a test that is an expression with effects -/
theorem gte_val (h : GE X B Γ S e Pe ex) (hd : ∀ r S', Pe r S' → ∃ k, r = .dat (.bool k) ∧ Pt k S') (he : ∀ whole, isTrue e X.env whole = (do let v ← whole; standAt e.pos; holding [v] (truthy v)) := by intro _; rfl) : GTE X B Γ S e Pt ex :=
  (pt_val h he).imp fun σ H Q ⟨H0, at0, q, qx⟩ => ⟨H0, at0, fun r S' v H0' H' hp at1 e1 hv => by
    obtain ⟨k, hr, hP⟩ := hd r S' hp
    subst hr
    have hv := hv.toDp
    cases hv
    exact ⟨k, rfl, q k S' H0' H' hP at1 e1⟩, qx⟩
theorem gte_not (h : GTE X B Γ S a (fun k S' => Pt (!k) S') ex) : GTE X B Γ S (.UnaryOp .Not a pos) Pt ex := (pt_not h).imp fun σ H Q ⟨H0, at0, q, qx⟩ => ⟨H0, at0, fun b S' H0' H' hp at1 e1 => q (!b) S' H0' H' hp at1 e1, qx⟩
end
/-! ### a tuple frozen; a list taken many times; not in -/
theorem At.freezeTup {K : PySem.W.Frag} {B : Bs} {H0 H : Hp} {Γ : Gam} {S : Sto} {σ : St} {n : Nat} {p : Addr} {vs : List V} {ds : List PyData} (a : At K B H0 Γ S σ H) (hn : S[n]? = some (p, .ho (.tup vs))) (hk : B.H p = none) (hd : DpAll K H0 vs ds) : ∃ H0', Ex H0 H0' ∧ At K B H0' Γ (S.eraseIdx n) σ H ∧ Dp K H0' (.ref p) (.tuple ds) := by
  have hm : (p, OV.ho (.tup vs)) ∈ S := List.mem_of_getElem? hn
  obtain ⟨h0, h1⟩ := a.sto.at_ p _ hm
  have h1 : H p = some (.tup vs) := h1
  have e0 : Ex H0 (upd H0 p (.tup vs)) := Ex.new h0
  refine ⟨upd H0 p (.tup vs), e0, ⟨⟨a.fra.e0.trans e0, a.fra.e1, fun b o e => ?_, fun b e1 e2 => ?_, a.fra.th⟩, a.env.ext e0, ⟨fun q ow hq => ?_, ?_⟩, fun q hq => ?_⟩, .tup (.inl (.inl upd_same)) (dps_ex e0 _ _ hd)⟩
  · by_cases z : b = p
    · subst z; rw [upd_same] at e; cases e; exact h1
    · rw [upd_ne z] at e; exact a.fra.e2 b o e
  · have : b ≠ p := fun z => e2 (by rw [z]; exact hk)
    rw [upd_ne this]; exact a.fra.fr b e1 e2
  · obtain ⟨m, hm'⟩ := List.getElem?_of_mem hq
    obtain ⟨m', hne, hm''⟩ : ∃ m', m' ≠ n ∧ S[m']? = some (q, ow) := by
      rw [List.getElem?_eraseIdx] at hm'
      split at hm'
      · exact ⟨m, by omega, hm'⟩
      · exact ⟨m + 1, by omega, hm'⟩
    obtain ⟨k0, k1⟩ := a.sto.at_ q ow (List.mem_of_getElem? hm'')
    have : q ≠ p := nd_at a.sto.nd hn hm'' hne
    exact ⟨by rw [upd_ne this]; exact k0, OvOk.ext e0 (fun o' e => e) k1⟩
  · have sub : (keys (S.eraseIdx n)).Sublist (keys S) := (List.eraseIdx_sublist S n).map _
    exact a.sto.nd.sublist sub
  · have sub : (keys (S.eraseIdx n)).Sublist (keys S) := (List.eraseIdx_sublist S n).map _
    exact a.wr q (sub.subset hq)
section
variable {X : Cx} {B : Bs} {Γ : Gam} {S : Sto} {a b e : Expr} {d : PyData} {ds es : List PyData} {pos : Pos} {k : Int} {ex : Value → Gam → Sto → Prop} {Pe : Sl → Sto → Prop}
/-- a new tuple of two new lists, handed on as data -/
theorem ge_frz2 (h : GE X B Γ S e (fun r S' => ∃ (t p q : Addr) (xs ys : List PyData), B.H t = none ∧ B.H p = none ∧ B.H q = none ∧ r = .raw (.ref t) ∧ S' = (t, .ho (.tup [.ref p, .ref q])) :: (q, .lst ys) :: (p, .lst xs) :: S ∧ Pe (.dat (.tuple [.list xs, .list ys])) S) ex) : GE X B Γ S e Pe ex :=
  h.imp fun σ H Q ⟨H0, at0, k, kx⟩ => ⟨H0, at0, fun r S' v H1 H' ⟨t, p, q, xs, ys, ht, hp, hq, hr, hS, hP⟩ at1 e1 hv => by
    subst hr hS
    have hv : (some (some v) : Option (Option V)) = some (some (.ref t)) := hv
    cases hv
    obtain ⟨H2, e2, at2, d2⟩ := at1.freeze (n := 2) rfl hp
    obtain ⟨H3, e3, at3, d3⟩ := at2.freeze (n := 1) rfl hq
    obtain ⟨H4, e4, at4, d4⟩ := at3.freezeTup (n := 0) rfl ht (.cons (dp_ex e3 _ _ d2) (.cons d3 .nil))
    exact k _ S _ H4 H' hP at4 (((e1.trans e2).trans e3).trans e4) ⟨_, rfl, d4⟩, kx⟩
theorem gd_notInD (hu : X.A.units + 65 < cLine) (hm : behindInMarks .NotIn b = false) (ha : GD X B Γ S a d) (hb : GD X B Γ S b (.list ds)) (h1 : SeqAt.shaped d = true) (h2 : SeqAt.shaped (.list ds) = true) : GD X B Γ S (.Compare a [.NotIn] [b] pos) (.bool (!ds.any fun z => PyData.eqv z d)) :=
  gd_cmp (op_notInD hu) (fun H0 H v w e hv hw Q k => ⟨d, ds, dp_ex e _ _ hv, dp_ex e _ _ hw, h1, h2, k _ H0 H (Ext.refl e) (.bl _)⟩) hm ha hb
theorem gt_notInD (hu : X.A.units + 65 < cLine) (hm : behindInMarks .NotIn b = false) (ha : GD X B Γ S a d) (hb : GD X B Γ S b (.list ds)) (h1 : SeqAt.shaped d = true) (h2 : SeqAt.shaped (.list ds) = true) : GT X B Γ S (.Compare a [.NotIn] [b] pos) (!ds.any fun z => PyData.eqv z d) :=
  gt_cmp (op_notInD hu) (fun H0 H v w e hv hw Q k => ⟨d, ds, dp_ex e _ _ hv, dp_ex e _ _ hw, h1, h2, k _ H0 H (Ext.refl e) (.bl _)⟩) hm ha hb
def repD (ds : List PyData) (k : Int) : List PyData := (List.replicate k.toNat ds).flatten
theorem dps_rep {K : PySem.W.Frag} {H : Hp} {vs : List V} (h : DpAll K H vs ds) : ∀ n : Nat, DpAll K H (List.replicate n vs).flatten (List.replicate n ds).flatten
  | 0 => .nil
  | n + 1 => by
    rw [List.replicate_succ, List.replicate_succ, List.flatten_cons, List.flatten_cons]
    exact dps_app h (dps_rep h n)
/-- a new list, so many times -/
theorem gd_rep (ha : GF X B Γ S a ds) (hb : ∀ S', GD X B Γ S' b (.int k)) (hk : -(2 ^ 62) ≤ k ∧ k < 2 ^ 62) (hl : ds.length * k.toNat ≤ 100000) : GD X B Γ S (.BinOp a .Mult b pos) (.list (repD ds k)) := by
  have hb' : PE X b (fun σ H Q => ∃ r S', (∃ p, B.H p = none ∧ r = Sl.raw (.ref p) ∧ S' = (p, OV.lst ds) :: S) ∧ rd X.K B Γ S' (.dat (.int k)) σ H Q) := ⟨fun pins s σ H Q I ⟨r, S', _, z⟩ => (hb S').run pins s σ H Q I z⟩
  refine (pe_op op_rep (ha (fun _ _ _ => False)) hb').imp fun σ H Q ⟨H0, at0, q⟩ => ⟨H0, at0, fun r S' v H1 H' hp at1 e1 hv => ⟨r, S', hp, H1, at1, fun w H2 H'' at2 e2 hw => ?_⟩, fun _ _ _ _ z => z.elim⟩
  obtain ⟨p, hpB, hr, hS⟩ := hp
  subst hr hS
  have hv : (some (some v) : Option (Option V)) = some (some (.ref p)) := hv
  cases hv
  have hw := hw.toDp
  cases hw
  obtain ⟨_, vs, h1, h2⟩ := at2.sto.at_ p _ List.mem_cons_self
  refine ⟨p, k, vs, rfl, rfl, h1, by omega, by omega, by rw [dps_len h2]; exact Evl.sz_of hl, fun l hl' => ?_⟩
  have at3 : At X.K B H2 Γ S σ H'' := at2.within (Within.skip .refl)
  exact q _ _ _ (at3.ext (Ext.new at3.e2 hl')) ((e1.trans e2).trans (Ex.new (free0 at3.e2 hl'))) ⟨_, rfl, .lst (.inl (.inl upd_same)) (dps_ex (Ex.new (free0 at3.e2 hl')) _ _ (dps_rep h2 _))⟩
end
section
variable {X : Cx} {B : Bs} {Γ : Gam} {S F : Sto} {e : Expr} {ex : Value → Gam → Sto → Prop} {Pe : Sl → Sto → Prop}
/-- what an expression made is new -/
theorem ge_new (hk : ∀ q ∈ B.ks, q ∈ keys F) (h : GE X B Γ S e Pe ex) : GE X B Γ S e (fun r S' => Pe r S' ∧ ∀ S1, S' = S1 ++ F → ∀ e ∈ S1, B.H e.1 = none) ex := h.imp fun σ H Q ⟨H0, at0, k, kx⟩ => ⟨H0, at0, fun r S' v H1 H' hp at1 e1 hv => k r S' v H1 H' ⟨hp, fun S1 hS e he => by
  subst hS
  have nd := at1.sto.nd
  rw [show keys (S1 ++ F) = keys S1 ++ keys F from List.map_append] at nd
  rcases at1.wr e.1 (by rw [show keys (S1 ++ F) = keys S1 ++ keys F from List.map_append]; exact List.mem_append_left _ (List.mem_map.mpr ⟨e, he, rfl⟩)) with h | h
  · exact absurd rfl ((List.nodup_append.mp nd).2.2 e.1 (List.mem_map.mpr ⟨e, he, rfl⟩) e.1 (hk _ h))
  · exact h⟩ at1 e1 hv, kx⟩
end
/-! ### a comprehension with a test, over a list that is data -/
section
variable {X : Cx} {B : Bs} {Γ : Gam} {S : Sto} {o elt tst : Expr} {ds : List PyData} {x : Str} {px lp : Pos} {j : Nat} {scope : Scope} {P : Po}
def tfL (K : PySem.W.Frag) (B : Bs) (Γ : Gam) (S : Sto) (ds : List PyData) (j : Nat) (kp : Nat → Bool) : TT := fun σ H Q => ∃ (i : Nat) (D : Addr) (acc : List PyData) (d : PyData), ds[i]? = some d ∧ rt K B ((wipeG Γ [j]).set j (.dat d)) ((D, .lst acc) :: S) (kp i) σ H Q
def fltD (n : Nat) (kp : Nat → Bool) (g : Nat → PyData) : List PyData := ((List.range n).filter kp).map g
theorem fltD_yes {n : Nat} {kp : Nat → Bool} {g : Nat → PyData} (h : kp n = true) : fltD (n + 1) kp g = fltD n kp g ++ [g n] := by
  unfold fltD
  rw [List.range_succ, List.filter_append, List.map_append, List.filter_cons, if_pos h]; rfl
theorem fltD_no {n : Nat} {kp : Nat → Bool} {g : Nat → PyData} (h : kp n = false) : fltD (n + 1) kp g = fltD n kp g := by
  unfold fltD
  rw [List.range_succ, List.filter_append, List.map_append, List.filter_cons, if_neg (by rw [h]; decide)]
  exact List.append_nil _
theorem fltD_len (n : Nat) (kp : Nat → Bool) (g : Nat → PyData) : (fltD n kp g).length ≤ n := by
  unfold fltD
  rw [List.length_map]
  exact Nat.le_trans (List.length_filter_le _ _) (by rw [List.length_range]; exact Nat.le_refl _)
theorem lcF_go (kp : Nat → Bool) (g : Nat → PyData) (hl : ds.length ≤ 100000) {σ : St} {H : Hp} {Q : VK} (h : rd X.K B Γ S (.dat (.list (fltD ds.length kp g))) σ H Q) : tLc (iList X.K (rd X.K B Γ S (.dat (.list ds)))) (gName j) (tfL X.K B Γ S ds j kp) (teL X.K B Γ S ds j g) [j] σ H Q := by
  obtain ⟨H0, at0, k⟩ := h
  refine ⟨H0, at0, fun v H1 H' at1 e1 hv => ?_⟩
  have hv := hv.toDp
  cases hv with
  | @lst q vs _ hq ha =>
    have hln := dps_len ha
    refine ⟨q, rfl, ⟨vs, ex_l at1.e2 hq⟩, fun D hD => ?_⟩
    have hB : B.H D = none := none_B at1.fra hD
    refine L2.lc_list (K := X.K) (a := q) (xs := vs) (g := gName j) (tt := tfL X.K B Γ S ds j kp) (te := teL X.K B Γ S ds j g) (vs := [j]) (σ := σ) (D := D) (Qd := fun H => Q (.ref D) H) (fun i H => i ≤ vs.length ∧ ∃ H0, At X.K B H0 Γ ((D, .lst (fltD i kp g)) :: S) σ H ∧ Ex H1 H0) ⟨Nat.zero_le _, H1, at1.own hD ⟨[], upd_same, .nil⟩, Ex.refl _⟩ (fun i H _ pv => ?_) (fun i y H hi pv => ?_) fun H pv => ?_
    · obtain ⟨_, G, at2, e2⟩ := pv
      exact ex_l at2.e2 (ex_l e2 hq)
    · obtain ⟨_, G, at2, e2⟩ := pv
      have hlt : i < vs.length := (List.getElem?_eq_some_iff.mp hi).1
      obtain ⟨d, h1, h2⟩ := dps_getV ha hi
      refine ⟨wipe_set1, ?_⟩
      refine ⟨i, D, _, d, h1, G, (at2.wipe [j]).set j (s := .dat d) ⟨_, rfl, dp_ex e2 _ _ h2⟩, fun H2 H'' at3 e3 => ?_⟩
      cases hk : kp i with
      | false =>
        rw [if_neg Bool.false_ne_true]
        refine ⟨hlt, H2, ?_, e2.trans e3⟩
        rw [fltD_no hk]
        exact at2.frame at3 e3
      | true =>
        rw [if_pos rfl]
        refine ⟨i, D, _, d, h1, H2, at3, fun v H3 H''' at4 e4 hv => ?_⟩
        obtain ⟨_, acc, h5, h6⟩ := at4.sto.at_ D _ List.mem_cons_self
        have hfl := fltD_len i kp g
        refine ⟨acc, h5, ?_, hlt, H3, ?_, (e2.trans e3).trans e4⟩
        · rw [dps_len h6]; exact Evl.sz_lt (by omega)
        · have a4 := at2.frame at4 (e3.trans e4)
          have a5 := a4.write (n := 0) (ow := .lst (fltD i kp g ++ [g i])) (o := .lst (acc ++ [v])) rfl ⟨_, upd_same, dps_app h6 (.cons hv.toDp .nil)⟩
          rw [fltD_yes hk]
          exact a5
    · obtain ⟨_, G, at2, e2⟩ := pv
      obtain ⟨G', e3, at3, hd⟩ := at2.freeze (n := 0) rfl hB
      rw [hln] at hd
      exact k _ G' H at3 ((e1.trans e2).trans e3) ⟨_, rfl, hd⟩
/-- y = [elt for x in a list that is data if test] -/
theorem gs_setLcF {spos py : Pos} {y : Str} (i : Nat) (kp : Nat → Bool) (g : Nat → PyData) (hy : X.N[i]? = some y) (hyl : X.env.scope.names.lookup y = some .local) (hsw : swapsWith (.ListComp elt [⟨.Name x px, o, [tst], 0⟩] scope lp) (some (.Name y py)) spos.line X.env = pure true) (hc : X.calm = true) (hN : X.N.Nodup) (ho : GD X B Γ S o (.list ds)) (hl : ds.length ≤ 100000) (ok : BlkOk X.N X.env.scope scope [(x, j)])
    (htg : ∀ (s : Shared) (H : Hp) (C : Addr) (cl : List (Str × Addr)) (fp : List Addr), PG (X.blk s H scope (compEnvC scope cl C X.env) fp) (.Name x px) (gName j))
    (hts : ∀ (i : Nat) (D : Addr) (acc : List PyData) (d : PyData), ds[i]? = some d → ∀ (s : Shared) (H : Hp) (C : Addr) (cl : List (Str × Addr)) (fp : List Addr), GT (X.blk s H scope (compEnvC scope cl C X.env) fp) B ((wipeG Γ [j]).set j (.dat d)) ((D, .lst acc) :: S) tst (kp i))
    (hel : ∀ (i : Nat) (D : Addr) (acc : List PyData) (d : PyData), ds[i]? = some d → ∀ (s : Shared) (H : Hp) (C : Addr) (cl : List (Str × Addr)) (fp : List Addr), GD (X.blk s H scope (compEnvC scope cl C X.env) fp) B ((wipeG Γ [j]).set j (.dat d)) ((D, .lst acc) :: S) elt (g i))
    (q : P.N (Γ.set i (.dat (.list (fltD ds.length kp g)))) S)
    (hfs : ∀ y, foldedSetIterable o X.env y = pure y := by intro _; rfl) : GS X B Γ S (.Assign [.Name y py] (.ListComp elt [⟨.Name x px, o, [tst], 0⟩] scope lp) spos) P :=
  (ps_setLc (own := [(x, j)]) hc hN hy hyl hsw (pi_list ho) ok htg (fun s H C cl fp => pts_one (t := tfL X.K B Γ S ds j kp) ⟨fun pins s' σ H' Q Iv ⟨i, D, acc, d, h1, z⟩ => (hts i D acc d h1 s H C cl fp).run pins s' σ H' Q Iv z⟩) (te := teL X.K B Γ S ds j g) (fun s H C cl fp => ⟨fun pins s' σ H' Q Iv ⟨i, D, acc, d, h1, z⟩ => (hel i D acc d h1 s H C cl fp).run pins s' σ H' Q Iv z⟩) hfs).imp fun D σ H ⟨H0, at0, z⟩ => lcF_go kp g hl ⟨H0, at0, fun v H0' H' at1 e1 hv => z.nx _ _ H0' _ H' q (at1.set i hv)⟩
end
end G

set_option Elab.async false
set_option linter.all false
set_option maxRecDepth 100000
set_option maxHeartbeats 4000000
/-! quiet expressions (every object stays), and all(), any() of a generator expression over a list whose element is quiet -/
namespace GQ
open PySem PySem.Spec PyProof.Rows L2 G
/-! ### what stays -/
def Up (Φ : Heap → Prop) : Prop := ∀ g h : Heap, (∀ b o, g.get? b = some o → h.get? b = some o) → Φ g → Φ h
theorem kp_id (s : Shared) : Keeps s s := ⟨s.heap, s.toks, by cases s; rfl, fun _ _ e => e⟩
theorem kp_tok (s : Shared) (t : Nat) : Keeps s { s with toks := t } := ⟨s.heap, t, rfl, fun _ _ e => e⟩
theorem kp_tr {a b c : Shared} (x : Keeps a b) (y : Keeps b c) : Keeps a c := by
  obtain ⟨h1, t1, rfl, k1⟩ := x
  obtain ⟨h2, t2, rfl, k2⟩ := y
  exact ⟨h2, t2, rfl, fun d o e => k2 d o (k1 d o e)⟩
theorem kp_heap {a b : Shared} (x : Keeps a b) : ∀ d o, a.heap.get? d = some o → b.heap.get? d = some o := by
  obtain ⟨h1, t1, rfl, k1⟩ := x
  exact k1
theorem Up.kp {Φ : Heap → Prop} (u : Up Φ) {s s' : Shared} (k : Keeps s s') (h : Φ s.heap) : Φ s'.heap := u _ _ (kp_heap k) h
/-- a tuple of the values xs at a -/
def TupH (h : Heap) (a : Addr) (xs : List V) : Prop := xs.length ≤ sizeLine ∧ ∃ its : List Value, Vals xs its ∧ IsTup h a its.toArray
theorem tupH_up {a : Addr} {xs : List V} : Up fun h => TupH h a xs := fun g h k ⟨z, its, r, p⟩ => ⟨z, its, r, p.keeps k⟩
/-- the module's facts at what holds Φ -/
structure QC (K : PySem.W.Frag) (mg : Str → Option Value) (base : Heap) (env : Env) (Φ : Heap → Prop) : Prop where
  up : Up Φ
  kind : env.scope.kind = .function
  glob : env.globals = mainGlobals
  mod : Mod K mg base
  bs : ∀ h, Φ h → ∀ b o, base.get? b = some o → h.get? b = some o
section
variable {P : Program} {w : World} {A : Around} {Φ : Heap → Prop} {env : Env} {a b e : Expr} {pos : Pos} {x y z : V} {k k1 k2 : Bool} {n : Str}
/-- e is x, wherever Φ holds of the heap, and nothing is changed -/
def QV (P : Program) (w : World) (A : Around) (Φ : Heap → Prop) (env : Env) (e : Expr) (x : V) : Prop :=
  ∀ (E : Value → Shared → Prop) (s : Shared), Φ s.heap → wpAny (model P w) A (eval e env) (fun u s' => RelV x u ∧ Keeps s s') E s
def QT (P : Program) (w : World) (A : Around) (Φ : Heap → Prop) (env : Env) (e : Expr) (k : Bool) : Prop :=
  ∀ (E : Value → Shared → Prop) (s : Shared), Φ s.heap → wpAny (model P w) A (isTrue e env (eval e env)) (fun c s' => c = k ∧ Keeps s s') E s
def QW (P : Program) (w : World) (A : Around) (Φ : Heap → Prop) (env : Env) (e : Expr) (k : Bool) : Prop :=
  ∀ (whole : Sem Value) (E : Value → Shared → Prop) (s : Shared), Φ s.heap → wpAny (model P w) A (isTrue e env whole) (fun c s' => c = k ∧ Keeps s s') E s
/-- an operation of two values -/
def OpQ (P : Program) (w : World) (A : Around) (Φ : Heap → Prop) (f : Value → Value → Sem Value) (x y z : V) : Prop :=
  ∀ (E : Value → Shared → Prop) (v u : Value) (s : Shared), Φ s.heap → RelV x v → RelV y u → wpAny (model P w) A (f v u) (fun c s' => RelV z c ∧ Keeps s s') E s
theorem q_two (up : Up Φ) (ha : QV P w A Φ env a x) (hb : QV P w A Φ env b y) {E : Value → Shared → Prop} {s : Shared} (h : Φ s.heap) {f : Value → Value → Sem Value} {Q : Value → Shared → Prop}
    (hf : ∀ v u s', RelV x v → RelV y u → Keeps s s' → Φ s'.heap → wpAny (model P w) A (f v u) Q E s') :
    wpAny (model P w) A (eval a env) (fun v s1 => wpAny (model P w) A (eval b env) (fun u s2 => wpAny (model P w) A (f v u) Q E s2) E s1) E s :=
  thn (ha E s h) fun v s1 ⟨r1, k1⟩ => thn (hb E s1 (up.kp k1 h)) fun u s2 ⟨r2, k2⟩ => hf v u s2 r1 r2 (kp_tr k1 k2) (up.kp (kp_tr k1 k2) h)
/-! ### names, constants -/
theorem qv_loc {p : Pos} (C : env.scope.kind = .function) (hl : env.kindOf n = some .local) (hv : ∀ h, Φ h → ∃ m u, h.Ns env.locals m ∧ m n = some u ∧ RelV x u) (hd : (n == ("__debug__" : Str)) = false := by decide) : QV P w A Φ env (.Name n p) x := by
  intro E s h
  obtain ⟨m, u, hn, hm, r⟩ := hv _ h
  exact wpAny_Name (wpAny_loadName_local C hl hn hm ⟨r, kp_id s⟩) hd
theorem qv_free {p : Pos} {c : Addr} (C : env.scope.kind = .function) (hl : env.kindOf n = some .free) (hc : env.cells.lookup n = some c) (hv : ∀ h, Φ h → ∃ u, h.IsCell c (some u) ∧ RelV x u) (hd : (n == ("__debug__" : Str)) = false := by decide)
    (hcd : (n == ("__classdict__" : Str)) = false := by decide) : QV P w A Φ env (.Name n p) x := by
  intro E s h
  obtain ⟨u, hi, r⟩ := hv _ h
  exact wpAny_Name (wpAny_loadName_free C hl hc hi ⟨r, kp_id s⟩ hcd) hd
theorem q_glob {K : PySem.W.Frag} {mg : Str → Option Value} {base : Heap} {p : Pos} {u : Value} {Q : Value → Shared → Prop} {E : Value → Shared → Prop} {s : Shared} (C : QC K mg base env Φ) (hg : env.kindOf n = some .globalImplicit) (hm : mg n = some u) (h : Φ s.heap) (q : Q u s)
    (hd : (n == ("__debug__" : Str)) = false := by decide) : wpAny (model P w) A (eval (.Name n p) env) Q E s :=
  Calls.Name_function_global C.kind hg (Calls.loadGlobal_global (by rw [C.glob]; exact C.mod.glob.keeps (C.bs _ h)) hm q) hd
theorem qv_glob {K : PySem.W.Frag} {mg : Str → Option Value} {base : Heap} {p : Pos} {u : Value} (C : QC K mg base env Φ) (hg : env.kindOf n = some .globalImplicit) (hm : mg n = some u) (r : RelV x u)
    (hd : (n == ("__debug__" : Str)) = false := by decide) : QV P w A Φ env (.Name n p) x := fun E s h => q_glob C hg hm h ⟨r, kp_id s⟩ hd
theorem qv_int {i : Int} {j : Nat} {p : Pos} : QV P w A Φ env (.Constant (.int i) j p) (.int i) := fun E s h => wpAny_Constant_int ⟨⟨_, rfl⟩, kp_tok _ _⟩
theorem qv_str {i : Str} {j : Nat} {p : Pos} : QV P w A Φ env (.Constant (.str i) j p) (.str i) := fun E s h => Calls.Constant_str ⟨⟨_, rfl⟩, kp_tok _ _⟩
theorem qv_bl {i : Bool} {j : Nat} {p : Pos} : QV P w A Φ env (.Constant (.bool i) j p) (.bl i) := fun E s h => Constant_bool ⟨rfl, kp_id _⟩
/-! ### subscripts of tuples, operators -/
theorem qv_ix {t : Addr} {xs : List V} {i : Int} (up : Up Φ) (ho : QV P w A Φ env a (.ref t)) (hi : QV P w A Φ env b (.int i)) (ht : ∀ h, Φ h → TupH h t xs) (q : atI xs i = some z) (hs : PlainIx b := by exact fun _ _ => rfl) : QV P w A Φ env (.Subscript a b pos) z := by
  intro E s h
  refine Subscript_ (q_two up ho hi h fun v u s' rv ru k h' => ?_)
  cases rv
  obtain ⟨tk, rfl⟩ := ru
  obtain ⟨hz, its, r, pl⟩ := ht _ h'
  obtain ⟨j, h1, h2, h3, h4, h5⟩ := atI_get q
  obtain ⟨u, eu, ru⟩ := r.get h2
  have hl := r.length
  have hn := line63
  exact subscriptTail_builtinR (x := u) pl.typeIs slot_tuple_getitem.lookup
    (getItem_tuple (j := j) (Q := fun c s'' => c = u ∧ (RelV z c ∧ Keeps s s'')) pl (by omega) (by omega) (by rw [List.size_toArray, ← hl]; exact h1) (by simpa using eu) ⟨rfl, ru, k⟩) (hs _ _)
theorem oq_in {t : Addr} {xs : List V} (fx : flatV x = true) (fs : xs.all flatV = true) (ht : ∀ h, Φ h → TupH h t xs) : OpQ P w A Φ (compareOp .In) x (.ref t) (.bl (inV x xs)) := by
  intro E v u s h rv ru
  cases ru
  obtain ⟨hz, its, r, pl⟩ := ht _ h
  refine SeqAt.in_tupleAt (eqU x) pl (fun y hy => mem_eqAt rv fx r fs y (by simpa using hy)) ⟨?_, kp_id s⟩
  rw [show its.toArray.any (eqU x) = its.any (eqU x) by simp, any_eqU r fs]
  rfl
theorem oq_eqI {i j : Int} : OpQ P w A Φ (compareOp .Eq) (.int i) (.int j) (.bl (i == j)) := by
  intro E v u s h rv ru
  obtain ⟨t, rfl⟩ := rv
  obtain ⟨t', rfl⟩ := ru
  exact PyProof.Rows.eq_int ⟨rfl, kp_id s⟩
theorem oq_neS {i j : Str} : OpQ P w A Φ (compareOp .NotEq) (.str i) (.str j) (.bl (i != j)) := by
  intro E v u s h rv ru
  obtain ⟨t, rfl⟩ := rv
  obtain ⟨t', rfl⟩ := ru
  exact PyProof.Rows.ne_str ⟨rfl, kp_id s⟩
theorem qv_cmp {op : CmpOp} (up : Up Φ) (ho : OpQ P w A Φ (compareOp op) x y z) (ha : QV P w A Φ env a x) (hb : QV P w A Φ env b y) (hm : behindInMarks op b = false) : QV P w A Φ env (.Compare a [op] [b] pos) z := fun E s h =>
  wpAny_Compare1 (q_two up ha hb h fun v u s' rv ru kk h' => thn (ho E v u s' h' rv ru) fun c s'' ⟨rc, k2⟩ => ⟨rc, kp_tr kk k2⟩) hm
theorem qt_cmp {op : CmpOp} (up : Up Φ) (ho : OpQ P w A Φ (compareOp op) x y (.bl k)) (ha : QV P w A Φ env a x) (hb : QV P w A Φ env b y) (hm : behindInMarks op b = false) : QT P w A Φ env (.Compare a [op] [b] pos) k := fun E s h => by
  refine wpAny_isTrue_Compare1 (thn (ha E s h) fun v s1 ⟨r1, q1⟩ => thn (hb E s1 (up.kp q1 h)) fun u s2 ⟨r2, q2⟩ => thn (ho E v u s2 (up.kp (kp_tr q1 q2) h) r1 r2) fun c s3 ⟨r3, q3⟩ => ?_) hm
  cases r3
  exact wpAny_truthy_bool ⟨rfl, kp_tr (kp_tr q1 q2) q3⟩
/-! ### and -/
theorem qv_one {op : BoolOp} (h : QV P w A Φ env a x) : QV P w A Φ env (.BoolOp op [a] pos) x := fun E s q => BoolOp_one (h E s q)
theorem qv_and {rest : List Expr} (up : Up Φ) (ha : QV P w A Φ env a (.bl k1)) (hb : k1 = true → QV P w A Φ env (.BoolOp .And (b :: rest) pos) (.bl k2)) : QV P w A Φ env (.BoolOp .And (a :: b :: rest) pos) (.bl (k1 && k2)) := fun E s h => by
  refine BoolOp_and (thn (ha E s h) fun v s1 ⟨r1, q1⟩ => ?_)
  cases r1
  refine wpAny_truthy_bool ?_
  cases k1 with
  | false => exact ⟨rfl, q1⟩
  | true => exact thn (hb rfl E s1 (up.kp q1 h)) fun c s2 ⟨r2, q2⟩ => ⟨r2, kp_tr q1 q2⟩
theorem qw_and1 (ha : QT P w A Φ env a k) : QW P w A Φ env (.BoolOp .And [a] pos) k := fun wh E s h => by
  refine isTrue_and (thn (ha E s h) fun c s1 ⟨r1, q1⟩ => ?_)
  subst r1
  cases c with
  | true => exact isTrue_and_nil ⟨rfl, q1⟩
  | false => exact ⟨rfl, q1⟩
theorem qw_and {rest : List Expr} (up : Up Φ) (ha : QT P w A Φ env a k1) (hb : k1 = true → QW P w A Φ env (.BoolOp .And (b :: rest) pos) k2) : QW P w A Φ env (.BoolOp .And (a :: b :: rest) pos) (k1 && k2) := fun wh E s h => by
  refine isTrue_and (thn (ha E s h) fun c s1 ⟨r1, q1⟩ => ?_)
  subst r1
  cases c with
  | true => exact thn (hb rfl wh E s1 (up.kp q1 h)) fun d s2 ⟨r2, q2⟩ => ⟨r2, kp_tr q1 q2⟩
  | false => exact ⟨rfl, q1⟩
theorem qt_of (h : QW P w A Φ env a k) : QT P w A Φ env a k := h _
/-! ### statements -/
def FlowQ : Option V → Flow → Prop
  | none, f => f = .next
  | some x, f => ∃ u, f = .ret u ∧ RelV x u
def QS (P : Program) (w : World) (A : Around) (Φ : Heap → Prop) (env : Env) (st : Stmt) (o : Option V) : Prop :=
  ∀ (E : Value → Shared → Prop) (s : Shared), Φ s.heap → wpAny (model P w) A (exec st env) (fun f s' => FlowQ o f ∧ Keeps s s') E s
def QSs (P : Program) (w : World) (A : Around) (Φ : Heap → Prop) (env : Env) (sts : List Stmt) (o : Option V) : Prop :=
  ∀ (E : Value → Shared → Prop) (s : Shared), Φ s.heap → wpAny (model P w) A (execs sts env) (fun f s' => FlowQ o f ∧ Keeps s s') E s
variable {st : Stmt} {rest : List Stmt} {o : Option V}
theorem qss_nil : QSs P w A Φ env [] none := fun E s h => wpAny_execs_nil ⟨rfl, kp_id s⟩
theorem qss_go (up : Up Φ) (h1 : QS P w A Φ env st none) (h2 : QSs P w A Φ env rest o) : QSs P w A Φ env (st :: rest) o := fun E s h => by
  refine wpAny_execs_cons (thn (h1 E s h) fun f s1 ⟨r1, q1⟩ => ?_)
  cases r1
  exact thn (h2 E s1 (up.kp q1 h)) fun g s2 ⟨r2, q2⟩ => ⟨r2, kp_tr q1 q2⟩
theorem qss_end (h1 : QS P w A Φ env st (some x)) : QSs P w A Φ env (st :: rest) (some x) := fun E s h => by
  refine wpAny_execs_cons (thn (h1 E s h) fun f s1 ⟨⟨u, e, r⟩, q1⟩ => ?_)
  subst e
  exact ⟨⟨u, rfl, r⟩, q1⟩
theorem qs_ret (he : QV P w A Φ env e x) : QS P w A Φ env (.Return (some e) pos) (some x) := fun E s h => wpAny_Return_some (thn (he E s h) fun u s1 ⟨r, q⟩ => ⟨⟨u, rfl, r⟩, q⟩)
theorem qs_if {t u : List Stmt} (up : Up Φ) (hc : QT P w A Φ env e k) (h1 : k = true → QSs P w A Φ env t o) (h2 : k = false → QSs P w A Φ env u o) : QS P w A Φ env (.If e t u pos) o := fun E s h => by
  refine wpAny_If (thn (hc E s h) fun c s1 ⟨r1, q1⟩ => ?_)
  subst r1
  cases c with
  | true => exact thn (h1 rfl E s1 (up.kp q1 h)) fun g s2 ⟨r2, q2⟩ => ⟨r2, kp_tr q1 q2⟩
  | false => exact thn (h2 rfl E s1 (up.kp q1 h)) fun g s2 ⟨r2, q2⟩ => ⟨r2, kp_tr q1 q2⟩
/-- an if that returns, or goes on -/
theorem qss_if {t : List Stmt} (up : Up Φ) (hc : QT P w A Φ env e k) (h1 : k = true → QSs P w A Φ env t (some x)) (h2 : k = false → QSs P w A Φ env rest (some x)) : QSs P w A Φ env (.If e t [] pos :: rest) (some x) := by
  cases k with
  | true => exact qss_end (qs_if up hc h1 fun z => nomatch z)
  | false => exact qss_go up (qs_if up hc (fun z => nomatch z) fun _ => qss_nil) (h2 rfl)
/-! ### a def of the text, called -/
/-- the call of the def at f with the values vs gives x and changes nothing -/
def FnQ (P : Program) (w : World) (A : Around) (f : Addr) (vs : List V) (x : V) (s : Shared) : Prop :=
  ∀ us, Vals vs us → codeAny (model P w) A (.call (.ref f) ⟨us, []⟩) (fun r s' => ∃ u, r = .ok (.ret u) ∧ RelV x u ∧ Keeps s s') s
theorem fnq_of {K : PySem.W.Frag} {mg : Str → Option Value} {base : Heap} {nm qual : Str} {d : Stmt} {f : Addr} {fd : FuncData} {N ps : List Str} {vs : List V} {s : Shared} (M : Mod K mg base) (F : Fun K nm qual d f fd) (S : FnScope N ps (defScope d)) (bd : Binds K fd ps [])
    (hroom : A.depth < recursionLimit) (hb : ∀ b o, base.get? b = some o → s.heap.get? b = some o) (hl : vs.length = ps.length) (hloc : ∀ n ∈ ps, (defScope d).names.lookup n = some .local)
    (body : ∀ (env : Env) (Ψ : Heap → Prop), QC K mg base env Ψ → env.scope = defScope d → (∀ h, Ψ h → ∀ b o, s.heap.get? b = some o → h.get? b = some o) → (∀ (i : Nat) (n : Str) (v : V), ps[i]? = some n → vs[i]? = some v → ∀ h, Ψ h → ∃ m u, h.Ns env.locals m ∧ m n = some u ∧ RelV v u) → QSs P w (A.deeper env) Ψ env (defBody d) (some x)) : FnQ P w A f vs x s := by
  intro us r
  obtain ⟨oc, od, kV, doc, pm, an, cdv, ct, osl, rfl, lk, hcd⟩ := F.ex
  have KX : K.In s.heap := M.kin.keeps hb
  have lim : s.heap.NoLimit := M.nolimit.keeps hb
  have hu : us.length = ps.length := by rw [← r.length, hl]
  have ndP : ps.Nodup := by rw [← S.pre]; exact S.nd.sublist (List.take_sublist _ _)
  have bb := bd s us KX (by rw [List.append_nil]; exact hu)
  rw [List.append_nil] at bb
  refine codeAny_call_function hroom (KX _ _ lk) rfl S.co S.gen rfl (PySem.W.codeRec_of KX hcd) (bb _ _ _ _ ?_)
  refine wpAny_newFunctionEnv_cells S.kind (fun y hy => .inl (hloc y.1 (List.of_mem_zip hy).1)) fun env he s1 c => ?_
  subst he
  obtain ⟨h1, tk, rfl, hk⟩ := c.done
  refine ⟨lim.keeps hk, codeAny_func ?_⟩
  refine thn (body _ (fun h => (∀ b o, s.heap.get? b = some o → h.get? b = some o) ∧ h.Ns s.heap.objs.size (bindL (envOfC qual (defScope d) s.heap.objs.size f cdv).kindOf (ps.zip us) fun _ => none)) ?_ rfl (fun h q => q.1) ?_ _ _ ⟨hk, c.toInCall.ns⟩) fun fl s' q => ?_
  · exact ⟨fun g h kk q => ⟨fun b o e => kk b o (q.1 b o e), q.2.keeps kk⟩, S.kind, rfl, M, fun h q b o e => q.1 b o (hb b o e)⟩
  · intro i n v hi hv h q
    obtain ⟨u, eu, ru⟩ := r.get hv
    exact ⟨_, u, q.2, bindL_get ndP hi eu (hloc n (List.mem_of_getElem? hi)), ru⟩
  · obtain ⟨⟨u, e, ru⟩, kk⟩ := q
    subst e
    exact ⟨u, rfl, ru, kp_tr ⟨h1, tk, rfl, hk⟩ kk⟩
/-- the arguments -/
def QA (P : Program) (w : World) (A : Around) (Φ : Heap → Prop) (env : Env) (es : List Expr) (vs : List V) : Prop :=
  ∀ (p : Pos) (E : Value → Shared → Prop) (s : Shared), Φ s.heap → wpAny (model P w) A (spliced (backTo p (starEach es env))) (fun us s' => Vals vs us ∧ Keeps s s') E s
theorem qa_nil : QA P w A Φ env [] [] := fun p E s h => Calls.spliced_nil ⟨.nil, kp_id s⟩
theorem qa_cons {es : List Expr} {vs : List V} (up : Up Φ) (he : QV P w A Φ env e x) (ht : QA P w A Φ env es vs) (hs : starEach (e :: es) env = (false, eval e env) :: starEach es env := by rfl) : QA P w A Φ env (e :: es) (x :: vs) := by
  intro p E s h
  rw [hs]
  show wpAny _ _ (spliced ((false, eval e env) :: backTo p (starEach es env))) _ _ s
  exact Calls.spliced_cons (thn (he E s h) fun u s1 ⟨r1, q1⟩ => thn (ht p E s1 (up.kp q1 h)) fun us s2 ⟨r2, q2⟩ => ⟨.cons r1 r2, kp_tr q1 q2⟩)
theorem qv_call {K : PySem.W.Frag} {mg : Str → Option Value} {base : Heap} {es : List Expr} {vs : List V} {f : Addr} {p : Pos} (C : QC K mg base env Φ) (hg : env.kindOf n = some .globalImplicit) (hm : mg n = some (.ref f)) (hk : PySem.W.keepIn K (.ref f) = true) (ha : QA P w A Φ env (e :: es) vs)
    (fn : ∀ s, Φ s.heap → FnQ P w A f vs x s) (hdb : (n == ("__debug__" : Str)) = false := by decide) (he : starEach (e :: es) env = (false, eval e env) :: starEach es env := by rfl) (hpl : (backTo pos (starEach es env)).any (·.1) = false := by rfl) :
    QV P w A Φ env (.Call (.Name n p) (e :: es) [] pos) x := by
  intro E s h
  refine wpAny_Call_Name_kw (q_glob C hg hm h ?_ hdb)
  refine PySem.W.callWith_K (h₀ := base) C.mod.kin hk (thn (ha pos E s h) fun us s1 ⟨r, q⟩ => ⟨C.mod.kin.keeps (C.bs _ (C.up.kp q h)), ?_⟩) he hpl
  refine wpAny_call (codeAny_mono (fn s1 (C.up.kp q h) us r) fun r' s2 hr => ?_)
  obtain ⟨u, rfl, ru, k2⟩ := hr
  exact ⟨ru, kp_tr q k2⟩
end
/-! ### a generator expression over a list -/
/-- the code object of the generator expression: new, or found in the table at T -/
theorem code_go {M : Model} {A : Around} {E : Value → Shared → Prop} {env : Env} {c T : Addr} {ps : Array Value} {gp : Pos} {qn : Str} {sc : Scope} {s : Shared} (hc : env.code = .ref c) (cd : PySem.W.CodeHd s.heap c T)
    (hT : s.heap.get? T = some { cls := .none, data := .fields ps }) (tr : TriplesOk ps.toList) :
    wpAny M A (genexprCode env gp qn sc) (fun _ s3 => ∃ g tk more, s3 = { s with heap := g, toks := tk } ∧ Heap.ExtBut T s.heap g ∧ s.heap.objs.size ≤ g.objs.size ∧ g.get? T = some { cls := .none, data := .fields (ps ++ more) } ∧ TriplesOk (ps ++ more).toList) E s := by
  cases hf : codeAmong gp ps.toList with
  | some cv => exact wpAny_genexprCode_hit hc (cd.code hT tr) hf ⟨s.heap, s.toks, #[], by cases s; rfl, Heap.ExtBut.refl _ _, Nat.le_refl _, by rw [Array.append_empty]; exact hT, by rw [Array.append_empty]; exact tr⟩
  | none =>
    refine wpAny_genexprCodeX hc (cd.code hT tr) (cd.tab hT) hf fun c' g tk hx hge hlt hco _ htab _ => ?_
    obtain ⟨_, _, _, _, _, _, _, _, _, _, _, _, _, _, _, _, _, _, _, htr, _⟩ := hco
    exact ⟨g, tk, _, rfl, hx, Nat.le_trans hge (Nat.le_of_lt hlt), htab.2, htr⟩
/-- the element is the test pb of the item's place, and changes nothing -/
structure EltQ (X : Cx) (sc : Scope) (n : Str) (elt : Expr) (T : Addr) (s1 : Shared) (xs : List V) (pb : Nat → Bool) : Prop where
  run : ∀ (cenv : Env) (A' : Around) (E' : Value → Shared → Prop) (i : Nat) (x : V) (u : Value) (s2 : Shared) (m2 : Str → Option Value), cenv.scope = sc → cenv.globals = X.env.globals → cenv.cells = cloFrom X.env.cells sc.names [] → A'.depth ≤ X.A.depth + 1 →
    xs[i]? = some x → RelV x u → s2.heap.Ns cenv.locals m2 → m2 n = some u → (∀ b o, b ≠ T → s1.heap.get? b = some o → s2.heap.get? b = some o) → wpAny (model X.prog X.w) A' (eval elt cenv) (fun y s3 => y = .bool (pb i) ∧ Keeps s2 s3) E' s2
section
variable {X : Cx} {pins : List (Addr × Obj)} {σ : L2.St} {H : Hp} {s : Shared}
/-- the generator g over k items, ready to be walked; H1: what was held ahead of it -/
def ReadyL (X : Cx) (pins : List (Addr × Obj)) (σ : L2.St) (H1 : Hp) (T : Addr) (k : Nat) (pb : Nat → Bool) (g : Addr) (s5 : Shared) : Prop :=
  ∃ (fp wr : List Addr) (G : Array GenState → Array GenState → Prop) (F : Nat → Value → Prop) (St : Nat → Shared → Prop), WalksS X.prog X.w X.A.in1 g fp wr G k F St ∧ St 0 s5 ∧ TruthOf X.prog X.w X.A.in1 F pb ∧
    ∀ s', Moved wr G s5 s' → ∃ H2, GxR.Tabbed T H1 H2 ∧ Inv X pins σ H2 s'
theorem gen_list {c T : Addr} {elt iter : Expr} {n : Str} {px gp : Pos} {sc : Scope} {pb : Nat → Bool} {te : TE} {k : Nat} {Q' : Value → Shared → Prop} {R : List V → Hp → Prop}
    (room : Room k X.A) (tb : GxR.TabB X.base X.mg c T) (code : X.env.code = .ref c) (S : GxR.GenS X.env sc n) (it : PE X iter te) (fold : ∀ v, genFold iter X.env v = pure v) (I : Inv X pins σ H s)
    (go : te σ H fun v H1 => ∃ q xs, v = .ref q ∧ SqL X.K H1 q xs ∧ GxR.TabG H1 T ∧ R xs H1) (el : ∀ xs H1 s1, Inv X pins σ H1 s1 → R xs H1 → EltQ X sc n elt T s1 xs pb)
    (fin : ∀ xs H1 g s5, R xs H1 → ReadyL X pins σ H1 T xs.length pb g s5 → Q' (.ref g) s5) :
    wpAny (model X.prog X.w) X.A (eval (.GeneratorExp elt [⟨.Name n px, iter, [], 0⟩] sc gp) X.env) Q' X.xe s := by
  refine wpAny_GeneratorExp_walksQD room.hd S.co (closure_ok S.free) S.cell S.dot S.loc S.kind room.depth ?_ fold
  refine thn (it.run pins s σ H _ I go) fun xv s1 ⟨v, H1, I1, r1, q1⟩ => ?_
  obtain ⟨q, xs, rfl, hq, ⟨ps, hT, tr⟩, hR⟩ := q1
  cases r1
  have EL := el xs H1 s1 I1 hR
  obtain ⟨its, rv, pl, hz⟩ := I1.list hq
  have hIL := pl.isList
  have hlen := rv.length
  have hqlt : q < s1.heap.objs.size := pl.lt
  have hTs : s1.heap.get? T = some { cls := .none, data := .fields ps } := I1.hok T _ hT
  have hTlt : T < s1.heap.objs.size := Heap.lt_size hTs
  have hqT : q ≠ T := fun z => by
    obtain ⟨o, e, _, _, d⟩ := hIL
    rw [z, hTs] at e
    cases e
    cases d
  refine wpAny_pyIter_list hIL ⟨I1.nolimit.push _, ?_⟩
  generalize hob : ({ cls := .type "list_iterator", data := .fields #[.ref q, .int 0 0] } : Obj) = ob
  have hit : (s1.heap.push ob).IsListIter s1.heap.objs.size q 0 := by
    subst hob
    exact ⟨_, Heap.get?_push_size _ rfl, rfl, rfl⟩
  have old : ∀ b o, s1.heap.get? b = some o → (s1.heap.push ob).get? b = some o := fun b o e => Heap.get?_push_of_some _ e
  refine thn (code_go (s := { s1 with heap := s1.heap.push ob }) code (tb.code.keeps fun b u e => old b u (I1.bk b u e)) (old _ _ hTs) tr) fun cv s3 ⟨g, tk, more, e3, hx, hsz, hT3, tr3⟩ => ?_
  subst e3
  have sz : (s1.heap.push ob).objs.size = s1.heap.objs.size + 1 := Heap.size_push ..
  have hsz : s1.heap.objs.size + 1 ≤ g.objs.size := by rw [← sz]; exact hsz
  have keep : ∀ b o, b ≠ T → s1.heap.get? b = some o → g.get? b = some o := fun b o hb e => hx b o hb (old b o e)
  have hcl : cStatics < s1.heap.objs.size := let ⟨_, hns, _⟩ := I1.nolimit; hns.lt
  have hcT : cStatics ≠ T := fun z => by
    obtain ⟨_, ⟨o', es, ep, ho, hd, _⟩, _⟩ := I1.nolimit
    rw [z, hTs] at ho
    cases ho
    cases hd
  obtain ⟨bm, bo, b1, b2, b3, b4, b5, b6, b7, b8⟩ := tb.bm
  refine wpAny_builtinsFor (m := X.mg) (by rw [I1.ok.glob]; exact ((I1.mod.glob.keeps I1.bk).push ob).extBut hx tb.gP) b1 b2 (keep _ _ b4 (I1.bk _ _ b5)) b6 b7 b8 ?_
  have hIL3 : g.IsList q its.toArray := by
    obtain ⟨o, e, r⟩ := hIL
    exact ⟨o, keep _ _ hqT e, r⟩
  have hit3 : g.IsListIter s1.heap.objs.size q 0 := hit.at fun u e => hx _ u (Nat.ne_of_gt hTlt) e
  have hval : ∀ (i : Nat) (u : Value), its.toArray[i]? = some u → ∃ x, xs[i]? = some x ∧ RelV x u := fun i u hu => by
    have hu2 : its[i]? = some u := by simpa using hu
    have hi := (List.getElem?_eq_some_iff.mp hu2).1
    obtain ⟨x, hxx⟩ : ∃ x, xs[i]? = some x := ⟨xs[i]'(by omega), List.getElem?_eq_getElem _⟩
    obtain ⟨u', e, r⟩ := rv.get hxx
    rw [hu2] at e
    cases e
    exact ⟨x, hxx, r⟩
  refine ⟨s1.heap.objs.size, [s1.heap.objs.size, q], [s1.heap.objs.size], its.toArray.size, fun i u => its.toArray[i]? = some u, fun i h => h.IsListIter s1.heap.objs.size q i ∧ h.IsList q its.toArray, fun _ => true, fun i y => y = .bool (pb i),
    rfl, fun A' hA => Walks.list hA _ _ (Nat.ne_of_lt hqlt) _, ⟨hit3, hIL3⟩, fun b hb => ?_, (I1.nolimit.push ob).extBut hx hcT, fun z => ?_, fun href hh => ?_, fun a h5 t5 gs hgb hag hsz5 hk5 W5 hat => ?_⟩
  · show b < g.objs.size
    simp only [List.mem_cons, List.not_mem_nil, or_false] at hb
    rcases hb with z | z
    · rw [z]; exact hsz
    · rw [z]; exact Nat.lt_trans hqlt hsz
  · simp only [List.mem_cons, List.not_mem_nil, or_false] at z
    rw [z] at hcl
    exact Nat.lt_irrefl _ hcl
  · refine ⟨fun A' E' i v s2 m2 hA _ _ hP hn hm hk => ?_, fun A' E' i v s2 m2 hA hD _ hP _ hn hm hk => ?_⟩
    · simp only [List.forIn_nil]
      exact wpAny_pure ⟨rfl, kp_id _⟩
    · obtain ⟨x, hxx, r⟩ := hval i v hP
      refine EL.run _ A' E' i x v s2 m2 rfl rfl rfl hD hxx r hn hm fun b o hb e => ?_
      have hb2 := Heap.lt_size e
      refine hk b (List.mem_range.mpr (Nat.lt_trans hb2 hsz)) (fun z => ?_) o (hh b o (keep b o hb e))
      simp only [List.mem_cons, List.not_mem_nil, or_false] at z
      rw [z] at hb2
      exact Nat.lt_irrefl _ hb2
  · simp only [GxR.passing_true, List.length_range] at W5
    have e5 : its.toArray.size = xs.length := by rw [List.size_toArray, hlen]
    rw [e5] at W5 hat
    refine fin xs H1 a _ hR ⟨_, _, _, _, _, W5.in4_1, hat, fun j y sj Qj Ej hy hQ => ?_, fun s' hm => ?_⟩
    · obtain ⟨i, hij, e⟩ := hy
      obtain ⟨hj, ej⟩ := List.getElem?_eq_some_iff.mp hij
      rw [List.getElem_range] at ej
      subst ej
      subst e
      exact wpAny_truthy_bool hQ
    · have stay : ∀ b u, s1.heap.get? b = some u → b ∉ g.objs.size :: [s1.heap.objs.size] := fun b u e hb => by
        have hl := Heap.lt_size e
        simp only [List.mem_cons, List.not_mem_nil, or_false] at hb
        rcases hb with z | z
        · have z' : b = g.objs.size := z
          rw [z'] at hl
          exact absurd (Nat.lt_trans hl hsz) (Nat.lt_irrefl _)
        · rw [z] at hl
          exact Nat.lt_irrefl _ hl
      have J := GxR.inv_tab (more := more) (h' := s'.heap) (g' := s'.gens) (d' := s'.drawn) (t' := s'.toks) I1 hT (fun b u hb e => hm.heap b u (stay b u e) (hk5 b u (keep b u hb e))) (hm.heap T _ (stay T _ hTs) (hk5 T _ hT3)) (AllBare.movedS (I1.bare.push hgb) hm)
      rw [GxR.sh_eta s1 s' hm.os] at J
      exact ⟨_, ⟨⟨_, upd_same, tr3⟩, fun b hb => upd_ne hb⟩, J⟩
end
section
variable {X : Cx} {B : Bs} {Γ : Gam} {S : Sto} {ds : List PyData} {pos : Pos}
/-- the slot at j holds the data list ds, or a list of one's own of them -/
theorem list_at {H0 H : Hp} {σ : L2.St} {j : Nat} {r : Sl} (at0 : At X.K B H0 Γ S σ H) (hj : Γ[j]? = some r) (hr : LSl S r ds) : ∃ q xs, σ[j]? = some (some (.ref q)) ∧ SqL X.K H q xs ∧ DpAll X.K H0 xs ds := by
  have z := at0.env.at_ j _ hj
  rcases hr with rfl | ⟨p, rfl, hp⟩
  · obtain ⟨v, h1, h2⟩ := z
    cases h2 with
    | @lst a xs _ hs ha => exact ⟨a, xs, h1, Evl.ex_l at0.e2 hs, ha⟩
  · obtain ⟨vs, h1, h2⟩ := (at0.sto.at_ p _ hp).2
    exact ⟨p, vs, z, .inl (.inl h1), h2⟩
theorem at_tab {H0 H H2 : Hp} {σ : L2.St} {t : Nat} {T : Addr} {ps : Array Value} (at0 : At X.K B H0 Γ S σ H) (ht : S[t]? = some (T, .ho (.tbl ps))) (h : GxR.Tabbed T H H2) : ∃ ps', TriplesOk ps'.toList ∧ At X.K B H0 Γ (S.set t (T, .ho (.tbl ps'))) σ H2 := by
  obtain ⟨⟨ps', h1, h2⟩, h3⟩ := h
  have e : H2 = upd H T (.tbl ps') := by
    funext b
    by_cases hb : b = T
    · rw [hb, upd_same, h1]
    · rw [upd_ne hb, h3 b hb]
  rw [e]
  exact ⟨ps', h2, at0.write ht upd_same⟩
def EltP (X : Cx) (B : Bs) (Γ : Gam) (S : Sto) (sc : Scope) (n : Str) (elt : Expr) (T : Addr) (ds : List PyData) (pb : Nat → Bool) : Prop :=
  ∀ (pins : List (Addr × Obj)) (σ : L2.St) (H H0 : Hp) (s : Shared) (xs : List V), Inv X pins σ H s → At X.K B H0 Γ S σ H → DpAll X.K H0 xs ds → EltQ X sc n elt T s xs pb
abbrev TabPost (S : Sto) (t : Nat) (T : Addr) (d : PyData) : Sl → Sto → Prop := fun r S' => r = .dat d ∧ ∃ ps', TriplesOk ps'.toList ∧ S' = S.set t (T, .ho (.tbl ps'))
theorem ge_all {c T : Addr} {elt iter : Expr} {n : Str} {px gp p : Pos} {sc : Scope} {pb : Nat → Bool} {k j t : Nat} {r : Sl} {ps : Array Value} {ex : Value → Gam → Sto → Prop} (room : Room k X.A) (hg : Gl X "all") (hm : X.mg "all" = none) (hv : bootBuiltins "all" = some (.builtin "all"))
    (tb : GxR.TabB X.base X.mg c T) (code : X.env.code = .ref c) (G : GxR.GenS X.env sc n) (it : PE X iter (tVar j)) (hj : Γ[j]? = some r) (hr : LSl S r ds) (ht : S[t]? = some (T, .ho (.tbl ps))) (tr : TriplesOk ps.toList) (el : EltP X B Γ S sc n elt T ds pb) (fold : ∀ v, genFold iter X.env v = pure v)
    (he : starEach [.GeneratorExp elt [⟨.Name n px, iter, [], 0⟩] sc gp] X.env = (false, eval (.GeneratorExp elt [⟨.Name n px, iter, [], 0⟩] sc gp) X.env) :: starEach [] X.env := by rfl) :
    GE X B Γ S (.Call (.Name "all" p) [.GeneratorExp elt [⟨.Name n px, iter, [], 0⟩] sc gp] [] pos) (TabPost S t T (.bool ((List.range ds.length).all pb))) ex := by
  refine ⟨fun pins s σ H Q I ⟨H0, at0, kk, _⟩ => ?_⟩
  obtain ⟨q, xs, hσ, hs, hd⟩ := list_at at0 hj hr
  have hT : H T = some (.tbl ps) := (at0.sto.at_ T _ (List.mem_of_getElem? ht)).2
  refine wpAny_Call_Name_kw (ld_blt I hg hm hv ?_)
  refine PyProof.Rows.callWith_builtin1 ?_ he (by rfl)
  rw [he]
  show wpAny _ _ (spliced ((false, eval (.GeneratorExp elt [⟨.Name n px, iter, [], 0⟩] sc gp) X.env) :: backTo pos (starEach [] X.env))) _ _ s
  refine Calls.spliced_cons (gen_list (pb := pb) (R := fun ys H1 => ys = xs ∧ H1 = H) room tb code G it fold I ⟨_, hσ, q, xs, rfl, hs, ⟨ps, hT, tr⟩, rfl, rfl⟩ (fun ys H1 s1 I1 ⟨e1, e2⟩ => ?_) fun ys H1 g s5 ⟨e1, e2⟩ rdy => ?_)
  · subst e1 e2
    exact el pins σ _ H0 s1 _ I1 at0 hd
  · subst e1 e2
    obtain ⟨fp, wr, G, F, St, W, hst, htr, hI⟩ := rdy
    refine Calls.spliced_nil (call_all_walkS (W.self 0 _ _ _ hst ⟨g, fp, wr, G, _, F, St, _, rfl, W, hst, htr, fun s' hmv => ?_⟩))
    obtain ⟨H2, hTb, J⟩ := hI s' hmv
    obtain ⟨ps', tr', at2⟩ := at_tab at0 ht hTb
    rw [dps_len hd]
    exact ⟨.bl _, H2, J, rfl, kk _ _ _ H0 H2 ⟨rfl, ps', tr', rfl⟩ at2 (Evl.Ex.refl _) ⟨_, rfl, .bl _⟩⟩
theorem ge_any {c T : Addr} {elt iter : Expr} {n : Str} {px gp p : Pos} {sc : Scope} {pb : Nat → Bool} {k j t : Nat} {r : Sl} {ps : Array Value} {ex : Value → Gam → Sto → Prop} (room : Room k X.A) (hg : Gl X "any") (hm : X.mg "any" = none) (hv : bootBuiltins "any" = some (.builtin "any"))
    (tb : GxR.TabB X.base X.mg c T) (code : X.env.code = .ref c) (G : GxR.GenS X.env sc n) (it : PE X iter (tVar j)) (hj : Γ[j]? = some r) (hr : LSl S r ds) (ht : S[t]? = some (T, .ho (.tbl ps))) (tr : TriplesOk ps.toList) (el : EltP X B Γ S sc n elt T ds pb) (fold : ∀ v, genFold iter X.env v = pure v)
    (he : starEach [.GeneratorExp elt [⟨.Name n px, iter, [], 0⟩] sc gp] X.env = (false, eval (.GeneratorExp elt [⟨.Name n px, iter, [], 0⟩] sc gp) X.env) :: starEach [] X.env := by rfl) :
    GE X B Γ S (.Call (.Name "any" p) [.GeneratorExp elt [⟨.Name n px, iter, [], 0⟩] sc gp] [] pos) (TabPost S t T (.bool ((List.range ds.length).any pb))) ex := by
  refine ⟨fun pins s σ H Q I ⟨H0, at0, kk, _⟩ => ?_⟩
  obtain ⟨q, xs, hσ, hs, hd⟩ := list_at at0 hj hr
  have hT : H T = some (.tbl ps) := (at0.sto.at_ T _ (List.mem_of_getElem? ht)).2
  refine wpAny_Call_Name_kw (ld_blt I hg hm hv ?_)
  refine PyProof.Rows.callWith_builtin1 ?_ he (by rfl)
  rw [he]
  show wpAny _ _ (spliced ((false, eval (.GeneratorExp elt [⟨.Name n px, iter, [], 0⟩] sc gp) X.env) :: backTo pos (starEach [] X.env))) _ _ s
  refine Calls.spliced_cons (gen_list (pb := pb) (R := fun ys H1 => ys = xs ∧ H1 = H) room tb code G it fold I ⟨_, hσ, q, xs, rfl, hs, ⟨ps, hT, tr⟩, rfl, rfl⟩ (fun ys H1 s1 I1 ⟨e1, e2⟩ => ?_) fun ys H1 g s5 ⟨e1, e2⟩ rdy => ?_)
  · subst e1 e2
    exact el pins σ _ H0 s1 _ I1 at0 hd
  · subst e1 e2
    obtain ⟨fp, wr, G, F, St, W, hst, htr, hI⟩ := rdy
    refine Calls.spliced_nil (call_any_walkS (W.self 0 _ _ _ hst ⟨g, fp, wr, G, _, F, St, _, rfl, W, hst, htr, fun s' hmv => ?_⟩))
    obtain ⟨H2, hTb, J⟩ := hI s' hmv
    obtain ⟨ps', tr', at2⟩ := at_tab at0 ht hTb
    rw [dps_len hd]
    exact ⟨.bl _, H2, J, rfl, kk _ _ _ H0 H2 ⟨rfl, ps', tr', rfl⟩ at2 (Evl.Ex.refl _) ⟨_, rfl, .bl _⟩⟩
end
section
variable {P : Program} {w : World} {K : PySem.W.Frag} {mg : Str → Option Value} {base : Heap}
/-- a def whose code object is known, nothing raised -/
theorem mut_def0T {x qual : Str} {d : Stmt} {f c : Addr} {fd : FuncData} {N ps : List Str} {n : Nat} {R : Rq} (F : Fun K x qual d f fd) (hc : fd.code = .ref c) (Sc : FnScope N ps (defScope d)) (hlen : ∀ as S PR PX, R as S PR PX → as.length = ps.length)
    (hbody : ∀ (A : Around) (out : List Env) (s : Shared) (H : Hp) (E : XK) (B : Bs) (as : List Sl) (S : Sto) (PR : Sl → Sto → Prop) (PX : Value → Sto → Prop), Room n (A.deeper (envOfC qual (defScope d) s.heap.objs.size f (.ref c))) → R as S PR PX →
      GSs (cxOf CX0 P w K mg base N qual (defScope d) f (.ref c) A out s H E).nox B (gamS N.length as) S (defBody d) { N := fun _ S' => PR (.dat .none) S', R := PR }) : FnOk P w K mg base CX0 (n + 1) f fd ps (SpM K R) := by
  obtain ⟨oc, od, kV, doc, pm, an, cdv, ct, osl, rfl, lk, hcd⟩ := F.ex
  cases (show cdv = .ref c from hc)
  refine fn_of lk hcd Sc (fun vs H Q E h => ?_) (fun A out s H vs Q E hr h => ?_)
  · obtain ⟨H0, as, S, PR, PX, _, hR, hv, _⟩ := h
    rw [Paired.length hv]
    exact hlen as S PR PX hR
  · obtain ⟨H0, as, S, PR, PX, e, hR, hv, hS, k, kx⟩ := h
    have hle : ps.length ≤ N.length := by have := congrArg List.length Sc.pre; rw [List.length_take] at this; omega
    have body := hbody A out s H E ⟨H0, H, keys S, fun _ _ _ _ => False⟩ as S PR PX hr hR
    refine ⟨_, PSs.nox body, H0, ⟨Fra.refl e, env_startS hv (by rw [hlen as S PR PX hR]; exact hle), hS, fun p z => .inl z⟩, ?_⟩
    exact ⟨fun Γ S' H0' σ H' hd at1 => k _ S' .non H0' H' hd at1.fra at1.sto at1.wr ⟨_, rfl, .non⟩, fun r Γ S' v H0' σ H' hr at1 hv => k r S' v H0' H' hr at1.fra at1.sto at1.wr hv, fun _ _ _ _ _ h _ => h.elim, fun _ _ _ _ _ h _ => h.elim, fun _ _ _ _ _ _ h _ => h.elim⟩
end
theorem p0At {X : Cx} {σ : L2.St} {E : XK} : PassesAt CX0 X σ E := fun _ _ _ _ _ _ c => c.elim
/-- a tuple of data, its parts with effects -/
theorem ge_tupE {X : Cx} {B : Bs} {Γ : Gam} {S : Sto} {es : List Expr} {x1 : Nat} {pos : Pos} {Pa : List PyData → Sto → Prop} {ex : Value → Gam → Sto → Prop} (h : GEA X B Γ S es (fun as S' => ∃ ds, as = ds.map Sl.dat ∧ ds.length ≤ 100000 ∧ Pa ds S')) :
    GE X B Γ S (.Tuple es x1 pos) (fun r S' => ∃ ds, r = .dat (.tuple ds) ∧ Pa ds S') ex := (pe_tup h).imp fun σ H Q ⟨H0, at0, k, _⟩ => ⟨H0, at0, fun as S' vs H1 H' ⟨ds, e, hl, hp⟩ at1 e1 hvs => by
  subst e
  have hd : ∀ {vs : List V} {ds : List PyData}, ArgsOk X.K H1 vs (ds.map Sl.dat) → DpAll X.K H1 vs ds := by
    intro vs ds
    induction ds generalizing vs with
    | nil => intro h; cases h; exact .nil
    | cons d ds ih => intro h; cases h with | cons a b => exact .cons a.toDp (ih b)
  have hv := hd hvs
  have hlen := dps_len hv
  refine ⟨by rw [hlen]; exact Nat.le_trans hl (by decide), fun p hp0 => ?_⟩
  exact k _ S' _ _ _ ⟨ds, rfl, hp⟩ (at1.ext (Ext.new at1.e2 hp0)) (e1.trans (Evl.Ex.new (free0 at1.e2 hp0))) ⟨_, rfl, .tup (.inl (.inl upd_same)) (dps_ex (Evl.Ex.new (free0 at1.e2 hp0)) _ _ hv)⟩⟩
/-! ### the end of a law whose program has tables of code objects -/
abbrev TabF (q : Program) (mg : Str → Option Value) (h : Heap) : Prop := ∀ e ∈ recsOf q, ∃ a o fd c T, mg e.name = some (.ref a) ∧ h.get? a = some o ∧ o.data = .func fd ∧ fd.code = .ref c ∧ h.IsCode c T #[] ∧ h.TableAt c T #[]
theorem walk_tabs {l : PySem.W.OpenLaw} {n k : Nat} {q : Program} {loose : List Str} {XP : (Str → Option Value) → Heap → Prop} {YP : World → Heap → Prop} {d : DefRec} {K : Params → PySem.W.Frag} {CX : World → CXT} {x : Str}
    (hn : l.most = some n) (hn2 : n ≤ sizeLine) (hdf : d.params.defaults = []) (room : Room k callerA) (hY : ∀ (w : World) (h : Heap), YP w h → (K w.params).In h)
    (F : ∀ (w : World) (mg : Str → Option Value) (fa : Addr) (h : Heap), (K w.params).In h → h.Ns mainGlobals mg → mg d.name = some (.ref fa) → TabF q mg h → LamX.LawAtS l w (K w.params) (CX w) k n x mg fa h)
    (hX : ∀ (w : World) (H : Hp) (s : Shared) (e : Value) (s' : Shared), CX w [] H s (fun _ _ _ => False) e s' → False) : PySem.W.WalkO q loose XP YP l.row.toRowW d [] (fun f vs => PySem.call f vs) := by
  refine Att.attach_callB hn hdf fun w s0 s1 mg mb fa o pm cd doc a vs ns G Y ho hd hcd hmg hobj hints hlen hbits hg => ?_
  obtain ⟨fd, cs, sp, hT, nT, C, hb, hsp, hF⟩ := F w mg fa _ (hY w _ Y) G.T.g hmg G.T.tab
  exact LamX.law_callTs (hY w _ Y) G.T.g G.T.b G.T.builtins G.T.nolimit hg hT nT C G.T.bmain hobj hints (Nat.le_trans hlen hn2) room hF hb (fun H hH hS => hsp H a ns hlen hbits hH hS) fun H e s' => hX w H s1 e s'
theorem tab_of {q : Program} {K : PySem.W.Frag} {h : Heap} {mg : Str → Option Value} (KX : K.In h) (TF : TabF q mg h) {nm : Str} {f c T : Addr} {oc e : Value} {od dd : Option Addr} {fd : FuncData} {osl sl : Array (Option Value)} {vs : Array Value} (hin : ((recsOf q).any fun e => e.name == nm) = true)
    (hm : mg nm = some (.ref f)) (lf : K.lookup f = some ⟨oc, od, .func fd, osl⟩) (hc : fd.code = .ref c) (lc : K.lookup c = some ⟨e, dd, .fields vs, sl⟩) (hT : vs[11]? = some (.ref T)) : h.get? T = some { cls := .none, data := .fields #[] } ∧ PySem.W.CodeHd h c T := by
  obtain ⟨r, hr, e1⟩ := List.any_eq_true.mp hin
  obtain ⟨a, o, fd', c', T', h1, h2, h3, h4, h5, h6⟩ := TF r hr
  rw [beq_iff_eq.mp e1, hm] at h1
  cases h1
  rw [KX _ _ lf] at h2
  cases h2
  cases h3
  rw [hc] at h4
  cases h4
  obtain ⟨⟨o', vs', g1, g2, g3, g4⟩, g5⟩ := _root_.id h6
  rw [KX _ _ lc] at g1
  cases g1
  cases g3
  rw [hT] at g4
  cases g4
  exact ⟨g5, PySem.W.CodeHd.of h5 h6⟩
/-- the law's promise, with the table at T owned -/
theorem lawM_sp {K : PySem.W.Frag} {R : Rq} {H : Hp} {a T : Addr} {ns : List Int} {E : XK} {PX : Value → Sto → Prop} (hR : R [.dat (.list (ns.map PyData.int))] [(T, .ho (.tbl #[]))] (fun r _ => r = .dat (.bool true)) PX) (hX : ∀ c S, ¬ PX c S) (hT : H T = some (.tbl #[])) (hS : SqL K H a (ns.map V.int)) :
    SpM K R [.ref a] H (fun v _ => v = .bl true) E := by
  have e : Evl.Ex (fun b => if b = T then none else H b) H := fun b o q => by
    have q : (if b = T then none else H b) = some o := q
    by_cases hb : b = T
    · rw [if_pos hb] at q; cases q
    · rw [if_neg hb] at q; exact q
  refine ⟨fun b => if b = T then none else H b, _, _, _, _, e, hR, .cons ⟨_, rfl, .lst ?_ (dps_ints ns)⟩ .nil, ⟨fun p ov hp => ?_, by simp [keys]⟩, fun r S' v H0' H' hp _ _ _ hv => ?_, fun c S' H0' H' hp => absurd hp (hX c S')⟩
  · rcases hS with (hS | ⟨o, hS⟩) | hS
    · have hne : a ≠ T := fun z => by rw [z, hT] at hS; cases hS
      exact .inl (.inl (by show (if a = T then none else H a) = _; rw [if_neg hne]; exact hS))
    · have hne : a ≠ T := fun z => by rw [z, hT] at hS; cases hS
      exact .inl (.inr ⟨o, by show (if a = T then none else H a) = _; rw [if_neg hne]; exact hS⟩)
    · exact .inr hS
  · simp only [List.mem_cons, Prod.mk.injEq, List.not_mem_nil, or_false] at hp
    obtain ⟨rfl, rfl⟩ := hp
    exact ⟨if_pos rfl, hT⟩
  · subst hp
    have hv := hv.toDp
    cases hv
    rfl
end GQ

set_option Elab.async false
set_option linter.all false
set_option maxRecDepth 100000
set_option maxHeartbeats 4000000
namespace GQ
open PySem PySem.Spec PyProof.Rows L2 G
/-! ### list.count, list.index of flat data -/
section
variable {X : Cx}
def rCntF (K : PySem.W.Frag) : V → List V → Hp → VK → Prop := fun x xs H Q => ∃ (a : Addr) (ys : List V) (y : V), x = .ref a ∧ xs = [y] ∧ SqL K H a ys ∧ flatV y = true ∧ ys.all flatV = true ∧ Q (.int (ys.countP (fun z => eqV z y) : Nat)) H
theorem countU {x : V} : ∀ {xs : List V} {us : List Value}, Vals xs us → xs.all flatV = true → us.countP (eqU x) = xs.countP fun z => eqV z x
  | _, _, .nil, _ => rfl
  | z :: xs, u :: us, .cons r t, f => by
    rw [List.all_cons, Bool.and_eq_true] at f
    rw [List.countP_cons, List.countP_cons, countU t f.2, eqU_of r f.1]
theorem mt_cntF : MtR X "list.count" (rCntF X.K) := by
  intro pins s σ H x xs v us Q I rx rxs h
  obtain ⟨a, ys, y, rfl, rfl, hs, fy, fs, q⟩ := h
  cases rx
  obtain ⟨u, rfl, ru⟩ := rxs.one
  obtain ⟨its, rv, ⟨ob, n, ho, hc, hdn, hd⟩, hlen⟩ := I.list hs
  obtain ⟨cls, dd, data, sl⟩ := ob
  cases (show cls = _ from hc)
  cases (show data = _ from hd)
  refine call_meets PySem.F.slot_list_count ⟨_, ho, rfl⟩ PySem.F.entry_list_count (PySem.F.args_list_count_2 _ _) (SeqAt.list_countAt a its.toArray n dd sl u (eqU y)) ⟨ho, fun z hz => mem_eqAt ru fy rv fs z (by simpa using hz), ?_⟩
  refine ⟨.int (ys.countP (fun z => eqV z y) : Nat), H, I.tok _, ⟨s.toks, ?_⟩, q⟩
  rw [show its.toArray.toList = its from rfl, countU rv fs]
end
section
variable {X : Cx} {B : Bs} {Γ : Gam} {S : Sto} {o e it : Expr} {d : PyData} {ds : List PyData} {pos apos px p2 tpos : Pos} {P : Po} {j k kk : Nat} {x y : Str} {body : List Stmt}
def cntD (d : PyData) (ds : List PyData) : Nat := ds.countP fun z => PyData.eqv z d
theorem cnt_of {K : PySem.W.Frag} {H : Hp} {w : V} (hw : Dp K H w d) (g : flatD d = true) : ∀ {vs : List V} {ds : List PyData}, DpAll K H vs ds → ds.all flatD = true → vs.all flatV = true ∧ vs.countP (fun z => eqV z w) = cntD d ds
  | _, _, .nil, _ => ⟨rfl, rfl⟩
  | _, _, .cons h t, f => by
    rw [List.all_cons, Bool.and_eq_true] at f
    obtain ⟨i1, i2⟩ := cnt_of hw g t f.2
    refine ⟨by rw [List.all_cons, flat_of h f.1, i1]; rfl, ?_⟩
    unfold cntD at i2 ⊢
    rw [List.countP_cons, List.countP_cons, i2, eqV_of h hw f.1 g]
theorem gl_meth {name : Str} {id : String} {r : V → List V → Hp → VK → Prop} {d' : PyData} (slot : Slot "list" name id) (hty : typeOf (.builtin id) = pure (.type "method_descriptor")) (hm : MtR X id r) (ho : GLs X B Γ S o ds) (he : GD X B Γ S e d)
    (hr : ∀ H0 H a xs v (Q : VK), Evl.Ex H0 H → SqL X.K H a xs → DpAll X.K H0 xs ds → Dp X.K H0 v d → (∀ z, Dp X.K H0 z d' → Q z H) → r (.ref a) [v] H Q)
    (hbase : attributeBase o name X.env (eval o X.env) = eval o X.env := by rfl)
    (hfew : ((backTo pos (starEach [e] X.env)).all (fun x => !x.1) && (backToKw pos (keywordEach [] X.env)).all (fun x => x.1.isSome) && decide ([e].length + ([] : List Keyword).length + (if ([] : List Keyword).isEmpty then 0 else 1) < 30)) = true := by rfl)
    (hline : (apos.endLine == pos.line) = true := by rfl) (hs : starEach [e] X.env = (false, eval e X.env) :: starEach [] X.env := by rfl) (hpl : (backTo pos (starEach [] X.env)).any (·.1) = false := by rfl) : GD X B Γ S (.Call (.Attribute o name apos) [e] [] pos) d' := by
  cases ho with
  | dat h =>
    refine (pe_bm PySem.F.plainAttrs_list slot hty hm h (pa_cons he pa_nil hs) hbase hfew hline hs hpl).imp fun σ H Q ⟨H0, at0, kk⟩ => ⟨H0, at0, fun v H1 H' at1 e1 hv => ?_⟩
    have hv := hv.toDp
    cases hv with
    | @lst a xs _ hl ha =>
      exact ⟨.inl ⟨rfl, _, Evl.ex_l at1.e2 hl⟩, H1, at1, fun y H2 H'' at2 e2 hy => hr H2 H'' a xs y _ at2.e2 (Evl.ex_l at2.e2 (Evl.ex_l e2 hl)) (dps_ex e2 _ _ ha) hy.toDp fun z hz => kk z H2 H'' at2 (e1.trans e2) ⟨_, rfl, hz⟩⟩
  | own p n h hn =>
    refine (pe_bm PySem.F.plainAttrs_list slot hty hm h (pa_cons he pa_nil hs) hbase hfew hline hs hpl).imp fun σ H Q ⟨H0, at0, kk⟩ => ⟨H0, at0, fun v H1 H' at1 e1 hv => ?_⟩
    cases (show (some (some v) : Option (Option V)) = some (some (.ref p)) from hv)
    obtain ⟨_, vs, h1, _⟩ := at1.sto.at_ p _ (List.mem_of_getElem? hn)
    refine ⟨.inl ⟨rfl, _, .inl (.inl h1)⟩, H1, at1, fun y H2 H'' at2 e2 hy => ?_⟩
    obtain ⟨_, vs2, h3, h4⟩ := at2.sto.at_ p _ (List.mem_of_getElem? hn)
    exact hr H2 H'' p vs2 y _ at2.e2 (.inl (.inl h3)) h4 hy.toDp fun z hz => kk z H2 H'' at2 (e1.trans e2) ⟨_, rfl, hz⟩
theorem gl_cnt (ho : GLs X B Γ S o ds) (he : GD X B Γ S e d) (fd : flatD d = true) (fs : ds.all flatD = true)
    (hbase : attributeBase o "count" X.env (eval o X.env) = eval o X.env := by rfl)
    (hfew : ((backTo pos (starEach [e] X.env)).all (fun x => !x.1) && (backToKw pos (keywordEach [] X.env)).all (fun x => x.1.isSome) && decide ([e].length + ([] : List Keyword).length + (if ([] : List Keyword).isEmpty then 0 else 1) < 30)) = true := by rfl)
    (hline : (apos.endLine == pos.line) = true := by rfl) (hs : starEach [e] X.env = (false, eval e X.env) :: starEach [] X.env := by rfl) (hpl : (backTo pos (starEach [] X.env)).any (·.1) = false := by rfl) : GD X B Γ S (.Call (.Attribute o "count" apos) [e] [] pos) (.int (cntD d ds : Nat)) :=
  gl_meth PySem.F.slot_list_count PySem.F.type_list_count mt_cntF ho he (fun H0 H a xs v Q ex hl ha hv kk => by
    obtain ⟨c1, c2⟩ := cnt_of hv fd ha fs
    exact ⟨a, xs, v, rfl, rfl, hl, flat_of hv fd, c1, kk _ (by rw [c2]; exact .int _)⟩) hbase hfew hline hs hpl
theorem gl_idx {i : Nat} {z : PyData} (ho : GLs X B Γ S o ds) (he : GD X B Γ S e d) (fd : flatD d = true) (fs : ds.all flatD = true) (hz : ds[i]? = some z) (hi : PyData.eqv z d = true) (hno : ∀ (m : Nat) z', m < i → ds[m]? = some z' → PyData.eqv z' d = false)
    (hbase : attributeBase o "index" X.env (eval o X.env) = eval o X.env := by rfl)
    (hfew : ((backTo pos (starEach [e] X.env)).all (fun x => !x.1) && (backToKw pos (keywordEach [] X.env)).all (fun x => x.1.isSome) && decide ([e].length + ([] : List Keyword).length + (if ([] : List Keyword).isEmpty then 0 else 1) < 30)) = true := by rfl)
    (hline : (apos.endLine == pos.line) = true := by rfl) (hs : starEach [e] X.env = (false, eval e X.env) :: starEach [] X.env := by rfl) (hpl : (backTo pos (starEach [] X.env)).any (·.1) = false := by rfl) : GD X B Γ S (.Call (.Attribute o "index" apos) [e] [] pos) (.int (i : Nat)) :=
  gl_meth PySem.F.slot_list_index PySem.F.type_list_index mt_index ho he (fun H0 H a xs v Q ex hl ha hv kk => by
    have all : ∀ d' ∈ ds, flatD d' = true := List.all_eq_true.mp fs
    obtain ⟨u, h1, h2⟩ := dps_get ha hz
    refine ⟨a, xs, v, i, u, rfl, rfl, hl, flat_of hv fd, (cnt_of hv fd ha fs).1, h1, by rw [eqV_of h2 hv (all z (List.mem_of_getElem? hz)) fd]; exact hi, fun m z' hm hz' => ?_, kk _ (.int _)⟩
    obtain ⟨d', h3, h4⟩ := dps_getV ha hz'
    rw [eqV_of h4 hv (all d' (List.mem_of_getElem? h3)) fd]
    exact hno m d' hm h3) hbase hfew hline hs hpl
/-! ### for x, y in a list of pairs -/
theorem gs_forP (hp : PassesOwn (model X.prog X.w) X.A X.env X.xe) (hc : X.calm = true) (he : GD X B Γ S it (.list ds)) (pr : ∀ d ∈ ds, ∃ d1 d2, d = .tuple [d1, d2]) (hN : X.N.Nodup) (hj : X.N[j]? = some x) (hx : Loc X.env.scope x) (hk : X.N[k]? = some y) (hy : Loc X.env.scope y) (I : Nat → Gam → Sto → Prop) (h0 : I 0 Γ S)
    (hb : ∀ (i : Nat) d1 d2 Γ' S' G, ds[i]? = some (.tuple [d1, d2]) → I i Γ' S' → GSs X (B.at G) ((Γ'.set j (.dat d1)).set k (.dat d2)) S' body (P.turn I i)) (hd : ∀ Γ' S', I ds.length Γ' S' → P.N Γ' S')
    (hs : ∀ y, foldedSetIterable it X.env y = pure y := by intro _; rfl) (hl2 : (assignEach [.Name x px, .Name y p2] X.env).length = 2 := by rfl) (hst : (assignEach [.Name x px, .Name y p2] X.env).findIdx? (·.1) = none := by rfl)
    (ha1 : (assignEach [.Name x px, .Name y p2] X.env).map (·.2) = assign (.Name x px) X.env :: (assignEach [.Name y p2] X.env).map (·.2) := by rfl) (ha2 : (assignEach [.Name y p2] X.env).map (·.2) = assign (.Name y p2) X.env :: (assignEach [] X.env).map (·.2) := by rfl)
    (hf : X.fn x = true ∨ X.env.scope.names.lookup x = some .local := by first | exact .inl rfl | exact .inr rfl | assumption) (hf2 : X.fn y = true ∨ X.env.scope.names.lookup y = some .local := by first | exact .inl rfl | exact .inr rfl | assumption) :
    GS X B Γ S (.For (.Tuple [.Name x px, .Name y p2] kk tpos) it body [] pos) P := by
  have hbody : PSs X body (fun D σ H => ∃ (i : Nat) (d1 d2 : PyData) (Γ' : Gam) (S' : Sto) (G : Hp), ds[i]? = some (.tuple [d1, d2]) ∧ I i Γ' S' ∧ rs X.K (B.at G) ((Γ'.set j (.dat d1)).set k (.dat d2)) S' (P.turn I i) D σ H) := ⟨fun pins s σ H D Iv ⟨i, d1, d2, Γ', S', G, h1, h2, z⟩ => (hb i d1 d2 Γ' S' G h1 h2).run pins s σ H D Iv z⟩
  refine (ps_for hp hc (pi_list he) (pg_tup hc (pgs_cons (pg_name (i := j) hN hj hx hf) (pgs_cons (pg_name (i := k) hN hk hy hf2) pgs_nil ha2) ha1) hl2 hst) hbody hs).imp fun D σ H ⟨H0, at0, z⟩ => ⟨H0, at0, fun v H1 H' at1 e1 hv => ?_⟩
  have hv := hv.toDp
  cases hv with
  | @lst a xs _ hl ha =>
    refine ⟨a, rfl, ⟨xs, Evl.ex_l at1.e2 hl⟩, for_list (K := X.K) (a := a) (xs := xs) (g := gTup X.K 2 (gCons (gName j) (gCons (gName k) gNil))) (tb := fun D σ H => ∃ (i : Nat) (d1 d2 : PyData) (Γ' : Gam) (S' : Sto) (G : Hp), ds[i]? = some (.tuple [d1, d2]) ∧ I i Γ' S' ∧ rs X.K (B.at G) ((Γ'.set j (.dat d1)).set k (.dat d2)) S' (P.turn I i) D σ H) (D := D) (fun i σ H => ∃ Γ' S' H0, I i Γ' S' ∧ At X.K B H0 Γ' S' σ H ∧ Evl.Ex H1 H0) ⟨Γ, S, H1, h0, at1, Evl.Ex.refl _⟩ (fun i σ H _ pv => ?_) (fun i y σ H hi pv => ?_) fun σ H pv => ?_⟩
    · obtain ⟨Γ', S', G, hI, at2, e2⟩ := pv
      exact Evl.ex_l at2.e2 (Evl.ex_l e2 hl)
    · obtain ⟨Γ', S', G, hI, at2, e2⟩ := pv
      obtain ⟨d, h1, h2⟩ := dps_getV ha hi
      obtain ⟨d1, d2, rfl⟩ := pr d (List.mem_of_getElem? h1)
      have h2 := dp_ex e2 _ _ h2
      cases h2 with
      | @tup t ws _ ht hw =>
        cases hw with
        | @cons v1 _ _ _ w1 hw =>
          cases hw with
          | @cons v2 _ _ _ w2 hw =>
            cases hw
            exact ⟨t, _, rfl, Evl.ex_t at2.e2 ht, rfl, v1, _, rfl, v2, _, rfl, rfl, i, d1, d2, Γ', S', G, h1, hI, G, (at2.rebase.set j (s := .dat d1) ⟨_, rfl, w1⟩).set k (s := .dat d2) ⟨_, rfl, w2⟩, turn_endz at2.fra z _ fun Γ1 S1 H2 σ2 H3 q a e3 => ⟨Γ1, S1, H2, q, a, e2.trans e3⟩⟩
    · obtain ⟨Γ', S', G, hI, at2, e2⟩ := pv
      rw [dps_len ha] at hI
      exact z.nx Γ' S' G σ H (hd Γ' S' hI) at2
end
/-! ### the element, from the state at the generator's making -/
section
variable {X : Cx} {B : Bs} {Γ : Gam} {S : Sto} {pins : List (Addr × Obj)} {σ : L2.St} {H H0 : Hp} {s : Shared} {T : Addr} {ps : Array Value}
/-- what the element's expressions may lean on -/
def EltΦ (s : Shared) (T : Addr) (cenv : Env) (m2 : Str → Option Value) : Heap → Prop := fun h => (∀ b o, b ≠ T → s.heap.get? b = some o → h.get? b = some o) ∧ h.Ns cenv.locals m2
theorem elt_qc {cenv : Env} {m2 : Str → Option Value} (I : Inv X pins σ H s) (hT : H T = some (.tbl ps)) (hk : cenv.scope.kind = .function) (hg : cenv.globals = X.env.globals) : QC X.K X.mg X.base cenv (EltΦ s T cenv m2) :=
  ⟨fun g h kk q => ⟨fun b o hb e => kk b o (q.1 b o hb e), q.2.keeps kk⟩, hk, by rw [hg]; exact I.ok.glob, I.ok.mod, fun h q b o e => q.1 b o (fun z => by
    have := (I.bs b o e).2
    rw [z, hT] at this
    cases this) (I.bk b o e)⟩
theorem elt_tup {cenv : Env} {m2 : Str → Option Value} {a : Addr} {xs : List V} (I : Inv X pins σ H s) (hT : H T = some (.tbl ps)) (h : SqT X.K H a xs) : ∀ g, EltΦ s T cenv m2 g → TupH g a xs := fun g q => by
  obtain ⟨its, r, ⟨o, e, c, n, d⟩, z⟩ := I.tuple h
  refine ⟨z, its, r, o, q.1 a o (fun w => ?_) e, c, n, d⟩
  have hTs : s.heap.get? T = some { cls := .none, data := .fields ps } := I.hok T _ hT
  rw [w, hTs] at e
  cases e
  cases c
theorem elt_cell {cenv : Env} {m2 : Str → Option Value} {sc : Scope} {k : Nat} {y : Str} {v : V} (I : Inv X pins σ H s) (hT : H T = some (.tbl ps)) (free : ∀ y ∈ sc.names, y.2 = .free → ∃ c, X.env.cells.lookup y.1 = some c) (hc : cenv.cells = cloFrom X.env.cells sc.names []) (hy : (y, NameKind.free) ∈ sc.names)
    (hN : X.N[k]? = some y) (hσ : σ[k]? = some (some v)) (hv : X.env.kindOf y = some .cell) : ∃ c, cenv.cells.lookup y = some c ∧ ∀ g, EltΦ s T cenv m2 g → ∃ u, g.IsCell c (some u) ∧ RelV v u := by
  obtain ⟨m, _, hl⟩ := I.loc
  obtain ⟨u, r, l⟩ := hl k y v hN hσ (.inr (.inl hv))
  rcases l with ⟨h1, _⟩ | ⟨_, c, h1, h2⟩
  · rw [hv] at h1; cases h1
  · refine ⟨c, by rw [hc]; exact NdefX.clo_has free hy h1, fun g q => ⟨u, ?_, r⟩⟩
    obtain ⟨o, e, d⟩ := h2
    refine ⟨o, q.1 c o (fun z => ?_) e, d⟩
    have := I.freeC y c h1
    rw [z, hT] at this
    cases this
end
/-- a tuple of the written part -/
theorem tupK {K : PySem.W.Frag} {h : Heap} {a : Addr} {xs : List V} (KX : K.In h) (q : SqT K (fun _ => none) a xs) : TupH h a xs := by
  rcases q with (q | ⟨o, q⟩) | ⟨o, its, n, h1, h2, h3, h4, h5⟩
  · cases q
  · cases q
  · refine ⟨?_, its.toList, h5, o, KX a o h1, h2, n, by simpa using h3⟩
    have := h5.length
    simp only [Array.length_toList] at this
    omega
theorem QC.tup {K : PySem.W.Frag} {mg : Str → Option Value} {base : Heap} {env : Env} {Φ : Heap → Prop} (C : QC K mg base env Φ) {a : Addr} {xs : List V} (q : SqT K (fun _ => none) a xs) : ∀ h, Φ h → TupH h a xs := fun h hp => tupK (C.mod.kin.keeps (C.bs h hp)) q
theorem strs_of {K : PySem.W.Frag} {H : Hp} : ∀ {ws : List Str} {vs : List V}, DpAll K H vs (ws.map PyData.str) → vs = ws.map V.str
  | [], _, h => by cases h; rfl
  | w :: ws, _, h => by
    cases h with
    | cons a b => cases a; rw [strs_of b]; rfl
/-- a constant tuple of texts -/
theorem wordsK {K : PySem.W.Frag} {v : V} {ws : List Str} (h : Dp K (fun _ => none) v (.tuple (ws.map PyData.str))) : ∃ a, v = .ref a ∧ SqT K (fun _ => none) a (ws.map V.str) := by
  cases h with
  | @tup a xs _ hs ha =>
    rw [strs_of ha] at hs
    exact ⟨a, rfl, hs⟩
/-- the generator expression's scope, checked -/
def genSB (sc osc : Scope) (n : Str) : Bool :=
  decide (sc.kind = .function) && (!sc.isCoroutine && (decide (sc.names.lookup (".0" : Str) = some .local) && (decide (sc.names.lookup n = some .local) && sc.names.all fun y => !decide (y.2 = .cell) && (!decide (y.2 = .free) || decide (osc.names.lookup y.1 = some .cell)))))
theorem genS_by {env : Env} {sc osc : Scope} {n : Str} (h : genSB sc osc n = true) (hc : ∀ y, osc.names.lookup y = some .cell → ∃ c, env.cells.lookup y = some c) : GxR.GenS env sc n := by
  unfold genSB at h
  simp only [Bool.and_eq_true, Bool.or_eq_true, Bool.not_eq_true', decide_eq_true_eq, decide_eq_false_iff_not, List.all_eq_true] at h
  obtain ⟨h1, h2, h3, h4, h5⟩ := h
  exact ⟨h1, h2, fun y hy => (h5 y hy).1, h3, h4, fun y hy e => (h5 y hy).2.elim (fun z => absurd e z) (hc y.1)⟩
/-- x is True, x is False -/
theorem gd_isB {X : Cx} {B : Bs} {Γ : Gam} {S : Sto} {a b : Expr} {pos : Pos} {k1 k2 : Bool} (hm : behindInMarks .Is b = false) (ha : GD X B Γ S a (.bool k1)) (hb : GD X B Γ S b (.bool k2)) : GD X B Γ S (.Compare a [.Is] [b] pos) (.bool (decide (k1 = k2))) :=
  gd_cmp op_isBl (fun H0 H v w e hv hw Q kk => by
    cases hv
    cases hw
    exact ⟨_, _, rfl, rfl, kk _ H0 H (Ext.refl e) (.bl _)⟩) hm ha hb
/-! ### more: not in a list, a comprehension with a test as a value, not and == with effects -/
section
variable {X : Cx} {B : Bs} {Γ : Gam} {S : Sto} {a b e o elt tst : Expr} {d : PyData} {ds : List PyData} {pos px lp : Pos} {scope : Scope} {x : Str} {j : Nat} {ex : Value → Gam → Sto → Prop} {Pe : Sl → Sto → Prop}
theorem od_notInL {K : PySem.W.Frag} (g : flatD d = true) (f : ds.all flatD = true) : OpD K (rIn K true) d (.list ds) (.bool (!inD d ds)) := fun H0 H v w e hv hw Q kk => by
  cases hw with
  | lst hs ha =>
    obtain ⟨i1, i2⟩ := inV_of hv g ha f
    refine ⟨_, _, rfl, .inl (Evl.ex_l e hs), flat_of hv g, i1, kk _ H0 H (Ext.refl e) ?_⟩
    show Dp K H0 (.bl (!inV v _)) _
    rw [i2]
    exact .bl _
theorem gt_notInL (hm : behindInMarks .NotIn b = false) (ha : GD X B Γ S a d) (hb : GD X B Γ S b (.list ds)) (g : flatD d = true) (f : ds.all flatD = true) : GT X B Γ S (.Compare a [.NotIn] [b] pos) (!inD d ds) := gt_cmp op_notIn_seq (od_notInL g f) hm ha hb
theorem gd_lcF (kp : Nat → Bool) (g : Nat → PyData) (hc : X.calm = true) (hN : X.N.Nodup) (ho : GD X B Γ S o (.list ds)) (hl : ds.length ≤ 100000) (ok : BlkOk X.N X.env.scope scope [(x, j)])
    (htg : ∀ (s : Shared) (H : Hp) (C : Addr) (cl : List (Str × Addr)) (fp : List Addr), PG (X.blk s H scope (compEnvC scope cl C X.env) fp) (.Name x px) (gName j))
    (hts : ∀ (i : Nat) (D : Addr) (acc : List PyData) (d : PyData), ds[i]? = some d → ∀ (s : Shared) (H : Hp) (C : Addr) (cl : List (Str × Addr)) (fp : List Addr), GT (X.blk s H scope (compEnvC scope cl C X.env) fp) B ((wipeG Γ [j]).set j (.dat d)) ((D, .lst acc) :: S) tst (kp i))
    (hel : ∀ (i : Nat) (D : Addr) (acc : List PyData) (d : PyData), ds[i]? = some d → ∀ (s : Shared) (H : Hp) (C : Addr) (cl : List (Str × Addr)) (fp : List Addr), GD (X.blk s H scope (compEnvC scope cl C X.env) fp) B ((wipeG Γ [j]).set j (.dat d)) ((D, .lst acc) :: S) elt (g i))
    (hfs : ∀ y, foldedSetIterable o X.env y = pure y := by intro _; rfl) : GD X B Γ S (.ListComp elt [⟨.Name x px, o, [tst], 0⟩] scope lp) (.list (fltD ds.length kp g)) :=
  (pe_lc (own := [(x, j)]) hc hN (pi_list ho) ok htg (fun s H C cl fp => pts_one (t := tfL X.K B Γ S ds j kp) ⟨fun pins s' σ H' Q Iv ⟨i, D, acc, d, h1, z⟩ => (hts i D acc d h1 s H C cl fp).run pins s' σ H' Q Iv z⟩) (te := teL X.K B Γ S ds j g) (fun s H C cl fp => ⟨fun pins s' σ H' Q Iv ⟨i, D, acc, d, h1, z⟩ => (hel i D acc d h1 s H C cl fp).run pins s' σ H' Q Iv z⟩) hfs).imp fun σ H Q h => lcF_go kp g hl h
/-- not e, e with effects -/
theorem ge_not {Pk : Bool → Sto → Prop} (h : GE X B Γ S e (fun r S' => ∃ k, r = .dat (.bool k) ∧ Pk k S') ex) : GE X B Γ S (.UnaryOp .Not e pos) (fun r S' => ∃ k, r = .dat (.bool (!k)) ∧ Pk k S') ex := (pe_not h).imp fun σ H Q ⟨H0, at0, kk, kx⟩ => ⟨H0, at0, fun r S' v H1 H' ⟨k, hr, hp⟩ at1 e1 hv => by
  subst hr
  have hv := hv.toDp
  cases hv
  exact ⟨k, rfl, kk _ S' _ H1 H' ⟨k, rfl, hp⟩ at1 e1 ⟨_, rfl, .bl _⟩⟩, kx⟩
/-- e == f, e with effects -/
theorem ge_eqE {Pd : PyData → Sto → Prop} (hu : X.A.units + 64 < cLine) (ha : GE X B Γ S a (fun r S' => ∃ d1, r = .dat d1 ∧ SeqAt.shaped d1 = true ∧ Pd d1 S') ex) (hb : ∀ S', GD X B Γ S' b d) (hd : SeqAt.shaped d = true) :
    GE X B Γ S (.Compare a [.Eq] [b] pos) (fun r S' => ∃ d1, r = .dat (.bool (PyData.eqv d1 d)) ∧ Pd d1 S') ex := by
  have hb' : PE X b (fun σ H Q => ∃ S', rd X.K B Γ S' (.dat d) σ H Q) := ⟨fun pins s σ H Q I ⟨S', z⟩ => (hb S').run pins s σ H Q I z⟩
  refine (pe_cmpR (op_eqD hu) ha hb' (nomark _)).imp fun σ H Q ⟨H0, at0, kk, kx⟩ => ⟨H0, at0, fun r S' v H1 H' ⟨d1, hr, s1, hp⟩ at1 e1 hv => ⟨S', H1, at1, fun w H2 H'' at2 e2 hw => ?_⟩, kx⟩
  subst hr
  exact ⟨d1, d, dp_ex (e2.trans at2.e2) _ _ hv.toDp, dp_ex at2.e2 _ _ hw.toDp, s1, hd, kk _ S' _ H2 H'' ⟨d1, rfl, hp⟩ at2 (e1.trans e2) ⟨_, rfl, .bl _⟩⟩
end
end GQ

set_option Elab.async false
set_option linter.all false
set_option maxRecDepth 100000
set_option maxHeartbeats 4000000
namespace My
open PySem PySem.Spec PyProof.Rows L2 G

def top (i : Nat) : Stmt := PySem.Challenge.pw_guardrows_k09_whole_who_is_ahead.main.body.getD i (.Pass ⟨0, 0, 0, 0⟩)
abbrev s_wall : Stmt := top 0
abbrev s_is_whole : Stmt := top 15
abbrev s_is_step : Stmt := top 16
abbrev s_apart : Stmt := top 17
abbrev s_check_row : Stmt := top 18
abbrev s_ahead : Stmt := top 20
abbrev s_steps_of : Stmt := top 21
abbrev s_is_ahead : Stmt := top 22
abbrev s_Loom___init : Stmt := inClass (top 24) 0
abbrev s_Loom_over : Stmt := inClass (top 24) 1
abbrev s_Loom_waits : Stmt := inClass (top 24) 2
abbrev s_Loom_go : Stmt := inClass (top 24) 3
abbrev s_Loom_twin : Stmt := inClass (top 24) 4
abbrev s_Loom__next_step : Stmt := inClass (top 24) 5
abbrev s_Loom__do_guard : Stmt := inClass (top 24) 6
abbrev s_Loom__do_box : Stmt := inClass (top 24) 7
abbrev s_walked : Stmt := top 26
abbrev s_l_cell_at : Stmt := top 28
abbrev s_l_number_by : Stmt := top 29
abbrev s_l_step_by : Stmt := top 30
abbrev s_l_cells : Stmt := top 31
abbrev s_l_row_by : Stmt := top 32
abbrev s_l_ints : Stmt := top 33
abbrev s_l_can : Stmt := top 34
abbrev s_l_done : Stmt := top 35
abbrev s_l_apart : Stmt := top 36
abbrev s_l_order_by : Stmt := top 37
abbrev s_l_ahead : Stmt := top 38
abbrev s_l_pair : Stmt := top 39
abbrev s_l_more : Stmt := top 40
abbrev s_law : Stmt := top 41
structure Txt (K : PySem.W.Frag) (mg : Str → Option Value) where
  f_wall : Addr
  d_wall : FuncData
  F_wall : Fun K "_wall" "_wall" s_wall f_wall d_wall
  m_wall : mg "_wall" = some (.ref f_wall)
  b_wall : Binds K d_wall ["k"] []
  f_is_whole : Addr
  d_is_whole : FuncData
  F_is_whole : Fun K "is_whole" "is_whole" s_is_whole f_is_whole d_is_whole
  m_is_whole : mg "is_whole" = some (.ref f_is_whole)
  b_is_whole : Binds K d_is_whole ["thing"] []
  f_is_step : Addr
  d_is_step : FuncData
  F_is_step : Fun K "is_step" "is_step" s_is_step f_is_step d_is_step
  m_is_step : mg "is_step" = some (.ref f_is_step)
  b_is_step : Binds K d_is_step ["thing"] []
  f_apart : Addr
  d_apart : FuncData
  F_apart : Fun K "apart" "apart" s_apart f_apart d_apart
  m_apart : mg "apart" = some (.ref f_apart)
  b_apart : Binds K d_apart ["one", "other"] []
  f_check_row : Addr
  d_check_row : FuncData
  F_check_row : Fun K "check_row" "check_row" s_check_row f_check_row d_check_row
  m_check_row : mg "check_row" = some (.ref f_check_row)
  b_check_row : Binds K d_check_row ["row", "boxes"] []
  f_ahead : Addr
  d_ahead : FuncData
  F_ahead : Fun K "ahead" "ahead" s_ahead f_ahead d_ahead
  m_ahead : mg "ahead" = some (.ref f_ahead)
  b_ahead : Binds K d_ahead ["ones", "others", "order"] []
  f_steps_of : Addr
  d_steps_of : FuncData
  F_steps_of : Fun K "_steps_of" "_steps_of" s_steps_of f_steps_of d_steps_of
  m_steps_of : mg "_steps_of" = some (.ref f_steps_of)
  b_steps_of : Binds K d_steps_of ["ones", "others", "order"] []
  f_is_ahead : Addr
  d_is_ahead : FuncData
  F_is_ahead : Fun K "_is_ahead" "_is_ahead" s_is_ahead f_is_ahead d_is_ahead
  m_is_ahead : mg "_is_ahead" = some (.ref f_is_ahead)
  b_is_ahead : Binds K d_is_ahead ["hand", "steps"] []
  f_walked : Addr
  d_walked : FuncData
  F_walked : Fun K "walked" "walked" s_walked f_walked d_walked
  m_walked : mg "walked" = some (.ref f_walked)
  b_walked : Binds K d_walked ["ones", "others", "boxes", "order"] []
  f_l_cell_at : Addr
  d_l_cell_at : FuncData
  F_l_cell_at : Fun K "_law_cell_at" "_law_cell_at" s_l_cell_at f_l_cell_at d_l_cell_at
  m_l_cell_at : mg "_law_cell_at" = some (.ref f_l_cell_at)
  b_l_cell_at : Binds K d_l_cell_at ["_law_script", "_law_k"] []
  f_l_number_by : Addr
  d_l_number_by : FuncData
  F_l_number_by : Fun K "_law_number_by" "_law_number_by" s_l_number_by f_l_number_by d_l_number_by
  m_l_number_by : mg "_law_number_by" = some (.ref f_l_number_by)
  b_l_number_by : Binds K d_l_number_by ["_law_cell"] []
  f_l_step_by : Addr
  d_l_step_by : FuncData
  F_l_step_by : Fun K "_law_step_by" "_law_step_by" s_l_step_by f_l_step_by d_l_step_by
  m_l_step_by : mg "_law_step_by" = some (.ref f_l_step_by)
  b_l_step_by : Binds K d_l_step_by ["_law_cell", "_law_many", "_law_held"] []
  f_l_cells : Addr
  d_l_cells : FuncData
  F_l_cells : Fun K "_law_cells" "_law_cells" s_l_cells f_l_cells d_l_cells
  m_l_cells : mg "_law_cells" = some (.ref f_l_cells)
  b_l_cells : Binds K d_l_cells ["_law_script", "_law_start", "_law_size"] []
  f_l_row_by : Addr
  d_l_row_by : FuncData
  F_l_row_by : Fun K "_law_row_by" "_law_row_by" s_l_row_by f_l_row_by d_l_row_by
  m_l_row_by : mg "_law_row_by" = some (.ref f_l_row_by)
  b_l_row_by : Binds K d_l_row_by ["_law_cells_here", "_law_many"] []
  f_l_ints : Addr
  d_l_ints : FuncData
  F_l_ints : Fun K "_law_ints" "_law_ints" s_l_ints f_l_ints d_l_ints
  m_l_ints : mg "_law_ints" = some (.ref f_l_ints)
  b_l_ints : Binds K d_l_ints ["_law_found", "_law_due"] []
  f_l_can : Addr
  d_l_can : FuncData
  F_l_can : Fun K "_law_can" "_law_can" s_l_can f_l_can d_l_can
  m_l_can : mg "_law_can" = some (.ref f_l_can)
  b_l_can : Binds K d_l_can ["_law_stand", "_law_hand"] []
  f_l_done : Addr
  d_l_done : FuncData
  F_l_done : Fun K "_law_done" "_law_done" s_l_done f_l_done d_l_done
  m_l_done : mg "_law_done" = some (.ref f_l_done)
  b_l_done : Binds K d_l_done ["_law_stand", "_law_hand"] []
  f_l_apart : Addr
  d_l_apart : FuncData
  F_l_apart : Fun K "_law_apart" "_law_apart" s_l_apart f_l_apart d_l_apart
  m_l_apart : mg "_law_apart" = some (.ref f_l_apart)
  b_l_apart : Binds K d_l_apart ["_law_one", "_law_other"] []
  f_l_order_by : Addr
  d_l_order_by : FuncData
  F_l_order_by : Fun K "_law_order_by" "_law_order_by" s_l_order_by f_l_order_by d_l_order_by
  m_l_order_by : mg "_law_order_by" = some (.ref f_l_order_by)
  b_l_order_by : Binds K d_l_order_by ["_law_cells_here", "_law_every", "_law_stand"] []
  f_l_ahead : Addr
  d_l_ahead : FuncData
  F_l_ahead : Fun K "_law_ahead" "_law_ahead" s_l_ahead f_l_ahead d_l_ahead
  m_l_ahead : mg "_law_ahead" = some (.ref f_l_ahead)
  b_l_ahead : Binds K d_l_ahead ["_law_order", "_law_rows"] []
  f_l_pair : Addr
  d_l_pair : FuncData
  F_l_pair : Fun K "_law_pair" "_law_pair" s_l_pair f_l_pair d_l_pair
  m_l_pair : mg "_law_pair" = some (.ref f_l_pair)
  b_l_pair : Binds K d_l_pair ["_law_told", "_law_due"] []
  f_l_more : Addr
  d_l_more : FuncData
  F_l_more : Fun K "_law_more" "_law_more" s_l_more f_l_more d_l_more
  m_l_more : mg "_law_more" = some (.ref f_l_more)
  b_l_more : Binds K d_l_more ["_law_ones", "_law_others", "_law_order"] []
  f_law : Addr
  d_law : FuncData
  F_law : Fun K "law" "law" s_law f_law d_law
  m_law : mg "law" = some (.ref f_law)
  b_law : Binds K d_law ["_law_script"] []
  a_BOX_WORDS : Addr
  m_BOX_WORDS : mg "BOX_WORDS" = some (.ref a_BOX_WORDS)
  c_BOX_WORDS : ∀ H0, Dp K H0 (.ref a_BOX_WORDS) (.tuple [(.str "load"), (.str "plus"), (.str "store")])
  r_BOX_WORDS : RelV (.ref a_BOX_WORDS) (.ref a_BOX_WORDS)
  a_GUARD_WORDS : Addr
  m_GUARD_WORDS : mg "GUARD_WORDS" = some (.ref a_GUARD_WORDS)
  c_GUARD_WORDS : ∀ H0, Dp K H0 (.ref a_GUARD_WORDS) (.tuple [(.str "take"), (.str "free")])
  r_GUARD_WORDS : RelV (.ref a_GUARD_WORDS) (.ref a_GUARD_WORDS)
  a_BARE_WORDS : Addr
  m_BARE_WORDS : mg "BARE_WORDS" = some (.ref a_BARE_WORDS)
  c_BARE_WORDS : ∀ H0, Dp K H0 (.ref a_BARE_WORDS) (.tuple [(.str "twice"), (.str "take"), (.str "free")])
  r_BARE_WORDS : RelV (.ref a_BARE_WORDS) (.ref a_BARE_WORDS)
  t_MOST_STEPS : Tok
  m_MOST_STEPS : mg "MOST_STEPS" = some (.int 60 t_MOST_STEPS)
  c_MOST_STEPS : ∀ H0, Dp K H0 (.int 60) (.int 60)
  r_MOST_STEPS : RelV (.int 60) (.int 60 t_MOST_STEPS)
  z_len : mg "len" = none
  z_isinstance : mg "isinstance" = none
  z_int : mg "int" = none
  z_bool : mg "bool" = none
  z_str : mg "str" = none
  z_list : mg "list" = none
  z_tuple : mg "tuple" = none
  z_range : mg "range" = none
  z_all : mg "all" = none
  z_enumerate : mg "enumerate" = none
  z_ValueError : mg "ValueError" = none
  z_min : mg "min" = none
  C_Loom : Addr
  cl_Loom : Cls K C_Loom
  mg_Loom : mg "Loom" = some (.ref C_Loom)
  no__rows : NoAttr K C_Loom "_rows"
  no_boxes : NoAttr K C_Loom "boxes"
  no_numbers : NoAttr K C_Loom "numbers"
  no_places : NoAttr K C_Loom "places"
  no_holder : NoAttr K C_Loom "holder"
  f_Loom___init : Addr
  d_Loom___init : FuncData
  F_Loom___init : Fun K "__init__" "Loom.__init__" s_Loom___init f_Loom___init d_Loom___init
  b_Loom___init : Binds K d_Loom___init ["self", "ones", "others", "boxes"] []
  M_Loom___init : Mk K C_Loom f_Loom___init
  f_Loom_over : Addr
  d_Loom_over : FuncData
  F_Loom_over : Fun K "over" "Loom.over" s_Loom_over f_Loom_over d_Loom_over
  b_Loom_over : Binds K d_Loom_over ["self", "hand"] []
  M_Loom_over : Meth K C_Loom "over" f_Loom_over
  f_Loom_waits : Addr
  d_Loom_waits : FuncData
  F_Loom_waits : Fun K "waits" "Loom.waits" s_Loom_waits f_Loom_waits d_Loom_waits
  b_Loom_waits : Binds K d_Loom_waits ["self", "hand"] []
  M_Loom_waits : Meth K C_Loom "waits" f_Loom_waits
  f_Loom_go : Addr
  d_Loom_go : FuncData
  F_Loom_go : Fun K "go" "Loom.go" s_Loom_go f_Loom_go d_Loom_go
  b_Loom_go : Binds K d_Loom_go ["self", "hand"] []
  M_Loom_go : Meth K C_Loom "go" f_Loom_go
  f_Loom_twin : Addr
  d_Loom_twin : FuncData
  F_Loom_twin : Fun K "twin" "Loom.twin" s_Loom_twin f_Loom_twin d_Loom_twin
  b_Loom_twin : Binds K d_Loom_twin ["self"] []
  M_Loom_twin : Meth K C_Loom "twin" f_Loom_twin
  f_Loom__next_step : Addr
  d_Loom__next_step : FuncData
  F_Loom__next_step : Fun K "_next_step" "Loom._next_step" s_Loom__next_step f_Loom__next_step d_Loom__next_step
  b_Loom__next_step : Binds K d_Loom__next_step ["self", "hand"] []
  M_Loom__next_step : Meth K C_Loom "_next_step" f_Loom__next_step
  f_Loom__do_guard : Addr
  d_Loom__do_guard : FuncData
  F_Loom__do_guard : Fun K "_do_guard" "Loom._do_guard" s_Loom__do_guard f_Loom__do_guard d_Loom__do_guard
  b_Loom__do_guard : Binds K d_Loom__do_guard ["self", "hand", "word"] []
  M_Loom__do_guard : Meth K C_Loom "_do_guard" f_Loom__do_guard
  f_Loom__do_box : Addr
  d_Loom__do_box : FuncData
  F_Loom__do_box : Fun K "_do_box" "Loom._do_box" s_Loom__do_box f_Loom__do_box d_Loom__do_box
  b_Loom__do_box : Binds K d_Loom__do_box ["self", "hand", "word", "box"] []
  M_Loom__do_box : Meth K C_Loom "_do_box" f_Loom__do_box
  C_NoTurn : Addr
  g_NoTurn : mg "NoTurn" = some (.ref C_NoTurn)
  x_NoTurn : PySem.W.excIn K C_NoTurn [.type "ValueError", .type "Exception", .type "BaseException", .type "object"] "ValueError.__new__" = true
  k_NoTurn : PySem.W.keepIn K (.ref C_NoTurn) = true
  s_NoTurn : PySem.W.subIn K (.ref C_NoTurn) (.type "BaseException") = some true
  t_NoTurn : PySem.W.typeIn K (.ref C_NoTurn) = some (.type "type")
  C_Waits : Addr
  g_Waits : mg "Waits" = some (.ref C_Waits)
  x_Waits : PySem.W.excIn K C_Waits [.type "ValueError", .type "Exception", .type "BaseException", .type "object"] "ValueError.__new__" = true
  k_Waits : PySem.W.keepIn K (.ref C_Waits) = true
  s_Waits : PySem.W.subIn K (.ref C_Waits) (.type "BaseException") = some true
  t_Waits : PySem.W.typeIn K (.ref C_Waits) = some (.type "type")
  C_Again : Addr
  g_Again : mg "Again" = some (.ref C_Again)
  x_Again : PySem.W.excIn K C_Again [.type "ValueError", .type "Exception", .type "BaseException", .type "object"] "ValueError.__new__" = true
  k_Again : PySem.W.keepIn K (.ref C_Again) = true
  s_Again : PySem.W.subIn K (.ref C_Again) (.type "BaseException") = some true
  t_Again : PySem.W.typeIn K (.ref C_Again) = some (.type "type")
  C_NotHeld : Addr
  g_NotHeld : mg "NotHeld" = some (.ref C_NotHeld)
  x_NotHeld : PySem.W.excIn K C_NotHeld [.type "ValueError", .type "Exception", .type "BaseException", .type "object"] "ValueError.__new__" = true
  k_NotHeld : PySem.W.keepIn K (.ref C_NotHeld) = true
  s_NotHeld : PySem.W.subIn K (.ref C_NotHeld) (.type "BaseException") = some true
  t_NotHeld : PySem.W.typeIn K (.ref C_NotHeld) = some (.type "type")
  C_WeaveError : Addr
  g_WeaveError : mg "WeaveError" = some (.ref C_WeaveError)
  ec_NoTurn : ExcC K C_NoTurn
  kv_NoTurn : PySem.W.kitOne K (.ref C_NoTurn) (.type "ValueError") = some true
  ex_NoTurn_NoTurn : PySem.W.exmOne K (.ref C_NoTurn) (.ref C_NoTurn) = some true
  ex_NoTurn_Waits : PySem.W.exmOne K (.ref C_NoTurn) (.ref C_Waits) = some false
  ex_NoTurn_Again : PySem.W.exmOne K (.ref C_NoTurn) (.ref C_Again) = some false
  ex_NoTurn_NotHeld : PySem.W.exmOne K (.ref C_NoTurn) (.ref C_NotHeld) = some false
  ex_NoTurn_WeaveError : PySem.W.exmOne K (.ref C_NoTurn) (.ref C_WeaveError) = some true
  ec_Waits : ExcC K C_Waits
  kv_Waits : PySem.W.kitOne K (.ref C_Waits) (.type "ValueError") = some true
  ex_Waits_NoTurn : PySem.W.exmOne K (.ref C_Waits) (.ref C_NoTurn) = some false
  ex_Waits_Waits : PySem.W.exmOne K (.ref C_Waits) (.ref C_Waits) = some true
  ex_Waits_Again : PySem.W.exmOne K (.ref C_Waits) (.ref C_Again) = some false
  ex_Waits_NotHeld : PySem.W.exmOne K (.ref C_Waits) (.ref C_NotHeld) = some false
  ex_Waits_WeaveError : PySem.W.exmOne K (.ref C_Waits) (.ref C_WeaveError) = some true
  ec_Again : ExcC K C_Again
  kv_Again : PySem.W.kitOne K (.ref C_Again) (.type "ValueError") = some true
  ex_Again_NoTurn : PySem.W.exmOne K (.ref C_Again) (.ref C_NoTurn) = some false
  ex_Again_Waits : PySem.W.exmOne K (.ref C_Again) (.ref C_Waits) = some false
  ex_Again_Again : PySem.W.exmOne K (.ref C_Again) (.ref C_Again) = some true
  ex_Again_NotHeld : PySem.W.exmOne K (.ref C_Again) (.ref C_NotHeld) = some false
  ex_Again_WeaveError : PySem.W.exmOne K (.ref C_Again) (.ref C_WeaveError) = some true
  ec_NotHeld : ExcC K C_NotHeld
  kv_NotHeld : PySem.W.kitOne K (.ref C_NotHeld) (.type "ValueError") = some true
  ex_NotHeld_NoTurn : PySem.W.exmOne K (.ref C_NotHeld) (.ref C_NoTurn) = some false
  ex_NotHeld_Waits : PySem.W.exmOne K (.ref C_NotHeld) (.ref C_Waits) = some false
  ex_NotHeld_Again : PySem.W.exmOne K (.ref C_NotHeld) (.ref C_Again) = some false
  ex_NotHeld_NotHeld : PySem.W.exmOne K (.ref C_NotHeld) (.ref C_NotHeld) = some true
  ex_NotHeld_WeaveError : PySem.W.exmOne K (.ref C_NotHeld) (.ref C_WeaveError) = some true
  c_is_ahead : Addr
  P_is_ahead : Addr
  t_is_ahead : d_is_ahead.code = .ref c_is_ahead

def cell (ns : List Int) (k : Int) : Int := ns.getD k.toNat 0
theorem cell_at {ns : List Int} {k : Int} (h0 : 0 ≤ k) (h : decide (k < (ns.map PyData.int).length) = true) : atI (ns.map PyData.int) k = some (.int (cell ns k)) := by
  have h := of_decide_eq_true h
  rw [List.length_map] at h
  obtain ⟨j, rfl⟩ : ∃ j : Nat, k = (j : Int) := ⟨k.toNat, by omega⟩
  have hj : j < ns.length := by omega
  exact atI_nat (xs := ns.map PyData.int) (j := j) (v := .int (cell ns j)) (by
    unfold cell
    rw [List.getElem?_map, Int.toNat_natCast, List.getD_eq_getElem?_getD, List.getElem?_eq_getElem hj]; rfl)
theorem cell_no {ns : List Int} {k : Int} (h0 : 0 ≤ k) (h : decide (k < (ns.map PyData.int).length) = false) : cell ns k = 0 := by
  have h := of_decide_eq_false h
  rw [List.length_map] at h
  unfold cell
  rw [List.getD_eq_getElem?_getD, List.getElem?_eq_none_iff.mpr (by omega)]; rfl
def R_l_cell_at (ds : List PyData) (d : PyData) : Prop := ∃ (ns : List Int) (k : Int), ds = [.list (ns.map .int), .int k] ∧ 0 ≤ k ∧ d = .int (cell ns k)
/-- a number of which a product by a number of 200 bits is no matter -/
def Small (c : Int) : Prop := c.natAbs.log2 ≤ 1048590
def AllSmall (ns : List Int) : Prop := ∀ z ∈ ns, z.natAbs.log2 ≤ 1048576
theorem log2_le {a b : Nat} (h : a ≤ b) : a.log2 ≤ b.log2 := by
  by_cases ha : a = 0
  · subst ha; rw [show Nat.log2 0 = 0 from rfl]; exact Nat.zero_le _
  · exact (Nat.le_log2 (by omega)).mpr (Nat.le_trans (Nat.log2_self_le ha) h)
theorem bits_log {z : Int} (h : Builtin.Int.intBits z ≤ 1048576) : z.natAbs.log2 ≤ 1048576 := by
  unfold Builtin.Int.intBits at h
  split at h
  · rename_i e
    have e := eq_of_beq e
    subst e
    decide
  · omega
theorem cell_log {ns : List Int} (h : AllSmall ns) (k : Int) : (cell ns k).natAbs.log2 ≤ 1048576 := by
  unfold cell
  rw [List.getD_eq_getElem?_getD]
  cases e : ns[k.toNat]? with
  | none => exact Nat.zero_le _
  | some z => exact h z (List.mem_of_getElem? e)
theorem cell_small {ns : List Int} (h : AllSmall ns) (k : Int) : Small (cell ns k) := Nat.le_trans (cell_log h k) (by decide)
theorem log2_lt {a k : Nat} (h0 : 0 < k) (h : a < 2 ^ k) : a.log2 < k := by
  by_cases ha : a = 0
  · subst ha; exact h0
  · exact (Nat.log2_lt ha).mpr h
theorem mul_ok {i j : Int} (h : i.natAbs.log2 ≤ 1048590) (h2 : j.natAbs.log2 ≤ 1048590) : IntMulOk i j := by
  have b : ∀ x : Int, Builtin.Int.intBits x ≤ x.natAbs.log2 + 1 := fun x => by
    unfold Builtin.Int.intBits
    split <;> omega
  have h1 := b i
  have h2 := b j
  have e : bitsLine = 134217728 := by decide
  unfold IntMulOk
  intro z
  rw [Bool.and_eq_true] at z
  have z2 := z.2
  unfold Builtin.Int.intTooBig at z2
  have z3 := of_decide_eq_true z2
  rw [e] at z3
  omega
theorem small_of {i : Int} {k : Nat} (h0 : 0 < k) (hk : k ≤ 1048590) (h : i.natAbs < 2 ^ k) : i.natAbs.log2 ≤ 1048590 := by
  have := log2_lt h0 h
  omega
def P59 : Int := 100000000000000000000000000000000000000000000000000000000007
def P60 : Int := 1000000000000000000000000000000000000000000000000000000000000
def num (c : Int) : Int := if c % 3 = 1 then c * P59 % P60 * (1 - 2 * (c / 3 % 2)) else c / 3 % 41 - 20
def R_l_number_by (ds : List PyData) (d : PyData) : Prop := ∃ (c : Int), ds = [.int c] ∧ Small c ∧ d = .int (num c)


/-- the steps -/
inductive Stp where
  | load (b : Int) | plus (b : Int) | store (b : Int) | add (n : Int) | twice | take | free
  deriving DecidableEq
inductive Kd where
  | load | plus | store | add | twice | take | free
  deriving DecidableEq
def Kd.word : Kd → Str
  | .load => "load"
  | .plus => "plus"
  | .store => "store"
  | .add => "add"
  | .twice => "twice"
  | .take => "take"
  | .free => "free"
def Kd.isBox : Kd → Bool
  | .load => true
  | .plus => true
  | .store => true
  | _ => false
def Kd.isGuard : Kd → Bool
  | .take => true
  | .free => true
  | _ => false
theorem kd_box (k : Kd) : inD (.str k.word) [.str "load", .str "plus", .str "store"] = k.isBox := by cases k <;> decide +kernel
theorem kd_guard (k : Kd) : inD (.str k.word) [.str "take", .str "free"] = k.isGuard := by cases k <;> decide +kernel
theorem kd_bare (k : Kd) : inD (.str k.word) [.str "twice", .str "take", .str "free"] = decide (k = .twice ∨ k = .take ∨ k = .free) := by cases k <;> decide +kernel
theorem kd_eq (k l : Kd) : PyData.eqv (.str k.word) (.str l.word) = decide (k = l) := by cases k <;> cases l <;> decide +kernel
theorem kd_shaped (k : Kd) : SeqAt.shaped (.str k.word) = true := by cases k <;> exact shaped_str (by decide +kernel)
def Stp.kd : Stp → Kd
  | .load _ => .load
  | .plus _ => .plus
  | .store _ => .store
  | .add _ => .add
  | .twice => .twice
  | .take => .take
  | .free => .free
def Stp.args : Stp → List PyData
  | .load b => [.int b]
  | .plus b => [.int b]
  | .store b => [.int b]
  | .add n => [.int n]
  | _ => []
def Stp.toD (s : Stp) : PyData := .tuple (.str s.kd.word :: s.args)
/-- the box, the number (nought where there is none) -/
def Stp.b : Stp → Int
  | .load b => b
  | .plus b => b
  | .store b => b
  | .add n => n
  | _ => 0
theorem ixk {s : Stp} (h : s.kd.isBox = true) : atI (.str s.kd.word :: s.args) 1 = some (.int s.b) := by
  cases s <;> first | rfl | exact absurd h Bool.false_ne_true
theorem ixb {s : Stp} (h : inD (.str s.kd.word) [.str "load", .str "plus", .str "store"] = true) : atI (.str s.kd.word :: s.args) 1 = some (.int s.b) := ixk (by rw [← kd_box]; exact h)
theorem kd_store (k : Kd) : PyData.eqv (.str k.word) (.str "store") = decide (k = .store) := by cases k <;> decide +kernel
def apart (s t : Stp) : Bool :=
  if (s.kd.isGuard && t.kd.isGuard) = true then false
  else if (s.kd.isBox && (t.kd.isBox && decide (s.b = t.b))) = true then !decide (s.kd = .store) && !decide (t.kd = .store)
  else true
theorem apart_comm (s t : Stp) : apart s t = apart t s := by
  have e1 : (t.kd.isGuard && s.kd.isGuard) = (s.kd.isGuard && t.kd.isGuard) := Bool.and_comm _ _
  have e2 : (t.kd.isBox && (s.kd.isBox && decide (t.b = s.b))) = (s.kd.isBox && (t.kd.isBox && decide (s.b = t.b))) := by
    rw [show decide (t.b = s.b) = decide (s.b = t.b) from decide_eq_decide.mpr eq_comm]
    cases s.kd.isBox <;> cases t.kd.isBox <;> rfl
  unfold apart
  rw [e1, e2, Bool.and_comm (!decide (t.kd = .store))]
theorem seven (c : Int) : c % 7 = 0 ∨ c % 7 = 1 ∨ c % 7 = 2 ∨ c % 7 = 3 ∨ c % 7 = 4 ∨ c % 7 = 5 ∨ c % 7 = 6 := by omega
def pick (c b n : Int) : Stp := if c % 7 = 0 then .load b else if c % 7 = 1 then .plus b else if c % 7 = 2 then .store b else if c % 7 = 3 then .add n else if c % 7 = 4 then .twice else if c % 7 = 5 then .take else .free


def isWholeD : PyData → Bool
  | .int _ => true
  | _ => false
def one1 (rest : List PyData) : Bool := match rest with
  | [b] => isWholeD b
  | _ => false
def isStepD : PyData → Bool
  | .tuple (.str w :: rest) => if inD (.str w) [.str "twice", .str "take", .str "free"] = true then rest.isEmpty else if (inD (.str w) [.str "load", .str "plus", .str "store"] || PyData.eqv (.str w) (.str "add")) = true then one1 rest else false
  | _ => false
def OkD (d : PyData) : Prop := ∀ w rest, d = .tuple (.str w :: rest) → PyData.strOk w = true
def R_is_whole (ds : List PyData) (d : PyData) : Prop := ∃ d0, ds = [d0] ∧ d = .bool (isWholeD d0)
def R_is_step (ds : List PyData) (d : PyData) : Prop := ∃ d0, ds = [d0] ∧ OkD d0 ∧ d = .bool (isStepD d0)


/-! ### the loom: the mirror -/
structure LSt where
  r0 : List Stp
  r1 : List Stp
  bx : List Int
  n0 : Int
  n1 : Int
  p0 : Nat
  p1 : Nat
  h : Option Bool
def hI (b : Bool) : Int := if b then 1 else 0
def LSt.row (s : LSt) (b : Bool) : List Stp := if b then s.r1 else s.r0
def LSt.num (s : LSt) (b : Bool) : Int := if b then s.n1 else s.n0
def LSt.plc (s : LSt) (b : Bool) : Nat := if b then s.p1 else s.p0
def LSt.setN (s : LSt) (b : Bool) (z : Int) : LSt := if b then { s with n1 := z } else { s with n0 := z }
def LSt.setP (s : LSt) (b : Bool) (z : Nat) : LSt := if b then { s with p1 := z } else { s with p0 := z }
def LSt.over (s : LSt) (b : Bool) : Bool := decide (s.plc b = (s.row b).length)
def LSt.next (s : LSt) (b : Bool) : Stp := (s.row b).getD (s.plc b) .twice
def LSt.waits (s : LSt) (b : Bool) : Bool := !s.over b && decide (s.h = some (!b)) && decide ((s.next b).kd = .take)
inductive Er where
  | noTurn | waits | again | notHeld
  deriving DecidableEq
/-- what the step does: the guard, a box, the number -/
def LSt.eff (s : LSt) (b : Bool) : Stp → LSt
  | .load x => s.setN b (s.bx.getD x.toNat 0)
  | .plus x => s.setN b (s.num b + s.bx.getD x.toNat 0)
  | .store x => { s with bx := s.bx.set x.toNat (s.num b) }
  | .add n => s.setN b (s.num b + n)
  | .twice => s.setN b (s.num b * 2)
  | .take => { s with h := some b }
  | .free => { s with h := none }
def LSt.done (s : LSt) (b : Bool) : LSt := (s.eff b (s.next b)).setP b (s.plc b + 1)
def LSt.err (s : LSt) (b : Bool) : Option Er :=
  if s.over b then some .noTurn else if s.waits b then some .waits
  else if (s.next b).kd = .take ∧ s.h = some b then some .again
  else if (s.next b).kd = .free ∧ s.h ≠ some b then some .notHeld else none
/-- a row that is good over so many boxes -/
def GoodS (n : Nat) (s : Stp) : Prop := s.kd.isBox = true → 0 ≤ s.b ∧ s.b < (n : Int)
def GoodR (n : Nat) (r : List Stp) : Prop := r.length ≤ 60 ∧ ∀ s ∈ r, GoodS n s
structure Wf (s : LSt) : Prop where
  g0 : GoodR s.bx.length s.r0
  g1 : GoodR s.bx.length s.r1
  l0 : s.p0 ≤ s.r0.length
  l1 : s.p1 ≤ s.r1.length
/-- where its objects lie -/
structure LA where
  p : Addr
  b : Addr
  n : Addr
  q : Addr
def LN : List Str := ["_rows", "boxes", "numbers", "places", "holder"]
def rowD (r : List Stp) : PyData := .list (r.map Stp.toD)
def rowsD (s : LSt) : PyData := .list [rowD s.r0, rowD s.r1]
def holdD : Option Bool → PyData
  | none => .none
  | some b => .int (hI b)
def flds (L : LA) (s : LSt) : List (Str × Sl) := [("_rows", .dat (rowsD s)), ("boxes", .raw (.ref L.b)), ("numbers", .raw (.ref L.n)), ("places", .raw (.ref L.q)), ("holder", .dat (holdD s.h))]
def loomS (C : Addr) (L : LA) (s : LSt) : Sto := [(L.q, .lst [.int (s.p0 : Int), .int (s.p1 : Int)]), (L.n, .lst [.int s.n0, .int s.n1]), (L.b, .lst (s.bx.map .int)), (L.p, .obj C (flds L s))]
theorem next_lt {s : LSt} {b : Bool} (w : Wf s) (h : s.over b = false) : s.plc b < (s.row b).length := by
  have h := of_decide_eq_false h
  cases b
  · have := w.l0; simp only [LSt.plc, LSt.row] at h ⊢; simp at h ⊢; omega
  · have := w.l1; simp only [LSt.plc, LSt.row] at h ⊢; simp at h ⊢; omega
theorem next_at {s : LSt} {b : Bool} (w : Wf s) (h : s.over b = false) : ((s.row b).map Stp.toD)[s.plc b]? = some (s.next b).toD := by
  have hl := next_lt w h
  unfold LSt.next
  rw [List.getElem?_map, List.getElem?_eq_getElem hl, List.getD_eq_getElem?_getD, List.getElem?_eq_getElem hl]
  rfl
theorem next_good {s : LSt} {b : Bool} (w : Wf s) (h : s.over b = false) : GoodS s.bx.length (s.next b) := by
  have hl := next_lt w h
  have hm : s.next b ∈ s.row b := by
    unfold LSt.next
    rw [List.getD_eq_getElem?_getD, List.getElem?_eq_getElem hl]
    exact List.getElem_mem hl
  cases b
  · exact w.g0.2 _ hm
  · exact w.g1.2 _ hm
theorem kd_take (k : Kd) : PyData.eqv (.str k.word) (.str "take") = decide (k = .take) := by cases k <;> decide +kernel
theorem kd_load (k : Kd) : PyData.eqv (.str k.word) (.str "load") = decide (k = .load) := by cases k <;> decide +kernel
theorem kd_plus (k : Kd) : PyData.eqv (.str k.word) (.str "plus") = decide (k = .plus) := by cases k <;> decide +kernel
theorem kd_add (k : Kd) : PyData.eqv (.str k.word) (.str "add") = decide (k = .add) := by cases k <;> decide +kernel
theorem hold_eq (h : Option Bool) (b : Bool) : PyData.eqv (holdD h) (.int (hI b)) = decide (h = some b) := by
  cases h with
  | none => cases b <;> simp [holdD, PyData.eqv]
  | some a => cases a <;> cases b <;> simp [holdD, hI, PyData.eqv]
theorem hold_sh (h : Option Bool) : SeqAt.shaped (holdD h) = true := by
  cases h with
  | none => exact shaped_none
  | some a => exact shaped_int _
def LSt.guard (s : LSt) (b t : Bool) : Option LSt := if t then (if s.h = some b then none else some { s with h := some b }) else (if s.h = some b then some { s with h := none } else none)
theorem box_at {bx : List Int} {x : Int} (h0 : 0 ≤ x) (h1 : x < (bx.length : Int)) : atI (bx.map PyData.int) x = some (.int (bx.getD x.toNat 0)) := by
  obtain ⟨j, rfl⟩ : ∃ j : Nat, x = (j : Int) := ⟨x.toNat, by omega⟩
  have hj : j < bx.length := by omega
  exact atI_nat (by rw [List.getElem?_map, Int.toNat_natCast, List.getD_eq_getElem?_getD, List.getElem?_eq_getElem hj]; rfl)
theorem box_ix {bx : List Int} {x : Int} (h0 : 0 ≤ x) (h1 : x < (bx.length : Int)) : ixN (bx.map PyData.int).length x = some x.toNat := by
  unfold ixN
  rw [List.length_map, if_pos h0, if_pos h1]
theorem set_ints (bx : List Int) (k : Nat) (z : Int) : (bx.map PyData.int).set k (.int z) = (bx.set k z).map PyData.int := by rw [List.map_set]
/-- numbers of which a double is no matter -/
def SmallL (s : LSt) : Prop := s.n0.natAbs.log2 ≤ 1048590 ∧ s.n1.natAbs.log2 ≤ 1048590
theorem two_ok {z : Int} (h : z.natAbs.log2 ≤ 1048590) : IntMulOk z 2 := mul_ok h (by decide)
theorem eff_plc (s : LSt) (b c : Bool) (t : Stp) : (s.eff b t).plc c = s.plc c := by cases t <;> cases b <;> cases c <;> rfl
theorem eff_p0 (s : LSt) (b : Bool) (t : Stp) : (s.eff b t).p0 = s.p0 := eff_plc s b false t
theorem eff_p1 (s : LSt) (b : Bool) (t : Stp) : (s.eff b t).p1 = s.p1 := eff_plc s b true t
theorem eff_r0 (s : LSt) (b : Bool) (t : Stp) : (s.eff b t).r0 = s.r0 := by cases t <;> cases b <;> rfl
theorem eff_r1 (s : LSt) (b : Bool) (t : Stp) : (s.eff b t).r1 = s.r1 := by cases t <;> cases b <;> rfl
/-- a method that changes nothing -/
abbrev same (S : Sto) (d : PyData) : Sl → Sto → Prop := fun r S' => r = .dat d ∧ S' = S
abbrev noX : Value → Sto → Prop := fun _ _ => False

theorem stp_okD (s : Stp) : OkD s.toD := by
  intro w r e
  cases e
  cases s.kd <;> decide +kernel
theorem stp_isD (s : Stp) : isStepD s.toD = true := by cases s <;> rfl
theorem good_box {n : Nat} {s : Stp} (g : GoodS n s) (hh : inD (.str s.kd.word) [.str "load", .str "plus", .str "store"] = true) : decide (0 ≤ s.b) = true ∧ decide (s.b < (n : Int)) = true := by
  obtain ⟨h1, h2⟩ := g (by rw [← kd_box]; exact hh)
  exact ⟨decide_eq_true h1, decide_eq_true h2⟩


/-! ### the law's helpers: mirrors -/
theorem small_le {c d : Int} (h : Small c) (hd : d.natAbs ≤ c.natAbs) : Small d := Nat.le_trans (log2_le hd) h
def R_l_whole (ds : List PyData) (d : PyData) : Prop := ∃ d0, ds = [d0] ∧ d = .bool (isWholeD d0)
/-- how it stands, as the law keeps it -/
def standD (s : LSt) : PyData := .list [.list (s.bx.map .int), .list [.int s.n0, .int s.n1], .list [.int (s.p0 : Int), .int (s.p1 : Int)], holdD s.h, rowsD s]
def wordE : Option Er → Str
  | none => ""
  | some .noTurn => "no turn"
  | some .waits => "waits"
  | some .again => "again"
  | some .notHeld => "not held"
theorem isN_hold (h : Option Bool) : isN (holdD h) = h.isNone := by cases h <;> rfl
theorem kd_free (k : Kd) : PyData.eqv (.str k.word) (.str "free") = decide (k = .free) := by cases k <;> decide +kernel
theorem over_eqv (s : LSt) (b : Bool) : s.over b = PyData.eqv (.int (s.plc b : Int)) (.int (((s.row b).map Stp.toD).length : Int)) := by
  rw [eqv_int, List.length_map]
  exact decide_eq_decide.mpr ⟨fun z => by omega, fun z => by omega⟩
theorem word_next {s : LSt} {b : Bool} (ho : s.over b = false) : wordE (s.err b) = if (decide ((s.next b).kd = .take) && !s.h.isNone) = true then (if s.h = some b then ("again" : Str) else ("waits" : Str)) else if (decide ((s.next b).kd = .free) && (s.h.isNone || !decide (s.h = some b))) = true then ("not held" : Str) else ("" : Str) := by
  unfold LSt.err LSt.waits
  rw [ho]
  generalize (s.next b).kd = k
  rcases s.h with _ | a
  · cases k <;> cases b <;> rfl
  · cases k <;> cases a <;> cases b <;> rfl
theorem row_at (s : LSt) (b : Bool) : atI [rowD s.r0, rowD s.r1] (hI b) = some (.list ((s.row b).map Stp.toD)) := by cases b <;> rfl
theorem plc_at (s : LSt) (b : Bool) : atI [PyData.int (s.p0 : Int), .int (s.p1 : Int)] (hI b) = some (.int (s.plc b : Int)) := by cases b <;> rfl
theorem num_at (s : LSt) (b : Bool) : atI [PyData.int s.n0, .int s.n1] (hI b) = some (.int (s.num b)) := by cases b <;> rfl
theorem wa_at (h : Option Bool) (b : Bool) : atI [PyData.str "waits", .str "again"] (if PyData.eqv (holdD h) (.int (hI b)) = true then 1 else 0) = some (.str (if h = some b then ("again" : Str) else ("waits" : Str))) := by
  rw [hold_eq]
  by_cases e : h = some b <;> simp only [e, decide_true, decide_false, if_true, if_false, ite_true, ite_false, Bool.false_eq_true] <;> rfl
def R_l_ints (as : List Sl) (S : Sto) (PR : Sl → Sto → Prop) (PX : Value → Sto → Prop) : Prop := ∃ (r : Sl) (xs : List Int), as = [r, .dat (.list (xs.map .int))] ∧ LSl S r (xs.map .int) ∧ xs.length ≤ 100 ∧ PR = same S (.bool true) ∧ PX = noX
theorem word_waits (s : LSt) (b : Bool) : PyData.eqv (.str (wordE (s.err b))) (.str "waits") = s.waits b := by
  have h : ∀ e : Option Er, PyData.eqv (.str (wordE e)) (.str "waits") = decide (e = some .waits) := by
    intro e
    rcases e with _ | e
    · decide +kernel
    · cases e <;> decide +kernel
  rw [h]
  unfold LSt.err
  cases ho : s.over b
  · cases hw : s.waits b
    · simp only [Bool.false_eq_true, if_false]
      split
      · rfl
      · split <;> rfl
    · rfl
  · have : s.waits b = false := by unfold LSt.waits; rw [ho]; rfl
    rw [this]; rfl
theorem word_sh (e : Option Er) : SeqAt.shaped (.str (wordE e)) = true := by
  rcases e with _ | e
  · exact shaped_str (by decide +kernel)
  · cases e <;> exact shaped_str (by decide +kernel)
theorem hold_whole {h : Option Bool} : (!isN (holdD h) && (!isWholeD (holdD h) || !PyData.eqv (holdD h) (holdD h))) = false := by
  rcases h with _ | a
  · rfl
  · cases a <;> simp [holdD, isN, isWholeD, eqv_int]
section
variable {K : PySem.W.Frag} {mg : Str → Option Value}
def R_l_stands (T : Txt K mg) : Rq := fun as S PR PX => ∃ (L : LA) (st : LSt), Wf st ∧ st.bx.length ≤ 100 ∧ as = [.raw (.ref L.p), .dat (standD st)] ∧ S = loomS T.C_Loom L st ∧ PR = same (loomS T.C_Loom L st) (.bool true) ∧ PX = noX
end


section
variable {K : PySem.W.Frag} {mg : Str → Option Value}
def R_Loom_over (T : Txt K mg) : Rq := fun as S PR PX => ∃ (L : LA) (st : LSt) (b : Bool), as = [.raw (.ref L.p), .dat (.int (hI b))] ∧ S = loomS T.C_Loom L st ∧ PR = same (loomS T.C_Loom L st) (.bool (st.over b)) ∧ PX = noX
def R_Loom_waits (T : Txt K mg) : Rq := fun as S PR PX => ∃ (L : LA) (st : LSt) (b : Bool), Wf st ∧ as = [.raw (.ref L.p), .dat (.int (hI b))] ∧ S = loomS T.C_Loom L st ∧ PR = same (loomS T.C_Loom L st) (.bool (st.waits b)) ∧ PX = noX
def T_ec (T : Txt K mg) : Er → Addr
  | .noTurn => T.C_NoTurn
  | .waits => T.C_Waits
  | .again => T.C_Again
  | .notHeld => T.C_NotHeld
def R_Loom__do_guard (T : Txt K mg) : Rq := fun as S PR PX => ∃ (L : LA) (st : LSt) (b t : Bool), as = [.raw (.ref L.p), .dat (.int (hI b)), .dat (.str (if t then Kd.take.word else Kd.free.word))] ∧ S = loomS T.C_Loom L st ∧
  PR = (fun r S' => ∃ st', st.guard b t = some st' ∧ r = .dat .none ∧ S' = loomS T.C_Loom L st') ∧ PX = (fun cls S' => st.guard b t = none ∧ cls = .ref (T_ec T (if t then .again else .notHeld)) ∧ S' = loomS T.C_Loom L st)
def R_Loom__do_box (T : Txt K mg) : Rq := fun as S PR PX => ∃ (L : LA) (st : LSt) (b : Bool) (s : Stp), s.kd.isBox = true ∧ GoodS st.bx.length s ∧ as = [.raw (.ref L.p), .dat (.int (hI b)), .dat (.str s.kd.word), .dat (.int s.b)] ∧ S = loomS T.C_Loom L st ∧
  PR = same (loomS T.C_Loom L (st.eff b s)) .none ∧ PX = noX
def R_Loom_go (T : Txt K mg) : Rq := fun as S PR PX => ∃ (L : LA) (st : LSt) (b : Bool), Wf st ∧ SmallL st ∧ as = [.raw (.ref L.p), .dat (.int (hI b))] ∧ S = loomS T.C_Loom L st ∧
  PR = (fun r S' => st.err b = none ∧ r = .dat .none ∧ S' = loomS T.C_Loom L (st.done b)) ∧ PX = (fun cls S' => ∃ e, st.err b = some e ∧ cls = .ref (T_ec T e) ∧ S' = loomS T.C_Loom L st)
def R_Loom___init (T : Txt K mg) : Rq := fun as S PR PX => ∃ (p : Addr) (r0 r1 rb : Sl) (s0 s1 : List Stp) (bx : List Int) (F : Sto), as = [.raw (.ref p), r0, r1, rb] ∧ S = (p, .obj T.C_Loom []) :: F ∧ LSl F r0 (s0.map Stp.toD) ∧ LSl F r1 (s1.map Stp.toD) ∧ LSl F rb (bx.map .int) ∧ GoodR bx.length s0 ∧ GoodR bx.length s1 ∧
  PR = (fun r S' => r = .dat .none ∧ ∃ L : LA, L.p = p ∧ S' = loomS T.C_Loom L ⟨s0, s1, bx, 0, 0, 0, 0, none⟩ ++ F) ∧ PX = noX
def R_Loom_twin (T : Txt K mg) : Rq := fun as S PR PX => ∃ (L : LA) (st : LSt), Wf st ∧ as = [.raw (.ref L.p)] ∧ S = loomS T.C_Loom L st ∧ PR = (fun r S' => ∃ L2 : LA, r = .raw (.ref L2.p) ∧ S' = loomS T.C_Loom L2 st ++ loomS T.C_Loom L st) ∧ PX = noX
def R_check_row (as : List Sl) (S : Sto) (PR : Sl → Sto → Prop) (PX : Value → Sto → Prop) : Prop := ∃ (r0 rb : Sl) (row : List Stp) (bx : List Int), as = [r0, rb] ∧ LSl S r0 (row.map Stp.toD) ∧ LSl S rb (bx.map .int) ∧ GoodR bx.length row ∧ PR = same S .none ∧ PX = noX
def R_Loom__next_step (T : Txt K mg) : Rq := fun as S PR PX => ∃ (L : LA) (st : LSt) (b : Bool), Wf st ∧ st.over b = false ∧ as = [.raw (.ref L.p), .dat (.int (hI b))] ∧ S = loomS T.C_Loom L st ∧ PR = same (loomS T.C_Loom L st) (st.next b).toD ∧ PX = noX
end

section
variable {P : Program} {w : World} {K : PySem.W.Frag} {mg : Str → Option Value} {base : Heap}

theorem sc_Loom_over : FnScope ["self", "hand"] ["self", "hand"] (defScope s_Loom_over) := ⟨rfl, rfl, rfl, by decide +kernel, rfl, by decide +kernel, by decide +kernel⟩
theorem ok_Loom_over (T : Txt K mg) : FnOk P w K mg base CX0 1 T.f_Loom_over T.d_Loom_over ["self", "hand"] (SpM K (R_Loom_over T)) := by
  refine mut_def0 T.F_Loom_over sc_Loom_over (fun as S PR PX h => ?_) (fun cdv A outer s H E B as S PR PX hr h => ?_)
  · obtain ⟨L, st, b, rfl, rfl, rfl, rfl⟩ := h; rfl
  · obtain ⟨L, st, b, rfl, rfl, rfl, rfl⟩ := h
    cases b
    all_goals (
      refine gss_ret (r := .dat _) (gd_eq hr.units (gd_ixO (n := 0) (ge_fld (j := 3) (names := LN) (gr_var (pv 0) rfl) (n := 3) rfl T.cl_Loom T.no_places rfl (by decide +kernel) rfl (fun z => nomatch z)) (gd_var (pv 1) rfl) rfl (by (first | exact held_at _ | assumption | exact ixh | exact ixb (by assumption) | exact rfl | (simp only [*]; exact rfl)))) (gd_callB call_len (ca_len (by first | exact .inl rfl | exact .inr rfl)) rfl T.z_len (by decide +kernel) (ga_cons (gd_ix (by first | exact od_ixT (by (first | exact held_at _ | assumption | exact ixh | exact ixb (by assumption) | exact rfl | (simp only [*]; exact rfl))) | exact od_ixL (by (first | exact held_at _ | assumption | exact ixh | exact ixb (by assumption) | exact rfl | (simp only [*]; exact rfl)))) (ge_fld (j := 0) (names := LN) (gr_var (pv 0) rfl) (n := 3) rfl T.cl_Loom T.no__rows rfl (by decide +kernel) rfl (fun z => nomatch z)) (gd_var (pv 1) rfl)) ga_nil)) (by (first | exact shaped_int _ | exact shaped_bool _ | exact shaped_none | assumption | exact shaped_ints _ | exact shaped_str (by decide +kernel) | exact rfl | decide +kernel)) (by (first | exact shaped_int _ | exact shaped_bool _ | exact shaped_none | assumption | exact shaped_ints _ | exact shaped_str (by decide +kernel) | exact rfl | decide +kernel))) ?_
      refine ⟨congrArg (fun z => Sl.dat (.bool z)) ?_, rfl⟩
      rw [eqv_int, List.length_map]
      exact decide_eq_decide.mpr ⟨fun z => by simp only [LSt.plc, LSt.row]; simp; omega, fun z => by simp only [LSt.plc, LSt.row] at z; simp at z; omega⟩)
theorem sc_Loom__next_step : FnScope ["self", "hand"] ["self", "hand"] (defScope s_Loom__next_step) := ⟨rfl, rfl, rfl, by decide +kernel, rfl, by decide +kernel, by decide +kernel⟩
theorem ok_Loom__next_step (T : Txt K mg) : FnOk P w K mg base CX0 1 T.f_Loom__next_step T.d_Loom__next_step ["self", "hand"] (SpM K (R_Loom__next_step T)) := by
  refine mut_def0 T.F_Loom__next_step sc_Loom__next_step (fun as S PR PX h => ?_) (fun cdv A outer s H E B as S PR PX hr h => ?_)
  · obtain ⟨L, st, b, hw, ho, rfl, rfl, rfl, rfl⟩ := h; rfl
  · obtain ⟨L, st, b, hw, ho, rfl, rfl, rfl, rfl⟩ := h
    have q := next_at hw ho
    cases b
    all_goals (
      have q2 := atI_nat q
      refine gss_ret (r := .dat _) (gd_ixL (gd_ix (by first | exact od_ixT (by (first | exact held_at _ | assumption | exact ixh | exact ixb (by assumption) | exact rfl | (simp only [*]; exact rfl))) | exact od_ixL (by (first | exact held_at _ | assumption | exact ixh | exact ixb (by assumption) | exact rfl | (simp only [*]; exact rfl)))) (ge_fld (j := 0) (names := LN) (gr_var (pv 0) rfl) (n := 3) rfl T.cl_Loom T.no__rows rfl (by decide +kernel) rfl (fun z => nomatch z)) (gd_var (pv 1) rfl)) (gd_ixO (n := 0) (ge_fld (j := 3) (names := LN) (gr_var (pv 0) rfl) (n := 3) rfl T.cl_Loom T.no_places rfl (by decide +kernel) rfl (fun z => nomatch z)) (gd_var (pv 1) rfl) rfl (by (first | exact held_at _ | assumption | exact ixh | exact ixb (by assumption) | exact rfl | (simp only [*]; exact rfl)))) (by (first | exact held_at _ | assumption | exact ixh | exact ixb (by assumption) | exact rfl | (simp only [*]; exact rfl)))) ⟨rfl, rfl⟩)
theorem sc_Loom_waits : FnScope ["self", "hand"] ["self", "hand"] (defScope s_Loom_waits) := ⟨rfl, rfl, rfl, by decide +kernel, rfl, by decide +kernel, by decide +kernel⟩
theorem ok_Loom_waits (T : Txt K mg) : FnOk P w K mg base CX0 2 T.f_Loom_waits T.d_Loom_waits ["self", "hand"] (SpM K (R_Loom_waits T)) := by
  refine mut_def0 T.F_Loom_waits sc_Loom_waits (fun as S PR PX h => ?_) (fun cdv A outer s H E B as S PR PX hr h => ?_)
  · obtain ⟨L, st, b, hw, rfl, rfl, rfl, rfl⟩ := h; rfl
  · obtain ⟨L, st, b, hw, rfl, rfl, rfl, rfl⟩ := h
    have sh := hold_sh st.h
    have e1 : (1 : Int) - hI b = hI (!b) := by cases b <;> rfl
    refine gss_if (gt_of (gw_or (gt_val (gd_methP (S1 := loomS T.C_Loom L st) (F := []) (names := LN) (n := 3) (gr_var (pv 0) rfl) rfl T.cl_Loom T.M_Loom_over rfl (by decide +kernel) (ok_Loom_over T) (hr.mono (by decide)) T.b_Loom_over (gas_cons (gd_var (pv 1) rfl) gas_nil) ⟨_, _, _, rfl, rfl, rfl, rfl⟩)) (fun hh => by first | exact gw_dead (absurd hh (by (first | decide +kernel | (simp only [List.length_cons, List.length_nil, eqv_int]; decide) | (simp only [List.length_cons, List.length_nil, eqv_int, decide_eq_true_eq, decide_eq_false_iff_not]; omega)))) | exact (gw_or1 (gt_ne hr.units (ge_fld (j := 4) (names := LN) (gr_var (pv 0) rfl) (n := 3) rfl T.cl_Loom T.no_holder rfl (by decide +kernel) rfl (fun z => nomatch z)) (gd_sub gd_int (gd_var (pv 1) rfl)) (by (first | exact shaped_int _ | exact shaped_bool _ | exact shaped_none | assumption | exact shaped_ints _ | exact shaped_str (by decide +kernel) | exact rfl | decide +kernel)) (by (first | exact shaped_int _ | exact shaped_bool _ | exact shaped_none | assumption | exact shaped_ints _ | exact shaped_str (by decide +kernel) | exact rfl | decide +kernel))))))) (fun h1 => ?_) (fun h1 => ?_)
    · refine gss_ret (r := .dat _) gd_bl ?_
      rw [e1, hold_eq] at h1
      refine ⟨congrArg (fun z => Sl.dat (.bool z)) ?_, rfl⟩
      unfold LSt.waits
      cases hq : st.over b
      · rw [hq, Bool.false_or] at h1
        have h1 : decide (st.h = some (!b)) = false := by simpa using h1
        rw [h1]; rfl
      · rfl
    · refine gss_nil ?_
      rw [e1, hold_eq] at h1
      have h2 : st.over b = false ∧ decide (st.h = some (!b)) = true := by
        cases hq : st.over b
        · rw [hq, Bool.false_or] at h1; exact ⟨rfl, by simpa using h1⟩
        · rw [hq, Bool.true_or] at h1; cases h1
      have h3 := h2.1
      have w1 := kd_shaped (st.next b).kd
      refine gss_ret (r := .dat _) (gd_eq hr.units (gd_ix (by first | exact od_ixT (by (first | exact held_at _ | assumption | exact ixh | exact ixb (by assumption) | exact rfl | (simp only [*]; exact rfl))) | exact od_ixL (by (first | exact held_at _ | assumption | exact ixh | exact ixb (by assumption) | exact rfl | (simp only [*]; exact rfl)))) (gd_methP (S1 := loomS T.C_Loom L st) (F := []) (names := LN) (n := 3) (gr_var (pv 0) rfl) rfl T.cl_Loom T.M_Loom__next_step rfl (by decide +kernel) (ok_Loom__next_step T) (hr.mono (by decide)) T.b_Loom__next_step (gas_cons (gd_var (pv 1) rfl) gas_nil) ⟨_, _, _, by assumption, by first | assumption | exact (or_not hh).1, rfl, rfl, rfl, rfl⟩) gd_int) gd_str (by (first | exact shaped_int _ | exact shaped_bool _ | exact shaped_none | assumption | exact shaped_ints _ | exact shaped_str (by decide +kernel) | exact rfl | decide +kernel)) (by (first | exact shaped_int _ | exact shaped_bool _ | exact shaped_none | assumption | exact shaped_ints _ | exact shaped_str (by decide +kernel) | exact rfl | decide +kernel))) ?_
      refine ⟨congrArg (fun z => Sl.dat (.bool z)) ?_, rfl⟩
      rw [kd_take]
      unfold LSt.waits
      rw [h2.1, h2.2]; rfl
theorem sc_Loom__do_guard : FnScope ["self", "hand", "word"] ["self", "hand", "word"] (defScope s_Loom__do_guard) := ⟨rfl, rfl, rfl, by decide +kernel, rfl, by decide +kernel, by decide +kernel⟩
theorem ok_Loom__do_guard (T : Txt K mg) : FnOk P w K mg base (L2N.CX P w) 1 T.f_Loom__do_guard T.d_Loom__do_guard ["self", "hand", "word"] (SpM K (R_Loom__do_guard T)) := by
  refine mut_def T.F_Loom__do_guard sc_Loom__do_guard (fun as S PR PX h => ?_) (fun cdv A outer s H E H0 Hh ks as S PR PX hr h => ?_)
  · obtain ⟨L, st, b, t, rfl, rfl, rfl, rfl⟩ := h; rfl
  · obtain ⟨L, st, b, t, rfl, rfl, rfl, rfl⟩ := h
    have sh := hold_sh st.h
    cases t
    · refine gss_if (gt_eq hr.units (gd_var (pv 2) rfl) gd_str (by (first | exact shaped_int _ | exact shaped_bool _ | exact shaped_none | assumption | exact shaped_ints _ | exact shaped_str (by decide +kernel) | exact rfl | decide +kernel)) (by (first | exact shaped_int _ | exact shaped_bool _ | exact shaped_none | assumption | exact shaped_ints _ | exact shaped_str (by decide +kernel) | exact rfl | decide +kernel))) (fun h1 => ?_) (fun h1 => ?_)
      · exact absurd h1 (by decide +kernel)
      · refine gss_if (gt_ne hr.units (ge_fld (j := 4) (names := LN) (gr_var (pv 0) rfl) (n := 3) rfl T.cl_Loom T.no_holder rfl (by decide +kernel) rfl (fun z => nomatch z)) (gd_var (pv 1) rfl) (by (first | exact shaped_int _ | exact shaped_bool _ | exact shaped_none | assumption | exact shaped_ints _ | exact shaped_str (by decide +kernel) | exact rfl | decide +kernel)) (by (first | exact shaped_int _ | exact shaped_bool _ | exact shaped_none | assumption | exact shaped_ints _ | exact shaped_str (by decide +kernel) | exact rfl | decide +kernel))) (fun h2 => ?_) (fun h2 => ?_)
        · rw [hold_eq] at h2
          cases b
          all_goals exact ret_all (gs_raise rfl (L2N.takes_of rfl rfl rfl rfl) PySem.F.excBase_ValueError T.x_NotHeld T.g_NotHeld T.k_NotHeld (raises_own T.s_NotHeld T.t_NotHeld) rfl (ge_join (.cons gd_str (.cons (gd_fmt (gd_var (pv 1) rfl) (by decide)) (.cons gd_str .nil))) ⟨by decide +kernel, by decide +kernel, by decide +kernel, trivial⟩) ⟨by simp_all [LSt.guard], rfl, rfl⟩)
        · rw [hold_eq] at h2
          refine gss_nil (gss_one (gs_fld (j := 4) (names := LN) (n := 3) (r := .dat _) (gr_var (pv 0) rfl) gd_non rfl T.cl_Loom T.no_holder rfl (by decide +kernel) (by show 5 < 1000; decide) ?_))
          exact gss_nil ⟨{ st with h := none }, by simp_all [LSt.guard], rfl, rfl⟩
    · refine gss_if (gt_eq hr.units (gd_var (pv 2) rfl) gd_str (by (first | exact shaped_int _ | exact shaped_bool _ | exact shaped_none | assumption | exact shaped_ints _ | exact shaped_str (by decide +kernel) | exact rfl | decide +kernel)) (by (first | exact shaped_int _ | exact shaped_bool _ | exact shaped_none | assumption | exact shaped_ints _ | exact shaped_str (by decide +kernel) | exact rfl | decide +kernel))) (fun h1 => ?_) (fun h1 => ?_)
      · refine gss_if (gt_eq hr.units (ge_fld (j := 4) (names := LN) (gr_var (pv 0) rfl) (n := 3) rfl T.cl_Loom T.no_holder rfl (by decide +kernel) rfl (fun z => nomatch z)) (gd_var (pv 1) rfl) (by (first | exact shaped_int _ | exact shaped_bool _ | exact shaped_none | assumption | exact shaped_ints _ | exact shaped_str (by decide +kernel) | exact rfl | decide +kernel)) (by (first | exact shaped_int _ | exact shaped_bool _ | exact shaped_none | assumption | exact shaped_ints _ | exact shaped_str (by decide +kernel) | exact rfl | decide +kernel))) (fun h2 => ?_) (fun h2 => ?_)
        · rw [hold_eq] at h2
          cases b
          all_goals exact ret_all (gs_raise rfl (L2N.takes_of rfl rfl rfl rfl) PySem.F.excBase_ValueError T.x_Again T.g_Again T.k_Again (raises_own T.s_Again T.t_Again) rfl (ge_join (.cons gd_str (.cons (gd_fmt (gd_var (pv 1) rfl) (by decide)) (.cons gd_str .nil))) ⟨by decide +kernel, by decide +kernel, by decide +kernel, trivial⟩) ⟨by simp_all [LSt.guard], rfl, rfl⟩)
        · rw [hold_eq] at h2
          refine gss_nil (gss_one (gs_fld (j := 4) (names := LN) (n := 3) (r := .dat _) (gr_var (pv 0) rfl) (gd_var (pv 1) rfl) rfl T.cl_Loom T.no_holder rfl (by decide +kernel) (by show 5 < 1000; decide) ?_))
          exact gss_nil ⟨{ st with h := some b }, by simp_all [LSt.guard], rfl, rfl⟩
      · exact absurd h1 (by decide +kernel)
theorem sc_Loom__do_box : FnScope ["self", "hand", "word", "box"] ["self", "hand", "word", "box"] (defScope s_Loom__do_box) := ⟨rfl, rfl, rfl, by decide +kernel, rfl, by decide +kernel, by decide +kernel⟩
theorem ok_Loom__do_box (T : Txt K mg) : FnOk P w K mg base CX0 1 T.f_Loom__do_box T.d_Loom__do_box ["self", "hand", "word", "box"] (SpM K (R_Loom__do_box T)) := by
  refine mut_def0 T.F_Loom__do_box sc_Loom__do_box (fun as S PR PX h => ?_) (fun cdv A outer s H E B as S PR PX hr h => ?_)
  · obtain ⟨L, st, b, s, hb, hg, rfl, rfl, rfl, rfl⟩ := h; rfl
  · obtain ⟨L, st, b, s, hb, hg, rfl, rfl, rfl, rfl⟩ := h
    have g := hg hb
    cases s with
    | add _ => exact absurd hb Bool.false_ne_true
    | twice => exact absurd hb (by decide)
    | take => exact absurd hb (by decide)
    | free => exact absurd hb (by decide)
    | load x =>
      have w1 : SeqAt.shaped (.str (Stp.load x).kd.word) = true := kd_shaped _
      have g : 0 ≤ x ∧ x < (st.bx.length : Int) := g
      have q := box_at g.1 g.2
      refine gss_if (gt_eq hr.units (gd_var (pv 2) rfl) gd_str (by (first | exact shaped_int _ | exact shaped_bool _ | exact shaped_none | assumption | exact shaped_ints _ | exact shaped_str (by decide +kernel) | exact rfl | decide +kernel)) (by (first | exact shaped_int _ | exact shaped_bool _ | exact shaped_none | assumption | exact shaped_ints _ | exact shaped_str (by decide +kernel) | exact rfl | decide +kernel))) (fun h1 => ?_) (fun h1 => by simp [kd_load, Stp.kd] at h1)
      cases b
      all_goals exact gss_one (gs_setO (n := 1) (ge_fld (j := 2) (names := LN) (gr_var (pv 0) rfl) (n := 3) rfl T.cl_Loom T.no_numbers rfl (by decide +kernel) rfl (fun z => nomatch z)) (gd_var (pv 1) rfl) (gd_ixO (n := 2) (ge_fld (j := 1) (names := LN) (gr_var (pv 0) rfl) (n := 3) rfl T.cl_Loom T.no_boxes rfl (by decide +kernel) rfl (fun z => nomatch z)) (gd_var (pv 3) rfl) rfl (by (first | exact held_at _ | assumption | exact ixh | exact ixb (by assumption) | exact rfl | (simp only [*]; exact rfl)))) rfl rfl (gss_nil ⟨rfl, rfl⟩))
    | plus x =>
      have w1 : SeqAt.shaped (.str (Stp.plus x).kd.word) = true := kd_shaped _
      have g : 0 ≤ x ∧ x < (st.bx.length : Int) := g
      have q := box_at g.1 g.2
      refine gss_if (gt_eq hr.units (gd_var (pv 2) rfl) gd_str (by (first | exact shaped_int _ | exact shaped_bool _ | exact shaped_none | assumption | exact shaped_ints _ | exact shaped_str (by decide +kernel) | exact rfl | decide +kernel)) (by (first | exact shaped_int _ | exact shaped_bool _ | exact shaped_none | assumption | exact shaped_ints _ | exact shaped_str (by decide +kernel) | exact rfl | decide +kernel))) (fun h1 => by simp [kd_load, Stp.kd] at h1) (fun h1 => ?_)
      refine gss_if (gt_eq hr.units (gd_var (pv 2) rfl) gd_str (by (first | exact shaped_int _ | exact shaped_bool _ | exact shaped_none | assumption | exact shaped_ints _ | exact shaped_str (by decide +kernel) | exact rfl | decide +kernel)) (by (first | exact shaped_int _ | exact shaped_bool _ | exact shaped_none | assumption | exact shaped_ints _ | exact shaped_str (by decide +kernel) | exact rfl | decide +kernel))) (fun h2 => ?_) (fun h2 => by simp [kd_plus, Stp.kd] at h2)
      cases b
      · exact gss_one (gs_augO (n := 1) (m := 0) (C := fun _ _ => True) (f := fun i j => i + j) ip_addT (ge_fld (j := 2) (names := LN) (gr_var (pv 0) rfl) (n := 3) rfl T.cl_Loom T.no_numbers rfl (by decide +kernel) rfl (fun z => nomatch z)) (gd_var (pv 1) rfl) (gd_ixO (n := 2) (ge_fld (j := 1) (names := LN) (gr_var (pv 0) rfl) (n := 3) rfl T.cl_Loom T.no_boxes rfl (by decide +kernel) rfl (fun z => nomatch z)) (gd_var (pv 3) rfl) rfl (by (first | exact held_at _ | assumption | exact ixh | exact ixb (by assumption) | exact rfl | (simp only [*]; exact rfl)))) rfl rfl trivial (gss_nil (gss_nil ⟨rfl, rfl⟩)))
      · exact gss_one (gs_augO (n := 1) (m := 1) (C := fun _ _ => True) (f := fun i j => i + j) ip_addT (ge_fld (j := 2) (names := LN) (gr_var (pv 0) rfl) (n := 3) rfl T.cl_Loom T.no_numbers rfl (by decide +kernel) rfl (fun z => nomatch z)) (gd_var (pv 1) rfl) (gd_ixO (n := 2) (ge_fld (j := 1) (names := LN) (gr_var (pv 0) rfl) (n := 3) rfl T.cl_Loom T.no_boxes rfl (by decide +kernel) rfl (fun z => nomatch z)) (gd_var (pv 3) rfl) rfl (by (first | exact held_at _ | assumption | exact ixh | exact ixb (by assumption) | exact rfl | (simp only [*]; exact rfl)))) rfl rfl trivial (gss_nil (gss_nil ⟨rfl, rfl⟩)))
    | store x =>
      have w1 : SeqAt.shaped (.str (Stp.store x).kd.word) = true := kd_shaped _
      have g : 0 ≤ x ∧ x < (st.bx.length : Int) := g
      refine gss_if (gt_eq hr.units (gd_var (pv 2) rfl) gd_str (by (first | exact shaped_int _ | exact shaped_bool _ | exact shaped_none | assumption | exact shaped_ints _ | exact shaped_str (by decide +kernel) | exact rfl | decide +kernel)) (by (first | exact shaped_int _ | exact shaped_bool _ | exact shaped_none | assumption | exact shaped_ints _ | exact shaped_str (by decide +kernel) | exact rfl | decide +kernel))) (fun h1 => by simp [kd_load, Stp.kd] at h1) (fun h1 => ?_)
      refine gss_if (gt_eq hr.units (gd_var (pv 2) rfl) gd_str (by (first | exact shaped_int _ | exact shaped_bool _ | exact shaped_none | assumption | exact shaped_ints _ | exact shaped_str (by decide +kernel) | exact rfl | decide +kernel)) (by (first | exact shaped_int _ | exact shaped_bool _ | exact shaped_none | assumption | exact shaped_ints _ | exact shaped_str (by decide +kernel) | exact rfl | decide +kernel))) (fun h2 => by simp [kd_plus, Stp.kd] at h2) (fun h2 => ?_)
      cases b
      all_goals exact gss_one (gs_setO (n := 2) (ge_fld (j := 1) (names := LN) (gr_var (pv 0) rfl) (n := 3) rfl T.cl_Loom T.no_boxes rfl (by decide +kernel) rfl (fun z => nomatch z)) (gd_var (pv 3) rfl) (gd_ixO (n := 1) (ge_fld (j := 2) (names := LN) (gr_var (pv 0) rfl) (n := 3) rfl T.cl_Loom T.no_numbers rfl (by decide +kernel) rfl (fun z => nomatch z)) (gd_var (pv 1) rfl) rfl (by (first | exact held_at _ | assumption | exact ixh | exact ixb (by assumption) | exact rfl | (simp only [*]; exact rfl)))) rfl (box_ix g.1 g.2) (gss_nil (gss_nil ⟨rfl, by rw [set_ints]; rfl⟩)))
theorem sc_Loom_go : FnScope ["self", "hand", "step", "word"] ["self", "hand"] (defScope s_Loom_go) := ⟨rfl, rfl, rfl, by decide +kernel, rfl, by decide +kernel, by decide +kernel⟩
theorem ok_Loom_go (T : Txt K mg) : FnOk P w K mg base (L2N.CX P w) 3 T.f_Loom_go T.d_Loom_go ["self", "hand"] (SpM K (R_Loom_go T)) := by
  refine mut_def T.F_Loom_go sc_Loom_go (fun as S PR PX h => ?_) (fun cdv A outer s H E H0 Hh ks as S PR PX hr h => ?_)
  · obtain ⟨L, st, b, hw, hsm, rfl, rfl, rfl, rfl⟩ := h; rfl
  · obtain ⟨L, st, b, hw, hsm, rfl, rfl, rfl, rfl⟩ := h
    refine gss_if (gt_val (gd_methP (S1 := loomS T.C_Loom L st) (F := []) (names := LN) (n := 3) (gr_var (pv 0) rfl) rfl T.cl_Loom T.M_Loom_over rfl (by decide +kernel) (ok_Loom_over T) (hr.mono (by decide)) T.b_Loom_over (gas_cons (gd_var (pv 1) rfl) gas_nil) ⟨_, _, _, rfl, rfl, rfl, rfl⟩)) (fun ho => ?_) (fun ho => ?_)
    · have he : st.err b = some .noTurn := by unfold LSt.err; rw [ho]; rfl
      cases b
      all_goals exact ret_all (gs_raise rfl (L2N.takes_of rfl rfl rfl rfl) PySem.F.excBase_ValueError T.x_NoTurn T.g_NoTurn T.k_NoTurn (raises_own T.s_NoTurn T.t_NoTurn) rfl (ge_join (.cons gd_str (.cons (gd_fmt (gd_var (pv 1) rfl) (by decide)) (.cons gd_str .nil))) ⟨by decide +kernel, by decide +kernel, by decide +kernel, trivial⟩) ⟨_, he, rfl, rfl⟩)
    refine gss_nil ?_
    refine gss_if (gt_val (gd_methP (S1 := loomS T.C_Loom L st) (F := []) (names := LN) (n := 3) (gr_var (pv 0) rfl) rfl T.cl_Loom T.M_Loom_waits rfl (by decide +kernel) (ok_Loom_waits T) (hr.mono (by decide)) T.b_Loom_waits (gas_cons (gd_var (pv 1) rfl) gas_nil) ⟨_, _, _, by assumption, rfl, rfl, rfl, rfl⟩)) (fun hwt => ?_) (fun hwt => ?_)
    · have he : st.err b = some .waits := by unfold LSt.err; rw [ho, hwt]; rfl
      cases b
      all_goals exact ret_all (gs_raise rfl (L2N.takes_of rfl rfl rfl rfl) PySem.F.excBase_ValueError T.x_Waits T.g_Waits T.k_Waits (raises_own T.s_Waits T.t_Waits) rfl (ge_join (.cons gd_str (.cons (gd_fmt (gd_var (pv 1) rfl) (by decide)) (.cons gd_str .nil))) ⟨by decide +kernel, by decide +kernel, by decide +kernel, trivial⟩) ⟨_, he, rfl, rfl⟩)
    refine gss_nil ?_
    have gd := next_good hw ho
    refine gss_set (i := 2) sc_Loom_go.nd rfl (.inl rfl) (r := .dat _) (gd_methP (S1 := loomS T.C_Loom L st) (F := []) (names := LN) (n := 3) (gr_var (pv 0) rfl) rfl T.cl_Loom T.M_Loom__next_step rfl (by decide +kernel) (ok_Loom__next_step T) (hr.mono (by decide)) T.b_Loom__next_step (gas_cons (gd_var (pv 1) rfl) gas_nil) ⟨_, _, _, by assumption, by first | assumption | exact (or_not hh).1, rfl, rfl, rfl, rfl⟩) ?_
    refine gss_set (i := 3) sc_Loom_go.nd rfl (.inl rfl) (r := .dat _) (gd_ixT (gd_var (pv 2) rfl) gd_int (by (first | exact held_at _ | assumption | exact ixh | exact ixb (by assumption) | exact rfl | (simp only [*]; exact rfl)))) ?_
    obtain ⟨s, hs⟩ : ∃ s, st.next b = s := ⟨_, rfl⟩
    rw [hs] at gd
    rw [hs]
    refine gss_keep (fun S' => st.err b = none ∧ S' = loomS T.C_Loom L (st.eff b s)) ?_ ?_
    · have ws := kd_shaped s.kd
      cases s with
      | take =>
        refine gs_if (gt_in rfl (gd_var (pv 3) rfl) (gd_con (pe_glob rfl T.m_GUARD_WORDS T.r_GUARD_WORDS) T.c_GUARD_WORDS) (by (first | exact rfl | decide)) (by (first | exact rfl | decide))) (fun h1 => ?_) (fun h1 => by simp [kd_guard, Kd.isGuard, Stp.kd] at h1)
        refine gss_one (gs_exprE (ge_mono (ge_meth (S1 := loomS T.C_Loom L st) (F := []) (names := LN) (n := 3) (gr_var (pv 0) rfl) rfl T.cl_Loom T.M_Loom__do_guard rfl (by decide +kernel) (ok_Loom__do_guard T) (hr.mono (by decide)) T.b_Loom__do_guard (fun σ => L2N.passAt (L2N.takes_of rfl rfl rfl rfl) σ) (gas_cons (r := .dat _) (gd_var (pv 1) rfl) (gas_cons (r := .dat _) (gd_var (pv 3) rfl) gas_nil)) ⟨L, st, b, true, rfl, rfl, rfl, rfl⟩) (fun r S' h => ?_) (fun c S' h => ?_)))
        · obtain ⟨S1, ⟨st', h1, _, rfl⟩, rfl⟩ := h
          have hne : st.h ≠ some b := fun z => by simp [LSt.guard, z] at h1
          simp only [LSt.guard, if_neg hne] at h1
          cases h1
          exact ⟨rfl, by unfold LSt.err; rw [ho, hwt, hs]; simp_all [Stp.kd], rfl⟩
        · obtain ⟨S1, ⟨h1, rfl, rfl⟩, rfl⟩ := h
          have hb : st.h = some b := by
            by_cases z : st.h = some b
            · exact z
            · simp [LSt.guard, z] at h1
          exact ⟨.again, by unfold LSt.err; rw [ho, hwt, hs]; simp_all [Stp.kd], rfl, rfl⟩
      | free =>
        refine gs_if (gt_in rfl (gd_var (pv 3) rfl) (gd_con (pe_glob rfl T.m_GUARD_WORDS T.r_GUARD_WORDS) T.c_GUARD_WORDS) (by (first | exact rfl | decide)) (by (first | exact rfl | decide))) (fun h1 => ?_) (fun h1 => by simp [kd_guard, Kd.isGuard, Stp.kd] at h1)
        refine gss_one (gs_exprE (ge_mono (ge_meth (S1 := loomS T.C_Loom L st) (F := []) (names := LN) (n := 3) (gr_var (pv 0) rfl) rfl T.cl_Loom T.M_Loom__do_guard rfl (by decide +kernel) (ok_Loom__do_guard T) (hr.mono (by decide)) T.b_Loom__do_guard (fun σ => L2N.passAt (L2N.takes_of rfl rfl rfl rfl) σ) (gas_cons (r := .dat _) (gd_var (pv 1) rfl) (gas_cons (r := .dat _) (gd_var (pv 3) rfl) gas_nil)) ⟨L, st, b, false, rfl, rfl, rfl, rfl⟩) (fun r S' h => ?_) (fun c S' h => ?_)))
        · obtain ⟨S1, ⟨st', h1, _, rfl⟩, rfl⟩ := h
          have hb : st.h = some b := by
            by_cases z : st.h = some b
            · exact z
            · simp [LSt.guard, z] at h1
          simp only [LSt.guard, if_pos hb] at h1
          cases h1
          exact ⟨rfl, by unfold LSt.err; rw [ho, hwt, hs]; simp_all [Stp.kd], rfl⟩
        · obtain ⟨S1, ⟨h1, rfl, rfl⟩, rfl⟩ := h
          have hb : ¬ st.h = some b := fun z => by simp [LSt.guard, z] at h1
          exact ⟨.notHeld, by unfold LSt.err; rw [ho, hwt, hs]; simp_all [Stp.kd], rfl, rfl⟩
      | load x =>
        refine gs_if (gt_in rfl (gd_var (pv 3) rfl) (gd_con (pe_glob rfl T.m_GUARD_WORDS T.r_GUARD_WORDS) T.c_GUARD_WORDS) (by (first | exact rfl | decide)) (by (first | exact rfl | decide))) (fun h1 => by simp [kd_guard, Kd.isGuard, Stp.kd] at h1) (fun h1 => ?_)
        refine gss_one (gs_if (gt_in rfl (gd_var (pv 3) rfl) (gd_con (pe_glob rfl T.m_BOX_WORDS T.r_BOX_WORDS) T.c_BOX_WORDS) (by (first | exact rfl | decide)) (by (first | exact rfl | decide))) (fun h2 => ?_) (fun h2 => by simp [kd_box, Kd.isBox, Stp.kd] at h2))
        refine gss_one (gs_exprE (ge_mono (ge_meth (S1 := loomS T.C_Loom L st) (F := []) (names := LN) (n := 3) (gr_var (pv 0) rfl) rfl T.cl_Loom T.M_Loom__do_box rfl (by decide +kernel) (ok_Loom__do_box T) (hr.mono (by decide)) T.b_Loom__do_box (fun _ _ _ _ _ _ _ h => h.elim) (gas_cons (r := .dat _) (gd_var (pv 1) rfl) (gas_cons (r := .dat _) (gd_var (pv 3) rfl) (gas_cons (r := .dat _) (gd_ixT (gd_var (pv 2) rfl) gd_int (by (first | exact held_at _ | assumption | exact ixh | exact ixb (by assumption) | exact rfl | (simp only [*]; exact rfl)))) gas_nil))) ⟨L, st, b, .load x, rfl, gd, rfl, rfl, rfl, rfl⟩) (fun r S' h => ?_) (fun c S' h => ?_)))
        · obtain ⟨S1, ⟨_, rfl⟩, rfl⟩ := h
          exact ⟨rfl, by unfold LSt.err; rw [ho, hwt, hs]; simp_all [Stp.kd], rfl⟩
        · obtain ⟨S1, h1, _⟩ := h
          exact h1.elim
      | plus x =>
        refine gs_if (gt_in rfl (gd_var (pv 3) rfl) (gd_con (pe_glob rfl T.m_GUARD_WORDS T.r_GUARD_WORDS) T.c_GUARD_WORDS) (by (first | exact rfl | decide)) (by (first | exact rfl | decide))) (fun h1 => by simp [kd_guard, Kd.isGuard, Stp.kd] at h1) (fun h1 => ?_)
        refine gss_one (gs_if (gt_in rfl (gd_var (pv 3) rfl) (gd_con (pe_glob rfl T.m_BOX_WORDS T.r_BOX_WORDS) T.c_BOX_WORDS) (by (first | exact rfl | decide)) (by (first | exact rfl | decide))) (fun h2 => ?_) (fun h2 => by simp [kd_box, Kd.isBox, Stp.kd] at h2))
        refine gss_one (gs_exprE (ge_mono (ge_meth (S1 := loomS T.C_Loom L st) (F := []) (names := LN) (n := 3) (gr_var (pv 0) rfl) rfl T.cl_Loom T.M_Loom__do_box rfl (by decide +kernel) (ok_Loom__do_box T) (hr.mono (by decide)) T.b_Loom__do_box (fun _ _ _ _ _ _ _ h => h.elim) (gas_cons (r := .dat _) (gd_var (pv 1) rfl) (gas_cons (r := .dat _) (gd_var (pv 3) rfl) (gas_cons (r := .dat _) (gd_ixT (gd_var (pv 2) rfl) gd_int (by (first | exact held_at _ | assumption | exact ixh | exact ixb (by assumption) | exact rfl | (simp only [*]; exact rfl)))) gas_nil))) ⟨L, st, b, .plus x, rfl, gd, rfl, rfl, rfl, rfl⟩) (fun r S' h => ?_) (fun c S' h => ?_)))
        · obtain ⟨S1, ⟨_, rfl⟩, rfl⟩ := h
          exact ⟨rfl, by unfold LSt.err; rw [ho, hwt, hs]; simp_all [Stp.kd], rfl⟩
        · obtain ⟨S1, h1, _⟩ := h
          exact h1.elim
      | store x =>
        refine gs_if (gt_in rfl (gd_var (pv 3) rfl) (gd_con (pe_glob rfl T.m_GUARD_WORDS T.r_GUARD_WORDS) T.c_GUARD_WORDS) (by (first | exact rfl | decide)) (by (first | exact rfl | decide))) (fun h1 => by simp [kd_guard, Kd.isGuard, Stp.kd] at h1) (fun h1 => ?_)
        refine gss_one (gs_if (gt_in rfl (gd_var (pv 3) rfl) (gd_con (pe_glob rfl T.m_BOX_WORDS T.r_BOX_WORDS) T.c_BOX_WORDS) (by (first | exact rfl | decide)) (by (first | exact rfl | decide))) (fun h2 => ?_) (fun h2 => by simp [kd_box, Kd.isBox, Stp.kd] at h2))
        refine gss_one (gs_exprE (ge_mono (ge_meth (S1 := loomS T.C_Loom L st) (F := []) (names := LN) (n := 3) (gr_var (pv 0) rfl) rfl T.cl_Loom T.M_Loom__do_box rfl (by decide +kernel) (ok_Loom__do_box T) (hr.mono (by decide)) T.b_Loom__do_box (fun _ _ _ _ _ _ _ h => h.elim) (gas_cons (r := .dat _) (gd_var (pv 1) rfl) (gas_cons (r := .dat _) (gd_var (pv 3) rfl) (gas_cons (r := .dat _) (gd_ixT (gd_var (pv 2) rfl) gd_int (by (first | exact held_at _ | assumption | exact ixh | exact ixb (by assumption) | exact rfl | (simp only [*]; exact rfl)))) gas_nil))) ⟨L, st, b, .store x, rfl, gd, rfl, rfl, rfl, rfl⟩) (fun r S' h => ?_) (fun c S' h => ?_)))
        · obtain ⟨S1, ⟨_, rfl⟩, rfl⟩ := h
          exact ⟨rfl, by unfold LSt.err; rw [ho, hwt, hs]; simp_all [Stp.kd], rfl⟩
        · obtain ⟨S1, h1, _⟩ := h
          exact h1.elim
      | add n =>
        refine gs_if (gt_in rfl (gd_var (pv 3) rfl) (gd_con (pe_glob rfl T.m_GUARD_WORDS T.r_GUARD_WORDS) T.c_GUARD_WORDS) (by (first | exact rfl | decide)) (by (first | exact rfl | decide))) (fun h1 => by simp [kd_guard, Kd.isGuard, Stp.kd] at h1) (fun h1 => ?_)
        refine gss_one (gs_if (gt_in rfl (gd_var (pv 3) rfl) (gd_con (pe_glob rfl T.m_BOX_WORDS T.r_BOX_WORDS) T.c_BOX_WORDS) (by (first | exact rfl | decide)) (by (first | exact rfl | decide))) (fun h2 => by simp [kd_box, Kd.isBox, Stp.kd] at h2) (fun h2 => ?_))
        refine gss_one (gs_if (gt_eq hr.units (gd_var (pv 3) rfl) gd_str (by (first | exact shaped_int _ | exact shaped_bool _ | exact shaped_none | assumption | exact shaped_ints _ | exact shaped_str (by decide +kernel) | exact rfl | decide +kernel)) (by (first | exact shaped_int _ | exact shaped_bool _ | exact shaped_none | assumption | exact shaped_ints _ | exact shaped_str (by decide +kernel) | exact rfl | decide +kernel))) (fun h3 => ?_) (fun h3 => by simp [kd_add, Stp.kd] at h3))
        cases b
        · exact gss_one (gs_augO (n := 1) (m := 0) (C := fun _ _ => True) (f := fun i j => i + j) ip_addT (ge_fld (j := 2) (names := LN) (gr_var (pv 0) rfl) (n := 3) rfl T.cl_Loom T.no_numbers rfl (by decide +kernel) rfl (fun z => nomatch z)) (gd_var (pv 1) rfl) (gd_ixT (gd_var (pv 2) rfl) gd_int (by (first | exact held_at _ | assumption | exact ixh | exact ixb (by assumption) | exact rfl | (simp only [*]; exact rfl)))) rfl rfl trivial ⟨rfl, by unfold LSt.err; rw [ho, hwt, hs]; simp_all [Stp.kd], rfl⟩)
        · exact gss_one (gs_augO (n := 1) (m := 1) (C := fun _ _ => True) (f := fun i j => i + j) ip_addT (ge_fld (j := 2) (names := LN) (gr_var (pv 0) rfl) (n := 3) rfl T.cl_Loom T.no_numbers rfl (by decide +kernel) rfl (fun z => nomatch z)) (gd_var (pv 1) rfl) (gd_ixT (gd_var (pv 2) rfl) gd_int (by (first | exact held_at _ | assumption | exact ixh | exact ixb (by assumption) | exact rfl | (simp only [*]; exact rfl)))) rfl rfl trivial ⟨rfl, by unfold LSt.err; rw [ho, hwt, hs]; simp_all [Stp.kd], rfl⟩)
      | twice =>
        refine gs_if (gt_in rfl (gd_var (pv 3) rfl) (gd_con (pe_glob rfl T.m_GUARD_WORDS T.r_GUARD_WORDS) T.c_GUARD_WORDS) (by (first | exact rfl | decide)) (by (first | exact rfl | decide))) (fun h1 => by simp [kd_guard, Kd.isGuard, Stp.kd] at h1) (fun h1 => ?_)
        refine gss_one (gs_if (gt_in rfl (gd_var (pv 3) rfl) (gd_con (pe_glob rfl T.m_BOX_WORDS T.r_BOX_WORDS) T.c_BOX_WORDS) (by (first | exact rfl | decide)) (by (first | exact rfl | decide))) (fun h2 => by simp [kd_box, Kd.isBox, Stp.kd] at h2) (fun h2 => ?_))
        refine gss_one (gs_if (gt_eq hr.units (gd_var (pv 3) rfl) gd_str (by (first | exact shaped_int _ | exact shaped_bool _ | exact shaped_none | assumption | exact shaped_ints _ | exact shaped_str (by decide +kernel) | exact rfl | decide +kernel)) (by (first | exact shaped_int _ | exact shaped_bool _ | exact shaped_none | assumption | exact shaped_ints _ | exact shaped_str (by decide +kernel) | exact rfl | decide +kernel))) (fun h3 => by simp [kd_add, Stp.kd] at h3) (fun h3 => ?_))
        cases b
        · exact gss_one (gs_augO (n := 1) (m := 0) (C := IntMulOk) (f := fun i j => i * j) ip_mulT (ge_fld (j := 2) (names := LN) (gr_var (pv 0) rfl) (n := 3) rfl T.cl_Loom T.no_numbers rfl (by decide +kernel) rfl (fun z => nomatch z)) (gd_var (pv 1) rfl) gd_int rfl rfl (two_ok hsm.1) ⟨rfl, by unfold LSt.err; rw [ho, hwt, hs]; simp_all [Stp.kd], rfl⟩)
        · exact gss_one (gs_augO (n := 1) (m := 1) (C := IntMulOk) (f := fun i j => i * j) ip_mulT (ge_fld (j := 2) (names := LN) (gr_var (pv 0) rfl) (n := 3) rfl T.cl_Loom T.no_numbers rfl (by decide +kernel) rfl (fun z => nomatch z)) (gd_var (pv 1) rfl) gd_int rfl rfl (two_ok hsm.2) ⟨rfl, by unfold LSt.err; rw [ho, hwt, hs]; simp_all [Stp.kd], rfl⟩)
    · rintro S' ⟨he, rfl⟩
      have hd : st.done b = (st.eff b s).setP b (st.plc b + 1) := by unfold LSt.done; rw [hs]
      have z0 := eff_p0 st b s
      have z1 := eff_p1 st b s
      cases b
      · refine gss_one (gs_augO (n := 0) (m := 0) (C := fun _ _ => True) (f := fun i j => i + j) ip_addT (ge_fld (j := 3) (names := LN) (gr_var (pv 0) rfl) (n := 3) rfl T.cl_Loom T.no_places rfl (by decide +kernel) rfl (fun z => nomatch z)) (gd_var (pv 1) rfl) gd_int rfl rfl trivial ⟨he, rfl, ?_⟩)
        rw [hd]
        simp only [loomS, LSt.setP, LSt.plc, z0, z1]; first | rfl | done
      · refine gss_one (gs_augO (n := 0) (m := 1) (C := fun _ _ => True) (f := fun i j => i + j) ip_addT (ge_fld (j := 3) (names := LN) (gr_var (pv 0) rfl) (n := 3) rfl T.cl_Loom T.no_places rfl (by decide +kernel) rfl (fun z => nomatch z)) (gd_var (pv 1) rfl) gd_int rfl rfl trivial ⟨he, rfl, ?_⟩)
        rw [hd]
        simp only [loomS, LSt.setP, LSt.plc, z0, z1]; first | rfl | done
theorem sc_is_whole : FnScope ["thing"] ["thing"] (defScope s_is_whole) := ⟨rfl, rfl, rfl, by decide +kernel, rfl, by decide +kernel, by decide +kernel⟩
theorem ok_is_whole (T : Txt K mg) : FnOk P w K mg base CX0 1 T.f_is_whole T.d_is_whole ["thing"] (SpD K R_is_whole) := by
  refine pure_def T.F_is_whole sc_is_whole (fun ds d h => ?_) (fun cdv A outer s H E B ds d hr h => ?_)
  · obtain ⟨d0, rfl, rfl⟩ := h; rfl
  · obtain ⟨d0, rfl, rfl⟩ := h
    cases d0
    all_goals (
      refine gss_ret (r := .dat _) (gd_and (gd_isi (n := "int") rfl T.z_isinstance (by decide +kernel) (pe_bltn rfl T.z_int (by decide +kernel) rfl) (gd_var (pv 0) rfl) (by first | exact kit_tuple_int | exact kit_list_int | exact kit_int_int | exact kit_bool_int | exact kit_str_int | exact kit_NoneType_int | exact kit_dict_int)) (fun hh => by first | exact gd_dead (absurd hh (by (first | decide +kernel | (simp only [List.length_cons, List.length_nil, eqv_int]; decide) | (simp only [List.length_cons, List.length_nil, eqv_int, decide_eq_true_eq, decide_eq_false_iff_not]; omega)))) | exact (gd_one (gd_not (gd_isi (n := "bool") rfl T.z_isinstance (by decide +kernel) (pe_bltn rfl T.z_bool (by decide +kernel) rfl) (gd_var (pv 0) rfl) (by first | exact kit_tuple_bool | exact kit_list_bool | exact kit_int_bool | exact kit_bool_bool | exact kit_str_bool | exact kit_NoneType_bool | exact kit_dict_bool)))))) ?_
      (first | exact rfl | (simp only [*]; done) | (simp only [*]; exact rfl))
      )
theorem sc_is_step : FnScope ["thing", "word"] ["thing"] (defScope s_is_step) := ⟨rfl, rfl, rfl, by decide +kernel, rfl, by decide +kernel, by decide +kernel⟩
theorem ok_is_step (T : Txt K mg) : FnOk P w K mg base CX0 2 T.f_is_step T.d_is_step ["thing"] (SpD K R_is_step) := by
  refine pure_def T.F_is_step sc_is_step (fun ds d h => ?_) (fun cdv A outer s H E B ds d hr h => ?_)
  · obtain ⟨d0, rfl, hok, rfl⟩ := h; rfl
  · obtain ⟨d0, rfl, hok, rfl⟩ := h
    rcases d0 with _ | _ | _ | _ | _ | xs | _
    rotate_left 5
    rcases xs with _ | ⟨a, r⟩
    rotate_left 1
    rcases a with _ | _ | _ | w | _ | _ | _
    rotate_left 3
    have ws := shaped_str (hok w r rfl)
    rcases r with _ | ⟨b, _ | ⟨b', r⟩⟩
    all_goals (
      refine gss_if (gt_of (gw_or (gt_not (gt_val (gd_isi (n := "tuple") rfl T.z_isinstance (by decide +kernel) (pe_bltn rfl T.z_tuple (by decide +kernel) rfl) (gd_var (pv 0) rfl) (by first | exact kit_tuple_tuple | exact kit_list_tuple | exact kit_int_tuple | exact kit_bool_tuple | exact kit_str_tuple | exact kit_NoneType_tuple | exact kit_dict_tuple)))) (fun hh => by first | exact gw_dead (absurd hh (by (first | decide +kernel | (simp only [List.length_cons, List.length_nil, eqv_int]; decide) | (simp only [List.length_cons, List.length_nil, eqv_int, decide_eq_true_eq, decide_eq_false_iff_not]; omega)))) | exact (gw_or1 (gt_eq hr.units (gd_callB call_len (ca_len (by first | exact .inl rfl | exact .inr rfl)) rfl T.z_len (by decide +kernel) (ga_cons (gd_var (pv 0) rfl) ga_nil)) gd_int (by (first | exact shaped_int _ | exact shaped_bool _ | exact shaped_none | assumption | exact shaped_ints _ | exact shaped_str (by decide +kernel) | exact rfl | decide +kernel)) (by (first | exact shaped_int _ | exact shaped_bool _ | exact shaped_none | assumption | exact shaped_ints _ | exact shaped_str (by decide +kernel) | exact rfl | decide +kernel))))))) (fun h1 => ?_) (fun h1 => ?_)
      · (try (exact absurd h1 (by (first | decide +kernel | (simp only [List.length_cons, List.length_nil, eqv_int]; decide) | (simp only [List.length_cons, List.length_nil, eqv_int, decide_eq_true_eq, decide_eq_false_iff_not]; omega)))))
        all_goals (
          refine gss_ret (r := .dat _) gd_bl ?_
          show Sl.dat _ = Sl.dat _
          first | rfl | (simp only [isStepD, one1, inD, List.isEmpty]; simp_all [isStepD, one1, inD, PyData.eqv]; done) | (simp_all [isStepD, one1, inD, PyData.eqv]; try omega)
        )
      · (try (exact absurd h1 (by (first | decide +kernel | (simp only [List.length_cons, List.length_nil, eqv_int]; decide) | (simp only [List.length_cons, List.length_nil, eqv_int, decide_eq_true_eq, decide_eq_false_iff_not]; omega)))))
        all_goals (
          refine gss_nil ?_
          refine gss_set (i := 1) sc_is_step.nd rfl (by first | exact .inl rfl | exact .inr rfl) (r := .dat _) (gd_ixT (gd_var (pv 0) rfl) gd_int (by (first | exact held_at _ | assumption | exact ixh | exact ixb (by assumption) | exact rfl | (simp only [*]; exact rfl)))) ?_
          refine gss_if (gt_not (gt_val (gd_isi (n := "str") rfl T.z_isinstance (by decide +kernel) (pe_bltn rfl T.z_str (by decide +kernel) rfl) (gd_var (pv 1) rfl) (by first | exact kit_tuple_str | exact kit_list_str | exact kit_int_str | exact kit_bool_str | exact kit_str_str | exact kit_NoneType_str | exact kit_dict_str)))) (fun h2 => ?_) (fun h2 => ?_)
          · (try (exact absurd h2 (by (first | decide +kernel | (simp only [List.length_cons, List.length_nil, eqv_int]; decide) | (simp only [List.length_cons, List.length_nil, eqv_int, decide_eq_true_eq, decide_eq_false_iff_not]; omega)))))
            all_goals (
              refine gss_ret (r := .dat _) gd_bl ?_
              show Sl.dat _ = Sl.dat _
              first | rfl | (simp only [isStepD, one1, inD, List.isEmpty]; simp_all [isStepD, one1, inD, PyData.eqv]; done) | (simp_all [isStepD, one1, inD, PyData.eqv]; try omega)
            )
          · (try (exact absurd h2 (by (first | decide +kernel | (simp only [List.length_cons, List.length_nil, eqv_int]; decide) | (simp only [List.length_cons, List.length_nil, eqv_int, decide_eq_true_eq, decide_eq_false_iff_not]; omega)))))
            all_goals (
              refine gss_nil ?_
              refine gss_if (gt_in rfl (gd_var (pv 1) rfl) (gd_con (pe_glob rfl T.m_BARE_WORDS T.r_BARE_WORDS) T.c_BARE_WORDS) (by (first | exact rfl | decide)) (by (first | exact rfl | decide))) (fun h3 => ?_) (fun h3 => ?_)
              · (try (exact absurd h3 (by (first | decide +kernel | (simp only [List.length_cons, List.length_nil, eqv_int]; decide) | (simp only [List.length_cons, List.length_nil, eqv_int, decide_eq_true_eq, decide_eq_false_iff_not]; omega)))))
                all_goals (
                  refine gss_ret (r := .dat _) (gd_eq hr.units (gd_callB call_len (ca_len (by first | exact .inl rfl | exact .inr rfl)) rfl T.z_len (by decide +kernel) (ga_cons (gd_var (pv 0) rfl) ga_nil)) gd_int (by (first | exact shaped_int _ | exact shaped_bool _ | exact shaped_none | assumption | exact shaped_ints _ | exact shaped_str (by decide +kernel) | exact rfl | decide +kernel)) (by (first | exact shaped_int _ | exact shaped_bool _ | exact shaped_none | assumption | exact shaped_ints _ | exact shaped_str (by decide +kernel) | exact rfl | decide +kernel))) ?_
                  show Sl.dat _ = Sl.dat _
                  first | rfl | (simp only [isStepD, one1, inD, List.isEmpty]; simp_all [isStepD, one1, inD, PyData.eqv]; done) | (simp_all [isStepD, one1, inD, PyData.eqv]; try omega)
                )
              · (try (exact absurd h3 (by (first | decide +kernel | (simp only [List.length_cons, List.length_nil, eqv_int]; decide) | (simp only [List.length_cons, List.length_nil, eqv_int, decide_eq_true_eq, decide_eq_false_iff_not]; omega)))))
                all_goals (
                  refine gss_nil ?_
                  refine gss_if (gt_of (gw_or (gt_in rfl (gd_var (pv 1) rfl) (gd_con (pe_glob rfl T.m_BOX_WORDS T.r_BOX_WORDS) T.c_BOX_WORDS) (by (first | exact rfl | decide)) (by (first | exact rfl | decide))) (fun hh => by first | exact gw_dead (absurd hh (by (first | decide +kernel | (simp only [List.length_cons, List.length_nil, eqv_int]; decide) | (simp only [List.length_cons, List.length_nil, eqv_int, decide_eq_true_eq, decide_eq_false_iff_not]; omega)))) | exact (gw_or1 (gt_eq hr.units (gd_var (pv 1) rfl) gd_str (by (first | exact shaped_int _ | exact shaped_bool _ | exact shaped_none | assumption | exact shaped_ints _ | exact shaped_str (by decide +kernel) | exact rfl | decide +kernel)) (by (first | exact shaped_int _ | exact shaped_bool _ | exact shaped_none | assumption | exact shaped_ints _ | exact shaped_str (by decide +kernel) | exact rfl | decide +kernel))))))) (fun h4 => ?_) (fun h4 => ?_)
                  · (try (exact absurd h4 (by (first | decide +kernel | (simp only [List.length_cons, List.length_nil, eqv_int]; decide) | (simp only [List.length_cons, List.length_nil, eqv_int, decide_eq_true_eq, decide_eq_false_iff_not]; omega)))))
                    all_goals (
                      refine gss_ret (r := .dat _) (gd_and (gd_eq hr.units (gd_callB call_len (ca_len (by first | exact .inl rfl | exact .inr rfl)) rfl T.z_len (by decide +kernel) (ga_cons (gd_var (pv 0) rfl) ga_nil)) gd_int (by (first | exact shaped_int _ | exact shaped_bool _ | exact shaped_none | assumption | exact shaped_ints _ | exact shaped_str (by decide +kernel) | exact rfl | decide +kernel)) (by (first | exact shaped_int _ | exact shaped_bool _ | exact shaped_none | assumption | exact shaped_ints _ | exact shaped_str (by decide +kernel) | exact rfl | decide +kernel))) (fun hh => by first | exact gd_dead (absurd hh (by (first | decide +kernel | (simp only [List.length_cons, List.length_nil, eqv_int]; decide) | (simp only [List.length_cons, List.length_nil, eqv_int, decide_eq_true_eq, decide_eq_false_iff_not]; omega)))) | exact (gd_one (gd_call (ok_is_whole T) (hr.mono (by decide)) rfl T.m_is_whole T.F_is_whole.kp T.b_is_whole pass0 (ga_cons (gd_ixT (gd_var (pv 0) rfl) gd_int (by (first | exact held_at _ | assumption | exact ixh | exact ixb (by assumption) | exact rfl | (simp only [*]; exact rfl)))) ga_nil) (by (exact ⟨_, rfl, rfl⟩)))))) ?_
                      show Sl.dat _ = Sl.dat _
                      first | rfl | (simp only [isStepD, one1, inD, List.isEmpty]; simp_all [isStepD, one1, inD, PyData.eqv]; done) | (simp_all [isStepD, one1, inD, PyData.eqv]; try omega)
                    )
                  · (try (exact absurd h4 (by (first | decide +kernel | (simp only [List.length_cons, List.length_nil, eqv_int]; decide) | (simp only [List.length_cons, List.length_nil, eqv_int, decide_eq_true_eq, decide_eq_false_iff_not]; omega)))))
                    all_goals (
                      refine gss_nil ?_
                      refine gss_ret (r := .dat _) gd_bl ?_
                      show Sl.dat _ = Sl.dat _
                      first | rfl | (simp only [isStepD, one1, inD, List.isEmpty]; simp_all [isStepD, one1, inD, PyData.eqv]; done) | (simp_all [isStepD, one1, inD, PyData.eqv]; try omega)
                    )
                )
            )
        )
      )
theorem sc_check_row : FnScope ["row", "boxes", "at", "step"] ["row", "boxes"] (defScope s_check_row) := ⟨rfl, rfl, rfl, by decide +kernel, rfl, by decide +kernel, by decide +kernel⟩
theorem ok_check_row (T : Txt K mg) : FnOk P w K mg base CX0 3 T.f_check_row T.d_check_row ["row", "boxes"] (SpM K R_check_row) := by
  refine mut_def0 T.F_check_row sc_check_row (fun as S PR PX h => ?_) (fun cdv A outer s H E B as S PR PX hr h => ?_)
  · obtain ⟨r0, rb, row, bx, rfl, h0, hb, hg, rfl, rfl⟩ := h; rfl
  · obtain ⟨r0, rb, row, bx, rfl, h0, hb, hg, rfl, rfl⟩ := h
    refine gss_if (gt_gt (gl_len rfl T.z_len (by decide +kernel) (gls_var (pv 0) rfl h0)) (gd_con (pe_glob rfl T.m_MOST_STEPS T.r_MOST_STEPS) T.c_MOST_STEPS)) (fun h1 => absurd h1 (by have := hg.1; rw [List.length_map, decide_eq_true_eq]; omega)) (fun h1 => gss_nil ?_)
    refine gss_one (gl_forE .never rfl rfl T.z_enumerate (gls_var (pv 0) rfl h0) sc_check_row.nd (j := 2) rfl (by first | exact .inl rfl | exact .inr rfl) (k := 3) rfl (by first | exact .inl rfl | exact .inr rfl) (fun _ Γ' S' => S' = S ∧ ∃ x y, Γ' = [r0, rb, x, y]) ⟨rfl, _, _, rfl⟩ (fun _ _ _ q => q.1) ?_ ?_)
    · rintro i d Γ' S' G hd ⟨rfl, x, y, rfl⟩
      obtain ⟨s, hs, rfl⟩ : ∃ s ∈ row, d = s.toD := by
        rw [List.getElem?_map] at hd
        cases q : row[i]? with
        | none => rw [q] at hd; cases hd
        | some s => rw [q] at hd; cases hd; exact ⟨s, List.mem_of_getElem? q, rfl⟩
      have gs := hg.2 s hs
      refine gss_if (gt_not (gt_val (gd_call (ok_is_step T) (hr.mono (by decide)) rfl T.m_is_step T.F_is_step.kp T.b_is_step pass0 (ga_cons (gd_var (pv 3) rfl) ga_nil) (by (exact ⟨_, rfl, stp_okD _, rfl⟩))))) (fun h2 => absurd h2 (by rw [stp_isD]; decide)) (fun h2 => gss_nil ?_)
      refine gss_one (gs_if (gt_of (gw_and (gt_in rfl (gd_ixT (gd_var (pv 3) rfl) gd_int (by (first | exact held_at _ | assumption | exact ixh | exact ixb (by assumption) | exact rfl | (simp only [*]; exact rfl)))) (gd_con (pe_glob rfl T.m_BOX_WORDS T.r_BOX_WORDS) T.c_BOX_WORDS) (by (first | exact rfl | decide)) (by (first | exact rfl | decide))) (fun hh => by first | exact gw_dead (absurd hh (by (first | decide +kernel | (simp only [List.length_cons, List.length_nil, eqv_int]; decide) | (simp only [List.length_cons, List.length_nil, eqv_int, decide_eq_true_eq, decide_eq_false_iff_not]; omega)))) | exact (gw_and1 (gt_not (gt_chain_le_lt gd_int (gd_ixT (gd_var (pv 3) rfl) gd_int (by (first | exact held_at _ | assumption | exact ixh | exact ixb (by assumption) | exact rfl | (simp only [*]; exact rfl)))) (fun _ => (gl_len rfl T.z_len (by decide +kernel) (gls_var (pv 1) rfl hb))))))))) (fun h3 => ?_) (fun h3 => gss_nil ⟨rfl, _, _, rfl⟩))
      exfalso
      cases hk : inD (.str s.kd.word) [.str "load", .str "plus", .str "store"] with
      | false => simp [hk] at h3
      | true =>
        obtain ⟨g1, g2⟩ := good_box gs hk
        simp [hk, List.length_map] at h3
        have g1 := of_decide_eq_true g1
        have g2 := of_decide_eq_true g2
        omega
    · rintro Γ' S' ⟨rfl, _⟩
      exact ⟨rfl, rfl⟩
theorem sc_Loom___init : FnScope ["self", "ones", "others", "boxes"] ["self", "ones", "others", "boxes"] (defScope s_Loom___init) := ⟨rfl, rfl, rfl, by decide +kernel, rfl, by decide +kernel, by decide +kernel⟩
theorem ok_Loom___init (T : Txt K mg) : FnOk P w K mg base CX0 4 T.f_Loom___init T.d_Loom___init ["self", "ones", "others", "boxes"] (SpM K (R_Loom___init T)) := by
  refine mut_def0 T.F_Loom___init sc_Loom___init (fun as S PR PX h => ?_) (fun cdv A outer s H E B as S PR PX hr h => ?_)
  · obtain ⟨p, r0, r1, rb, s0, s1, bx, F, rfl, rfl, h0, h1, hb, g0, g1, rfl, rfl⟩ := h; rfl
  · obtain ⟨p, r0, r1, rb, s0, s1, bx, F, rfl, rfl, h0, h1, hb, g0, g1, rfl, rfl⟩ := h
    refine gss_then ?_
    refine gs_exprE (ge_of (gd_callP0 (ok_check_row T) (hr.mono (by decide)) rfl T.m_check_row T.F_check_row.kp T.b_check_row (gas_cons (ge_var (pv 1) rfl h0.ne) (gas_cons (ge_var (pv 3) rfl hb.ne) gas_nil)) ⟨_, _, _, _, rfl, h0.cons, hb.cons, g0, rfl, rfl⟩) ?_)
    refine gss_then ?_
    refine gs_exprE (ge_of (gd_callP0 (ok_check_row T) (hr.mono (by decide)) rfl T.m_check_row T.F_check_row.kp T.b_check_row (gas_cons (ge_var (pv 2) rfl h1.ne) (gas_cons (ge_var (pv 3) rfl hb.ne) gas_nil)) ⟨_, _, _, _, rfl, h1.cons, hb.cons, g1, rfl, rfl⟩) ?_)
    refine gss_then ?_
    refine (gs_fldNew (n := 0) (names := []) (r := .dat _) (gr_var (pv 0) rfl) (gd_lst (ga_cons (gl_listD rfl T.z_list (by decide +kernel) (gls_var (pv 1) rfl h0.cons)) (ga_cons (gl_listD rfl T.z_list (by decide +kernel) (gls_var (pv 2) rfl h1.cons)) ga_nil)) (by show 2 ≤ 100000; decide)) rfl T.cl_Loom T.no__rows rfl rfl (by show 0 < 1000; decide) ?_)
    refine gss_then ?_
    refine gs_fldF (j := none) (n := 0) (names := ["_rows"]) (gf_list rfl T.z_list (by decide +kernel) (gls_var (pv 3) rfl hb.cons)) (fun _ => gr_var (pv 0) rfl) rfl T.cl_Loom T.no_boxes rfl (by decide +kernel) (by show 1 < 1000; decide) fun b _ => ?_
    refine gss_then ?_
    refine gs_fldF (j := none) (n := 1) (names := ["_rows", "boxes"]) (gf_lst (ga_cons gd_int (ga_cons gd_int ga_nil)) (by show 2 ≤ 100000; decide)) (fun _ => gr_var (pv 0) rfl) rfl T.cl_Loom T.no_numbers rfl (by decide +kernel) (by show 2 < 1000; decide) fun n _ => ?_
    refine gss_then ?_
    refine gs_fldF (j := none) (n := 2) (names := ["_rows", "boxes", "numbers"]) (gf_lst (ga_cons gd_int (ga_cons gd_int ga_nil)) (by show 2 ≤ 100000; decide)) (fun _ => gr_var (pv 0) rfl) rfl T.cl_Loom T.no_places rfl (by decide +kernel) (by show 3 < 1000; decide) fun q _ => ?_
    refine gss_one ?_
    refine (gs_fldNew (n := 3) (names := ["_rows", "boxes", "numbers", "places"]) (r := .dat _) (gr_var (pv 0) rfl) gd_non rfl T.cl_Loom T.no_holder rfl (by decide +kernel) (by show 4 < 1000; decide) ?_)
    exact ⟨rfl, ⟨p, b, n, q⟩, rfl, rfl⟩

/-! ### the law's own body: mirrors -/
theorem canLay_all : ∀ {ds : List PyData}, (∀ d ∈ ds, d.canLay0 = true) → PyData.canLayAll0 ds = true
  | [], _ => by simp [PyData.canLayAll0]
  | d :: ds, h => by simp [PyData.canLayAll0, h d List.mem_cons_self, canLay_all (ds := ds) fun e he => h e (List.mem_cons_of_mem _ he)]
theorem depth_all {n : Nat} : ∀ {ds : List PyData}, (∀ d ∈ ds, d.depth ≤ n) → PyData.depthAll ds ≤ n
  | [], _ => by simp [PyData.depthAll]
  | d :: ds, h => by
    have h1 := h d List.mem_cons_self
    have h2 := depth_all (ds := ds) fun e he => h e (List.mem_cons_of_mem _ he)
    simp [PyData.depthAll]; omega
theorem kd_canLay (k : Kd) : (PyData.str k.word).canLay0 = true := by cases k <;> decide +kernel
theorem stp_canLay (s : Stp) : s.toD.canLay0 = true := by
  have h := kd_canLay s.kd
  simp only [PyData.canLay0] at h
  cases s <;> simp [Stp.toD, Stp.args, PyData.canLay0, PyData.canLayAll0, h]
theorem stp_depth (s : Stp) : s.toD.depth ≤ 1 := by
  cases s <;> simp [Stp.toD, Stp.args, PyData.depth, PyData.depthAll]
theorem rowD_canLay (r : List Stp) : (rowD r).canLay0 = true := by
  unfold rowD
  simp only [PyData.canLay0]
  exact canLay_all fun d hd => by obtain ⟨s, _, rfl⟩ := List.mem_map.mp hd; exact stp_canLay s
theorem rowD_depth (r : List Stp) : (rowD r).depth ≤ 2 := by
  unfold rowD
  have := depth_all (n := 1) (ds := r.map Stp.toD) fun d hd => by obtain ⟨s, _, rfl⟩ := List.mem_map.mp hd; exact stp_depth s
  simp only [PyData.depth]; omega
theorem hand_shaped (a b : List Stp) (bx : List Int) : SeqAt.shaped (.list [rowD a, rowD b, .list (bx.map .int)]) = true := by
  have h1 := rowD_depth a
  have h2 := rowD_depth b
  unfold SeqAt.shaped
  rw [Bool.and_eq_true]
  refine ⟨by simp [PyData.canLay0, PyData.canLayAll0, rowD_canLay, canLay_ints], decide_eq_true ?_⟩
  simp only [PyData.depth, PyData.depthAll, depth_ints]
  omega
theorem shaped_refl {d : PyData} (h : SeqAt.shaped d = true) : PyData.eqv d d = true := by
  unfold SeqAt.shaped at h
  rw [Bool.and_eq_true] at h
  exact SeqAt.eqv_refl d h.1
theorem num_lt (z : Int) : (num z).natAbs < 2 ^ 200 := by
  unfold num
  split
  · have h1 := Int.emod_nonneg (z * P59) (show P60 ≠ 0 by decide)
    have h2 := Int.emod_lt_of_pos (z * P59) (show 0 < P60 by decide)
    have h3 : (z * P59 % P60).natAbs < P60.natAbs := by omega
    rcases (show 1 - 2 * (z / 3 % 2) = 1 ∨ 1 - 2 * (z / 3 % 2) = -1 by omega) with e | e <;> rw [e]
    · rw [Int.mul_one]; exact Nat.lt_trans h3 (by decide)
    · rw [Int.mul_neg, Int.mul_one, Int.natAbs_neg]; exact Nat.lt_trans h3 (by decide)
  · exact Nat.lt_trans (show (z / 3 % 41 - 20).natAbs < 64 by omega) (by decide)
/-- how far the numbers go -/
structure Bnd (k : Nat) (s : LSt) : Prop where
  n0 : s.n0.natAbs < 2 ^ k
  n1 : s.n1.natAbs < 2 ^ k
  bx : ∀ x ∈ s.bx, x.natAbs < 2 ^ k
  a0 : ∀ t ∈ s.r0, t.kd = .add → t.b.natAbs < 2 ^ 200
  a1 : ∀ t ∈ s.r1, t.kd = .add → t.b.natAbs < 2 ^ 200
theorem pow_up {k l x : Nat} (h : x < 2 ^ k) (hl : k ≤ l) : x < 2 ^ l := Nat.lt_of_lt_of_le h (Nat.pow_le_pow_right (by decide) hl)
theorem Bnd.up {k l : Nat} {s : LSt} (h : Bnd k s) (hl : k ≤ l) : Bnd l s := ⟨pow_up h.n0 hl, pow_up h.n1 hl, fun x hx => pow_up (h.bx x hx) hl, h.a0, h.a1⟩
theorem Bnd.setN {k : Nat} {s : LSt} {b : Bool} {z : Int} (h : Bnd k s) (hz : z.natAbs < 2 ^ k) : Bnd k (s.setN b z) := by
  cases b
  · exact ⟨hz, h.n1, h.bx, h.a0, h.a1⟩
  · exact ⟨h.n0, hz, h.bx, h.a0, h.a1⟩
theorem Bnd.setP {k : Nat} {s : LSt} {b : Bool} {p : Nat} (h : Bnd k s) : Bnd k (s.setP b p) := by
  cases b <;> exact ⟨h.n0, h.n1, h.bx, h.a0, h.a1⟩
theorem Bnd.num {k : Nat} {s : LSt} (b : Bool) (h : Bnd k s) : (s.num b).natAbs < 2 ^ k := by
  cases b
  · exact h.n0
  · exact h.n1
theorem Bnd.box {k : Nat} {s : LSt} (i : Nat) (h : Bnd k s) : (s.bx.getD i 0).natAbs < 2 ^ k := by
  rw [List.getD_eq_getElem?_getD]
  cases e : s.bx[i]? with
  | none => exact Nat.pos_of_ne_zero (by exact Nat.ne_of_gt (Nat.pow_pos (by decide)))
  | some x => exact h.bx x (List.mem_of_getElem? e)
theorem over_of {s : LSt} {b : Bool} (he : s.err b = none) : s.over b = false := by
  unfold LSt.err at he
  cases h : s.over b with
  | false => rfl
  | true => rw [h] at he; cases he
theorem next_mem {s : LSt} {b : Bool} (w : Wf s) (h : s.over b = false) : s.next b ∈ s.row b := by
  have hl := next_lt w h
  unfold LSt.next
  rw [List.getD_eq_getElem?_getD, List.getElem?_eq_getElem hl]
  exact List.getElem_mem hl
theorem Bnd.done {k : Nat} {s : LSt} {b : Bool} (h : Bnd k s) (hk : 200 ≤ k) (w : Wf s) (he : s.err b = none) : Bnd (k + 1) (s.done b) := by
  have hm := next_mem w (over_of he)
  have hu := h.up (Nat.le_succ k)
  have e2 : (2 : Nat) ^ (k + 1) = 2 ^ k * 2 := Nat.pow_succ 2 k
  have hn := h.num b
  have ha : (s.next b).kd = .add → (s.next b).b.natAbs < 2 ^ k := fun q => by
    cases b
    · exact pow_up (h.a0 _ hm q) hk
    · exact pow_up (h.a1 _ hm q) hk
  unfold LSt.done
  refine Bnd.setP ?_
  generalize s.next b = t at ha
  have up : ∀ x : Int, x.natAbs < 2 ^ k → x.natAbs < 2 ^ (k + 1) := fun x hx => by omega
  have add : ∀ x y : Int, x.natAbs < 2 ^ k → y.natAbs < 2 ^ k → (x + y).natAbs < 2 ^ (k + 1) := fun x y hx hy => by omega
  cases t with
  | load x => exact hu.setN (up _ (h.box _))
  | plus x => exact hu.setN (add _ _ hn (h.box _))
  | store x => exact ⟨hu.n0, hu.n1, fun y hy => (List.mem_or_eq_of_mem_set hy).elim (hu.bx y) fun e => by rw [e]; exact up _ hn, hu.a0, hu.a1⟩
  | add n => exact hu.setN (add _ _ hn (ha rfl))
  | twice => exact hu.setN (by rw [show s.num b * 2 = s.num b + s.num b by omega]; exact add _ _ hn hn)
  | take => exact ⟨hu.n0, hu.n1, hu.bx, hu.a0, hu.a1⟩
  | free => exact ⟨hu.n0, hu.n1, hu.bx, hu.a0, hu.a1⟩
theorem Bnd.small {k : Nat} {s : LSt} (h : Bnd k s) (hk : k ≤ 1048590) (h0 : 0 < k) : SmallL s := ⟨small_of h0 hk h.n0, small_of h0 hk h.n1⟩
theorem eff_bl (s : LSt) (b : Bool) (t : Stp) : (s.eff b t).bx.length = s.bx.length := by cases t <;> cases b <;> simp [LSt.eff, LSt.setN]
theorem done_bl (s : LSt) (b : Bool) : (s.done b).bx.length = s.bx.length := by
  unfold LSt.done
  rw [show ((s.eff b (s.next b)).setP b (s.plc b + 1)).bx = (s.eff b (s.next b)).bx by cases b <;> rfl, eff_bl]
theorem Wf.done {s : LSt} {b : Bool} (w : Wf s) (he : s.err b = none) : Wf (s.done b) := by
  have hl := next_lt w (over_of he)
  have hb := done_bl s b
  have r0 : (s.done b).r0 = s.r0 := by unfold LSt.done; rw [← eff_r0 s b (s.next b)]; cases b <;> rfl
  have r1 : (s.done b).r1 = s.r1 := by unfold LSt.done; rw [← eff_r1 s b (s.next b)]; cases b <;> rfl
  have z0 := eff_p0 s b (s.next b)
  have z1 := eff_p1 s b (s.next b)
  refine ⟨by rw [hb, r0]; exact w.g0, by rw [hb, r1]; exact w.g1, ?_, ?_⟩
  · rw [r0]
    cases b
    · exact hl
    · show (s.eff true (s.next true)).p0 ≤ _
      rw [z0]; exact w.l0
  · rw [r1]
    cases b
    · show (s.eff false (s.next false)).p1 ≤ _
      rw [z1]; exact w.l1
    · exact hl
/-- the step, where it is not refused -/
def LSt.go (s : LSt) (b : Bool) : LSt := if s.err b = none then s.done b else s
theorem Wf.go {s : LSt} {b : Bool} (w : Wf s) : Wf (s.go b) := by
  unfold LSt.go
  split
  · exact w.done (by assumption)
  · exact w
theorem go_bl (s : LSt) (b : Bool) : (s.go b).bx.length = s.bx.length := by
  unfold LSt.go
  split
  · exact done_bl s b
  · rfl
theorem Bnd.go {k : Nat} {s : LSt} {b : Bool} (h : Bnd k s) (hk : 200 ≤ k) (w : Wf s) : Bnd (k + 1) (s.go b) := by
  unfold LSt.go
  split
  · exact h.done hk w (by assumption)
  · exact h.up (Nat.le_succ k)
theorem word_none (e : Option Er) : PyData.eqv (.str (wordE e)) (.str "") = e.isNone := by
  rcases e with _ | e
  · decide +kernel
  · cases e <;> decide +kernel
theorem cut_int {ns : List Int} {l u : Option Int} {i : Nat} {d : PyData} (h : (G.cutD (ns.map PyData.int) l u)[i]? = some d) : ∃ z, d = .int z := by
  have hm := List.mem_of_getElem? h
  have hm := List.mem_of_mem_drop (List.mem_of_mem_take hm)
  obtain ⟨z, _, rfl⟩ := List.mem_map.mp hm
  exact ⟨z, rfl⟩
theorem cut_len {ns : List Int} {l u : Option Int} : (G.cutD (ns.map PyData.int) l u).length ≤ ns.length := by
  unfold G.cutD
  rw [List.length_take, List.length_drop, List.length_map]; omega
theorem hand_of (z : Int) : ∃ b, z % 2 = hI b := by
  rcases (show z % 2 = 0 ∨ z % 2 = 1 by omega) with e | e
  · exact ⟨false, e⟩
  · exact ⟨true, e⟩
theorem all_true (n : Nat) : ((List.replicate n true).all id) = true := by
  induction n with
  | zero => rfl
  | succ n ih => rw [List.replicate_succ, List.all_cons, ih]; rfl

/-! ### rows that are done: mirrors -/
abbrev startL (r0 r1 : List Stp) (bx : List Int) : LSt := ⟨r0, r1, bx, 0, 0, 0, 0, none⟩
def LSt.err1 (s : LSt) (t : Stp) : Option Er := if t.kd = .take ∧ s.h = some false then some .again else if t.kd = .free ∧ s.h ≠ some false then some .notHeld else none
def LSt.do1 (s : LSt) (t : Stp) : LSt := (s.eff false t).setP false (s.p0 + 1)
/-- one row alone -/
def solo : LSt → List Stp → Option Er × LSt
  | s, [] => (none, s)
  | s, t :: r => match s.err1 t with
    | some e => (some e, s)
    | none => solo (s.do1 t) r
/-- two rows by an order -/
def walk : LSt → List Bool → Option Er × LSt
  | s, [] => (none, s)
  | s, b :: r => match s.err b with
    | some e => (some e, s)
    | none => walk (s.done b) r
theorem walk_ok {s : LSt} {b : Bool} {r : List Bool} (h : s.err b = none) : walk s (b :: r) = walk (s.done b) r := by
  rw [walk, h]
theorem walk_err {s : LSt} {b : Bool} {r : List Bool} {e : Er} (h : s.err b = some e) : walk s (b :: r) = (some e, s) := by
  rw [walk, h]
theorem solo_ok {s : LSt} {t : Stp} {r : List Stp} (h : s.err1 t = none) : solo s (t :: r) = solo (s.do1 t) r := by
  rw [solo, h]
theorem solo_err {s : LSt} {t : Stp} {r : List Stp} {e : Er} (h : s.err1 t = some e) : solo s (t :: r) = (some e, s) := by
  rw [solo, h]
theorem err_solo {s : LSt} (ho : s.over false = false) (hh : s.h ≠ some true) : s.err false = s.err1 (s.next false) := by
  unfold LSt.err LSt.err1
  have hwt : s.waits false = false := by
    unfold LSt.waits
    rw [show (!false) = true from rfl, decide_eq_false hh, Bool.and_false, Bool.false_and]
  rw [ho, hwt]
  rfl
theorem done_solo (s : LSt) : s.done false = s.do1 (s.next false) := rfl
theorem eff_h (s : LSt) (t : Stp) (hh : s.h ≠ some true) : (s.eff false t).h ≠ some true := by
  cases t <;> first | exact hh | exact (fun z => nomatch z) | (intro z; cases z)
theorem done_h {s : LSt} (hh : s.h ≠ some true) : (s.done false).h ≠ some true := eff_h s _ hh
theorem done_r0 (s : LSt) (b : Bool) : (s.done b).r0 = s.r0 := by
  have := eff_r0 s b (s.next b)
  unfold LSt.done
  cases b <;> exact this
theorem done_r1 (s : LSt) (b : Bool) : (s.done b).r1 = s.r1 := by
  have := eff_r1 s b (s.next b)
  unfold LSt.done
  cases b <;> exact this
theorem done_p0 (s : LSt) : (s.done false).p0 = s.p0 + 1 := rfl
theorem drop_next {s : LSt} (w : Wf s) (ho : s.over false = false) : s.r0.drop s.p0 = s.next false :: s.r0.drop (s.p0 + 1) := by
  have hl : s.p0 < s.r0.length := next_lt w ho
  have e : s.next false = s.r0[s.p0] := by
    show s.r0.getD s.p0 .twice = _
    rw [List.getD_eq_getElem?_getD, List.getElem?_eq_getElem hl]; rfl
  rw [e]
  exact List.drop_eq_getElem_cons hl
theorem drop_over {s : LSt} (ho : s.over false = true) : s.r0.drop s.p0 = [] := by
  have ho : s.p0 = s.r0.length := of_decide_eq_true ho
  rw [ho, List.drop_length]
theorem wf_start {r0 r1 : List Stp} {bx : List Int} (h0 : GoodR bx.length r0) (h1 : GoodR bx.length r1) : Wf (startL r0 r1 bx) := ⟨h0, h1, Nat.zero_le _, Nat.zero_le _⟩
theorem good_nil (n : Nat) : GoodR n [] := ⟨Nat.zero_le _, fun s h => nomatch h⟩
def handsD (o : List Bool) : List PyData := o.map fun b => .int (hI b)
theorem hands_at {o : List Bool} {i : Nat} {d : PyData} (h : (handsD o)[i]? = some d) : ∃ b, o[i]? = some b ∧ d = .int (hI b) := by
  unfold handsD at h
  rw [List.getElem?_map] at h
  cases q : o[i]? with
  | none => rw [q] at h; cases h
  | some b => rw [q] at h; cases h; exact ⟨b, rfl, rfl⟩
theorem drop_at {α : Type} {o : List α} {i : Nat} {b : α} (h : o[i]? = some b) : o.drop i = b :: o.drop (i + 1) := by
  obtain ⟨hl, rfl⟩ := List.getElem?_eq_some_iff.mp h
  exact List.drop_eq_getElem_cons hl


section
variable {K : PySem.W.Frag} {mg : Str → Option Value}
def R_walked (T : Txt K mg) : Rq := fun as S PR PX => ∃ (r0 r1 rb ro : Sl) (row row1 : List Stp) (bx : List Int) (o : List Bool), as = [r0, r1, rb, ro] ∧ LSl S r0 (row.map Stp.toD) ∧ LSl S r1 (row1.map Stp.toD) ∧ LSl S rb (bx.map .int) ∧ LSl S ro (handsD o) ∧ GoodR bx.length row ∧ GoodR bx.length row1 ∧ Bnd 200 (startL row row1 bx) ∧ o.length ≤ 1000 ∧
  PR = (fun r S' => (walk (startL row row1 bx) o).1 = none ∧ ∃ t b n : Addr, r = .raw (.ref t) ∧ S' = (t, .ho (.tup [.ref b, .ref n])) :: (n, .lst [.int (walk (startL row row1 bx) o).2.n0, .int (walk (startL row row1 bx) o).2.n1]) :: (b, .lst ((walk (startL row row1 bx) o).2.bx.map .int)) :: S) ∧
  PX = (fun cls S' => ∃ e, (walk (startL row row1 bx) o).1 = some e ∧ cls = .ref (T_ec T e) ∧ S' = S)
end

theorem sc_walked : FnScope ["ones", "others", "boxes", "order", "loom", "hand"] ["ones", "others", "boxes", "order"] (defScope s_walked) := ⟨rfl, rfl, rfl, by decide +kernel, rfl, by decide +kernel, by decide +kernel⟩
theorem ok_walked (T : Txt K mg) : FnOk P w K mg base (L2N.CX P w) 6 T.f_walked T.d_walked ["ones", "others", "boxes", "order"] (SpM K (R_walked T)) := by
  refine mut_defK T.F_walked sc_walked (fun as S PR PX h => ?_) (fun cdv A outer s H E H0 Hh as S PR PX hr h => ?_)
  · obtain ⟨r0, r1, rb, ro, row, row1, bx, o, rfl, h0, h1, hb, ho, hg, hg1, hB, hol, rfl, rfl⟩ := h; rfl
  · obtain ⟨r0, r1, rb, ro, row, row1, bx, o, rfl, h0, h1, hb, ho, hg, hg1, hB, hol, rfl, rfl⟩ := h
    refine gss_at rfl (List.append_nil S).symm ?_
    refine gss_then ?_
    refine gs_setE (i := 4) sc_walked.nd rfl (by first | exact .inl rfl | exact .inr rfl) (ge_makeQ (E := E) (S1 := S) (F := []) (PRx := fun y S' => ∃ L' : LA, L'.p = y ∧ S' = loomS T.C_Loom L' (startL row row1 bx) ++ S) (PXx := fun _ => noX) T.M_Loom___init (ok_Loom___init T) (hr.mono (by decide)) rfl T.mg_Loom T.b_Loom___init pass0 (fun cls σ H h => h) (gas_cons (ge_var (pv 0) rfl h0.ne) (gas_cons (ge_var (pv 1) rfl h1.ne) (gas_cons (ge_var (pv 2) rfl hb.ne) gas_nil))) (fun y => ⟨y, _, _, _, row, row1, bx, _, rfl, rfl, h0, h1, hb, hg, hg1, rfl, rfl⟩) (fun y S1' hy hp => ?_) fun _ _ _ h => h.elim)
    obtain ⟨L, rfl, rfl⟩ := hp
    refine gss_at rfl (List.append_nil _) ?_
    refine gss_post (R' := fun r S' => (walk (startL row row1 bx) o).1 = none ∧ ∃ t b n : Addr, r = .raw (.ref t) ∧ Within ((t, .ho (.tup [.ref b, .ref n])) :: (n, .lst [.int (walk (startL row row1 bx) o).2.n0, .int (walk (startL row row1 bx) o).2.n1]) :: (b, .lst ((walk (startL row row1 bx) o).2.bx.map .int)) :: S) S') (ex' := fun cls Γ' S' => ∃ e, (walk (startL row row1 bx) o).1 = some e ∧ cls = .ref (T_ec T e) ∧ Within S S') ?_ (fun r S' ⟨h1, t, b, n, h2, h3⟩ => ⟨_, h3, h1, t, b, n, h2, rfl⟩) (fun cls Γ' S' ⟨e, h1, h2, h3⟩ => ⟨S, h3, e, h1, h2, rfl⟩)
    refine gss_cons (M := fun Γ' S' => ∃ st x, (none, st) = walk (startL row row1 bx) o ∧ Γ' = [r0, r1, rb, ro, .raw (.ref L.p), x] ∧ S' = loomS T.C_Loom L st ++ S) (gl_for .leaving rfl (pv 3) rfl ho sc_walked.nd (j := 5) rfl (by first | exact .inl rfl | exact .inr rfl) (fun i Γ' S' => ∃ st x, Wf st ∧ Bnd (200 + i) st ∧ walk st (o.drop i) = walk (startL row row1 bx) o ∧ Γ' = [r0, r1, rb, ro, .raw (.ref L.p), x] ∧ S' = loomS T.C_Loom L st ++ S) ⟨_, _, wf_start hg hg1, hB, rfl, rfl, rfl⟩ ?_ ?_ ?_) ?_
    · rintro i Γ' S' ⟨st, x, _, _, _, rfl, rfl⟩ e he
      exact List.mem_append_right _ he
    · rintro i d Γ' S' G hd ⟨st, x, hw, hBd, hs, rfl, rfl⟩
      obtain ⟨b, hbo, rfl⟩ := hands_at hd
      have hi : i < o.length := (List.getElem?_eq_some_iff.mp hbo).1
      have hsm : SmallL st := hBd.small (by omega) (by omega)
      rw [drop_at hbo] at hs
      refine gss_one (gs_exprE (ge_mono (ge_meth (S1 := loomS T.C_Loom L st) (F := S) (names := LN) (n := 3) (gr_var (pv 4) rfl) rfl T.cl_Loom T.M_Loom_go rfl (by decide +kernel) (ok_Loom_go T) (hr.mono (by decide)) T.b_Loom_go (fun σ => L2N.passAt (L2N.takes_of rfl rfl rfl rfl) σ) (gas_cons (r := .dat _) (gd_var (pv 5) rfl) gas_nil) ⟨L, st, b, hw, hsm, rfl, rfl, rfl, rfl⟩) (fun r S' h => ?_) (fun c S' h => ?_)))
      · obtain ⟨S1', ⟨he, _, rfl⟩, rfl⟩ := h
        rw [walk_ok he] at hs
        exact ⟨st.done b, _, hw.done he, hBd.done (by omega) hw he, hs, rfl, rfl⟩
      · obtain ⟨S1', ⟨e, he, rfl, rfl⟩, rfl⟩ := h
        rw [walk_err he] at hs
        exact ⟨e, by rw [← hs], rfl, .right⟩
    · rintro Γ' S' ⟨st, x, _, _, hs, rfl, rfl⟩
      rw [show (handsD o).length = o.length from List.length_map _, List.drop_length] at hs
      exact ⟨st, x, hs, rfl, rfl⟩
    rintro Γ' S' ⟨st, x, hs, rfl, rfl⟩
    rw [← hs]
    refine gss_one (gs_retE (ge_tupR (gea_v (r := .raw _) (ge_fld (j := 1) (names := LN) (gr_var (pv 4) rfl) (n := 3) rfl T.cl_Loom T.no_boxes rfl (by decide +kernel) rfl (fun z => nomatch z)) (gea_v (r := .raw _) (ge_fld (j := 2) (names := LN) (gr_var (pv 4) rfl) (n := 3) rfl T.cl_Loom T.no_numbers rfl (by decide +kernel) rfl (fun z => nomatch z)) (gea_nil ⟨[.ref L.b, .ref L.n], rfl, (by decide : 2 ≤ 100000), fun t ht => ⟨rfl, t, L.b, L.n, rfl, ?_⟩⟩)))))
    exact .keep (.skip (.keep (.keep (.skip .refl))))
end

/-! ### steps as values; quiet calls -/
def Stp.argV : Stp → List V
  | .load b => [.int b]
  | .plus b => [.int b]
  | .store b => [.int b]
  | .add n => [.int n]
  | _ => []
def Stp.toV (s : Stp) : List V := .str s.kd.word :: s.argV
theorem dp_stp {K : PySem.W.Frag} {H : Hp} {v : V} {s : Stp} (h : Dp K H v s.toD) : ∃ a, v = .ref a ∧ SqT K H a s.toV := by
  unfold Stp.toD at h
  cases h with
  | @tup a xs _ hs ha =>
    refine ⟨a, rfl, ?_⟩
    cases ha with
    | cons h1 h2 =>
      cases h1
      unfold Stp.toV
      cases s <;> first
        | (cases h2 with | cons h3 h4 => cases h3; cases h4; exact hs)
        | (cases h2; exact hs)
theorem tv0 (s : Stp) : atI s.toV 0 = some (.str s.kd.word) := atI_nat (j := 0) rfl
theorem tv1 {s : Stp} (h : s.kd.isBox = true) : atI s.toV 1 = some (.int s.b) := by
  cases s <;> first | exact atI_nat (j := 1) rfl | exact absurd h Bool.false_ne_true
theorem inV_guard (k : Kd) : inV (.str k.word) [.str "take", .str "free"] = k.isGuard := by cases k <;> decide +kernel
theorem inV_box (k : Kd) : inV (.str k.word) [.str "load", .str "plus", .str "store"] = k.isBox := by cases k <;> decide +kernel
theorem neW_store (k : Kd) : (k.word != "store") = !decide (k = .store) := by cases k <;> decide +kernel


/-! ### the steps that an order asks for; who is ahead -/
def rowOf (r0 r1 : List Stp) (b : Bool) : List Stp := if b then r1 else r0
def zst (r0 r1 : List Stp) (q : Option (List (Bool × Stp))) (b : Bool) : Option (List (Bool × Stp)) := match q with
  | none => none
  | some l => match (rowOf r0 r1 b)[(l.map (·.1)).count b]? with
    | none => none
    | some t => some (l ++ [(b, t)])
def zipO (r0 r1 : List Stp) (o : List Bool) : Option (List (Bool × Stp)) := o.foldl (zst r0 r1) (some [])
theorem zip_snoc {r0 r1 : List Stp} {o : List Bool} {b : Bool} : zipO r0 r1 (o ++ [b]) = zst r0 r1 (zipO r0 r1 o) b := by
  unfold zipO
  rw [List.foldl_append]; rfl
theorem zst_none {r0 r1 : List Stp} : ∀ o : List Bool, o.foldl (zst r0 r1) none = none
  | [] => rfl
  | _ :: o => zst_none o
theorem zip_stop {r0 r1 : List Stp} {o q : List Bool} (h : zipO r0 r1 o = none) : zipO r0 r1 (o ++ q) = none := by
  unfold zipO at h ⊢
  rw [List.foldl_append, h, zst_none]
theorem zip_take {r0 r1 : List Stp} {o : List Bool} {i : Nat} {b : Bool} {l : List (Bool × Stp)} (hb : o[i]? = some b) (h : zipO r0 r1 (o.take i) = some l) :
    (∀ t, (rowOf r0 r1 b)[(l.map (·.1)).count b]? = some t → zipO r0 r1 (o.take (i + 1)) = some (l ++ [(b, t)])) ∧ ((rowOf r0 r1 b)[(l.map (·.1)).count b]? = none → zipO r0 r1 o = none) := by
  obtain ⟨hi, rfl⟩ := List.getElem?_eq_some_iff.mp hb
  have e : o.take (i + 1) = o.take i ++ [o[i]] := by rw [List.take_succ, List.getElem?_eq_getElem hi]; rfl
  refine ⟨fun t ht => ?_, fun hn => ?_⟩
  · rw [e, zip_snoc, h]
    simp only [zst, ht]
  · have z : zipO r0 r1 (o.take (i + 1)) = none := by
      rw [e, zip_snoc, h]
      simp only [zst, hn]
    rw [← List.take_append_drop (i + 1) o]
    exact zip_stop z
/-- the hand b is ahead: e stands behind the steps pre -/
def hit (b : Bool) (pre : List (Bool × Stp)) (e : Bool × Stp) : Bool := !decide (e.1 = b) && pre.any fun d => decide (d.1 = b) && !apart d.2 e.2
def ahF (b : Bool) : List (Bool × Stp) → List (Bool × Stp) → Bool
  | _, [] => false
  | pre, e :: r => hit b pre e || ahF b (pre ++ [e]) r
def ahd (b : Bool) (l : List (Bool × Stp)) : Bool := ahF b [] l
theorem ahF_snoc (b : Bool) : ∀ (r pre : List (Bool × Stp)) (e : Bool × Stp), ahF b pre (r ++ [e]) = (ahF b pre r || hit b (pre ++ r) e)
  | [], pre, e => by rw [List.nil_append, List.append_nil, ahF, ahF, ahF, Bool.or_false, Bool.false_or]
  | d :: r, pre, e => by
    rw [List.cons_append, ahF, ahF, ahF_snoc b r, Bool.or_assoc, List.append_assoc]; rfl
theorem ahd_snoc (b : Bool) (l : List (Bool × Stp)) (e : Bool × Stp) : ahd b (l ++ [e]) = (ahd b l || hit b l e) := ahF_snoc b l [] e
/-- the steps of the hand b -/
def own (b : Bool) (l : List (Bool × Stp)) : List Stp := (l.filter fun d => decide (d.1 = b)).map (·.2)
theorem own_snoc (b : Bool) (l : List (Bool × Stp)) (e : Bool × Stp) : own b (l ++ [e]) = own b l ++ (if e.1 = b then [e.2] else []) := by
  unfold own
  rw [List.filter_append, List.map_append]
  by_cases h : e.1 = b
  · rw [if_pos h]; simp [List.filter, h]
  · rw [if_neg h]; simp [List.filter, h]
theorem hit_own (b : Bool) (l : List (Bool × Stp)) (e : Bool × Stp) (h : e.1 ≠ b) : hit b l e = !((List.range (own b l).length).all fun i => apart ((own b l).getD i .twice) e.2) := by
  have r : ∀ ss : List Stp, ((List.range ss.length).all fun i => apart (ss.getD i .twice) e.2) = ss.all fun a => apart a e.2 := fun ss => by
    rw [Bool.eq_iff_iff, List.all_eq_true, List.all_eq_true]
    constructor
    · intro q a ha
      obtain ⟨i, hi, rfl⟩ := List.getElem_of_mem ha
      have := q i (List.mem_range.mpr hi)
      rwa [List.getD_eq_getElem?_getD, List.getElem?_eq_getElem hi] at this
    · intro q i hi
      have hi := List.mem_range.mp hi
      rw [List.getD_eq_getElem?_getD, List.getElem?_eq_getElem hi]
      exact q _ (List.getElem_mem hi)
  rw [r]
  unfold hit own
  rw [decide_eq_false h]
  induction l with
  | nil => rfl
  | cons d l ih =>
    have ih : (l.any fun d => decide (d.1 = b) && !apart d.2 e.2) = !(((l.filter fun d => decide (d.1 = b)).map (·.2)).all fun a => apart a e.2) := ih
    show (true && ((decide (d.1 = b) && !apart d.2 e.2) || l.any _)) = _
    rw [ih]
    by_cases hd : d.1 = b
    · rw [List.filter_cons_of_pos (by simpa using hd), List.map_cons, List.all_cons]
      simp [hd]
    · rw [List.filter_cons_of_neg (by simpa using hd)]
      simp [hd]
def pairD (e : Bool × Stp) : PyData := .tuple [.int (hI e.1), e.2.toD]
theorem pairs_at {l : List (Bool × Stp)} {i : Nat} {d1 d2 : PyData} (h : (l.map pairD)[i]? = some (.tuple [d1, d2])) : ∃ e, l[i]? = some e ∧ d1 = .int (hI e.1) ∧ d2 = e.2.toD := by
  rw [List.getElem?_map] at h
  cases q : l[i]? with
  | none => rw [q] at h; cases h
  | some e => rw [q] at h; cases h; exact ⟨e, rfl, rfl, rfl⟩
theorem hI_eq {a b : Bool} : hI a = hI b ↔ a = b := by cases a <;> cases b <;> decide
theorem eqv_hand (a b : Bool) : PyData.eqv (.int (hI a)) (.int (hI b)) = decide (a = b) := by
  rw [eqv_int]
  exact decide_eq_decide.mpr hI_eq
theorem rows_ix {row row1 : List Stp} (b : Bool) : atI [rowD row, rowD row1] (hI b) = some (rowD (rowOf row row1 b)) := by cases b <;> rfl
def cnt2 (l : List (Bool × Stp)) (b : Bool) : Nat := (l.map (·.1)).count b
theorem cnt_ix (l : List (Bool × Stp)) (b : Bool) : atI [PyData.int (cnt2 l false : Nat), .int (cnt2 l true : Nat)] (hI b) = some (.int (cnt2 l b : Nat)) := by cases b <;> rfl
theorem cnt_snoc (l : List (Bool × Stp)) (b c : Bool) (t : Stp) : cnt2 (l ++ [(b, t)]) c = cnt2 l c + (if b = c then 1 else 0) := by
  unfold cnt2
  rw [List.map_append, List.count_append]
  cases b <;> cases c <;> rfl
theorem zip_ind {r0 r1 : List Stp} {Q : List (Bool × Stp) → Prop} (step : ∀ l b t, Q l → (rowOf r0 r1 b)[cnt2 l b]? = some t → Q (l ++ [(b, t)])) : ∀ (o : List Bool) {l0 l : List (Bool × Stp)}, Q l0 → o.foldl (zst r0 r1) (some l0) = some l → Q l ∧ l.length = l0.length + o.length
  | [], _, _, h0, h => by cases h; exact ⟨h0, rfl⟩
  | b :: o, l0, l, h0, h => by
    rw [List.foldl_cons] at h
    cases ht : (rowOf r0 r1 b)[cnt2 l0 b]? with
    | none =>
      rw [show zst r0 r1 (some l0) b = none by simp only [zst, show (rowOf r0 r1 b)[(l0.map (·.1)).count b]? = none from ht], zst_none] at h
      cases h
    | some t =>
      rw [show zst r0 r1 (some l0) b = some (l0 ++ [(b, t)]) by simp only [zst, show (rowOf r0 r1 b)[(l0.map (·.1)).count b]? = some t from ht]] at h
      obtain ⟨h1, h2⟩ := zip_ind step o (step l0 b t h0 ht) h
      refine ⟨h1, ?_⟩
      rw [h2, List.length_append, List.length_cons, List.length_cons, List.length_nil]
      omega
theorem zip_all {r0 r1 : List Stp} {o : List Bool} {l : List (Bool × Stp)} (h : zipO r0 r1 o = some l) : (∀ b, cnt2 l b ≤ (rowOf r0 r1 b).length) ∧ l.length = o.length := by
  obtain ⟨h1, h2⟩ := zip_ind (Q := fun l => ∀ b, cnt2 l b ≤ (rowOf r0 r1 b).length) (fun l b t h0 ht c => by
    have := (List.getElem?_eq_some_iff.mp ht).1
    rw [cnt_snoc]
    by_cases hb : b = c
    · subst hb; rw [if_pos rfl]; omega
    · rw [if_neg hb]; exact h0 c) o (l0 := []) (fun _ => Nat.zero_le _) h
  exact ⟨h1, by rw [h2]; simp⟩


section
variable {K : PySem.W.Frag} {mg : Str → Option Value}
def R_steps_of (T : Txt K mg) : Rq := fun as S PR PX => ∃ (row row1 : List Stp) (o : List Bool), as = [.dat (rowD row), .dat (rowD row1), .dat (.list (handsD o))] ∧ o.length ≤ 1000 ∧ S = [] ∧
  PR = (fun r S' => ∃ l, zipO row row1 o = some l ∧ r = .dat (.list (l.map pairD)) ∧ S' = []) ∧ PX = (fun cls S' => zipO row row1 o = none ∧ cls = .ref T.C_NoTurn ∧ S' = [])
def R_is_ahead (T : Txt K mg) : Rq := fun as S PR PX => ∃ (b : Bool) (l : List (Bool × Stp)) (ps : Array Value), as = [.dat (.int (hI b)), .dat (.list (l.map pairD))] ∧ l.length ≤ 1000 ∧ TriplesOk ps.toList ∧ S = [(T.P_is_ahead, .ho (.tbl ps))] ∧
  PR = (fun r S' => r = .dat (.bool (ahd b l)) ∧ ∃ ps', TriplesOk ps'.toList ∧ S' = [(T.P_is_ahead, .ho (.tbl ps'))]) ∧ PX = noX
def R_ahead (T : Txt K mg) : Rq := fun as S PR PX => ∃ (row row1 : List Stp) (o : List Bool) (ps : Array Value), as = [.dat (rowD row), .dat (rowD row1), .dat (.list (handsD o))] ∧ o.length ≤ 1000 ∧ TriplesOk ps.toList ∧ S = [(T.P_is_ahead, .ho (.tbl ps))] ∧
  PR = (fun r S' => ∃ l, zipO row row1 o = some l ∧ r = .dat (.tuple [.bool (ahd false l), .bool (ahd true l)]) ∧ ∃ ps', TriplesOk ps'.toList ∧ S' = [(T.P_is_ahead, .ho (.tbl ps'))]) ∧
  PX = (fun cls S' => zipO row row1 o = none ∧ cls = .ref T.C_NoTurn ∧ S' = [(T.P_is_ahead, .ho (.tbl ps))])
end

theorem sc_apart : FnScope ["one", "other"] ["one", "other"] (defScope s_apart) := ⟨rfl, rfl, rfl, by decide +kernel, rfl, by decide +kernel, by decide +kernel⟩

section
variable {K : PySem.W.Frag} {mg : Str → Option Value}
open GQ
theorem guardK (T : Txt K mg) : SqT K (fun _ => none) T.a_GUARD_WORDS [.str "take", .str "free"] := by
  obtain ⟨a, e, h⟩ := wordsK (ws := ["take", "free"]) (T.c_GUARD_WORDS (fun _ => none))
  cases e
  exact h
theorem boxK (T : Txt K mg) : SqT K (fun _ => none) T.a_BOX_WORDS [.str "load", .str "plus", .str "store"] := by
  obtain ⟨a, e, h⟩ := wordsK (ws := ["load", "plus", "store"]) (T.c_BOX_WORDS (fun _ => none))
  cases e
  exact h
end


section
variable {P : Program} {w : World} {K : PySem.W.Frag} {mg : Str → Option Value} {base : Heap}
open GQ
theorem apart_q (T : Txt K mg) (M : Mod K mg base) {A : Around} (room : A.depth < recursionLimit) {s0 : Shared} (hb : ∀ b o, base.get? b = some o → s0.heap.get? b = some o) {a b : Addr} {s t : Stp}
    (ta : ∀ h : Heap, (∀ b o, s0.heap.get? b = some o → h.get? b = some o) → TupH h a s.toV) (tb : ∀ h : Heap, (∀ b o, s0.heap.get? b = some o → h.get? b = some o) → TupH h b t.toV) : FnQ P w A T.f_apart [.ref a, .ref b] (.bl (apart s t)) s0 := by
  refine fnq_of M T.F_apart sc_apart T.b_apart room hb rfl (fun n hn => ?_) fun env Ψ C he hs hv => ?_
  · simp only [List.mem_cons, List.not_mem_nil, or_false] at hn
    rcases hn with rfl | rfl <;> rfl
  have sc : ∀ n, env.kindOf n = (defScope s_apart).names.lookup n := fun n => by show env.scope.names.lookup n = _; rw [he]
  have one : ∀ p, QV P w (A.deeper env) Ψ env (.Name "one" p) (.ref a) := fun p => qv_loc C.kind ((sc _).trans rfl) fun h q => hv 0 "one" _ rfl rfl h q
  have oth : ∀ p, QV P w (A.deeper env) Ψ env (.Name "other" p) (.ref b) := fun p => qv_loc C.kind ((sc _).trans rfl) fun h q => hv 1 "other" _ rfl rfl h q
  have gw : ∀ p, QV P w (A.deeper env) Ψ env (.Name "GUARD_WORDS" p) (.ref T.a_GUARD_WORDS) := fun p => qv_glob C ((sc _).trans rfl) T.m_GUARD_WORDS T.r_GUARD_WORDS
  have bw : ∀ p, QV P w (A.deeper env) Ψ env (.Name "BOX_WORDS" p) (.ref T.a_BOX_WORDS) := fun p => qv_glob C ((sc _).trans rfl) T.m_BOX_WORDS T.r_BOX_WORDS
  have o0 : ∀ p p1 p2 j, QV P w (A.deeper env) Ψ env (.Subscript (.Name "one" p) (.Constant (.int 0) j p1) p2) (.str s.kd.word) := fun p p1 p2 j => qv_ix C.up (one p) qv_int (fun h q => ta h (hs h q)) (tv0 s)
  have t0 : ∀ p p1 p2 j, QV P w (A.deeper env) Ψ env (.Subscript (.Name "other" p) (.Constant (.int 0) j p1) p2) (.str t.kd.word) := fun p p1 p2 j => qv_ix C.up (oth p) qv_int (fun h q => tb h (hs h q)) (tv0 t)
  have inG : ∀ {e : Expr} {k : Kd} {p p1}, QV P w (A.deeper env) Ψ env e (.str k.word) → QT P w (A.deeper env) Ψ env (.Compare e [.In] [.Name "GUARD_WORDS" p] p1) k.isGuard := fun {e k p p1} h => by
    have := qt_cmp (pos := p1) C.up (oq_in rfl rfl (C.tup (guardK T))) h (gw p) rfl
    rw [inV_guard] at this
    exact this
  have inB : ∀ {e : Expr} {k : Kd} {p p1}, QV P w (A.deeper env) Ψ env e (.str k.word) → QT P w (A.deeper env) Ψ env (.Compare e [.In] [.Name "BOX_WORDS" p] p1) k.isBox := fun {e k p p1} h => by
    have := qt_cmp (pos := p1) C.up (oq_in rfl rfl (C.tup (boxK T))) h (bw p) rfl
    rw [inV_box] at this
    exact this
  refine qss_if C.up (qt_of (qw_and C.up (inG (o0 _ _ _ _)) fun _ => qw_and1 (inG (t0 _ _ _ _)))) (fun h => ?_) (fun h1 => ?_)
  · rw [show apart s t = false by unfold apart; rw [h]; rfl]
    exact qss_end (qs_ret qv_bl)
  refine qss_if (k := s.kd.isBox && (t.kd.isBox && (s.b == t.b))) C.up (qt_of (qw_and C.up (inB (o0 _ _ _ _)) fun hB1 => qw_and C.up (inB (t0 _ _ _ _)) fun hB2 => qw_and1 (qt_cmp C.up oq_eqI (qv_ix C.up (one _) qv_int (fun h q => ta h (hs h q)) (tv1 hB1)) (qv_ix C.up (oth _) qv_int (fun h q => tb h (hs h q)) (tv1 hB2)) rfl))) (fun h2 => ?_) (fun h2 => ?_)
  · have h2 : (s.kd.isBox && (t.kd.isBox && decide (s.b = t.b))) = true := h2
    rw [show apart s t = ((s.kd.word != "store") && (t.kd.word != "store")) by unfold apart; rw [h1, h2, neW_store, neW_store]; rfl]
    exact qss_end (qs_ret (qv_and C.up (qv_cmp C.up oq_neS (o0 _ _ _ _) qv_str rfl) fun _ => qv_one (qv_cmp C.up oq_neS (t0 _ _ _ _) qv_str rfl)))
  · have h2 : (s.kd.isBox && (t.kd.isBox && decide (s.b = t.b))) = false := h2
    rw [show apart s t = true by unfold apart; rw [h1, h2]; rfl]
    exact qss_end (qs_ret qv_bl)
end
theorem elt_apart {X : Cx} (T : Txt X.K X.mg) {B : Bs} {Γ : Gam} {S : Sto} {sc : Scope} {p p1 p2 p3 : Pos} {st : Stp} {bef : List Stp} {Tb : Addr} {t k : Nat} {ps : Array Value} (hk : sc.kind = .function) (h1 : sc.names.lookup ("one" : Str) = some .local) (h2 : sc.names.lookup ("step" : Str) = some .free) (h3 : sc.names.lookup ("apart" : Str) = some .globalImplicit)
    (free : ∀ y ∈ sc.names, y.2 = .free → ∃ c, X.env.cells.lookup y.1 = some c) (hj : Γ[k]? = some (.dat st.toD)) (hN : X.N[k]? = some "step") (hc : X.env.kindOf "step" = some .cell) (ht : S[t]? = some (Tb, .ho (.tbl ps))) (room : X.A.depth + 1 < recursionLimit) :
    GQ.EltP X B Γ S sc "one" (.Call (.Name "apart" p) [.Name "one" p1, .Name "step" p2] [] p3) Tb (bef.map Stp.toD) (fun i => apart (bef.getD i .twice) st) := by
  intro pins σ H H0 s xs I at0 hd
  have hT : H Tb = some (.tbl ps) := (at0.sto.at_ Tb _ (List.mem_of_getElem? ht)).2
  refine ⟨fun cenv A' E' i x u s2 m2 hsc hg hcl hdep hi r hn hm kp => ?_⟩
  have C := GQ.elt_qc (m2 := m2) I hT (by rw [hsc]; exact hk) hg
  have kd : ∀ n, cenv.kindOf n = sc.names.lookup n := fun n => by show cenv.scope.names.lookup n = _; rw [hsc]
  obtain ⟨v, hv, hdv⟩ := at0.env.at_ k _ hj
  obtain ⟨cl, hc1, hc2⟩ := GQ.elt_cell (m2 := m2) I hT free hcl (PySem.mem_of_lookup h2) hN hv hc
  obtain ⟨d, hd1, hd2⟩ := dps_getV hd hi
  rw [List.getElem?_map] at hd1
  cases hbi : bef[i]? with
  | none => rw [hbi] at hd1; cases hd1
  | some a0 =>
    rw [hbi] at hd1
    cases hd1
    obtain ⟨a, rfl, ha⟩ := dp_stp hd2
    obtain ⟨b, rfl, hb⟩ := dp_stp hdv
    have ha2 := GQ.elt_tup (cenv := cenv) (m2 := m2) I hT (Evl.ex_t at0.e2 ha)
    have hb2 := GQ.elt_tup (cenv := cenv) (m2 := m2) I hT (Evl.ex_t at0.e2 hb)
    have go : GQ.QV X.prog X.w A' (GQ.EltΦ s Tb cenv m2) cenv (.Call (.Name "apart" p) [.Name "one" p1, .Name "step" p2] [] p3) (.bl (apart a0 st)) := by
      refine GQ.qv_call C ((kd _).trans h3) T.m_apart T.F_apart.kp (GQ.qa_cons C.up (GQ.qv_loc C.kind ((kd _).trans h1) fun h q => ⟨m2, u, q.2, hm, r⟩) (GQ.qa_cons C.up (GQ.qv_free C.kind ((kd _).trans h2) hc1 hc2) GQ.qa_nil)) fun s3 h3 => ?_
      exact apart_q T C.mod (by omega) (C.bs _ h3) (fun h q => ha2 h (C.up _ _ q h3)) (fun h q => hb2 h (C.up _ _ q h3))
    refine thn (go E' s2 ⟨kp, hn⟩) fun y s3 ⟨ry, kk⟩ => ⟨?_, kk⟩
    show y = .bool (apart (bef.getD i .twice) st)
    rw [List.getD_eq_getElem?_getD, hbi]
    exact ry

section
variable {P : Program} {w : World} {K : PySem.W.Frag} {mg : Str → Option Value} {base : Heap}
theorem sc_steps_of : FnScope ["ones", "others", "order", "rows", "places", "steps", "hand"] ["ones", "others", "order"] (defScope s_steps_of) := ⟨rfl, rfl, rfl, by decide +kernel, rfl, by decide +kernel, by decide +kernel⟩
theorem ok_steps_of (T : Txt K mg) : FnOk P w K mg base (L2N.CX P w) 5 T.f_steps_of T.d_steps_of ["ones", "others", "order"] (SpM K (R_steps_of T)) := by
  refine mut_def T.F_steps_of sc_steps_of (fun as S PR PX h => ?_) (fun cdv A outer s H E H0 Hh ks as S PR PX hr h => ?_)
  · obtain ⟨row, row1, o, rfl, hol, rfl, rfl, rfl⟩ := h; rfl
  · obtain ⟨row, row1, o, rfl, hol, rfl, rfl, rfl⟩ := h
    refine gss_set (i := 3) sc_steps_of.nd rfl (by first | exact .inl rfl | exact .inr rfl) (r := .dat _) (gd_tup (ga_cons (gd_var (pv 0) rfl) (ga_cons (gd_var (pv 1) rfl) ga_nil)) (by (first | decide | (simp only [List.length_append, List.length_cons, List.length_nil, List.length_map, List.length_set, List.length_take, List.length_drop]; omega)))) ?_
    refine gss_then ?_
    refine gs_setF (i := 4) (gf_lst (ga_cons gd_int (ga_cons gd_int ga_nil)) (by show 2 ≤ 100000; decide)) sc_steps_of.nd rfl (by first | exact .inl rfl | exact .inr rfl) fun q hq => ?_
    refine gss_then ?_
    refine gs_setF (i := 5) (gf_lst ga_nil (by show 0 ≤ 100000; decide)) sc_steps_of.nd rfl (by first | exact .inl rfl | exact .inr rfl) fun p hp => ?_
    refine gss_at (Γ2 := [.dat (rowD row), .dat (rowD row1), .dat (.list (handsD o)), .dat (.tuple [rowD row, rowD row1]), .raw (.ref q), .raw (.ref p), .un]) (S2 := [(p, .lst ([].map pairD)), (q, .lst [.int (cnt2 [] false : Nat), .int (cnt2 [] true : Nat)])]) rfl rfl ?_
    refine gss_cons (M := fun Γ' S' => ∃ (l : List (Bool × Stp)) (x6 : Sl), zipO row row1 o = some l ∧ Γ' = [.dat (rowD row), .dat (rowD row1), .dat (.list (handsD o)), .dat (.tuple [rowD row, rowD row1]), .raw (.ref q), .raw (.ref p), x6] ∧ S' = [(p, .lst (l.map pairD)), (q, .lst [.int (cnt2 l false : Nat), .int (cnt2 l true : Nat)])]) (gs_forL (ds := handsD o) .leaving rfl (gd_var (pv 2) rfl) sc_steps_of.nd (j := 6) rfl (by first | exact .inl rfl | exact .inr rfl) (fun i Γ' S' => ∃ (l : List (Bool × Stp)) (x6 : Sl), zipO row row1 (o.take i) = some l ∧ Γ' = [.dat (rowD row), .dat (rowD row1), .dat (.list (handsD o)), .dat (.tuple [rowD row, rowD row1]), .raw (.ref q), .raw (.ref p), x6] ∧ S' = [(p, .lst (l.map pairD)), (q, .lst [.int (cnt2 l false : Nat), .int (cnt2 l true : Nat)])]) ⟨[], .un, rfl, rfl, rfl⟩ ?_ ?_) ?_
    · rintro i d Γ' S' G hd ⟨l, x6, hz, rfl, rfl⟩
      obtain ⟨b, hb, rfl⟩ := hands_at hd
      obtain ⟨z1, z2⟩ := zip_take hb hz
      have zb := zip_all hz
      have hll : l.length ≤ 1000 := by rw [zb.2, List.length_take]; omega
      have ri := rows_ix (row := row) (row1 := row1) b
      have ci := cnt_ix l b
      refine gss_if (gt_eq hr.units (gd_ixO (n := 1) (gr_var (pv 4) rfl) (gd_var (pv 6) rfl) rfl (by (first | exact held_at _ | assumption | exact ixh | exact ixb (by assumption) | exact rfl | (simp only [*]; exact rfl)))) (gd_callB call_len (ca_len (by first | exact .inl rfl | exact .inr rfl)) rfl T.z_len (by decide +kernel) (ga_cons (gd_ixT (gd_var (pv 3) rfl) (gd_var (pv 6) rfl) (by (first | exact held_at _ | assumption | exact ixh | exact ixb (by assumption) | exact rfl | (simp only [*]; exact rfl)))) ga_nil)) (by (first | exact shaped_int _ | exact shaped_bool _ | exact shaped_none | assumption | exact shaped_ints _ | exact shaped_str (by decide +kernel) | exact rfl | decide +kernel)) (by (first | exact shaped_int _ | exact shaped_bool _ | exact shaped_none | assumption | exact shaped_ints _ | exact shaped_str (by decide +kernel) | exact rfl | decide +kernel))) (fun h1 => ?_) (fun h1 => gss_nil ?_)
      · have h1 : cnt2 l b = (rowOf row row1 b).length := by
          have := of_decide_eq_true h1
          simp only [List.length_map] at this
          omega
        refine gss_pick (S2 := []) [] List.nodup_nil rfl ?_
        have zn := z2 (List.getElem?_eq_none_iff.mpr (by rw [← h1]; exact Nat.le_refl _))
        clear ri ci
        cases b <;> exact ret_all (gs_raise rfl (L2N.takes_of rfl rfl rfl rfl) PySem.F.excBase_ValueError T.x_NoTurn T.g_NoTurn T.k_NoTurn (raises_own T.s_NoTurn T.t_NoTurn) rfl (ge_join (.cons gd_str (.cons (gd_fmt (gd_var (pv 6) rfl) (by decide)) (.cons gd_str .nil))) ⟨by decide +kernel, by decide +kernel, by decide +kernel, trivial⟩) ⟨zn, rfl, rfl⟩)
      have hle : cnt2 l b < (rowOf row row1 b).length := by
        have h1 := of_decide_eq_false h1
        simp only [List.length_map] at h1
        have := zb.1 b
        omega
      obtain ⟨t, ht⟩ : ∃ t, (rowOf row row1 b)[cnt2 l b]? = some t := ⟨_, List.getElem?_eq_getElem hle⟩
      have ti : atI ((rowOf row row1 b).map Stp.toD) (cnt2 l b : Nat) = some t.toD := atI_nat (by rw [List.getElem?_map, ht]; rfl)
      refine gss_then ?_
      refine gs_appO (n := 0) (gr_var (pv 5) rfl) (gd_tup (ga_cons (gd_var (pv 6) rfl) (ga_cons (gd_ixL (gd_ixT (gd_var (pv 3) rfl) (gd_var (pv 6) rfl) (by (first | exact held_at _ | assumption | exact ixh | exact ixb (by assumption) | exact rfl | (simp only [*]; exact rfl)))) (gd_ixO (n := 1) (gr_var (pv 4) rfl) (gd_var (pv 6) rfl) rfl (by (first | exact held_at _ | assumption | exact ixh | exact ixb (by assumption) | exact rfl | (simp only [*]; exact rfl)))) (by (first | exact held_at _ | assumption | exact ixh | exact ixb (by assumption) | exact rfl | (simp only [*]; exact rfl)))) ga_nil)) (by (first | decide | (simp only [List.length_append, List.length_cons, List.length_nil, List.length_map, List.length_set, List.length_take, List.length_drop]; omega)))) rfl (by rw [List.length_map]; omega) ?_
      refine gss_one (gs_augO (n := 1) (m := if b then 1 else 0) ip_addT (gr_var (pv 4) rfl) (gd_cast (gd_var (pv 6) rfl) (by cases b <;> rfl)) gd_int rfl (z := (cnt2 l b : Nat)) (by cases b <;> rfl) trivial ?_)
      refine ⟨l ++ [(b, t)], _, z1 t ht, rfl, ?_⟩
      show [(p, OV.lst (l.map pairD ++ [pairD (b, t)])), (q, _)] = _
      rw [List.map_append, cnt_snoc, cnt_snoc]
      cases b <;> rfl
    · rintro Γ' S' ⟨l, x6, hz, rfl, rfl⟩
      have e : (handsD o).length = o.length := by unfold handsD; rw [List.length_map]
      rw [e, List.take_length] at hz
      exact ⟨l, x6, hz, rfl, rfl⟩
    · rintro Γ' S' ⟨l, x6, hz, rfl, rfl⟩
      refine gss_pick (S2 := [(p, .lst (l.map pairD))]) [0] (by simp) rfl ?_
      exact gss_one (gs_retE (ge_mono (ge_freeze (n := 0) (gr_var (pv 5) rfl) rfl hp) (fun r S' h => ⟨l, hz, h.1, h.2⟩) fun _ _ h => h))

theorem ahF_mono (b : Bool) : ∀ (r pre q : List (Bool × Stp)), ahF b pre r = true → ahF b pre (r ++ q) = true
  | [], _, _, h => nomatch h
  | e :: r, pre, q, h => by
    rw [ahF, Bool.or_eq_true] at h
    rw [List.cons_append, ahF, Bool.or_eq_true]
    exact h.imp id fun z => ahF_mono b r _ q z
theorem ahd_at {b : Bool} {l : List (Bool × Stp)} {i : Nat} {e : Bool × Stp} (he : l[i]? = some e) : l.take (i + 1) = l.take i ++ [e] := by
  obtain ⟨hi, rfl⟩ := List.getElem?_eq_some_iff.mp he
  rw [List.take_succ, List.getElem?_eq_getElem hi]; rfl
theorem ahd_hit {b : Bool} {l : List (Bool × Stp)} {i : Nat} {e : Bool × Stp} (he : l[i]? = some e) (h : hit b (l.take i) e = true) : ahd b l = true := by
  have h1 : ahd b (l.take (i + 1)) = true := by rw [ahd_at (b := b) he, ahd_snoc, h, Bool.or_true]
  have := ahF_mono b _ [] (l.drop (i + 1)) h1
  rwa [List.take_append_drop] at this
theorem ahd_next {b : Bool} {l : List (Bool × Stp)} {i : Nat} {e : Bool × Stp} (he : l[i]? = some e) (h0 : ahd b (l.take i) = false) (h : hit b (l.take i) e = false) : ahd b (l.take (i + 1)) = false := by
  rw [ahd_at (b := b) he, ahd_snoc, h0, h]; rfl
theorem hit_same {b : Bool} {l : List (Bool × Stp)} {e : Bool × Stp} (h : e.1 = b) : hit b l e = false := by
  unfold hit
  rw [decide_eq_true h]; rfl
theorem own_len (b : Bool) (l : List (Bool × Stp)) : (own b l).length ≤ l.length := by
  unfold own
  rw [List.length_map]
  exact List.length_filter_le _ _

theorem sc_is_ahead : FnScope ["hand", "steps", "before", "mover", "step", "one"] ["hand", "steps"] (defScope s_is_ahead) := ⟨rfl, rfl, rfl, by decide +kernel, rfl, by decide +kernel, by decide +kernel⟩
theorem ok_is_ahead (T : Txt K mg) (TB : GxR.TabB base mg T.c_is_ahead T.P_is_ahead) : FnOk P w K mg base CX0 5 T.f_is_ahead T.d_is_ahead ["hand", "steps"] (SpM K (R_is_ahead T)) := by
  refine GQ.mut_def0T T.F_is_ahead T.t_is_ahead sc_is_ahead (fun as S PR PX h => ?_) (fun A out s H E B as S PR PX hr h => ?_)
  · obtain ⟨b, l, ps, rfl, hl, tr, rfl, rfl, rfl⟩ := h; rfl
  · obtain ⟨b, l, ps, rfl, hl, tr, rfl, rfl, rfl⟩ := h
    refine gss_then ?_
    refine gs_setF (i := 2) (gf_lst ga_nil (by show 0 ≤ 100000; decide)) sc_is_ahead.nd rfl (by first | exact .inl rfl | exact .inr rfl) fun p hp => ?_
    refine gss_at (Γ2 := [.dat (.int (hI b)), .dat (.list (l.map pairD)), .raw (.ref p), .un, .un, .un]) (S2 := [(p, .lst ((own b (l.take 0)).map Stp.toD)), (T.P_is_ahead, .ho (.tbl ps))]) rfl rfl ?_
    refine gss_cons (M := fun Γ' S' => ∃ (x3 x4 : Sl) (ps2 : Array Value), TriplesOk ps2.toList ∧ ahd b l = false ∧ Γ' = [.dat (.int (hI b)), .dat (.list (l.map pairD)), .raw (.ref p), x3, x4, .un] ∧ S' = [(p, .lst ((own b l).map Stp.toD)), (T.P_is_ahead, .ho (.tbl ps2))]) (GQ.gs_forP (ds := l.map pairD) .never rfl (gd_var (pv 1) rfl) (fun d hd => ?_) sc_is_ahead.nd (j := 3) rfl (by first | exact .inl rfl | exact .inr rfl) (k := 4) rfl (by first | exact .inl rfl | exact .inr rfl) (fun i Γ' S' => ∃ (x3 x4 : Sl) (ps2 : Array Value), TriplesOk ps2.toList ∧ ahd b (l.take i) = false ∧ Γ' = [.dat (.int (hI b)), .dat (.list (l.map pairD)), .raw (.ref p), x3, x4, .un] ∧ S' = [(p, .lst ((own b (l.take i)).map Stp.toD)), (T.P_is_ahead, .ho (.tbl ps2))]) ⟨.un, .un, ps, tr, rfl, rfl, rfl⟩ ?_ ?_) ?_
    · obtain ⟨e, _, rfl⟩ := List.mem_map.mp hd
      exact ⟨_, _, rfl⟩
    · rintro i d1 d2 Γ' S' G0 hd ⟨x3, x4, ps2, tr2, h0, rfl, rfl⟩
      obtain ⟨e, he, rfl, rfl⟩ := pairs_at hd
      have hil := (List.getElem?_eq_some_iff.mp he).1
      have hol : ((own b (l.take i)).map Stp.toD).length < 100000 := by
        have := own_len b (l.take i)
        rw [List.length_take] at this
        rw [List.length_map]
        omega
      refine gss_one (gs_if (gt_cast (gt_eq hr.units (gd_var (pv 3) rfl) (gd_var (pv 0) rfl) (by (first | exact shaped_int _ | exact shaped_bool _ | exact shaped_none | assumption | exact shaped_ints _ | exact shaped_str (by decide +kernel) | exact rfl | decide +kernel)) (by (first | exact shaped_int _ | exact shaped_bool _ | exact shaped_none | assumption | exact shaped_ints _ | exact shaped_str (by decide +kernel) | exact rfl | decide +kernel))) (eqv_hand e.1 b)) (fun hm => ?_) (fun hm => ?_))
      · have hm : e.1 = b := of_decide_eq_true hm
        refine gss_one (gs_appO (n := 0) (gr_var (pv 2) rfl) (gd_var (pv 4) rfl) rfl hol ?_)
        refine ⟨_, _, ps2, tr2, ahd_next he h0 (hit_same hm), rfl, ?_⟩
        rw [ahd_at (b := b) he, own_snoc, if_pos hm, List.map_append]; rfl
      · have hm : e.1 ≠ b := of_decide_eq_false hm
        refine gss_one (gs_ifE (Pt := fun k S' => k = hit b (l.take i) e ∧ ∃ ps3 : Array Value, TriplesOk ps3.toList ∧ S' = [(p, .lst ((own b (l.take i)).map Stp.toD)), (T.P_is_ahead, .ho (.tbl ps3))]) (gte_not (gte_val (GQ.ge_all (t := 1) (hr.mono (Nat.le_refl _)) rfl T.z_all (by decide +kernel) TB rfl (GQ.genS_by (osc := defScope s_is_ahead) (by decide +kernel) fun y hy => cell_has hy) (pv 2) rfl (.inr ⟨p, rfl, List.mem_cons_self⟩) rfl tr2 (elt_apart (X := (cxOf CX0 P w K mg base _ _ _ _ _ A out s H E).nox) T (k := 4) (t := 1) (bef := own b (l.take i)) (st := e.2) rfl rfl rfl rfl (GQ.genS_by (n := "one") (osc := defScope s_is_ahead) (by decide +kernel) fun y hy => cell_has hy).free rfl rfl rfl rfl (by have := hr.dp; show (A.deeper _).depth + 1 < recursionLimit; omega)) (fun _ => rfl)) fun r S' h => ?_)) (fun S' h => ?_) (fun S' h => ?_))
        · obtain ⟨rfl, ps3, tr3, rfl⟩ := h
          refine ⟨_, rfl, ?_, ps3, tr3, rfl⟩
          rw [hit_own _ _ _ hm, List.length_map]
        · obtain ⟨hh, ps3, tr3, rfl⟩ := h
          refine gss_pick (S2 := [(T.P_is_ahead, .ho (.tbl ps3))]) [1] (by simp) rfl ?_
          exact gss_ret (r := .dat _) gd_bl ⟨by rw [ahd_hit he hh.symm], ps3, tr3, rfl⟩
        · obtain ⟨hh, ps3, tr3, rfl⟩ := h
          refine gss_nil ⟨_, _, ps3, tr3, ahd_next he h0 hh.symm, rfl, ?_⟩
          rw [ahd_at (b := b) he, own_snoc, if_neg hm, List.append_nil]
    · rintro Γ' S' ⟨x3, x4, ps2, tr2, h0, rfl, rfl⟩
      rw [List.length_map] at h0 ⊢
      rw [List.take_length] at h0 ⊢
      exact ⟨x3, x4, ps2, tr2, h0, rfl, rfl⟩
    · rintro Γ' S' ⟨x3, x4, ps2, tr2, h0, rfl, rfl⟩
      refine gss_pick (S2 := [(T.P_is_ahead, .ho (.tbl ps2))]) [1] (by simp) rfl ?_
      exact gss_ret (r := .dat _) gd_bl ⟨by rw [h0], ps2, tr2, rfl⟩
theorem sc_ahead : FnScope ["ones", "others", "order", "steps"] ["ones", "others", "order"] (defScope s_ahead) := ⟨rfl, rfl, rfl, by decide +kernel, rfl, by decide +kernel, by decide +kernel⟩
theorem ok_ahead (T : Txt K mg) (TB : GxR.TabB base mg T.c_is_ahead T.P_is_ahead) : FnOk P w K mg base (L2N.CX P w) 6 T.f_ahead T.d_ahead ["ones", "others", "order"] (SpM K (R_ahead T)) := by
  refine mut_def T.F_ahead sc_ahead (fun as S PR PX h => ?_) (fun cdv A outer s H E H0 Hh ks as S PR PX hr h => ?_)
  · obtain ⟨row, row1, o, ps, rfl, hol, tr, rfl, rfl, rfl⟩ := h; rfl
  · obtain ⟨row, row1, o, ps, rfl, hol, tr, rfl, rfl, rfl⟩ := h
    refine gss_then ?_
    refine gs_setE (i := 3) sc_ahead.nd rfl (by first | exact .inl rfl | exact .inr rfl) (ge_mono (ge_call (S1 := []) (F := [(T.P_is_ahead, .ho (.tbl ps))]) (ok_steps_of T) (hr.mono (by decide)) rfl T.m_steps_of T.F_steps_of.kp T.b_steps_of (fun σ => L2N.passAt (L2N.takes_of rfl rfl rfl rfl) σ) (gas_cons (r := .dat _) (gd_var (pv 0) rfl) (gas_cons (r := .dat _) (gd_var (pv 1) rfl) (gas_cons (r := .dat _) (gd_var (pv 2) rfl) gas_nil))) ⟨row, row1, o, rfl, hol, rfl, rfl, rfl⟩) (fun r S' h => ?_) (fun cc S' h => ?_))
    rotate_left 1
    · obtain ⟨S1', ⟨hz, rfl, rfl⟩, rfl⟩ := h
      exact ⟨hz, rfl, rfl⟩
    obtain ⟨S1', ⟨l, hz, rfl, rfl⟩, rfl⟩ := h
    have hll := (zip_all hz).2
    refine gss_at (Γ2 := [.dat (rowD row), .dat (rowD row1), .dat (.list (handsD o)), .dat (.list (l.map pairD))]) (S2 := [(T.P_is_ahead, .ho (.tbl ps))]) rfl rfl ?_
    refine gss_one (gs_retE (ge_mono (GQ.ge_tupE (Pa := fun ds S' => ds = [.bool (ahd false l), .bool (ahd true l)] ∧ ∃ ps', TriplesOk ps'.toList ∧ S' = [(T.P_is_ahead, .ho (.tbl ps'))]) (gea_cons (Pe := fun r S' => r = .dat (.bool (ahd false l)) ∧ ∃ ps', TriplesOk ps'.toList ∧ S' = [(T.P_is_ahead, .ho (.tbl ps'))]) (ge_mono (ge_call (S1 := [(T.P_is_ahead, .ho (.tbl ps))]) (F := []) (ok_is_ahead T TB) (hr.mono (by decide)) rfl T.m_is_ahead T.F_is_ahead.kp T.b_is_ahead (fun _ => GQ.p0At) (gas_cons (r := .dat _) (gd_cast gd_int rfl) (gas_cons (r := .dat _) (gd_var (pv 3) rfl) gas_nil)) ⟨false, l, ps, rfl, by omega, tr, rfl, rfl, rfl⟩) (fun r S' h => ?_) (fun _ _ h => ?_)) fun r S' h => ?_)) (fun r S' h => ?_) (fun _ _ h => h)))
    · obtain ⟨S1', ⟨rfl, ps', tr', rfl⟩, rfl⟩ := h
      exact ⟨rfl, ps', tr', rfl⟩
    · obtain ⟨S1', h, _⟩ := h
      exact h.elim
    · obtain ⟨rfl, ps', tr', rfl⟩ := h
      refine gea_cons (Pe := fun r S' => r = .dat (.bool (ahd true l)) ∧ ∃ ps', TriplesOk ps'.toList ∧ S' = [(T.P_is_ahead, .ho (.tbl ps'))]) (ge_mono (ge_call (S1 := [(T.P_is_ahead, .ho (.tbl ps'))]) (F := []) (ok_is_ahead T TB) (hr.mono (by decide)) rfl T.m_is_ahead T.F_is_ahead.kp T.b_is_ahead (fun _ => GQ.p0At) (gas_cons (r := .dat _) (gd_cast gd_int rfl) (gas_cons (r := .dat _) (gd_var (pv 3) rfl) gas_nil)) ⟨true, l, ps', rfl, by omega, tr', rfl, rfl, rfl⟩) (fun r S' h => ?_) (fun _ _ h => ?_)) fun r S' h => ?_
      · obtain ⟨S1', ⟨rfl, ps2, tr2, rfl⟩, rfl⟩ := h
        exact ⟨rfl, ps2, tr2, rfl⟩
      · obtain ⟨S1', h, _⟩ := h
        exact h.elim
      · obtain ⟨rfl, ps2, tr2, rfl⟩ := h
        exact gea_nil ⟨[.bool (ahd false l), .bool (ahd true l)], rfl, by show 2 ≤ 100000; decide, rfl, ps2, tr2, rfl⟩
    · obtain ⟨ds, rfl, rfl, ps2, tr2, rfl⟩ := h
      exact ⟨l, hz, rfl, ps2, tr2, rfl⟩
end
section
variable {P : Program} {w : World} {K : PySem.W.Frag} {mg : Str → Option Value} {base : Heap}

/-! ### how a weaving stands, kept in place -/
structure SA where
  s : Addr
  q : Addr
  n : Addr
  b : Addr
abbrev standO (A : SA) (s : LSt) : List Sl := [.raw (.ref A.b), .raw (.ref A.n), .raw (.ref A.q), .dat (holdD s.h), .dat (.list [rowD s.r0, rowD s.r1])]
abbrev standS (A : SA) (s : LSt) : Sto := [(A.s, .ls (standO A s)), (A.q, .lst [.int (s.p0 : Int), .int (s.p1 : Int)]), (A.n, .lst [.int s.n0, .int s.n1]), (A.b, .lst (s.bx.map .int))]
def R_l_word (as : List Sl) (S : Sto) (PR : Sl → Sto → Prop) (PX : Value → Sto → Prop) : Prop := ∃ (A : SA) (st : LSt) (b : Bool), as = [.raw (.ref A.s), .dat (.int (hI b))] ∧ S = standS A st ∧ Wf st ∧ PR = same (standS A st) (.str (wordE (st.err b))) ∧ PX = noX
def R_l_done (as : List Sl) (S : Sto) (PR : Sl → Sto → Prop) (PX : Value → Sto → Prop) : Prop := ∃ (A : SA) (st : LSt) (b : Bool), as = [.raw (.ref A.s), .dat (.int (hI b))] ∧ S = standS A st ∧ Wf st ∧ SmallL st ∧ st.over b = false ∧ PR = same (standS A (st.done b)) .none ∧ PX = noX

/-- what a step adds is small -/
def AddS (t : Stp) : Prop := t.kd = .add → t.b.natAbs < 2 ^ 200
theorem walk_snoc : ∀ (o : List Bool) (s : LSt) (b : Bool), walk s (o ++ [b]) = match walk s o with
    | (none, s') => (match s'.err b with | none => (none, s'.done b) | some e => (some e, s'))
    | x => x
  | [], s, b => by
    show walk s [b] = match s.err b with | none => (none, s.done b) | some e => (some e, s)
    rw [walk]
    cases s.err b <;> rfl
  | a :: o, s, b => by
    show walk s (a :: (o ++ [b])) = _
    cases h : s.err a with
    | none => rw [walk_ok h, walk_ok h]; exact walk_snoc o _ b
    | some e => rw [walk_err h, walk_err h]
theorem snoc_ok {o : List Bool} {s s' : LSt} {b : Bool} (h : walk s o = (none, s')) (he : s'.err b = none) : walk s (o ++ [b]) = (none, s'.done b) := by
  rw [walk_snoc, h]
  simp only [he]
theorem snoc_err {o : List Bool} {s s' : LSt} {b : Bool} {e : Er} (h : walk s o = (none, s')) (he : s'.err b = some e) : walk s (o ++ [b]) = (some e, s') := by
  rw [walk_snoc, h]
  simp only [he]
def cellsN (ns : List Int) (st : Int) (n : Nat) : List Int := (List.range n).map fun k : Nat => cell ns (st + (k : Int) % 20) + 11 * ((k : Int) / 20)
def AllSm (zs : List Int) : Prop := ∀ z ∈ zs, Small z
theorem cell_plus {ns : List Int} (h : AllSmall ns) (k : Int) {t : Int} (ht : t.natAbs < 100) : Small (cell ns k + t) := by
  have hc := cell_log h k
  have h1 : (cell ns k).natAbs < 2 ^ 1048577 := Nat.lt_of_lt_of_le (Nat.lt_log2_self) (Nat.pow_le_pow_right (by decide) (by omega))
  have h2 : 100 ≤ 2 ^ 1048577 := Nat.le_trans (by decide : 100 ≤ 2 ^ 8) (Nat.pow_le_pow_right (by decide) (by decide))
  exact small_of (k := 1048578) (by decide) (by decide) (by rw [show (2 : Nat) ^ 1048578 = 2 ^ 1048577 * 2 from Nat.pow_succ _ _]; generalize (2 : Nat) ^ 1048577 = w at *; omega)
theorem cellsN_small {ns : List Int} (h : AllSmall ns) (st : Int) {n : Nat} (hn : n ≤ 100) : AllSm (cellsN ns st n) := fun z hz => by
  obtain ⟨k, hk, rfl⟩ := List.mem_map.mp hz
  have := List.mem_range.mp hk
  exact cell_plus h _ (by omega)
theorem cellsN_len (ns : List Int) (st : Int) (n : Nat) : (cellsN ns st n).length = n := by unfold cellsN; rw [List.length_map, List.length_range]
theorem hands_snoc (o : List Bool) (b : Bool) : handsD o ++ [.int (hI b)] = handsD (o ++ [b]) := by unfold handsD; rw [List.map_append]; rfl
theorem hands_len (o : List Bool) : (handsD o).length = o.length := List.length_map _
theorem hands_shaped (o : List Bool) : SeqAt.shaped (.list (handsD o)) = true := by
  have e : handsD o = (o.map hI).map PyData.int := by unfold handsD; rw [List.map_map]; rfl
  rw [e]; exact shaped_ints _
theorem row_shaped (r : List Stp) : SeqAt.shaped (.list (r.map Stp.toD)) = true := by
  unfold SeqAt.shaped
  rw [Bool.and_eq_true]
  have h1 := rowD_canLay r
  have h2 := rowD_depth r
  exact ⟨h1, decide_eq_true (Nat.le_trans h2 (by decide))⟩
theorem neg_hand (b : Bool) : (1 : Int) - hI b = hI (!b) := by cases b <;> rfl
def R_l_cells (ds : List PyData) (d : PyData) : Prop := ∃ (ns : List Int) (st sz : Int), ds = [.list (ns.map .int), .int st, .int sz] ∧ AllSmall ns ∧ 0 ≤ st ∧ 0 ≤ sz ∧ sz ≤ 100 ∧ d = .list ((cellsN ns st sz.toNat).map .int)
def R_l_ints2 (as : List Sl) (S : Sto) (PR : Sl → Sto → Prop) (PX : Value → Sto → Prop) : Prop := ∃ (r r2 : Sl) (xs : List Int), as = [r, r2] ∧ LSl S r (xs.map .int) ∧ LSl S r2 (xs.map .int) ∧ xs.length ≤ 1000 ∧ PR = same S (.bool true) ∧ PX = noX
/-! ### point 9: two steps exchanged -/
theorem getD_ne {bx : List Int} {i j : Nat} {v : Int} (h : i ≠ j) : (bx.set i v).getD j 0 = bx.getD j 0 := by
  rw [List.getD_eq_getElem?_getD, List.getD_eq_getElem?_getD, List.getElem?_set_ne h]
theorem store_ne {n : Nat} {t u : Stp} (gt : GoodS n t) (gu : GoodS n u) (ht : t.kd.isBox = true) (hu : u.kd.isBox = true) (hs : t.kd = .store ∨ u.kd = .store) (ha : apart t u = true) : t.b.toNat ≠ u.b.toNat := by
  have g1 := (gt ht).1
  have g2 := (gu hu).1
  have hne : t.b ≠ u.b := fun e => by
    unfold apart at ha
    split at ha
    · cases ha
    · rw [if_pos (by rw [ht, hu, e]; simp)] at ha
      rcases hs with h | h <;> rw [h] at ha <;> simp at ha
  omega
theorem eff_comm {n : Nat} (s : LSt) (x : Bool) (t u : Stp) (gt : GoodS n t) (gu : GoodS n u) (ha : apart t u = true) : ((s.eff x t).eff (!x) u) = ((s.eff (!x) u).eff x t) := by
  rcases s with ⟨r0, r1, bx, n0, n1, p0, p1, h⟩
  have key := fun h1 h2 h3 => store_ne gt gu h1 h2 h3 ha
  cases t with
  | load a => cases u with
    | store b =>
      have hk : a.toNat ≠ b.toNat := key rfl rfl (.inr rfl)
      cases x <;> simp only [LSt.eff, LSt.setN, LSt.num, Bool.not_false, Bool.not_true, if_true, if_false, ite_true, ite_false, Bool.false_eq_true, getD_ne hk.symm]
    | _ => cases x <;> rfl
  | plus a => cases u with
    | store b =>
      have hk : a.toNat ≠ b.toNat := key rfl rfl (.inr rfl)
      cases x <;> simp only [LSt.eff, LSt.setN, LSt.num, Bool.not_false, Bool.not_true, if_true, if_false, ite_true, ite_false, Bool.false_eq_true, getD_ne hk.symm]
    | _ => cases x <;> rfl
  | store a => cases u with
    | store b =>
      have hk : a.toNat ≠ b.toNat := key rfl rfl (.inr rfl)
      cases x <;> simp only [LSt.eff, LSt.setN, LSt.num, Bool.not_false, Bool.not_true, if_true, if_false, ite_true, ite_false, Bool.false_eq_true, List.set_comm _ _ hk]
    | load b =>
      have hk : a.toNat ≠ b.toNat := key rfl rfl (.inl rfl)
      cases x <;> simp only [LSt.eff, LSt.setN, LSt.num, Bool.not_false, Bool.not_true, if_true, if_false, ite_true, ite_false, Bool.false_eq_true, getD_ne hk]
    | plus b =>
      have hk : a.toNat ≠ b.toNat := key rfl rfl (.inl rfl)
      cases x <;> simp only [LSt.eff, LSt.setN, LSt.num, Bool.not_false, Bool.not_true, if_true, if_false, ite_true, ite_false, Bool.false_eq_true, getD_ne hk]
    | _ => cases x <;> rfl
  | add a => cases u <;> (cases x <;> rfl)
  | twice => cases u <;> (cases x <;> rfl)
  | take => cases u <;> first | (cases x <;> rfl) | exact absurd ha (by decide)
  | free => cases u <;> first | (cases x <;> rfl) | exact absurd ha (by decide)
theorem setP_eff (s : LSt) (x y : Bool) (p : Nat) (t : Stp) : (s.setP x p).eff y t = (s.eff y t).setP x p := by cases t <;> cases x <;> cases y <;> rfl
theorem setP_comm (s : LSt) (x : Bool) (p q : Nat) : (s.setP x p).setP (!x) q = (s.setP (!x) q).setP x p := by cases x <;> rfl
theorem done_plc (s : LSt) (x : Bool) : (s.done x).plc (!x) = s.plc (!x) := by
  have := eff_plc s x (!x) (s.next x)
  unfold LSt.done
  cases x <;> exact this
theorem done_row (s : LSt) (x b : Bool) : (s.done x).row b = s.row b := by
  unfold LSt.row
  rw [done_r0, done_r1]
theorem done_next (s : LSt) (x : Bool) : (s.done x).next (!x) = s.next (!x) := by
  unfold LSt.next
  rw [done_row, done_plc]
theorem done_over (s : LSt) (x : Bool) : (s.done x).over (!x) = s.over (!x) := by
  unfold LSt.over
  rw [done_row, done_plc]
theorem eff_hold (s : LSt) (x : Bool) (t : Stp) (h : t.kd.isGuard = false) : (s.eff x t).h = s.h := by cases t <;> first | (cases x <;> rfl) | exact absurd h (by decide)
theorem done_hold (s : LSt) (x : Bool) (h : (s.next x).kd.isGuard = false) : (s.done x).h = s.h := by
  unfold LSt.done
  have := eff_hold s x _ h
  cases x <;> exact this
theorem err_same {s1 s2 : LSt} {b : Bool} (ho : s1.over b = s2.over b) (hn : s1.next b = s2.next b) (hh : (s2.next b).kd.isGuard = true → s1.h = s2.h) : s1.err b = s2.err b := by
  unfold LSt.err LSt.waits
  rw [ho, hn]
  cases hg : (s2.next b).kd.isGuard with
  | true => rw [hh hg]
  | false =>
    have h1 : (s2.next b).kd ≠ .take := fun z => by rw [z] at hg; cases hg
    have h2 : (s2.next b).kd ≠ .free := fun z => by rw [z] at hg; cases hg
    simp [h1, h2]
theorem apart_guard {t u : Stp} (ha : apart t u = true) (hu : u.kd.isGuard = true) : t.kd.isGuard = false := by
  unfold apart at ha
  rw [hu, Bool.and_true] at ha
  cases h : t.kd.isGuard with
  | false => rfl
  | true => rw [h] at ha; cases ha
/-- point 9: two neighbours that are apart, exchanged -/
theorem exch {s : LSt} {x : Bool} (w : Wf s) (hx : s.err x = none) (hy : (s.done x).err (!x) = none) (ha : apart (s.next x) (s.next (!x)) = true) : s.err (!x) = none ∧ (s.done (!x)).err x = none ∧ (s.done (!x)).done x = (s.done x).done (!x) := by
  have ox := over_of hx
  have oy : s.over (!x) = false := by rw [← done_over]; exact over_of hy
  have gx := next_good w ox
  have gy := next_good w oy
  have e1 : s.err (!x) = none := by
    rw [← hy]
    exact (err_same (done_over s x) (done_next s x) fun hg => done_hold s x (apart_guard ha hg)).symm
  have hxx : (!(!x)) = x := Bool.not_not x
  have e2 : (s.done (!x)).err x = none := by
    have := err_same (s1 := s.done (!x)) (s2 := s) (b := !(!x)) (done_over s (!x)) (done_next s (!x)) (fun hg => done_hold s (!x) (apart_guard (by rw [apart_comm]; exact ha) (by rw [hxx] at hg; exact hg)))
    rw [hxx] at this
    rw [this]; exact hx
  refine ⟨e1, e2, ?_⟩
  have n1 : (s.done (!x)).next x = s.next x := by have := done_next s (!x); rw [hxx] at this; exact this
  have p1 : (s.done (!x)).plc x = s.plc x := by have := done_plc s (!x); rw [hxx] at this; exact this
  show ((s.done (!x)).eff x ((s.done (!x)).next x)).setP x ((s.done (!x)).plc x + 1) = ((s.done x).eff (!x) ((s.done x).next (!x))).setP (!x) ((s.done x).plc (!x) + 1)
  rw [n1, p1, done_next, done_plc]
  show ((((s.eff (!x) (s.next (!x))).setP (!x) (s.plc (!x) + 1)).eff x (s.next x)).setP x (s.plc x + 1)) = ((((s.eff x (s.next x)).setP x (s.plc x + 1)).eff (!x) (s.next (!x))).setP (!x) (s.plc (!x) + 1))
  rw [setP_eff, setP_eff, eff_comm s x _ _ gx gy ha]
  have := setP_comm ((s.eff (!x) (s.next (!x))).eff x (s.next x)) x (s.plc x + 1) (s.plc (!x) + 1)
  exact this.symm


/-! ### orders: split, exchanged -/
def stepsR : LSt → List Bool → List Stp
  | _, [] => []
  | s, b :: r => s.next b :: stepsR (s.done b) r
theorem walk_cons {s s' : LSt} {b : Bool} {r : List Bool} (h : walk s (b :: r) = (none, s')) : s.err b = none ∧ walk (s.done b) r = (none, s') := by
  cases he : s.err b with
  | none => rw [walk_ok he] at h; exact ⟨rfl, h⟩
  | some e => rw [walk_err he] at h; cases h
theorem walk_split : ∀ (pre : List Bool) {r : List Bool} {s s' : LSt}, Wf s → walk s (pre ++ r) = (none, s') → ∃ s1, Wf s1 ∧ walk s1 r = (none, s') ∧ stepsR s (pre ++ r) = stepsR s pre ++ stepsR s1 r ∧ (stepsR s pre).length = pre.length ∧ ∀ q, walk s (pre ++ q) = walk s1 q
  | [], _, s, _, w, h => ⟨s, w, h, rfl, rfl, fun _ => rfl⟩
  | b :: pre, r, s, s', w, h => by
    obtain ⟨he, h2⟩ := walk_cons h
    obtain ⟨s1, w1, h3, h4, h5, h6⟩ := walk_split pre (w.done he) h2
    refine ⟨s1, w1, h3, ?_, ?_, fun q => ?_⟩
    · show s.next b :: stepsR (s.done b) (pre ++ r) = s.next b :: (stepsR (s.done b) pre ++ stepsR s1 r)
      rw [h4]
    · show (stepsR (s.done b) pre).length + 1 = pre.length + 1
      rw [h5]
    · show walk s (b :: (pre ++ q)) = _
      rw [walk_ok he, h6]
theorem steps_snoc : ∀ (o : List Bool) {s s' : LSt} {b : Bool}, walk s o = (none, s') → stepsR s (o ++ [b]) = stepsR s o ++ [s'.next b]
  | [], s, s', b, h => by cases h; rfl
  | a :: o, s, s', b, h => by
    obtain ⟨he, h2⟩ := walk_cons h
    show s.next a :: stepsR (s.done a) (o ++ [b]) = s.next a :: (stepsR (s.done a) o ++ [s'.next b])
    rw [steps_snoc o h2]
theorem steps_len : ∀ (o : List Bool) (s : LSt), (stepsR s o).length = o.length
  | [], _ => rfl
  | b :: o, s => congrArg (· + 1) (steps_len o (s.done b))
theorem two_at {α : Type} {o : List α} {k : Nat} {x y : α} (hx : o[k]? = some x) (hy : o[k + 1]? = some y) : o = o.take k ++ x :: y :: o.drop (k + 2) := by
  have h1 := drop_at hx
  have h2 := drop_at hy
  rw [h2] at h1
  rw [← h1, List.take_append_drop]
theorem walk_exch {o : List Bool} {k : Nat} {x y : Bool} {t u : Stp} {s s' : LSt} (w : Wf s) (h : walk s o = (none, s')) (hx : o[k]? = some x) (hy : o[k + 1]? = some y) (hxy : x ≠ y) (ht : (stepsR s o)[k]? = some t) (hu : (stepsR s o)[k + 1]? = some u) (ha : apart t u = true) :
    walk s (o.take k ++ [y, x] ++ o.drop (k + 2)) = (none, s') := by
  have hk : k < o.length := (List.getElem?_eq_some_iff.mp hx).1
  have ho := two_at hx hy
  have hy' : y = !x := by cases x <;> cases y <;> first | rfl | exact absurd rfl hxy
  subst hy'
  rw [ho] at h
  obtain ⟨s1, w1, h1, h2, h3, h4⟩ := walk_split (o.take k) w h
  rw [← ho] at h2
  have hl : (o.take k).length = k := by rw [List.length_take]; omega
  obtain ⟨e1, h5⟩ := walk_cons h1
  obtain ⟨e2, h6⟩ := walk_cons h5
  have hs : stepsR s1 (x :: (!x) :: o.drop (k + 2)) = s1.next x :: (s1.done x).next (!x) :: stepsR ((s1.done x).done (!x)) (o.drop (k + 2)) := rfl
  rw [h2, hs] at ht hu
  rw [List.getElem?_append_right (by rw [h3, hl]; exact Nat.le_refl _), h3, hl, Nat.sub_self] at ht
  rw [List.getElem?_append_right (by rw [h3, hl]; omega), h3, hl, show k + 1 - k = 1 by omega] at hu
  cases ht
  cases hu
  rw [done_next] at ha
  obtain ⟨c1, c2, c3⟩ := exch w1 e1 e2 ha
  rw [List.append_assoc, h4]
  show walk s1 ((!x) :: x :: o.drop (k + 2)) = _
  rw [walk_ok c1, walk_ok c2, c3]
  exact h6
/-! ### rows in which takes and frees go by turns -/
def Alt : Bool → List Stp → Prop
  | _, [] => True
  | b, t :: r => (t.kd = .take → b = false) ∧ (t.kd = .free → b = true) ∧ Alt (if t.kd.isGuard = true then decide (t.kd = .take) else b) r
def GI (s : LSt) : Prop := ∀ b : Bool, Alt (decide (s.h = some b)) ((s.row b).drop (s.plc b))
def LSt.lcan (s : LSt) (b : Bool) : Bool := !s.over b && (!decide ((s.next b).kd = .take) || s.h.isNone)
theorem drop_nextB {s : LSt} {b : Bool} (w : Wf s) (ho : s.over b = false) : (s.row b).drop (s.plc b) = s.next b :: (s.row b).drop (s.plc b + 1) := by
  have hl := next_lt w ho
  have e : s.next b = (s.row b)[s.plc b] := by
    unfold LSt.next
    rw [List.getD_eq_getElem?_getD, List.getElem?_eq_getElem hl]; rfl
  rw [e]
  exact List.drop_eq_getElem_cons hl
theorem gi_err {s : LSt} {b : Bool} (w : Wf s) (g : GI s) (hc : s.lcan b = true) : s.err b = none := by
  unfold LSt.lcan at hc
  rw [Bool.and_eq_true] at hc
  have ho : s.over b = false := by simpa using hc.1
  have hg := g b
  rw [drop_nextB w ho] at hg
  obtain ⟨h1, h2, _⟩ := hg
  unfold LSt.err LSt.waits
  rw [ho]
  cases hk : (s.next b).kd <;> simp_all
theorem done_gi {s : LSt} {b : Bool} (w : Wf s) (g : GI s) (he : s.err b = none) : GI (s.done b) := by
  have ho := over_of he
  have hgb := g b
  rw [drop_nextB w ho] at hgb
  obtain ⟨h1, h2, h3⟩ := hgb
  have hpl : (s.done b).plc b = s.plc b + 1 := by unfold LSt.done; cases b <;> rfl
  have hh : (s.done b).h = (s.eff b (s.next b)).h := by unfold LSt.done; cases b <;> rfl
  have hnw : (s.next b).kd = .take → s.h = none := fun hk => by
    have h1 := h1 hk
    unfold LSt.err LSt.waits at he
    rw [ho] at he
    rcases hs : s.h with _ | a
    · rfl
    · rw [hs, hk] at he
      rw [hs] at h1
      cases a <;> cases b <;> simp at he h1
  have hfr : (s.next b).kd = .free → s.h = some b := fun hk => by
    have := h2 hk
    exact of_decide_eq_true this
  intro b'
  rw [done_row]
  by_cases hb : b' = b
  · subst hb
    rw [hpl, hh]
    have e : decide ((s.eff b' (s.next b')).h = some b') = (if (s.next b').kd.isGuard = true then decide ((s.next b').kd = .take) else decide (s.h = some b')) := by
      cases hn : s.next b' with
      | take => simp [LSt.eff, Stp.kd, Kd.isGuard]
      | free => simp [LSt.eff, Stp.kd, Kd.isGuard]
      | _ => cases b' <;> rfl
    rw [e]; exact h3
  · have hb : b' = !b := by cases b <;> cases b' <;> simp_all
    subst hb
    rw [done_plc, hh]
    have e : decide ((s.eff b (s.next b)).h = some (!b)) = decide (s.h = some (!b)) := by
      cases hn : s.next b with
      | take =>
        rw [hnw (by rw [hn]; rfl)]
        cases b <;> rfl
      | free =>
        rw [hfr (by rw [hn]; rfl)]
        cases b <;> rfl
      | _ => cases b <;> rfl
    rw [e]; exact g (!b)
theorem gi_start {r0 r1 : List Stp} {bx : List Int} (h0 : Alt false r0) (h1 : Alt false r1) : GI (startL r0 r1 bx) := fun b => by
  cases b
  · exact h0
  · exact h1


def step8 (c m : Int) (held : Bool) : Stp := if c % 7 = 0 then .load (c / 7 % m) else if c % 7 = 1 then .plus (c / 7 % m) else if c % 7 = 2 then .store (c / 7 % m) else if c % 7 = 3 then .add (num (c / 7)) else if c % 7 = 4 then .twice else if c % 7 = 5 then (if held then .free else .take) else .add (num (c / 7))
theorem step8_good {c m : Int} (hm : 0 < m) (b : Bool) : GoodS m.toNat (step8 c m b) := by
  intro h
  have h1 := Int.emod_nonneg (c / 7) (show m ≠ 0 by omega)
  have h2 := Int.emod_lt_of_pos (c / 7) hm
  unfold step8 at h ⊢
  rcases seven c with q | q | q | q | q | q | q <;> cases b <;> simp [q, Stp.kd, Kd.isBox, Stp.b] at h ⊢ <;> omega
theorem step8_add (c m : Int) (b : Bool) : AddS (step8 c m b) := by
  intro h
  unfold step8 at h ⊢
  rcases seven c with q | q | q | q | q | q | q <;> cases b <;> simp [q, Stp.kd, Stp.b] at h ⊢ <;> exact num_lt _
theorem step8_alt (c m : Int) (b : Bool) : ((step8 c m b).kd = .take → b = false) ∧ ((step8 c m b).kd = .free → b = true) := by
  unfold step8
  rcases seven c with q | q | q | q | q | q | q <;> cases b <;> simp [q, Stp.kd]
def rowG : List Int → Int → Bool → List Stp
  | [], _, _ => []
  | z :: r, m, b => step8 z m b :: rowG r m (if (step8 z m b).kd.isGuard = true then decide ((step8 z m b).kd = .take) else b)
theorem rowG_cons (z : Int) (r : List Int) (m : Int) (b : Bool) : rowG (z :: r) m b = step8 z m b :: rowG r m (if (step8 z m b).kd.isGuard = true then decide ((step8 z m b).kd = .take) else b) := rfl
theorem rowG_nil (m : Int) (b : Bool) : rowG [] m b = [] := rfl
theorem rowG_len : ∀ (zs : List Int) (m : Int) (b : Bool), (rowG zs m b).length = zs.length
  | [], _, _ => rfl
  | z :: r, m, b => congrArg (· + 1) (rowG_len r m _)
theorem rowG_mem : ∀ {zs : List Int} {m : Int} {b : Bool} {t : Stp}, t ∈ rowG zs m b → ∃ z b', t = step8 z m b'
  | z :: r, m, b, t, h => by
    rcases List.mem_cons.mp h with rfl | h
    · exact ⟨z, b, rfl⟩
    · exact rowG_mem h
theorem rowG_good {zs : List Int} {m : Int} (hm : 0 < m) (b : Bool) (h : zs.length ≤ 60) : GoodR m.toNat (rowG zs m b) := ⟨by rw [rowG_len]; exact h, fun t ht => by
  obtain ⟨z, b', rfl⟩ := rowG_mem ht
  exact step8_good hm b'⟩
theorem rowG_add (zs : List Int) (m : Int) (b : Bool) : ∀ t ∈ rowG zs m b, t.kd = .add → t.b.natAbs < 2 ^ 200 := fun t ht => by
  obtain ⟨z, b', rfl⟩ := rowG_mem ht
  exact step8_add _ _ _
theorem rowG_alt : ∀ (zs : List Int) (m : Int) (b : Bool), Alt b (rowG zs m b)
  | [], _, _ => trivial
  | z :: r, m, b => ⟨(step8_alt z m b).1, (step8_alt z m b).2, rowG_alt r m _⟩
theorem held_at (b : Bool) : atI [PyData.str "take", .str "free"] (if b = true then 1 else 0) = some (.str (if b then Kd.free else Kd.take).word) := by cases b <;> rfl
def bxG (ns : List Int) (m : Int) : List Int := (List.range m.toNat).map fun k : Nat => num (cell ns 0 / 18 + 5 * (k : Int))
theorem bxG_map (ns : List Int) (m : Int) : ((List.range m.toNat).map fun k : Nat => PyData.int (num (cell ns 0 / 18 + 5 * (k : Int)))) = (bxG ns m).map PyData.int := by
  unfold bxG
  rw [List.map_map]; rfl
theorem bxG_small {ns : List Int} {k : Int} (h : AllSmall ns) (hk : 0 ≤ k ∧ k < 20) : Small (cell ns 0 / 18 + 5 * k) := by
  have hc := cell_log h 0
  have : (cell ns 0).natAbs < 2 ^ 1048577 := Nat.lt_of_lt_of_le (Nat.lt_log2_self) (Nat.pow_le_pow_right (by decide) (by omega))
  have hz : 200 ≤ 2 ^ 1048577 := Nat.le_trans (by decide : 200 ≤ 2 ^ 8) (Nat.pow_le_pow_right (by decide) (by decide))
  exact small_of (k := 1048578) (by decide) (by decide) (by rw [show (2 : Nat) ^ 1048578 = 2 ^ 1048577 * 2 from Nat.pow_succ _ _]; generalize (2 : Nat) ^ 1048577 = z at *; omega)
theorem cut_lo {xs : List PyData} {i : Nat} (h : i ≤ xs.length) : G.cutD xs none (some (i : Int)) = xs.take i := by
  have e1 : HT.sIx xs.length 0 none = 0 := rfl
  have e2 : HT.sIx xs.length xs.length (some (i : Int)) = i := by
    show (if (i : Int) < 0 then ((i : Int) + xs.length).toNat else min (i : Int).toNat xs.length) = i
    rw [if_neg (by omega)]; omega
  unfold G.cutD
  rw [e1, e2]; rfl
theorem cut_hi {xs : List PyData} {i : Nat} (h : i + 2 ≤ xs.length) : G.cutD xs (some ((i : Int) + 2)) none = xs.drop (i + 2) := by
  have e1 : HT.sIx xs.length xs.length none = xs.length := rfl
  have e2 : HT.sIx xs.length 0 (some ((i : Int) + 2)) = i + 2 := by
    show (if (i : Int) + 2 < 0 then ((i : Int) + 2 + xs.length).toNat else min ((i : Int) + 2).toNat xs.length) = i + 2
    rw [if_neg (by omega)]; omega
  unfold G.cutD
  rw [e1, e2, List.take_of_length_le (by rw [List.length_drop]; exact Nat.le_refl _)]
def R_l_step_by (ds : List PyData) (d : PyData) : Prop := ∃ (c m : Int) (b : Bool), ds = [.int c, .int m, .bool b] ∧ 0 < m ∧ Small c ∧ d = (step8 c m b).toD
def R_l_can (as : List Sl) (S : Sto) (PR : Sl → Sto → Prop) (PX : Value → Sto → Prop) : Prop := ∃ (A : SA) (st : LSt) (b : Bool), as = [.raw (.ref A.s), .dat (.int (hI b))] ∧ S = standS A st ∧ Wf st ∧ PR = same (standS A st) (.bool (st.lcan b)) ∧ PX = noX
theorem isN_holdI (h : Option Bool) : isN (holdD h) = h.isNone := isN_hold h

def LSt.rest (s : LSt) (b : Bool) : List Stp := (s.row b).drop (s.plc b)
theorem rest_cons {s : LSt} {b : Bool} (w : Wf s) (ho : s.over b = false) : s.rest b = s.next b :: (s.row b).drop (s.plc b + 1) := drop_nextB w ho
theorem done_pl (s : LSt) (b : Bool) : (s.done b).plc b = s.plc b + 1 := by unfold LSt.done; cases b <;> rfl
theorem rest_done {s : LSt} {b : Bool} : (s.done b).rest b = (s.row b).drop (s.plc b + 1) := by unfold LSt.rest; rw [done_row, done_pl]
theorem rest_other {s : LSt} {b : Bool} : (s.done b).rest (!b) = s.rest (!b) := by unfold LSt.rest; rw [done_row, done_plc]
def LSt.rem (s : LSt) : Nat := (s.r0.length - s.p0) + (s.r1.length - s.p1)
theorem done_ps {s : LSt} {b : Bool} : (s.done b).p0 + (s.done b).p1 = s.p0 + s.p1 + 1 := by
  have z0 := eff_p0 s b (s.next b)
  have z1 := eff_p1 s b (s.next b)
  unfold LSt.done
  cases b
  · show s.p0 + 1 + (s.eff false (s.next false)).p1 = _
    rw [z1]; omega
  · show (s.eff true (s.next true)).p0 + (s.p1 + 1) = _
    rw [z0]; omega
theorem done_rem {s : LSt} {b : Bool} (w : Wf s) (ho : s.over b = false) : (s.done b).rem + 1 = s.rem := by
  have hl := next_lt w ho
  have h0 := w.l0
  have h1 := w.l1
  have z0 := eff_p0 s b (s.next b)
  have z1 := eff_p1 s b (s.next b)
  unfold LSt.rem
  rw [done_r0, done_r1]
  cases b
  · have hl : s.p0 < s.r0.length := hl
    have e0 : (s.done false).p0 = s.p0 + 1 := rfl
    have e1 : (s.done false).p1 = s.p1 := z1
    rw [e0, e1]; omega
  · have hl : s.p1 < s.r1.length := hl
    have e0 : (s.done true).p0 = s.p0 := z0
    have e1 : (s.done true).p1 = s.p1 + 1 := rfl
    rw [e0, e1]; omega
/-! ### who is ahead: orders sorted, rows closed -/
def pairsS : LSt → List Bool → List (Bool × Stp)
  | _, [] => []
  | s, b :: r => (b, s.next b) :: pairsS (s.done b) r
theorem zip_walk {r0 r1 : List Stp} : ∀ (o : List Bool) {s s' : LSt} {l0 : List (Bool × Stp)}, Wf s → s.r0 = r0 → s.r1 = r1 → (∀ b, cnt2 l0 b = s.plc b) → walk s o = (none, s') → o.foldl (zst r0 r1) (some l0) = some (l0 ++ pairsS s o) ∧ ∀ b, cnt2 (l0 ++ pairsS s o) b = s'.plc b
  | [], s, s', l0, w, e0, e1, hc, h => by
    cases h
    rw [show pairsS s [] = [] from rfl, List.append_nil]
    exact ⟨rfl, hc⟩
  | b :: r, s, s', l0, w, e0, e1, hc, h => by
    obtain ⟨he, h2⟩ := walk_cons h
    have ho := over_of he
    have hl := next_lt w ho
    have hrow : rowOf r0 r1 b = s.row b := by subst e0 e1; cases b <;> rfl
    have ht : (rowOf r0 r1 b)[(l0.map (·.1)).count b]? = some (s.next b) := by
      show (rowOf r0 r1 b)[cnt2 l0 b]? = _
      rw [hrow, hc b, List.getElem?_eq_getElem hl]
      unfold LSt.next
      rw [List.getD_eq_getElem?_getD, List.getElem?_eq_getElem hl]; rfl
    have hz : zst r0 r1 (some l0) b = some (l0 ++ [(b, s.next b)]) := by simp only [zst, ht]
    have ih := zip_walk (r0 := r0) (r1 := r1) r (s := s.done b) (s' := s') (l0 := l0 ++ [(b, s.next b)]) (w.done he) (by rw [done_r0]; exact e0) (by rw [done_r1]; exact e1) (fun c => by
      rw [cnt_snoc, hc]
      by_cases hb : b = c
      · subst hb
        rw [if_pos rfl, done_pl]
      · have hb2 : c = !b := by cases b <;> cases c <;> first | rfl | exact absurd rfl hb
        subst hb2
        rw [if_neg hb, done_plc]; rfl) h2
    rw [List.append_assoc] at ih
    rw [List.foldl_cons, hz]
    exact ih
def NA (c : Bool) : List (Bool × Stp) → Prop
  | [] => True
  | e :: r => (e.1 = c → ∀ u ∈ own (!c) r, apart e.2 u = true) ∧ NA c r
theorem own_cons (b : Bool) (e : Bool × Stp) (r : List (Bool × Stp)) : own b (e :: r) = if e.1 = b then e.2 :: own b r else own b r := by
  unfold own
  by_cases h : e.1 = b
  · rw [if_pos h, List.filter_cons_of_pos (by simpa using h), List.map_cons]
  · rw [if_neg h, List.filter_cons_of_neg (by simpa using h)]
theorem ah_na {c : Bool} : ∀ (l pre : List (Bool × Stp)), ahF c pre l = false → (∀ d ∈ pre, d.1 = c → ∀ u ∈ own (!c) l, apart d.2 u = true) ∧ NA c l
  | [], pre, _ => ⟨fun d hd hc u hu => (List.not_mem_nil (show u ∈ ([] : List Stp) from hu)).elim, trivial⟩
  | e :: r, pre, h => by
    rw [ahF, Bool.or_eq_false_iff] at h
    obtain ⟨h1, h2⟩ := ah_na r (pre ++ [e]) h.2
    refine ⟨fun d hd hc u hu => ?_, fun hc u hu => h1 e (List.mem_append_right _ List.mem_cons_self) hc u hu, h2⟩
    rw [own_cons] at hu
    by_cases he : e.1 = !c
    · rw [if_pos he] at hu
      rcases List.mem_cons.mp hu with rfl | hu
      · have hh := h.1
        unfold hit at hh
        have hne : e.1 ≠ c := by rw [he]; cases c <;> simp
        rw [decide_eq_false hne, Bool.not_false, Bool.true_and, List.any_eq_false] at hh
        have := hh d hd
        simpa [hc] using this
      · exact h1 d (List.mem_append_left _ hd) hc u hu
    · rw [if_neg he] at hu
      exact h1 d (List.mem_append_left _ hd) hc u hu
theorem not_of {b x : Bool} (h : x ≠ b) : x = !b := by cases b <;> cases x <;> first | rfl | exact absurd rfl h
theorem rest_oth {s : LSt} {b : Bool} : (s.done (!b)).rest b = s.rest b := by
  have := rest_other (s := s) (b := !b)
  rw [Bool.not_not] at this
  exact this
theorem own_pairs {b : Bool} : ∀ (o : List Bool) {s s' : LSt}, Wf s → walk s o = (none, s') → own b (pairsS s o) = (s.rest b).take (o.count b)
  | [], s, s', w, h => by rw [List.count_nil, List.take_zero]; rfl
  | x :: r, s, s', w, h => by
    obtain ⟨he, h2⟩ := walk_cons h
    have ih := own_pairs r (b := b) (w.done he) h2
    show own b ((x, s.next x) :: pairsS (s.done x) r) = _
    rw [own_cons, ih]
    by_cases hx : x = b
    · subst hx
      rw [if_pos rfl, List.count_cons_self, rest_cons w (over_of he), List.take_succ_cons, rest_done]
    · rw [if_neg hx, List.count_cons_of_ne hx]
      have hx := not_of hx
      subst hx
      rw [rest_oth]
theorem push9 {b : Bool} {q : List Bool} {s' : LSt} : ∀ (m : Nat) (s : LSt), Wf s → (∀ u ∈ (s.rest b).take m, apart (s.next (!b)) u = true) → walk s ((!b) :: (List.replicate m b ++ q)) = (none, s') → walk s (List.replicate m b ++ (!b) :: q) = (none, s')
  | 0, _, _, _, h => h
  | m + 1, s, w, hu, h => by
    have h : walk s ((!b) :: b :: (List.replicate m b ++ q)) = (none, s') := h
    obtain ⟨e1, h1⟩ := walk_cons h
    obtain ⟨e2, h2⟩ := walk_cons h1
    have oy : s.over b = false := by have := done_over s (!b); rw [Bool.not_not] at this; rw [← this]; exact over_of e2
    rw [rest_cons w oy, List.take_succ_cons] at hu
    have e2' : (s.done (!b)).err (!(!b)) = none := by rw [Bool.not_not]; exact e2
    obtain ⟨c1, c2, c3⟩ := exch w e1 e2' (by rw [Bool.not_not]; exact hu _ List.mem_cons_self)
    rw [Bool.not_not] at c1 c2 c3
    show walk s (b :: (List.replicate m b ++ (!b) :: q)) = _
    rw [walk_ok c1]
    refine push9 m (s.done b) (w.done c1) (fun u h => ?_) ?_
    · rw [rest_done] at h
      rw [done_next]
      exact hu u (List.mem_cons_of_mem _ h)
    · rw [walk_ok c2, c3]
      exact h2
theorem sort9 {b : Bool} {s' : LSt} : ∀ (o : List Bool) (s : LSt), Wf s → NA (!b) (pairsS s o) → walk s o = (none, s') → walk s (List.replicate (o.count b) b ++ List.replicate (o.count (!b)) (!b)) = (none, s')
  | [], _, _, _, h => h
  | x :: r, s, w, na, h => by
    obtain ⟨e1, h1⟩ := walk_cons h
    obtain ⟨n1, n2⟩ : ((x, s.next x).1 = !b → ∀ u ∈ own (!(!b)) (pairsS (s.done x) r), apart (s.next x) u = true) ∧ NA (!b) (pairsS (s.done x) r) := na
    have ih := sort9 r (s.done x) (w.done e1) n2 h1
    by_cases hx : x = b
    · subst hx
      have c1 : (x :: r).count x = r.count x + 1 := List.count_cons_self
      have c2 : (x :: r).count (!x) = r.count (!x) := List.count_cons_of_ne (by cases x <;> simp)
      rw [c1, c2, List.replicate_succ]
      show walk s (x :: (List.replicate (r.count x) x ++ _)) = _
      rw [walk_ok e1]; exact ih
    · have hx := not_of hx
      subst hx
      have c1 : ((!b) :: r).count b = r.count b := List.count_cons_of_ne (by cases b <;> simp)
      have c2 : ((!b) :: r).count (!b) = r.count (!b) + 1 := List.count_cons_self
      rw [c1, c2, List.replicate_succ]
      have n1 := n1 rfl
      rw [Bool.not_not, own_pairs r (w.done e1) h1, rest_oth] at n1
      exact push9 _ s w n1 (by rw [walk_ok e1]; exact ih)
/-! rows that give back what they took -/
def endH : Bool → List Stp → Bool
  | b, [] => b
  | b, t :: r => endH (if t.kd.isGuard = true then decide (t.kd = .take) else b) r
def GE9 (s : LSt) : Prop := ∀ b : Bool, endH (decide (s.h = some b)) ((s.row b).drop (s.plc b)) = false
theorem alt_app : ∀ (r : List Stp) (b : Bool), Alt b r → endH b r = true → Alt b (r ++ [.free]) ∧ endH b (r ++ [.free]) = false
  | [], b, _, h => by
    have h : b = true := h
    subst h
    exact ⟨⟨(fun z => nomatch z), (fun _ => rfl), trivial⟩, rfl⟩
  | t :: r, b, g, h => by
    obtain ⟨g1, g2, g3⟩ := g
    obtain ⟨i1, i2⟩ := alt_app r _ g3 h
    exact ⟨⟨g1, g2, i1⟩, i2⟩
theorem done_ge {s : LSt} {b : Bool} (w : Wf s) (g : GI s) (ge : GE9 s) (he : s.err b = none) : GE9 (s.done b) := by
  have ho := over_of he
  have hgb := g b
  rw [drop_nextB w ho] at hgb
  obtain ⟨h1, h2, h3⟩ := hgb
  have hpl : (s.done b).plc b = s.plc b + 1 := by unfold LSt.done; cases b <;> rfl
  have hh : (s.done b).h = (s.eff b (s.next b)).h := by unfold LSt.done; cases b <;> rfl
  have hnw : (s.next b).kd = .take → s.h = none := fun hk => by
    have h1 := h1 hk
    unfold LSt.err LSt.waits at he
    rw [ho] at he
    rcases hs : s.h with _ | a
    · rfl
    · rw [hs, hk] at he
      rw [hs] at h1
      cases a <;> cases b <;> simp at he h1
  have hfr : (s.next b).kd = .free → s.h = some b := fun hk => by
    have := h2 hk
    exact of_decide_eq_true this
  intro b'
  rw [done_row]
  by_cases hb : b' = b
  · subst hb
    have g2 := ge b'
    rw [drop_nextB w ho] at g2
    rw [hpl, hh]
    have e : decide ((s.eff b' (s.next b')).h = some b') = (if (s.next b').kd.isGuard = true then decide ((s.next b').kd = .take) else decide (s.h = some b')) := by
      cases hn : s.next b' with
      | take => simp [LSt.eff, Stp.kd, Kd.isGuard]
      | free => simp [LSt.eff, Stp.kd, Kd.isGuard]
      | _ => cases b' <;> rfl
    rw [e]; exact g2
  · have hb := not_of hb
    subst hb
    rw [done_plc, hh]
    have e : decide ((s.eff b (s.next b)).h = some (!b)) = decide (s.h = some (!b)) := by
      cases hn : s.next b with
      | take =>
        rw [hnw (by rw [hn]; rfl)]
        cases b <;> rfl
      | free =>
        rw [hfr (by rw [hn]; rfl)]
        cases b <;> rfl
      | _ => cases b <;> rfl
    rw [e]; exact ge (!b)
theorem over_drop {s : LSt} {b : Bool} (ho : s.over b = true) : (s.row b).drop (s.plc b) = [] := by
  have ho : s.plc b = (s.row b).length := of_decide_eq_true ho
  rw [ho, List.drop_length]
theorem live9 {s : LSt} (w : Wf s) (g : GI s) (ge : GE9 s) (h0 : s.lcan false = false) (h1 : s.lcan true = false) : s.over false = true ∧ s.over true = true := by
  have key : ∀ b : Bool, s.lcan b = false → s.lcan (!b) = false → s.over b = true := fun b hb hn => by
    cases ho : s.over b with
    | true => rfl
    | false =>
      exfalso
      have hk : (s.next b).kd = .take ∧ s.h.isNone = false := by
        unfold LSt.lcan at hb
        rw [ho] at hb
        simpa using hb
      have gb := g b
      rw [drop_nextB w ho] at gb
      have h1 : s.h ≠ some b := of_decide_eq_false (gb.1 hk.1)
      have hh : s.h = some (!b) := by
        rcases q : s.h with _ | a
        · rw [q] at hk; cases hk.2
        · rw [q] at h1
          exact congrArg some (not_of fun z => h1 (congrArg some z))
      have gn := g (!b)
      have en := ge (!b)
      rw [decide_eq_true hh] at gn en
      cases ho2 : s.over (!b) with
      | true =>
        rw [over_drop ho2] at en
        exact absurd en (by decide)
      | false =>
        rw [drop_nextB w ho2] at gn
        have hk2 : (s.next (!b)).kd = .take := by
          unfold LSt.lcan at hn
          rw [ho2, hh] at hn
          simpa using hn
        exact absurd (gn.1 hk2) (by decide)
  exact ⟨key false h0 h1, key true h1 h0⟩
theorem lcan_over {s : LSt} {b : Bool} (h : s.lcan b = true) : s.over b = false := by
  unfold LSt.lcan at h
  rw [Bool.and_eq_true] at h
  simpa using h.1
/-- what stays while the order grows -/
structure Jn (s0 st : LSt) (o : List Bool) : Prop where
  wk : walk s0 o = (none, st)
  w : Wf st
  g : GI st
  e : GE9 st
  r0 : st.r0 = s0.r0
  r1 : st.r1 = s0.r1
  bd : Bnd (200 + o.length) st
  ol : o.length = st.p0 + st.p1
theorem Jn.len {s0 st : LSt} {o : List Bool} (j : Jn s0 st o) : o.length ≤ 120 := by
  have h1 := j.w.l0
  have h2 := j.w.l1
  have h3 := j.w.g0.1
  have h4 := j.w.g1.1
  have := j.ol
  omega
theorem Jn.small {s0 st : LSt} {o : List Bool} (j : Jn s0 st o) : SmallL st := j.bd.small (by have := j.len; omega) (by omega)
theorem Jn.go {s0 st : LSt} {o : List Bool} {b : Bool} (j : Jn s0 st o) (hc : st.lcan b = true) : Jn s0 (st.done b) (o ++ [b]) := by
  have he := gi_err j.w j.g hc
  have hl : (o ++ [b]).length = o.length + 1 := by rw [List.length_append]; rfl
  exact ⟨snoc_ok j.wk he, j.w.done he, done_gi j.w j.g he, done_ge j.w j.g j.e he, by rw [done_r0]; exact j.r0, by rw [done_r1]; exact j.r1, by rw [hl]; exact j.bd.done (by omega) j.w he, by rw [hl, done_ps, j.ol]⟩
theorem Jn.rem {s0 st : LSt} {o : List Bool} {b : Bool} (j : Jn s0 st o) (hc : st.lcan b = true) : (st.done b).rem + 1 = st.rem := done_rem j.w (lcan_over hc)
/-- the second loop: one step less, or none is left -/
theorem Jn.left {s0 st : LSt} {o : List Bool} (j : Jn s0 st o) (h : st.lcan (!st.lcan false) = false) : st.rem = 0 := by
  have h0 : st.lcan false = false := by
    cases q : st.lcan false with
    | false => rfl
    | true => rw [q] at h; rw [← q]; exact h
  rw [h0] at h
  obtain ⟨o0, o1⟩ := live9 j.w j.g j.e h0 h
  have o0 : st.p0 = st.r0.length := of_decide_eq_true o0
  have o1 : st.p1 = st.r1.length := of_decide_eq_true o1
  unfold LSt.rem
  omega
theorem Jn.over {s0 st : LSt} {o : List Bool} (j : Jn s0 st o) (h : st.rem = 0) (b : Bool) : st.plc b = (st.row b).length := by
  have h1 := j.w.l0
  have h2 := j.w.l1
  unfold LSt.rem at h
  cases b
  · show st.p0 = st.r0.length
    omega
  · show st.p1 = st.r1.length
    omega
/-- what the program tells of a whole order -/
theorem Jn.zip {row row1 : List Stp} {bx : List Int} {st : LSt} {o : List Bool} (j : Jn (startL row row1 bx) st o) (hw : Wf (startL row row1 bx)) : zipO row row1 o = some (pairsS (startL row row1 bx) o) ∧ ∀ b, cnt2 (pairsS (startL row row1 bx) o) b = st.plc b := by
  have := zip_walk (r0 := row) (r1 := row1) o (l0 := []) hw rfl rfl (fun b => by cases b <;> rfl) j.wk
  rw [List.nil_append] at this
  exact this
theorem zip_cut {row row1 : List Stp} {o : List Bool} (k : Nat) (h : zipO row row1 o ≠ none) : zipO row row1 (o.take k) ≠ none := fun z => h (by
  rw [← List.take_append_drop k o]
  exact zip_stop z)
theorem row_of (row row1 : List Stp) (bx : List Int) (b : Bool) : (startL row row1 bx).row b = rowOf row row1 b := by cases b <;> rfl
theorem Jn.rows {row row1 : List Stp} {bx : List Int} {st : LSt} {o : List Bool} (j : Jn (startL row row1 bx) st o) (b : Bool) : st.row b = rowOf row row1 b := by
  have h0 : st.r0 = row := j.r0
  have h1 : st.r1 = row1 := j.r1
  cases b
  · exact h0
  · exact h1
theorem Jn.more {row row1 : List Stp} {bx : List Int} {st : LSt} {o : List Bool} (j : Jn (startL row row1 bx) st o) (hw : Wf (startL row row1 bx)) (h : st.rem = 0) (b : Bool) : zipO row row1 (o ++ [b]) = none := by
  obtain ⟨hz, hc⟩ := j.zip hw
  have h1 := hc b
  rw [j.over h b, j.rows] at h1
  have h2 : (rowOf row row1 b)[((pairsS (startL row row1 bx) o).map (·.1)).count b]? = none := List.getElem?_eq_none_iff.mpr (by
    show _ ≤ cnt2 _ b
    rw [h1]; exact Nat.le_refl _)
  rw [zip_snoc, hz]
  simp only [zst, h2]
/-- point 10: who is ahead of no step of the other one goes behind -/
theorem Jn.plain {row row1 : List Stp} {bx : List Int} {st : LSt} {o : List Bool} (j : Jn (startL row row1 bx) st o) (hw : Wf (startL row row1 bx)) (h : st.rem = 0) (b : Bool) (ha : ahd (!b) (pairsS (startL row row1 bx) o) = false) :
    walk (startL row row1 bx) (List.replicate (rowOf row row1 b).length b ++ List.replicate (rowOf row row1 (!b)).length (!b)) = (none, st) := by
  have hc : ∀ c, o.count c = (rowOf row row1 c).length := fun c => by
    obtain ⟨_, hc⟩ := j.zip hw
    have h1 := hc c
    rw [j.over h c, j.rows] at h1
    rw [← h1]
    have : ∀ (o : List Bool) (s : LSt), cnt2 (pairsS s o) c = o.count c := fun o => by
      induction o with
      | nil => intro s; rfl
      | cons x r ih =>
        intro s
        have ih := ih (s.done x)
        unfold cnt2 at ih ⊢
        show (x :: (pairsS (s.done x) r).map (·.1)).count c = _
        rw [List.count_cons, List.count_cons, ih]
    exact (this o _).symm
  rw [← hc, ← hc]
  exact sort9 o _ hw (ah_na _ [] ha).2 j.wk
def cutZ (ns : List Int) (i : Int) : List Int := ns.drop (if i < 0 then (i + ns.length).toNat else min i.toNat ns.length)
theorem cut_map (ns : List Int) (i : Int) : G.cutD (ns.map PyData.int) (some i) none = (cutZ ns i).map PyData.int := by
  have e2 : HT.sIx (ns.map PyData.int).length (ns.map PyData.int).length none = (ns.map PyData.int).length := rfl
  have e1 : HT.sIx (ns.map PyData.int).length 0 (some i) = if i < 0 then (i + ns.length).toNat else min i.toNat ns.length := by
    rw [List.length_map]; rfl
  unfold G.cutD cutZ
  rw [e1, e2, List.map_drop, List.take_of_length_le (by rw [List.length_drop]; exact Nat.le_refl _)]
theorem cutZ_len (ns : List Int) (i : Int) : (cutZ ns i).length ≤ ns.length := by
  unfold cutZ
  rw [List.length_drop]
  omega


def row9 (zs : List Int) (m : Int) : List Stp := rowG zs m false ++ (if endH false (rowG zs m false) = true then [.free] else [])
theorem row9_len (zs : List Int) (m : Int) : (row9 zs m).length ≤ zs.length + 1 := by
  unfold row9
  rw [List.length_append, rowG_len]
  split <;> simp
theorem row9_mem {zs : List Int} {m : Int} {t : Stp} (h : t ∈ row9 zs m) : t ∈ rowG zs m false ∨ t = .free := by
  unfold row9 at h
  rcases List.mem_append.mp h with h | h
  · exact .inl h
  · split at h
    · exact .inr (List.mem_singleton.mp h)
    · exact (List.not_mem_nil h).elim
theorem row9_good {zs : List Int} {m : Int} (hm : 0 < m) (h : zs.length ≤ 59) : GoodR m.toNat (row9 zs m) := ⟨Nat.le_trans (row9_len zs m) (by omega), fun t ht => by
  rcases row9_mem ht with h | rfl
  · exact (rowG_good hm false (by omega)).2 t h
  · intro z; cases z⟩
theorem row9_add (zs : List Int) (m : Int) : ∀ t ∈ row9 zs m, t.kd = .add → t.b.natAbs < 2 ^ 200 := fun t ht => by
  rcases row9_mem ht with h | rfl
  · exact rowG_add zs m false t h
  · intro z; cases z
theorem row9_cl (zs : List Int) (m : Int) : Alt false (row9 zs m) ∧ endH false (row9 zs m) = false := by
  unfold row9
  by_cases h : endH false (rowG zs m false) = true
  · rw [if_pos h]; exact alt_app _ _ (rowG_alt _ _ _) h
  · rw [if_neg h, List.append_nil]; exact ⟨rowG_alt _ _ _, by simpa using h⟩
theorem ge_start {r0 r1 : List Stp} {bx : List Int} (h0 : endH false r0 = false) (h1 : endH false r1 = false) : GE9 (startL r0 r1 bx) := fun b => by
  cases b
  · exact h0
  · exact h1
def R_l_row_by (ds : List PyData) (d : PyData) : Prop := ∃ (zs : List Int) (m : Int), ds = [.list (zs.map .int), .int m] ∧ AllSm zs ∧ 0 < m ∧ zs.length ≤ 100 ∧ d = rowD (row9 zs m)
def R_l_pair (ds : List PyData) (d : PyData) : Prop := ∃ x y : Bool, ds = [.tuple [.bool x, .bool y], .list [.bool x, .bool y]] ∧ d = .bool true
def R_l_order_by (as : List Sl) (S : Sto) (PR : Sl → Sto → Prop) (PX : Value → Sto → Prop) : Prop := ∃ (A : SA) (row row1 : List Stp) (bx zs : List Int) (ev : Int), as = [.dat (.list (zs.map .int)), .dat (.int ev), .raw (.ref A.s)] ∧ (ev = 1 ∨ ev = 4) ∧ zs.length ≤ 63 ∧ S = standS A (startL row row1 bx) ∧ Jn (startL row row1 bx) (startL row row1 bx) [] ∧ bx.length ≤ 100 ∧
  PR = (fun r S' => ∃ o st, Jn (startL row row1 bx) st o ∧ st.rem = 0 ∧ r = .dat (.list (handsD o)) ∧ S' = standS A st) ∧ PX = noX
section
variable {K : PySem.W.Frag} {mg : Str → Option Value}
def R_l_more (T : Txt K mg) : Rq := fun as S PR PX => ∃ (row row1 : List Stp) (o : List Bool) (ps : Array Value), as = [.dat (rowD row), .dat (rowD row1), .dat (.list (handsD o))] ∧ o.length ≤ 1000 ∧ zipO row row1 o = none ∧ TriplesOk ps.toList ∧ S = [(T.P_is_ahead, .ho (.tbl ps))] ∧
  PR = (fun r S' => r = .dat (.bool true) ∧ ∃ ps', TriplesOk ps'.toList ∧ S' = [(T.P_is_ahead, .ho (.tbl ps'))]) ∧ PX = noX
def R_law (T : Txt K mg) : Rq := fun as S PR PX => ∃ ns : List Int, as = [.dat (.list (ns.map .int))] ∧ AllSmall ns ∧ ns.length ≤ 63 ∧ S = [(T.P_is_ahead, .ho (.tbl #[]))] ∧ PR = (fun r _ => r = .dat (.bool true)) ∧ PX = noX
end

theorem sc_l_cell_at : FnScope ["_law_script", "_law_k"] ["_law_script", "_law_k"] (defScope s_l_cell_at) := ⟨rfl, rfl, rfl, by decide +kernel, rfl, by decide +kernel, by decide +kernel⟩
theorem ok_l_cell_at (T : Txt K mg) : FnOk P w K mg base CX0 1 T.f_l_cell_at T.d_l_cell_at ["_law_script", "_law_k"] (SpD K R_l_cell_at) := by
  refine pure_def T.F_l_cell_at sc_l_cell_at (fun ds d h => ?_) (fun cdv A outer s H E B ds d hr h => ?_)
  · obtain ⟨ns, k, rfl, hk, rfl⟩ := h; rfl
  · obtain ⟨ns, k, rfl, hk, rfl⟩ := h
    refine gss_if (gt_lt (gd_var (pv 1) rfl) (gd_callB call_len (ca_len (by first | exact .inl rfl | exact .inr rfl)) rfl T.z_len (by decide +kernel) (ga_cons (gd_var (pv 0) rfl) ga_nil))) (fun h1 => ?_) (fun h1 => ?_)
    · (try (exact absurd h1 (by (first | decide +kernel | (simp only [List.length_cons, List.length_nil, eqv_int]; decide) | (simp only [List.length_cons, List.length_nil, eqv_int, decide_eq_true_eq, decide_eq_false_iff_not]; omega)))))
      all_goals (
        have q := cell_at hk h1
        refine gss_ret (r := .dat _) (gd_ixL (gd_var (pv 0) rfl) (gd_var (pv 1) rfl) (by (first | exact held_at _ | assumption | exact ixh | exact ixb (by assumption) | exact rfl | (simp only [*]; exact rfl)))) ?_
        (first | exact rfl | (simp only [*]; done) | (simp only [*]; exact rfl))
      )
    · (try (exact absurd h1 (by (first | decide +kernel | (simp only [List.length_cons, List.length_nil, eqv_int]; decide) | (simp only [List.length_cons, List.length_nil, eqv_int, decide_eq_true_eq, decide_eq_false_iff_not]; omega)))))
      all_goals (
        refine gss_nil ?_
        refine gss_ret (r := .dat _) gd_int ?_
        rw [cell_no hk h1]
      )
theorem sc_l_number_by : FnScope ["_law_cell"] ["_law_cell"] (defScope s_l_number_by) := ⟨rfl, rfl, rfl, by decide +kernel, rfl, by decide +kernel, by decide +kernel⟩
theorem ok_l_number_by (T : Txt K mg) : FnOk P w K mg base CX0 1 T.f_l_number_by T.d_l_number_by ["_law_cell"] (SpD K R_l_number_by) := by
  refine pure_def T.F_l_number_by sc_l_number_by (fun ds d h => ?_) (fun cdv A outer s H E B ds d hr h => ?_)
  · obtain ⟨c, rfl, hc, rfl⟩ := h; rfl
  · obtain ⟨c, rfl, hc, rfl⟩ := h
    have e59 : ((10 : Int) ^ (59 : Int).toNat + 7) = P59 := by decide
    have e60 : ((10 : Int) ^ (60 : Int).toNat) = P60 := by decide
    have q1 : IntMulOk c ((10 : Int) ^ (59 : Int).toNat + 7) := mul_ok hc (small_of (k := 250) (by decide) (by decide) (by rw [e59]; decide))
    have r1 : (c * P59 % P60).natAbs.log2 ≤ 1048590 := small_of (k := 250) (by decide) (by decide) (by
      have h1 := Int.emod_nonneg (c * P59) (show P60 ≠ 0 by decide)
      have h2 := Int.emod_lt_of_pos (c * P59) (show 0 < P60 by decide)
      have h3 : (c * P59 % P60).natAbs < P60.natAbs := by omega
      exact Nat.lt_trans h3 (by decide))
    have r2 : (1 - 2 * (c / 3 % 2)).natAbs.log2 ≤ 1048590 := small_of (k := 250) (by decide) (by decide) (Nat.lt_of_le_of_lt (show (1 - 2 * (c / 3 % 2)).natAbs ≤ 3 by omega) (by decide))
    have q2 : IntMulOk 2 (c / 3 % 2) := mul_ok (by decide) (small_of (k := 250) (by decide) (by decide) (Nat.lt_of_le_of_lt (show (c / 3 % 2).natAbs ≤ 3 by omega) (by decide)))
    have q3 : IntMulOk (c * ((10 : Int) ^ (59 : Int).toNat + 7) % (10 : Int) ^ (60 : Int).toNat) (1 - 2 * (c / 3 % 2)) := by rw [e59, e60]; exact mul_ok r1 r2
    refine gss_if (gt_eq hr.units (gd_mod (by (first | decide | omega)) (gd_var (pv 0) rfl) gd_int) gd_int (by (first | exact shaped_int _ | exact shaped_bool _ | exact shaped_none | assumption | exact shaped_ints _ | exact shaped_str (by decide +kernel) | exact rfl | decide +kernel)) (by (first | exact shaped_int _ | exact shaped_bool _ | exact shaped_none | assumption | exact shaped_ints _ | exact shaped_str (by decide +kernel) | exact rfl | decide +kernel))) (fun h1 => ?_) (fun h1 => ?_)
    · (try (exact absurd h1 (by (first | decide +kernel | (simp only [List.length_cons, List.length_nil, eqv_int]; decide) | (simp only [List.length_cons, List.length_nil, eqv_int, decide_eq_true_eq, decide_eq_false_iff_not]; omega)))))
      all_goals (
        have hm : c % 3 = 1 := by simpa [PyData.eqv] using h1
        refine gss_ret (r := .dat _) (gd_mul (by (first | assumption | exact im _ _ (by decide))) (gd_mod (by (first | decide | omega)) (gd_mul (by (first | assumption | exact im _ _ (by decide))) (gd_var (pv 0) rfl) (gd_add (gd_pow (by (exact ⟨by decide, by decide, by decide⟩)) gd_int gd_int) gd_int)) (gd_pow (by (exact ⟨by decide, by decide, by decide⟩)) gd_int gd_int)) (gd_sub gd_int (gd_mul (by (first | assumption | exact im _ _ (by decide))) gd_int (gd_mod (by (first | decide | omega)) (gd_fdiv (by (exact ⟨by decide, by decide⟩)) (gd_var (pv 0) rfl) gd_int) gd_int)))) ?_
        rw [e59, e60]; unfold num; rw [if_pos hm]
      )
    · (try (exact absurd h1 (by (first | decide +kernel | (simp only [List.length_cons, List.length_nil, eqv_int]; decide) | (simp only [List.length_cons, List.length_nil, eqv_int, decide_eq_true_eq, decide_eq_false_iff_not]; omega)))))
      all_goals (
        refine gss_nil ?_
        have hm : ¬ c % 3 = 1 := by simpa [PyData.eqv] using h1
        refine gss_ret (r := .dat _) (gd_sub (gd_mod (by (first | decide | omega)) (gd_fdiv (by (exact ⟨by decide, by decide⟩)) (gd_var (pv 0) rfl) gd_int) gd_int) gd_int) ?_
        unfold num; rw [if_neg hm]
      )
theorem sc_l_ints : FnScope ["_law_found", "_law_due", "_law_k"] ["_law_found", "_law_due"] (defScope s_l_ints) := ⟨rfl, rfl, rfl, by decide +kernel, rfl, by decide +kernel, by decide +kernel⟩
theorem ok_l_ints (T : Txt K mg) : FnOk P w K mg base CX0 2 T.f_l_ints T.d_l_ints ["_law_found", "_law_due"] (SpM K R_l_ints2) := by
  refine mut_def0 T.F_l_ints sc_l_ints (fun as S PR PX h => ?_) (fun cdv A outer s H E B as S PR PX hr h => ?_)
  · obtain ⟨r, r2, xs, rfl, hf, hd, hx, rfl, rfl⟩ := h; rfl
  · obtain ⟨r, r2, xs, rfl, hf, hd, hx, rfl, rfl⟩ := h
    have hl : (xs.map PyData.int).length ≤ 1000 := by rw [List.length_map]; exact hx
    refine gss_if (gt_of (gw_or (gt_not (gt_val (gl_isL rfl T.z_isinstance (by decide +kernel) (pe_bltn rfl T.z_list (by decide +kernel) rfl) (gls_var (pv 0) rfl hf)))) (fun hh => by first | exact gw_dead (absurd hh (by (first | decide +kernel | (simp only [List.length_cons, List.length_nil, eqv_int]; decide) | (simp only [List.length_cons, List.length_nil, eqv_int, decide_eq_true_eq, decide_eq_false_iff_not]; omega)))) | exact (gw_or1 (gt_ne hr.units (gl_len rfl T.z_len (by decide +kernel) (gls_var (pv 0) rfl hf)) (gl_len rfl T.z_len (by decide +kernel) (gls_var (pv 1) rfl hd)) (by (first | exact shaped_int _ | exact shaped_bool _ | exact shaped_none | assumption | exact shaped_ints _ | exact shaped_str (by decide +kernel) | exact rfl | decide +kernel)) (by (first | exact shaped_int _ | exact shaped_bool _ | exact shaped_none | assumption | exact shaped_ints _ | exact shaped_str (by decide +kernel) | exact rfl | decide +kernel))))))) (fun h1 => absurd h1 (by simp [eqv_int])) (fun h1 => gss_nil ?_)
    refine gss_cons (M := fun Γ' S' => S' = S ∧ ∃ x, Γ' = [r, r2, x]) (gs_forR .never rfl rfl T.z_range (gl_len rfl T.z_len (by decide +kernel) (gls_var (pv 1) rfl hd)) ⟨by omega, by omega⟩ sc_l_ints.nd (j := 2) rfl (by first | exact .inl rfl | exact .inr rfl) (fun _ Γ' S' => S' = S ∧ ∃ x, Γ' = [r, r2, x]) ⟨rfl, _, rfl⟩ ?_ (fun _ _ h => h)) ?_
    · rintro i Γ' S' G hi ⟨rfl, x, rfl⟩
      have hj : i < xs.length := by rw [List.length_map] at hi; omega
      have q : atI (xs.map PyData.int) (i : Int) = some (.int xs[i]) := atI_nat (by rw [List.getElem?_map, List.getElem?_eq_getElem hj]; rfl)
      refine gss_one (gs_if (gt_of (gw_or (gt_not (gt_val (gd_isi (n := "int") rfl T.z_isinstance (by decide +kernel) (pe_bltn rfl T.z_int (by decide +kernel) rfl) (gl_ix (gls_var (pv 0) rfl hf) (gd_var (pv 2) rfl) (by (first | exact held_at _ | assumption | exact ixh | exact ixb (by assumption) | exact rfl | (simp only [*]; exact rfl)))) (by first | exact kit_tuple_int | exact kit_list_int | exact kit_int_int | exact kit_bool_int | exact kit_str_int | exact kit_NoneType_int | exact kit_dict_int)))) (fun hh => by first | exact gw_dead (absurd hh (by (first | decide +kernel | (simp only [List.length_cons, List.length_nil, eqv_int]; decide) | (simp only [List.length_cons, List.length_nil, eqv_int, decide_eq_true_eq, decide_eq_false_iff_not]; omega)))) | exact (gw_or (gt_val (gd_isi (n := "bool") rfl T.z_isinstance (by decide +kernel) (pe_bltn rfl T.z_bool (by decide +kernel) rfl) (gl_ix (gls_var (pv 0) rfl hf) (gd_var (pv 2) rfl) (by (first | exact held_at _ | assumption | exact ixh | exact ixb (by assumption) | exact rfl | (simp only [*]; exact rfl)))) (by first | exact kit_tuple_bool | exact kit_list_bool | exact kit_int_bool | exact kit_bool_bool | exact kit_str_bool | exact kit_NoneType_bool | exact kit_dict_bool))) (fun hh => by first | exact gw_dead (absurd hh (by (first | decide +kernel | (simp only [List.length_cons, List.length_nil, eqv_int]; decide) | (simp only [List.length_cons, List.length_nil, eqv_int, decide_eq_true_eq, decide_eq_false_iff_not]; omega)))) | exact (gw_or1 (gt_ne hr.units (gl_ix (gls_var (pv 0) rfl hf) (gd_var (pv 2) rfl) (by (first | exact held_at _ | assumption | exact ixh | exact ixb (by assumption) | exact rfl | (simp only [*]; exact rfl)))) (gl_ix (gls_var (pv 1) rfl hd) (gd_var (pv 2) rfl) (by (first | exact held_at _ | assumption | exact ixh | exact ixb (by assumption) | exact rfl | (simp only [*]; exact rfl)))) (by (first | exact shaped_int _ | exact shaped_bool _ | exact shaped_none | assumption | exact shaped_ints _ | exact shaped_str (by decide +kernel) | exact rfl | decide +kernel)) (by (first | exact shaped_int _ | exact shaped_bool _ | exact shaped_none | assumption | exact shaped_ints _ | exact shaped_str (by decide +kernel) | exact rfl | decide +kernel))))))))) (fun h2 => absurd h2 (by simp [isWholeD, eqv_int])) (fun h2 => gss_nil ⟨rfl, _, rfl⟩))
    · rintro Γ' S' ⟨rfl, x, rfl⟩
      exact gss_ret (r := .dat _) gd_bl ⟨rfl, rfl⟩
theorem sc_l_step_by : FnScope ["_law_cell", "_law_many", "_law_held", "_law_word"] ["_law_cell", "_law_many", "_law_held"] (defScope s_l_step_by) := ⟨rfl, rfl, rfl, by decide +kernel, rfl, by decide +kernel, by decide +kernel⟩
theorem ok_l_step_by (T : Txt K mg) : FnOk P w K mg base CX0 2 T.f_l_step_by T.d_l_step_by ["_law_cell", "_law_many", "_law_held"] (SpD K R_l_step_by) := by
  refine pure_def T.F_l_step_by sc_l_step_by (fun ds d h => ?_) (fun cdv A outer s H E B ds d hr h => ?_)
  · obtain ⟨c, m, b, rfl, hm, hc, rfl⟩ := h; rfl
  · obtain ⟨c, m, b, rfl, hm, hc, rfl⟩ := h
    rcases seven c with q | q | q | q | q | q | q
    all_goals (
      refine gss_set (i := 3) sc_l_step_by.nd rfl (by first | exact .inl rfl | exact .inr rfl) (r := .dat _) (gd_ixL (gd_lst (ga_cons gd_str (ga_cons gd_str (ga_cons gd_str (ga_cons gd_str (ga_cons gd_str (ga_cons gd_str (ga_cons gd_str ga_nil))))))) (by (first | decide | (simp only [List.length_append, List.length_cons, List.length_nil, List.length_map, List.length_set, List.length_take, List.length_drop]; omega)))) (gd_mod (by (first | decide | omega)) (gd_var (pv 0) rfl) gd_int) (by (first | exact held_at _ | assumption | exact ixh | exact ixb (by assumption) | exact rfl | (simp only [*]; exact rfl)))) ?_
      refine gss_if (gt_eq hr.units (gd_var (pv 3) rfl) gd_str (by (first | exact shaped_int _ | exact shaped_bool _ | exact shaped_none | assumption | exact shaped_ints _ | exact shaped_str (by decide +kernel) | exact rfl | decide +kernel)) (by (first | exact shaped_int _ | exact shaped_bool _ | exact shaped_none | assumption | exact shaped_ints _ | exact shaped_str (by decide +kernel) | exact rfl | decide +kernel))) (fun h1 => ?_) (fun h1 => ?_)
      · (try (exact absurd h1 (by (first | decide +kernel | (simp only [List.length_cons, List.length_nil, eqv_int]; decide) | (simp only [List.length_cons, List.length_nil, eqv_int, decide_eq_true_eq, decide_eq_false_iff_not]; omega)))))
        all_goals (
          refine gss_ret (r := .dat _) (gd_tup (ga_cons (gd_ixL (gd_lst (ga_cons gd_str (ga_cons gd_str ga_nil)) (by (first | decide | (simp only [List.length_append, List.length_cons, List.length_nil, List.length_map, List.length_set, List.length_take, List.length_drop]; omega)))) (gd_callTy call_int1 ca_intB rfl T.z_int (by decide +kernel) (ga_cons (gd_var (pv 2) rfl) ga_nil)) (by (first | exact held_at _ | assumption | exact ixh | exact ixb (by assumption) | exact rfl | (simp only [*]; exact rfl)))) ga_nil) (by (first | decide | (simp only [List.length_append, List.length_cons, List.length_nil, List.length_map, List.length_set, List.length_take, List.length_drop]; omega)))) ?_
          cases b <;> simp [step8, q, Stp.toD, Stp.kd, Kd.word, Stp.args]
        )
      · (try (exact absurd h1 (by (first | decide +kernel | (simp only [List.length_cons, List.length_nil, eqv_int]; decide) | (simp only [List.length_cons, List.length_nil, eqv_int, decide_eq_true_eq, decide_eq_false_iff_not]; omega)))))
        all_goals (
          refine gss_nil ?_
          refine gss_if (gt_in rfl (gd_var (pv 3) rfl) (gd_tup (ga_cons gd_str (ga_cons gd_str (ga_cons gd_str ga_nil))) (by (first | decide | (simp only [List.length_append, List.length_cons, List.length_nil, List.length_map, List.length_set, List.length_take, List.length_drop]; omega)))) (by (first | exact rfl | decide)) (by (first | exact rfl | decide))) (fun h2 => ?_) (fun h2 => ?_)
          · (try (exact absurd h2 (by (first | decide +kernel | (simp only [List.length_cons, List.length_nil, eqv_int]; decide) | (simp only [List.length_cons, List.length_nil, eqv_int, decide_eq_true_eq, decide_eq_false_iff_not]; omega)))))
            all_goals (
              refine gss_ret (r := .dat _) (gd_tup (ga_cons (gd_var (pv 3) rfl) (ga_cons (gd_mod (by (first | decide | omega)) (gd_fdiv (by (exact ⟨by decide, by decide⟩)) (gd_var (pv 0) rfl) gd_int) (gd_var (pv 1) rfl)) ga_nil)) (by (first | decide | (simp only [List.length_append, List.length_cons, List.length_nil, List.length_map, List.length_set, List.length_take, List.length_drop]; omega)))) ?_
              simp [step8, q, Stp.toD, Stp.kd, Kd.word, Stp.args]
            )
          · (try (exact absurd h2 (by (first | decide +kernel | (simp only [List.length_cons, List.length_nil, eqv_int]; decide) | (simp only [List.length_cons, List.length_nil, eqv_int, decide_eq_true_eq, decide_eq_false_iff_not]; omega)))))
            all_goals (
              refine gss_nil ?_
              refine gss_if (gt_eq hr.units (gd_var (pv 3) rfl) gd_str (by (first | exact shaped_int _ | exact shaped_bool _ | exact shaped_none | assumption | exact shaped_ints _ | exact shaped_str (by decide +kernel) | exact rfl | decide +kernel)) (by (first | exact shaped_int _ | exact shaped_bool _ | exact shaped_none | assumption | exact shaped_ints _ | exact shaped_str (by decide +kernel) | exact rfl | decide +kernel))) (fun h3 => ?_) (fun h3 => ?_)
              · (try (exact absurd h3 (by (first | decide +kernel | (simp only [List.length_cons, List.length_nil, eqv_int]; decide) | (simp only [List.length_cons, List.length_nil, eqv_int, decide_eq_true_eq, decide_eq_false_iff_not]; omega)))))
                all_goals (
                  refine gss_ret (r := .dat _) (gd_tup (ga_cons (gd_var (pv 3) rfl) ga_nil) (by (first | decide | (simp only [List.length_append, List.length_cons, List.length_nil, List.length_map, List.length_set, List.length_take, List.length_drop]; omega)))) ?_
                  simp [step8, q, Stp.toD, Stp.kd, Kd.word, Stp.args]
                )
              · (try (exact absurd h3 (by (first | decide +kernel | (simp only [List.length_cons, List.length_nil, eqv_int]; decide) | (simp only [List.length_cons, List.length_nil, eqv_int, decide_eq_true_eq, decide_eq_false_iff_not]; omega)))))
                all_goals (
                  refine gss_nil ?_
                  refine gss_ret (r := .dat _) (gd_tup (ga_cons gd_str (ga_cons (gd_call (ok_l_number_by T) (hr.mono (by decide)) rfl T.m_l_number_by T.F_l_number_by.kp T.b_l_number_by pass0 (ga_cons (gd_fdiv (by (exact ⟨by decide, by decide⟩)) (gd_var (pv 0) rfl) gd_int) ga_nil) (by (exact ⟨_, rfl, by first | assumption | exact cell_small (by assumption) _ | exact small_le (by assumption) (by omega), rfl⟩))) ga_nil)) (by (first | decide | (simp only [List.length_append, List.length_cons, List.length_nil, List.length_map, List.length_set, List.length_take, List.length_drop]; omega)))) ?_
                  simp [step8, q, Stp.toD, Stp.kd, Kd.word, Stp.args]
                )
            )
        )
      )
theorem sc_l_cells : FnScope ["_law_script", "_law_start", "_law_size", "_law_k"] ["_law_script", "_law_start", "_law_size"] (defScope s_l_cells) := ⟨rfl, rfl, rfl, by decide +kernel, rfl, by decide +kernel, by decide +kernel⟩
theorem ok_l_cells (T : Txt K mg) : FnOk P w K mg base CX0 2 T.f_l_cells T.d_l_cells ["_law_script", "_law_start", "_law_size"] (SpD K R_l_cells) := by
  refine pure_def T.F_l_cells sc_l_cells (fun ds d h => ?_) (fun cdv A outer s H E B ds d hr h => ?_)
  · obtain ⟨ns, st, sz, rfl, hs, h0, h1, h2, rfl⟩ := h; rfl
  · obtain ⟨ns, st, sz, rfl, hs, h0, h1, h2, rfl⟩ := h
    refine gss_ret (r := .dat _) (gd_lcR (j := 3) (fun k : Nat => .int (cell ns (st + (k : Int) % 20) + 11 * ((k : Int) / 20))) rfl sc_l_cells.nd rfl T.z_range (gd_var (pv 2) rfl) ⟨by omega, by omega⟩ (blkOk_by (own := [("_law_k", 3)]) (N := ["_law_script", "_law_start", "_law_size", "_law_k"]) (sc := defScope s_l_cells) (by decide +kernel)) (fun _ _ _ _ _ => pg_name (i := 3) sc_l_cells.nd rfl (Or.inl rfl)) (fun i D acc hi _ _ _ _ _ => by
      have hm : IntMulOk 11 ((i : Int) / 20) := mul_ok (by decide) (small_of (k := 8) (by decide) (by decide) (by omega))
      exact (gd_add (gd_call (ok_l_cell_at T) (hr.mono (by decide)) rfl T.m_l_cell_at T.F_l_cell_at.kp T.b_l_cell_at pass0 (ga_cons (gd_var (pv 0) rfl) (ga_cons (gd_add (gd_var (pv 1) rfl) (gd_mod (by (first | decide | omega)) (gd_var (pv 3) rfl) gd_int)) ga_nil)) (by (exact ⟨_, _, rfl, by first | decide | omega, rfl⟩))) (gd_mul (by (first | assumption | exact im _ _ (by decide))) gd_int (gd_fdiv (by (exact ⟨by decide, by decide⟩)) (gd_var (pv 3) rfl) gd_int))))) ?_
    show Sl.dat _ = Sl.dat _
    unfold cellsN
    rw [List.map_map]; rfl
theorem sc_l_row_by : FnScope ["_law_cells_here", "_law_many", "_law_row", "_law_held", "_law_cell", "_law_step"] ["_law_cells_here", "_law_many"] (defScope s_l_row_by) := ⟨rfl, rfl, rfl, by decide +kernel, rfl, by decide +kernel, by decide +kernel⟩
theorem ok_l_row_by (T : Txt K mg) : FnOk P w K mg base CX0 3 T.f_l_row_by T.d_l_row_by ["_law_cells_here", "_law_many"] (SpD K R_l_row_by) := by
  refine pure_def T.F_l_row_by sc_l_row_by (fun ds d h => ?_) (fun cdv A outer s H E B ds d hr h => ?_)
  · obtain ⟨zs, m, rfl, hs, hm, hl, rfl⟩ := h; rfl
  · obtain ⟨zs, m, rfl, hs, hm, hl, rfl⟩ := h
    refine gss_then ?_
    refine gs_setF (i := 2) (gf_lst ga_nil (by show 0 ≤ 100000; decide)) sc_l_row_by.nd rfl (by first | exact .inl rfl | exact .inr rfl) fun p hp => ?_
    refine gss_set (i := 3) sc_l_row_by.nd rfl (by first | exact .inl rfl | exact .inr rfl) (r := .dat _) gd_bl ?_
    refine gss_cons (M := fun Γ' S' => ∃ (hd : Bool) (y z : Sl), hd = endH false (rowG zs m false) ∧ Γ' = [.dat (.list (zs.map .int)), .dat (.int m), .raw (.ref p), .dat (.bool hd), y, z] ∧ S' = [(p, .lst ((rowG zs m false).map Stp.toD))]) (gs_forL (ds := zs.map .int) .never rfl (gd_var (pv 0) rfl) sc_l_row_by.nd (j := 4) rfl (by first | exact .inl rfl | exact .inr rfl) (fun i Γ' S' => ∃ (row : List Stp) (hd : Bool) (y z : Sl), row ++ rowG (zs.drop i) m hd = rowG zs m false ∧ endH hd (rowG (zs.drop i) m hd) = endH false (rowG zs m false) ∧ row.length = i ∧ Γ' = [.dat (.list (zs.map .int)), .dat (.int m), .raw (.ref p), .dat (.bool hd), y, z] ∧ S' = [(p, .lst (row.map Stp.toD))]) ⟨[], false, .un, .un, rfl, rfl, rfl, rfl, rfl⟩ ?_ ?_) ?_
    · rintro i d Γ' S' G0 hd0 ⟨row, hd, y, z0, he, hen, hrl, rfl, rfl⟩
      obtain ⟨z, hz, rfl⟩ : ∃ z, zs[i]? = some z ∧ d = .int z := by
        rw [List.getElem?_map] at hd0
        cases q : zs[i]? with
        | none => rw [q] at hd0; cases hd0
        | some z => rw [q] at hd0; cases hd0; exact ⟨z, rfl, rfl⟩
      have hi : i < zs.length := (List.getElem?_eq_some_iff.mp hz).1
      rw [drop_at hz, rowG_cons] at he hen
      refine gss_set (i := 5) sc_l_row_by.nd rfl (by first | exact .inl rfl | exact .inr rfl) (r := .dat _) (gd_call (ok_l_step_by T) (hr.mono (by decide)) rfl T.m_l_step_by T.F_l_step_by.kp T.b_l_step_by pass0 (ga_cons (gd_var (pv 4) rfl) (ga_cons (gd_var (pv 1) rfl) (ga_cons (gd_var (pv 3) rfl) ga_nil))) (by (exact ⟨_, _, _, rfl, hm, hs z (List.mem_of_getElem? hz), rfl⟩))) ?_
      generalize step8 z m hd = s at he hen ⊢
      have ws := kd_shaped s.kd
      refine gss_cons (M := fun Γ' S' => Γ' = [.dat (.list (zs.map .int)), .dat (.int m), .raw (.ref p), .dat (.bool (if s.kd.isGuard = true then decide (s.kd = .take) else hd)), .dat (.int z), .dat s.toD] ∧ S' = [(p, .lst (row.map Stp.toD))]) (gs_if (gt_in rfl (gd_ixT (gd_var (pv 5) rfl) gd_int (by (first | exact held_at _ | assumption | exact ixh | exact ixb (by assumption) | exact rfl | (simp only [*]; exact rfl)))) (gd_tup (ga_cons gd_str (ga_cons gd_str ga_nil)) (by (first | decide | (simp only [List.length_append, List.length_cons, List.length_nil, List.length_map, List.length_set, List.length_take, List.length_drop]; omega)))) (by (first | exact rfl | decide)) (by (first | exact rfl | decide))) (fun h => ?_) (fun h => gss_nil ⟨?_, rfl⟩)) ?_
      · refine gss_set (i := 3) sc_l_row_by.nd rfl (by first | exact .inl rfl | exact .inr rfl) (r := .dat _) (gd_eq hr.units (gd_ixT (gd_var (pv 5) rfl) gd_int (by (first | exact held_at _ | assumption | exact ixh | exact ixb (by assumption) | exact rfl | (simp only [*]; exact rfl)))) gd_str (by (first | exact shaped_int _ | exact shaped_bool _ | exact shaped_none | assumption | exact shaped_ints _ | exact shaped_str (by decide +kernel) | exact rfl | decide +kernel)) (by (first | exact shaped_int _ | exact shaped_bool _ | exact shaped_none | assumption | exact shaped_ints _ | exact shaped_str (by decide +kernel) | exact rfl | decide +kernel))) (gss_nil ⟨?_, rfl⟩)
        rw [kd_guard] at h
        rw [if_pos h, kd_take]; rfl
      · rw [kd_guard] at h
        rw [if_neg (by rw [h]; decide)]; rfl
      rintro Γ' S' ⟨rfl, rfl⟩
      refine gss_one (gs_appO (n := 0) (gr_var (pv 2) rfl) (gd_var (pv 5) rfl) rfl (by rw [List.length_map]; omega) ⟨row ++ [s], _, _, _, ?_, hen, by rw [List.length_append, hrl]; rfl, rfl, by rw [List.map_append]; rfl⟩)
      rw [List.append_assoc]; exact he
    · rintro Γ' S' ⟨row, hd, y, z, he, hen, _, rfl, rfl⟩
      rw [List.length_map, List.drop_length, rowG_nil] at he hen
      rw [List.append_nil] at he
      exact ⟨hd, y, z, hen, rfl, by rw [he]⟩
    rintro Γ' S' ⟨hd, y, z, hhd, rfl, rfl⟩
    have hrl := rowG_len zs m false
    refine gss_cons (M := fun Γ' S' => Γ' = [.dat (.list (zs.map .int)), .dat (.int m), .raw (.ref p), .dat (.bool hd), y, z] ∧ S' = [(p, .lst ((row9 zs m).map Stp.toD))]) (gs_if (gt_val (gd_var (pv 3) rfl)) (fun h => ?_) (fun h => gss_nil ⟨rfl, ?_⟩)) ?_
    · refine gss_one (gs_appO (n := 0) (gr_var (pv 2) rfl) (gd_tup (ga_cons gd_str ga_nil) (by (first | decide | (simp only [List.length_append, List.length_cons, List.length_nil, List.length_map, List.length_set, List.length_take, List.length_drop]; omega)))) rfl (by rw [List.length_map]; omega) ⟨rfl, ?_⟩)
      unfold row9
      rw [← hhd, if_pos h, List.map_append]; rfl
    · unfold row9
      rw [← hhd, if_neg (by rw [h]; decide), List.append_nil]
    rintro Γ' S' ⟨rfl, rfl⟩
    refine gss_freeze 2 0 rfl rfl hp ?_
    exact gss_ret (r := .dat _) (gd_var (pv 2) rfl) rfl
theorem sc_l_can : FnScope ["_law_stand", "_law_hand", "_law_row", "_law_word"] ["_law_stand", "_law_hand"] (defScope s_l_can) := ⟨rfl, rfl, rfl, by decide +kernel, rfl, by decide +kernel, by decide +kernel⟩
theorem ok_l_can (T : Txt K mg) : FnOk P w K mg base CX0 1 T.f_l_can T.d_l_can ["_law_stand", "_law_hand"] (SpM K R_l_can) := by
  refine mut_def0K T.F_l_can sc_l_can (fun as S PR PX h => ?_) (fun cdv A outer s H E B as S PR PX hr hks h => ?_)
  · obtain ⟨A, st, b, rfl, rfl, hw, rfl, rfl⟩ := h; rfl
  · obtain ⟨A, st, b, rfl, rfl, hw, rfl, rfl⟩ := h
    have qr := row_at st b
    have qp := plc_at st b
    have sh := hold_sh st.h
    refine gss_set (i := 2) sc_l_can.nd rfl (by first | exact .inl rfl | exact .inr rfl) (r := .dat _) (gd_ixL (ge_ixS (n := 0) (gr_var (pv 0) rfl) gd_int rfl rfl) (gd_var (pv 1) rfl) (by (first | exact held_at _ | assumption | exact ixh | exact ixb (by assumption) | exact rfl | (simp only [*]; exact rfl)))) ?_
    refine gss_if (gt_eq hr.units (gd_ixO (n := 1) (ge_ixS (n := 0) (gr_var (pv 0) rfl) gd_int rfl rfl) (gd_var (pv 1) rfl) rfl (by (first | exact held_at _ | assumption | exact ixh | exact ixb (by assumption) | exact rfl | (simp only [*]; exact rfl)))) (gd_callB call_len (ca_len (by first | exact .inl rfl | exact .inr rfl)) rfl T.z_len (by decide +kernel) (ga_cons (gd_var (pv 2) rfl) ga_nil)) (by (first | exact shaped_int _ | exact shaped_bool _ | exact shaped_none | assumption | exact shaped_ints _ | exact shaped_str (by decide +kernel) | exact rfl | decide +kernel)) (by (first | exact shaped_int _ | exact shaped_bool _ | exact shaped_none | assumption | exact shaped_ints _ | exact shaped_str (by decide +kernel) | exact rfl | decide +kernel))) (fun h1 => ?_) (fun h1 => ?_)
    · (try (exact absurd h1 (by (first | decide +kernel | (simp only [List.length_cons, List.length_nil, eqv_int]; decide) | (simp only [List.length_cons, List.length_nil, eqv_int, decide_eq_true_eq, decide_eq_false_iff_not]; omega)))))
      all_goals (
        refine gss_ret (r := .dat _) gd_bl ?_
        refine ⟨?_, rfl⟩
        show Sl.dat _ = Sl.dat _
        have ho := (over_eqv st b).trans h1
        unfold LSt.lcan
        rw [ho]; rfl
      )
    · (try (exact absurd h1 (by (first | decide +kernel | (simp only [List.length_cons, List.length_nil, eqv_int]; decide) | (simp only [List.length_cons, List.length_nil, eqv_int, decide_eq_true_eq, decide_eq_false_iff_not]; omega)))))
      all_goals (
        refine gss_nil ?_
        have ho := (over_eqv st b).trans h1
        have q2 := atI_nat (next_at hw ho)
        have ws := kd_shaped (st.next b).kd
        refine gss_set (i := 3) sc_l_can.nd rfl (by first | exact .inl rfl | exact .inr rfl) (r := .dat _) (gd_ixT (gd_ixL (gd_var (pv 2) rfl) (gd_ixO (n := 1) (ge_ixS (n := 0) (gr_var (pv 0) rfl) gd_int rfl rfl) (gd_var (pv 1) rfl) rfl (by (first | exact held_at _ | assumption | exact ixh | exact ixb (by assumption) | exact rfl | (simp only [*]; exact rfl)))) (by (first | exact held_at _ | assumption | exact ixh | exact ixb (by assumption) | exact rfl | (simp only [*]; exact rfl)))) gd_int (by (first | exact held_at _ | assumption | exact ixh | exact ixb (by assumption) | exact rfl | (simp only [*]; exact rfl)))) ?_
        refine gss_ret (r := .dat _) (gd_or (gd_ne hr.units (gd_var (pv 3) rfl) gd_str (by (first | exact shaped_int _ | exact shaped_bool _ | exact shaped_none | assumption | exact shaped_ints _ | exact shaped_str (by decide +kernel) | exact rfl | decide +kernel)) (by (first | exact shaped_int _ | exact shaped_bool _ | exact shaped_none | assumption | exact shaped_ints _ | exact shaped_str (by decide +kernel) | exact rfl | decide +kernel))) (fun hh => by first | exact gd_dead (absurd hh (by (first | decide +kernel | (simp only [List.length_cons, List.length_nil, eqv_int]; decide) | (simp only [List.length_cons, List.length_nil, eqv_int, decide_eq_true_eq, decide_eq_false_iff_not]; omega)))) | exact (gd_one (gd_isN (ge_ixS (n := 0) (gr_var (pv 0) rfl) gd_int rfl rfl))))) ?_
        refine ⟨?_, rfl⟩
        show Sl.dat _ = Sl.dat _
        unfold LSt.lcan
        rw [ho, kd_take, isN_hold]; rfl
      )
theorem sc_l_done : FnScope ["_law_stand", "_law_hand", "_law_step"] ["_law_stand", "_law_hand"] (defScope s_l_done) := ⟨rfl, rfl, rfl, by decide +kernel, rfl, by decide +kernel, by decide +kernel⟩
theorem ok_l_done (T : Txt K mg) : FnOk P w K mg base CX0 1 T.f_l_done T.d_l_done ["_law_stand", "_law_hand"] (SpM K R_l_done) := by
  refine mut_def0K T.F_l_done sc_l_done (fun as S PR PX h => ?_) (fun cdv A outer s H E B as S PR PX hr hks h => ?_)
  · obtain ⟨A, st, b, rfl, rfl, hw, hsm, ho, rfl, rfl⟩ := h; rfl
  · obtain ⟨A, st, b, rfl, rfl, hw, hsm, ho, rfl, rfl⟩ := h
    have qr := row_at st b
    have qp := plc_at st b
    have q2 := atI_nat (next_at hw ho)
    have gd := next_good hw ho
    have m0 := two_ok hsm.1
    have m1 := two_ok hsm.2
    refine gss_set (i := 2) sc_l_done.nd rfl (by first | exact .inl rfl | exact .inr rfl) (r := .dat _) (gd_ixL (gd_ixL (ge_ixS (n := 0) (gr_var (pv 0) rfl) gd_int rfl rfl) (gd_var (pv 1) rfl) (by (first | exact held_at _ | assumption | exact ixh | exact ixb (by assumption) | exact rfl | (simp only [*]; exact rfl)))) (gd_ixO (n := 1) (ge_ixS (n := 0) (gr_var (pv 0) rfl) gd_int rfl rfl) (gd_var (pv 1) rfl) rfl (by (first | exact held_at _ | assumption | exact ixh | exact ixb (by assumption) | exact rfl | (simp only [*]; exact rfl)))) (by (first | exact held_at _ | assumption | exact ixh | exact ixb (by assumption) | exact rfl | (simp only [*]; exact rfl)))) ?_
    obtain ⟨s, hs⟩ : ∃ s, st.next b = s := ⟨_, rfl⟩
    rw [hs] at gd
    rw [hs]
    refine gss_cons (M := fun Γ' S' => Γ' = [.raw (.ref A.s), .dat (.int (hI b)), .dat s.toD] ∧ S' = standS A (st.eff b s)) ?_ ?_
    · cases s with
      | take =>
        have ws := kd_shaped (Stp.take).kd
        refine gs_if (gt_eq hr.units (gd_ixT (gd_var (pv 2) rfl) gd_int (by (first | exact held_at _ | assumption | exact ixh | exact ixb (by assumption) | exact rfl | (simp only [*]; exact rfl)))) gd_str (by (first | exact shaped_int _ | exact shaped_bool _ | exact shaped_none | assumption | exact shaped_ints _ | exact shaped_str (by decide +kernel) | exact rfl | decide +kernel)) (by (first | exact shaped_int _ | exact shaped_bool _ | exact shaped_none | assumption | exact shaped_ints _ | exact shaped_str (by decide +kernel) | exact rfl | decide +kernel))) (fun h => ?_) (fun h => by simp [kd_take, kd_free, kd_load, kd_plus, kd_store, kd_add, Stp.kd] at h)
        cases b
        all_goals exact gss_one (gs_setS (n := 0) (gr_var (pv 0) rfl) gd_int (gd_var (pv 1) rfl) rfl rfl ⟨rfl, rfl⟩)
      | free =>
        have ws := kd_shaped (Stp.free).kd
        refine gs_if (gt_eq hr.units (gd_ixT (gd_var (pv 2) rfl) gd_int (by (first | exact held_at _ | assumption | exact ixh | exact ixb (by assumption) | exact rfl | (simp only [*]; exact rfl)))) gd_str (by (first | exact shaped_int _ | exact shaped_bool _ | exact shaped_none | assumption | exact shaped_ints _ | exact shaped_str (by decide +kernel) | exact rfl | decide +kernel)) (by (first | exact shaped_int _ | exact shaped_bool _ | exact shaped_none | assumption | exact shaped_ints _ | exact shaped_str (by decide +kernel) | exact rfl | decide +kernel))) (fun h => by simp [kd_take, kd_free, kd_load, kd_plus, kd_store, kd_add, Stp.kd] at h) (fun h => ?_)
        refine gss_one (gs_if (gt_eq hr.units (gd_ixT (gd_var (pv 2) rfl) gd_int (by (first | exact held_at _ | assumption | exact ixh | exact ixb (by assumption) | exact rfl | (simp only [*]; exact rfl)))) gd_str (by (first | exact shaped_int _ | exact shaped_bool _ | exact shaped_none | assumption | exact shaped_ints _ | exact shaped_str (by decide +kernel) | exact rfl | decide +kernel)) (by (first | exact shaped_int _ | exact shaped_bool _ | exact shaped_none | assumption | exact shaped_ints _ | exact shaped_str (by decide +kernel) | exact rfl | decide +kernel))) (fun h => ?_) (fun h => by simp [kd_take, kd_free, kd_load, kd_plus, kd_store, kd_add, Stp.kd] at h))
        cases b
        all_goals exact gss_one (gs_setS (n := 0) (gr_var (pv 0) rfl) gd_int gd_non rfl rfl ⟨rfl, rfl⟩)
      | load x =>
        have ws := kd_shaped (Stp.load x).kd
        have g : 0 ≤ x ∧ x < (st.bx.length : Int) := gd rfl
        have q := box_at g.1 g.2
        refine gs_if (gt_eq hr.units (gd_ixT (gd_var (pv 2) rfl) gd_int (by (first | exact held_at _ | assumption | exact ixh | exact ixb (by assumption) | exact rfl | (simp only [*]; exact rfl)))) gd_str (by (first | exact shaped_int _ | exact shaped_bool _ | exact shaped_none | assumption | exact shaped_ints _ | exact shaped_str (by decide +kernel) | exact rfl | decide +kernel)) (by (first | exact shaped_int _ | exact shaped_bool _ | exact shaped_none | assumption | exact shaped_ints _ | exact shaped_str (by decide +kernel) | exact rfl | decide +kernel))) (fun h => by simp [kd_take, kd_free, kd_load, kd_plus, kd_store, kd_add, Stp.kd] at h) (fun h => ?_)
        refine gss_one (gs_if (gt_eq hr.units (gd_ixT (gd_var (pv 2) rfl) gd_int (by (first | exact held_at _ | assumption | exact ixh | exact ixb (by assumption) | exact rfl | (simp only [*]; exact rfl)))) gd_str (by (first | exact shaped_int _ | exact shaped_bool _ | exact shaped_none | assumption | exact shaped_ints _ | exact shaped_str (by decide +kernel) | exact rfl | decide +kernel)) (by (first | exact shaped_int _ | exact shaped_bool _ | exact shaped_none | assumption | exact shaped_ints _ | exact shaped_str (by decide +kernel) | exact rfl | decide +kernel))) (fun h => by simp [kd_take, kd_free, kd_load, kd_plus, kd_store, kd_add, Stp.kd] at h) (fun h => ?_))
        refine gss_one (gs_if (gt_eq hr.units (gd_ixT (gd_var (pv 2) rfl) gd_int (by (first | exact held_at _ | assumption | exact ixh | exact ixb (by assumption) | exact rfl | (simp only [*]; exact rfl)))) gd_str (by (first | exact shaped_int _ | exact shaped_bool _ | exact shaped_none | assumption | exact shaped_ints _ | exact shaped_str (by decide +kernel) | exact rfl | decide +kernel)) (by (first | exact shaped_int _ | exact shaped_bool _ | exact shaped_none | assumption | exact shaped_ints _ | exact shaped_str (by decide +kernel) | exact rfl | decide +kernel))) (fun h => ?_) (fun h => by simp [kd_take, kd_free, kd_load, kd_plus, kd_store, kd_add, Stp.kd] at h))
        cases b
        all_goals exact gss_one (gs_setO (n := 2) (ge_ixS (n := 0) (gr_var (pv 0) rfl) gd_int rfl rfl) (gd_var (pv 1) rfl) (gd_ixO (n := 3) (ge_ixS (n := 0) (gr_var (pv 0) rfl) gd_int rfl rfl) (gd_ixT (gd_var (pv 2) rfl) gd_int (by (first | exact held_at _ | assumption | exact ixh | exact ixb (by assumption) | exact rfl | (simp only [*]; exact rfl)))) rfl (by (first | exact held_at _ | assumption | exact ixh | exact ixb (by assumption) | exact rfl | (simp only [*]; exact rfl)))) rfl rfl ⟨rfl, rfl⟩)
      | plus x =>
        have ws := kd_shaped (Stp.plus x).kd
        have g : 0 ≤ x ∧ x < (st.bx.length : Int) := gd rfl
        have q := box_at g.1 g.2
        refine gs_if (gt_eq hr.units (gd_ixT (gd_var (pv 2) rfl) gd_int (by (first | exact held_at _ | assumption | exact ixh | exact ixb (by assumption) | exact rfl | (simp only [*]; exact rfl)))) gd_str (by (first | exact shaped_int _ | exact shaped_bool _ | exact shaped_none | assumption | exact shaped_ints _ | exact shaped_str (by decide +kernel) | exact rfl | decide +kernel)) (by (first | exact shaped_int _ | exact shaped_bool _ | exact shaped_none | assumption | exact shaped_ints _ | exact shaped_str (by decide +kernel) | exact rfl | decide +kernel))) (fun h => by simp [kd_take, kd_free, kd_load, kd_plus, kd_store, kd_add, Stp.kd] at h) (fun h => ?_)
        refine gss_one (gs_if (gt_eq hr.units (gd_ixT (gd_var (pv 2) rfl) gd_int (by (first | exact held_at _ | assumption | exact ixh | exact ixb (by assumption) | exact rfl | (simp only [*]; exact rfl)))) gd_str (by (first | exact shaped_int _ | exact shaped_bool _ | exact shaped_none | assumption | exact shaped_ints _ | exact shaped_str (by decide +kernel) | exact rfl | decide +kernel)) (by (first | exact shaped_int _ | exact shaped_bool _ | exact shaped_none | assumption | exact shaped_ints _ | exact shaped_str (by decide +kernel) | exact rfl | decide +kernel))) (fun h => by simp [kd_take, kd_free, kd_load, kd_plus, kd_store, kd_add, Stp.kd] at h) (fun h => ?_))
        refine gss_one (gs_if (gt_eq hr.units (gd_ixT (gd_var (pv 2) rfl) gd_int (by (first | exact held_at _ | assumption | exact ixh | exact ixb (by assumption) | exact rfl | (simp only [*]; exact rfl)))) gd_str (by (first | exact shaped_int _ | exact shaped_bool _ | exact shaped_none | assumption | exact shaped_ints _ | exact shaped_str (by decide +kernel) | exact rfl | decide +kernel)) (by (first | exact shaped_int _ | exact shaped_bool _ | exact shaped_none | assumption | exact shaped_ints _ | exact shaped_str (by decide +kernel) | exact rfl | decide +kernel))) (fun h => by simp [kd_take, kd_free, kd_load, kd_plus, kd_store, kd_add, Stp.kd] at h) (fun h => ?_))
        refine gss_one (gs_if (gt_eq hr.units (gd_ixT (gd_var (pv 2) rfl) gd_int (by (first | exact held_at _ | assumption | exact ixh | exact ixb (by assumption) | exact rfl | (simp only [*]; exact rfl)))) gd_str (by (first | exact shaped_int _ | exact shaped_bool _ | exact shaped_none | assumption | exact shaped_ints _ | exact shaped_str (by decide +kernel) | exact rfl | decide +kernel)) (by (first | exact shaped_int _ | exact shaped_bool _ | exact shaped_none | assumption | exact shaped_ints _ | exact shaped_str (by decide +kernel) | exact rfl | decide +kernel))) (fun h => ?_) (fun h => by simp [kd_take, kd_free, kd_load, kd_plus, kd_store, kd_add, Stp.kd] at h))
        cases b
        all_goals exact gss_one (gs_setO (n := 2) (ge_ixS (n := 0) (gr_var (pv 0) rfl) gd_int rfl rfl) (gd_var (pv 1) rfl) (gd_add (gd_ixO (n := 2) (ge_ixS (n := 0) (gr_var (pv 0) rfl) gd_int rfl rfl) (gd_var (pv 1) rfl) rfl (by (first | exact held_at _ | assumption | exact ixh | exact ixb (by assumption) | exact rfl | (simp only [*]; exact rfl)))) (gd_ixO (n := 3) (ge_ixS (n := 0) (gr_var (pv 0) rfl) gd_int rfl rfl) (gd_ixT (gd_var (pv 2) rfl) gd_int (by (first | exact held_at _ | assumption | exact ixh | exact ixb (by assumption) | exact rfl | (simp only [*]; exact rfl)))) rfl (by (first | exact held_at _ | assumption | exact ixh | exact ixb (by assumption) | exact rfl | (simp only [*]; exact rfl))))) rfl rfl ⟨rfl, rfl⟩)
      | store x =>
        have ws := kd_shaped (Stp.store x).kd
        have g : 0 ≤ x ∧ x < (st.bx.length : Int) := gd rfl
        have q := box_at g.1 g.2
        refine gs_if (gt_eq hr.units (gd_ixT (gd_var (pv 2) rfl) gd_int (by (first | exact held_at _ | assumption | exact ixh | exact ixb (by assumption) | exact rfl | (simp only [*]; exact rfl)))) gd_str (by (first | exact shaped_int _ | exact shaped_bool _ | exact shaped_none | assumption | exact shaped_ints _ | exact shaped_str (by decide +kernel) | exact rfl | decide +kernel)) (by (first | exact shaped_int _ | exact shaped_bool _ | exact shaped_none | assumption | exact shaped_ints _ | exact shaped_str (by decide +kernel) | exact rfl | decide +kernel))) (fun h => by simp [kd_take, kd_free, kd_load, kd_plus, kd_store, kd_add, Stp.kd] at h) (fun h => ?_)
        refine gss_one (gs_if (gt_eq hr.units (gd_ixT (gd_var (pv 2) rfl) gd_int (by (first | exact held_at _ | assumption | exact ixh | exact ixb (by assumption) | exact rfl | (simp only [*]; exact rfl)))) gd_str (by (first | exact shaped_int _ | exact shaped_bool _ | exact shaped_none | assumption | exact shaped_ints _ | exact shaped_str (by decide +kernel) | exact rfl | decide +kernel)) (by (first | exact shaped_int _ | exact shaped_bool _ | exact shaped_none | assumption | exact shaped_ints _ | exact shaped_str (by decide +kernel) | exact rfl | decide +kernel))) (fun h => by simp [kd_take, kd_free, kd_load, kd_plus, kd_store, kd_add, Stp.kd] at h) (fun h => ?_))
        refine gss_one (gs_if (gt_eq hr.units (gd_ixT (gd_var (pv 2) rfl) gd_int (by (first | exact held_at _ | assumption | exact ixh | exact ixb (by assumption) | exact rfl | (simp only [*]; exact rfl)))) gd_str (by (first | exact shaped_int _ | exact shaped_bool _ | exact shaped_none | assumption | exact shaped_ints _ | exact shaped_str (by decide +kernel) | exact rfl | decide +kernel)) (by (first | exact shaped_int _ | exact shaped_bool _ | exact shaped_none | assumption | exact shaped_ints _ | exact shaped_str (by decide +kernel) | exact rfl | decide +kernel))) (fun h => by simp [kd_take, kd_free, kd_load, kd_plus, kd_store, kd_add, Stp.kd] at h) (fun h => ?_))
        refine gss_one (gs_if (gt_eq hr.units (gd_ixT (gd_var (pv 2) rfl) gd_int (by (first | exact held_at _ | assumption | exact ixh | exact ixb (by assumption) | exact rfl | (simp only [*]; exact rfl)))) gd_str (by (first | exact shaped_int _ | exact shaped_bool _ | exact shaped_none | assumption | exact shaped_ints _ | exact shaped_str (by decide +kernel) | exact rfl | decide +kernel)) (by (first | exact shaped_int _ | exact shaped_bool _ | exact shaped_none | assumption | exact shaped_ints _ | exact shaped_str (by decide +kernel) | exact rfl | decide +kernel))) (fun h => by simp [kd_take, kd_free, kd_load, kd_plus, kd_store, kd_add, Stp.kd] at h) (fun h => ?_))
        refine gss_one (gs_if (gt_eq hr.units (gd_ixT (gd_var (pv 2) rfl) gd_int (by (first | exact held_at _ | assumption | exact ixh | exact ixb (by assumption) | exact rfl | (simp only [*]; exact rfl)))) gd_str (by (first | exact shaped_int _ | exact shaped_bool _ | exact shaped_none | assumption | exact shaped_ints _ | exact shaped_str (by decide +kernel) | exact rfl | decide +kernel)) (by (first | exact shaped_int _ | exact shaped_bool _ | exact shaped_none | assumption | exact shaped_ints _ | exact shaped_str (by decide +kernel) | exact rfl | decide +kernel))) (fun h => ?_) (fun h => by simp [kd_take, kd_free, kd_load, kd_plus, kd_store, kd_add, Stp.kd] at h))
        cases b
        all_goals exact gss_one (gs_setO (n := 3) (ge_ixS (n := 0) (gr_var (pv 0) rfl) gd_int rfl rfl) (gd_ixT (gd_var (pv 2) rfl) gd_int (by (first | exact held_at _ | assumption | exact ixh | exact ixb (by assumption) | exact rfl | (simp only [*]; exact rfl)))) (gd_ixO (n := 2) (ge_ixS (n := 0) (gr_var (pv 0) rfl) gd_int rfl rfl) (gd_var (pv 1) rfl) rfl (by (first | exact held_at _ | assumption | exact ixh | exact ixb (by assumption) | exact rfl | (simp only [*]; exact rfl)))) rfl (box_ix g.1 g.2) ⟨rfl, by rw [set_ints]; rfl⟩)
      | add x =>
        have ws := kd_shaped (Stp.add x).kd
        refine gs_if (gt_eq hr.units (gd_ixT (gd_var (pv 2) rfl) gd_int (by (first | exact held_at _ | assumption | exact ixh | exact ixb (by assumption) | exact rfl | (simp only [*]; exact rfl)))) gd_str (by (first | exact shaped_int _ | exact shaped_bool _ | exact shaped_none | assumption | exact shaped_ints _ | exact shaped_str (by decide +kernel) | exact rfl | decide +kernel)) (by (first | exact shaped_int _ | exact shaped_bool _ | exact shaped_none | assumption | exact shaped_ints _ | exact shaped_str (by decide +kernel) | exact rfl | decide +kernel))) (fun h => by simp [kd_take, kd_free, kd_load, kd_plus, kd_store, kd_add, Stp.kd] at h) (fun h => ?_)
        refine gss_one (gs_if (gt_eq hr.units (gd_ixT (gd_var (pv 2) rfl) gd_int (by (first | exact held_at _ | assumption | exact ixh | exact ixb (by assumption) | exact rfl | (simp only [*]; exact rfl)))) gd_str (by (first | exact shaped_int _ | exact shaped_bool _ | exact shaped_none | assumption | exact shaped_ints _ | exact shaped_str (by decide +kernel) | exact rfl | decide +kernel)) (by (first | exact shaped_int _ | exact shaped_bool _ | exact shaped_none | assumption | exact shaped_ints _ | exact shaped_str (by decide +kernel) | exact rfl | decide +kernel))) (fun h => by simp [kd_take, kd_free, kd_load, kd_plus, kd_store, kd_add, Stp.kd] at h) (fun h => ?_))
        refine gss_one (gs_if (gt_eq hr.units (gd_ixT (gd_var (pv 2) rfl) gd_int (by (first | exact held_at _ | assumption | exact ixh | exact ixb (by assumption) | exact rfl | (simp only [*]; exact rfl)))) gd_str (by (first | exact shaped_int _ | exact shaped_bool _ | exact shaped_none | assumption | exact shaped_ints _ | exact shaped_str (by decide +kernel) | exact rfl | decide +kernel)) (by (first | exact shaped_int _ | exact shaped_bool _ | exact shaped_none | assumption | exact shaped_ints _ | exact shaped_str (by decide +kernel) | exact rfl | decide +kernel))) (fun h => by simp [kd_take, kd_free, kd_load, kd_plus, kd_store, kd_add, Stp.kd] at h) (fun h => ?_))
        refine gss_one (gs_if (gt_eq hr.units (gd_ixT (gd_var (pv 2) rfl) gd_int (by (first | exact held_at _ | assumption | exact ixh | exact ixb (by assumption) | exact rfl | (simp only [*]; exact rfl)))) gd_str (by (first | exact shaped_int _ | exact shaped_bool _ | exact shaped_none | assumption | exact shaped_ints _ | exact shaped_str (by decide +kernel) | exact rfl | decide +kernel)) (by (first | exact shaped_int _ | exact shaped_bool _ | exact shaped_none | assumption | exact shaped_ints _ | exact shaped_str (by decide +kernel) | exact rfl | decide +kernel))) (fun h => by simp [kd_take, kd_free, kd_load, kd_plus, kd_store, kd_add, Stp.kd] at h) (fun h => ?_))
        refine gss_one (gs_if (gt_eq hr.units (gd_ixT (gd_var (pv 2) rfl) gd_int (by (first | exact held_at _ | assumption | exact ixh | exact ixb (by assumption) | exact rfl | (simp only [*]; exact rfl)))) gd_str (by (first | exact shaped_int _ | exact shaped_bool _ | exact shaped_none | assumption | exact shaped_ints _ | exact shaped_str (by decide +kernel) | exact rfl | decide +kernel)) (by (first | exact shaped_int _ | exact shaped_bool _ | exact shaped_none | assumption | exact shaped_ints _ | exact shaped_str (by decide +kernel) | exact rfl | decide +kernel))) (fun h => by simp [kd_take, kd_free, kd_load, kd_plus, kd_store, kd_add, Stp.kd] at h) (fun h => ?_))
        refine gss_one (gs_if (gt_eq hr.units (gd_ixT (gd_var (pv 2) rfl) gd_int (by (first | exact held_at _ | assumption | exact ixh | exact ixb (by assumption) | exact rfl | (simp only [*]; exact rfl)))) gd_str (by (first | exact shaped_int _ | exact shaped_bool _ | exact shaped_none | assumption | exact shaped_ints _ | exact shaped_str (by decide +kernel) | exact rfl | decide +kernel)) (by (first | exact shaped_int _ | exact shaped_bool _ | exact shaped_none | assumption | exact shaped_ints _ | exact shaped_str (by decide +kernel) | exact rfl | decide +kernel))) (fun h => ?_) (fun h => by simp [kd_take, kd_free, kd_load, kd_plus, kd_store, kd_add, Stp.kd] at h))
        cases b
        all_goals exact gss_one (gs_setO (n := 2) (ge_ixS (n := 0) (gr_var (pv 0) rfl) gd_int rfl rfl) (gd_var (pv 1) rfl) (gd_add (gd_ixO (n := 2) (ge_ixS (n := 0) (gr_var (pv 0) rfl) gd_int rfl rfl) (gd_var (pv 1) rfl) rfl (by (first | exact held_at _ | assumption | exact ixh | exact ixb (by assumption) | exact rfl | (simp only [*]; exact rfl)))) (gd_ixT (gd_var (pv 2) rfl) gd_int (by (first | exact held_at _ | assumption | exact ixh | exact ixb (by assumption) | exact rfl | (simp only [*]; exact rfl))))) rfl rfl ⟨rfl, rfl⟩)
      | twice =>
        have ws := kd_shaped (Stp.twice).kd
        refine gs_if (gt_eq hr.units (gd_ixT (gd_var (pv 2) rfl) gd_int (by (first | exact held_at _ | assumption | exact ixh | exact ixb (by assumption) | exact rfl | (simp only [*]; exact rfl)))) gd_str (by (first | exact shaped_int _ | exact shaped_bool _ | exact shaped_none | assumption | exact shaped_ints _ | exact shaped_str (by decide +kernel) | exact rfl | decide +kernel)) (by (first | exact shaped_int _ | exact shaped_bool _ | exact shaped_none | assumption | exact shaped_ints _ | exact shaped_str (by decide +kernel) | exact rfl | decide +kernel))) (fun h => by simp [kd_take, kd_free, kd_load, kd_plus, kd_store, kd_add, Stp.kd] at h) (fun h => ?_)
        refine gss_one (gs_if (gt_eq hr.units (gd_ixT (gd_var (pv 2) rfl) gd_int (by (first | exact held_at _ | assumption | exact ixh | exact ixb (by assumption) | exact rfl | (simp only [*]; exact rfl)))) gd_str (by (first | exact shaped_int _ | exact shaped_bool _ | exact shaped_none | assumption | exact shaped_ints _ | exact shaped_str (by decide +kernel) | exact rfl | decide +kernel)) (by (first | exact shaped_int _ | exact shaped_bool _ | exact shaped_none | assumption | exact shaped_ints _ | exact shaped_str (by decide +kernel) | exact rfl | decide +kernel))) (fun h => by simp [kd_take, kd_free, kd_load, kd_plus, kd_store, kd_add, Stp.kd] at h) (fun h => ?_))
        refine gss_one (gs_if (gt_eq hr.units (gd_ixT (gd_var (pv 2) rfl) gd_int (by (first | exact held_at _ | assumption | exact ixh | exact ixb (by assumption) | exact rfl | (simp only [*]; exact rfl)))) gd_str (by (first | exact shaped_int _ | exact shaped_bool _ | exact shaped_none | assumption | exact shaped_ints _ | exact shaped_str (by decide +kernel) | exact rfl | decide +kernel)) (by (first | exact shaped_int _ | exact shaped_bool _ | exact shaped_none | assumption | exact shaped_ints _ | exact shaped_str (by decide +kernel) | exact rfl | decide +kernel))) (fun h => by simp [kd_take, kd_free, kd_load, kd_plus, kd_store, kd_add, Stp.kd] at h) (fun h => ?_))
        refine gss_one (gs_if (gt_eq hr.units (gd_ixT (gd_var (pv 2) rfl) gd_int (by (first | exact held_at _ | assumption | exact ixh | exact ixb (by assumption) | exact rfl | (simp only [*]; exact rfl)))) gd_str (by (first | exact shaped_int _ | exact shaped_bool _ | exact shaped_none | assumption | exact shaped_ints _ | exact shaped_str (by decide +kernel) | exact rfl | decide +kernel)) (by (first | exact shaped_int _ | exact shaped_bool _ | exact shaped_none | assumption | exact shaped_ints _ | exact shaped_str (by decide +kernel) | exact rfl | decide +kernel))) (fun h => by simp [kd_take, kd_free, kd_load, kd_plus, kd_store, kd_add, Stp.kd] at h) (fun h => ?_))
        refine gss_one (gs_if (gt_eq hr.units (gd_ixT (gd_var (pv 2) rfl) gd_int (by (first | exact held_at _ | assumption | exact ixh | exact ixb (by assumption) | exact rfl | (simp only [*]; exact rfl)))) gd_str (by (first | exact shaped_int _ | exact shaped_bool _ | exact shaped_none | assumption | exact shaped_ints _ | exact shaped_str (by decide +kernel) | exact rfl | decide +kernel)) (by (first | exact shaped_int _ | exact shaped_bool _ | exact shaped_none | assumption | exact shaped_ints _ | exact shaped_str (by decide +kernel) | exact rfl | decide +kernel))) (fun h => by simp [kd_take, kd_free, kd_load, kd_plus, kd_store, kd_add, Stp.kd] at h) (fun h => ?_))
        refine gss_one (gs_if (gt_eq hr.units (gd_ixT (gd_var (pv 2) rfl) gd_int (by (first | exact held_at _ | assumption | exact ixh | exact ixb (by assumption) | exact rfl | (simp only [*]; exact rfl)))) gd_str (by (first | exact shaped_int _ | exact shaped_bool _ | exact shaped_none | assumption | exact shaped_ints _ | exact shaped_str (by decide +kernel) | exact rfl | decide +kernel)) (by (first | exact shaped_int _ | exact shaped_bool _ | exact shaped_none | assumption | exact shaped_ints _ | exact shaped_str (by decide +kernel) | exact rfl | decide +kernel))) (fun h => by simp [kd_take, kd_free, kd_load, kd_plus, kd_store, kd_add, Stp.kd] at h) (fun h => ?_))
        cases b
        all_goals exact gss_one (gs_setO (n := 2) (ge_ixS (n := 0) (gr_var (pv 0) rfl) gd_int rfl rfl) (gd_var (pv 1) rfl) (gd_mul (by (first | assumption | exact im _ _ (by decide))) (gd_ixO (n := 2) (ge_ixS (n := 0) (gr_var (pv 0) rfl) gd_int rfl rfl) (gd_var (pv 1) rfl) rfl (by (first | exact held_at _ | assumption | exact ixh | exact ixb (by assumption) | exact rfl | (simp only [*]; exact rfl)))) gd_int) rfl rfl ⟨rfl, rfl⟩)
    · rintro Γ' S' ⟨rfl, rfl⟩
      have hd : st.done b = (st.eff b s).setP b (st.plc b + 1) := by unfold LSt.done; rw [hs]
      have z0 := eff_p0 st b s
      have z1 := eff_p1 st b s
      rw [hd]
      cases b
      · rw [← eff_plc st false false s]
        exact gss_one (gs_setO (n := 1) (ge_ixS (n := 0) (gr_var (pv 0) rfl) gd_int rfl rfl) (gd_var (pv 1) rfl) (gd_add (gd_ixO (n := 1) (ge_ixS (n := 0) (gr_var (pv 0) rfl) gd_int rfl rfl) (gd_var (pv 1) rfl) rfl (by (first | exact held_at _ | assumption | exact ixh | exact ixb (by assumption) | exact rfl | (simp only [*]; exact rfl)))) gd_int) rfl rfl ⟨rfl, rfl⟩)
      · rw [← eff_plc st true true s]
        exact gss_one (gs_setO (n := 1) (ge_ixS (n := 0) (gr_var (pv 0) rfl) gd_int rfl rfl) (gd_var (pv 1) rfl) (gd_add (gd_ixO (n := 1) (ge_ixS (n := 0) (gr_var (pv 0) rfl) gd_int rfl rfl) (gd_var (pv 1) rfl) rfl (by (first | exact held_at _ | assumption | exact ixh | exact ixb (by assumption) | exact rfl | (simp only [*]; exact rfl)))) gd_int) rfl rfl ⟨rfl, rfl⟩)

def R_l_apart (ds : List PyData) (d : PyData) : Prop := ∃ s t : Stp, ds = [s.toD, t.toD] ∧ d = .bool (apart s t)

theorem sc_l_apart : FnScope ["_law_one", "_law_other"] ["_law_one", "_law_other"] (defScope s_l_apart) := ⟨rfl, rfl, rfl, by decide +kernel, rfl, by decide +kernel, by decide +kernel⟩
theorem ok_l_apart (T : Txt K mg) : FnOk P w K mg base CX0 1 T.f_l_apart T.d_l_apart ["_law_one", "_law_other"] (SpD K R_l_apart) := by
  refine pure_def T.F_l_apart sc_l_apart (fun ds d h => ?_) (fun cdv A outer s H E B ds d hr h => ?_)
  · obtain ⟨s, t, rfl, rfl⟩ := h; rfl
  · obtain ⟨s, t, rfl, rfl⟩ := h
    have w1 := kd_shaped s.kd
    have w2 := kd_shaped t.kd
    refine gss_if (gt_of (gw_and (gt_in rfl (gd_ixT (gd_var (pv 0) rfl) gd_int (by (first | exact held_at _ | assumption | exact ixh | exact ixb (by assumption) | exact rfl | (simp only [*]; exact rfl)))) (gd_tup (ga_cons gd_str (ga_cons gd_str ga_nil)) (by (first | decide | (simp only [List.length_append, List.length_cons, List.length_nil, List.length_map, List.length_set, List.length_take, List.length_drop]; omega)))) (by (first | exact rfl | decide)) (by (first | exact rfl | decide))) (fun hh => by first | exact gw_dead (absurd hh (by (first | decide +kernel | (simp only [List.length_cons, List.length_nil, eqv_int]; decide) | (simp only [List.length_cons, List.length_nil, eqv_int, decide_eq_true_eq, decide_eq_false_iff_not]; omega)))) | exact (gw_and1 (gt_in rfl (gd_ixT (gd_var (pv 1) rfl) gd_int (by (first | exact held_at _ | assumption | exact ixh | exact ixb (by assumption) | exact rfl | (simp only [*]; exact rfl)))) (gd_tup (ga_cons gd_str (ga_cons gd_str ga_nil)) (by (first | decide | (simp only [List.length_append, List.length_cons, List.length_nil, List.length_map, List.length_set, List.length_take, List.length_drop]; omega)))) (by (first | exact rfl | decide)) (by (first | exact rfl | decide))))))) (fun h1 => ?_) (fun h1 => ?_)
    · (try (exact absurd h1 (by (first | decide +kernel | (simp only [List.length_cons, List.length_nil, eqv_int]; decide) | (simp only [List.length_cons, List.length_nil, eqv_int, decide_eq_true_eq, decide_eq_false_iff_not]; omega)))))
      all_goals (
        refine gss_ret (r := .dat _) gd_bl ?_
        show Sl.dat _ = Sl.dat _
        rw [kd_guard, kd_guard] at h1
        unfold apart
        rw [h1]; rfl
      )
    · (try (exact absurd h1 (by (first | decide +kernel | (simp only [List.length_cons, List.length_nil, eqv_int]; decide) | (simp only [List.length_cons, List.length_nil, eqv_int, decide_eq_true_eq, decide_eq_false_iff_not]; omega)))))
      all_goals (
        refine gss_nil ?_
        refine gss_if (gt_of (gw_and (gt_in rfl (gd_ixT (gd_var (pv 0) rfl) gd_int (by (first | exact held_at _ | assumption | exact ixh | exact ixb (by assumption) | exact rfl | (simp only [*]; exact rfl)))) (gd_tup (ga_cons gd_str (ga_cons gd_str (ga_cons gd_str ga_nil))) (by (first | decide | (simp only [List.length_append, List.length_cons, List.length_nil, List.length_map, List.length_set, List.length_take, List.length_drop]; omega)))) (by (first | exact rfl | decide)) (by (first | exact rfl | decide))) (fun hh => by first | exact gw_dead (absurd hh (by (first | decide +kernel | (simp only [List.length_cons, List.length_nil, eqv_int]; decide) | (simp only [List.length_cons, List.length_nil, eqv_int, decide_eq_true_eq, decide_eq_false_iff_not]; omega)))) | exact (gw_and (gt_in rfl (gd_ixT (gd_var (pv 1) rfl) gd_int (by (first | exact held_at _ | assumption | exact ixh | exact ixb (by assumption) | exact rfl | (simp only [*]; exact rfl)))) (gd_tup (ga_cons gd_str (ga_cons gd_str (ga_cons gd_str ga_nil))) (by (first | decide | (simp only [List.length_append, List.length_cons, List.length_nil, List.length_map, List.length_set, List.length_take, List.length_drop]; omega)))) (by (first | exact rfl | decide)) (by (first | exact rfl | decide))) (fun hh => by first | exact gw_dead (absurd hh (by (first | decide +kernel | (simp only [List.length_cons, List.length_nil, eqv_int]; decide) | (simp only [List.length_cons, List.length_nil, eqv_int, decide_eq_true_eq, decide_eq_false_iff_not]; omega)))) | exact (gw_and1 (gt_eq hr.units (gd_ixT (gd_var (pv 0) rfl) gd_int (by (first | exact held_at _ | assumption | exact ixh | exact ixb (by assumption) | exact rfl | (simp only [*]; exact rfl)))) (gd_ixT (gd_var (pv 1) rfl) gd_int (by (first | exact held_at _ | assumption | exact ixh | exact ixb (by assumption) | exact rfl | (simp only [*]; exact rfl)))) (by (first | exact shaped_int _ | exact shaped_bool _ | exact shaped_none | assumption | exact shaped_ints _ | exact shaped_str (by decide +kernel) | exact rfl | decide +kernel)) (by (first | exact shaped_int _ | exact shaped_bool _ | exact shaped_none | assumption | exact shaped_ints _ | exact shaped_str (by decide +kernel) | exact rfl | decide +kernel))))))))) (fun h2 => ?_) (fun h2 => ?_)
        · (try (exact absurd h2 (by (first | decide +kernel | (simp only [List.length_cons, List.length_nil, eqv_int]; decide) | (simp only [List.length_cons, List.length_nil, eqv_int, decide_eq_true_eq, decide_eq_false_iff_not]; omega)))))
          all_goals (
            refine gss_ret (r := .dat _) (gd_and (gd_ne hr.units (gd_ixT (gd_var (pv 0) rfl) gd_int (by (first | exact held_at _ | assumption | exact ixh | exact ixb (by assumption) | exact rfl | (simp only [*]; exact rfl)))) gd_str (by (first | exact shaped_int _ | exact shaped_bool _ | exact shaped_none | assumption | exact shaped_ints _ | exact shaped_str (by decide +kernel) | exact rfl | decide +kernel)) (by (first | exact shaped_int _ | exact shaped_bool _ | exact shaped_none | assumption | exact shaped_ints _ | exact shaped_str (by decide +kernel) | exact rfl | decide +kernel))) (fun hh => by first | exact gd_dead (absurd hh (by (first | decide +kernel | (simp only [List.length_cons, List.length_nil, eqv_int]; decide) | (simp only [List.length_cons, List.length_nil, eqv_int, decide_eq_true_eq, decide_eq_false_iff_not]; omega)))) | exact (gd_one (gd_ne hr.units (gd_ixT (gd_var (pv 1) rfl) gd_int (by (first | exact held_at _ | assumption | exact ixh | exact ixb (by assumption) | exact rfl | (simp only [*]; exact rfl)))) gd_str (by (first | exact shaped_int _ | exact shaped_bool _ | exact shaped_none | assumption | exact shaped_ints _ | exact shaped_str (by decide +kernel) | exact rfl | decide +kernel)) (by (first | exact shaped_int _ | exact shaped_bool _ | exact shaped_none | assumption | exact shaped_ints _ | exact shaped_str (by decide +kernel) | exact rfl | decide +kernel)))))) ?_
            show Sl.dat _ = Sl.dat _
            rw [kd_guard, kd_guard] at h1
            rw [kd_box, kd_box, eqv_int] at h2
            unfold apart
            rw [h1, h2, kd_store, kd_store]; rfl
          )
        · (try (exact absurd h2 (by (first | decide +kernel | (simp only [List.length_cons, List.length_nil, eqv_int]; decide) | (simp only [List.length_cons, List.length_nil, eqv_int, decide_eq_true_eq, decide_eq_false_iff_not]; omega)))))
          all_goals (
            refine gss_nil ?_
            refine gss_ret (r := .dat _) gd_bl ?_
            show Sl.dat _ = Sl.dat _
            rw [kd_guard, kd_guard] at h1
            rw [kd_box, kd_box, eqv_int] at h2
            unfold apart
            rw [h1, h2]; rfl
          )
      )
theorem sc_l_order_by : FnScope ["_law_cells_here", "_law_every", "_law_stand", "_law_order", "_law_k", "_law_turn", "_law_hand"] ["_law_cells_here", "_law_every", "_law_stand"] (defScope s_l_order_by) := ⟨rfl, rfl, rfl, by decide +kernel, rfl, by decide +kernel, by decide +kernel⟩
theorem ok_l_order_by (T : Txt K mg) : FnOk P w K mg base CX0 2 T.f_l_order_by T.d_l_order_by ["_law_cells_here", "_law_every", "_law_stand"] (SpM K R_l_order_by) := by
  refine mut_def0 T.F_l_order_by sc_l_order_by (fun as S PR PX h => ?_) (fun cdv A1 outer s H E B as S PR PX hr h => ?_)
  · obtain ⟨A, row, row1, bx, zs, ev, rfl, hev, hzl, rfl, j0, hbl, rfl, rfl⟩ := h; rfl
  · obtain ⟨A, row, row1, bx, zs, ev, rfl, hev, hzl, rfl, j0, hbl, rfl, rfl⟩ := h
    refine gss_then ?_
    refine gs_setF (i := 3) (gf_lst ga_nil (by show 0 ≤ 100000; decide)) sc_l_order_by.nd rfl (by first | exact .inl rfl | exact .inr rfl) fun p hp => ?_
    refine gss_pick (S2 := standS A (startL row row1 bx) ++ [(p, .lst (handsD []))]) [1, 2, 3, 4, 0] (by decide) rfl ?_
    refine gss_cons (M := fun Γ' S' => ∃ (st : LSt) (o : List Bool) (x4 x5 : Sl), Jn (startL row row1 bx) st o ∧ Γ' = [.dat (.list (zs.map .int)), .dat (.int ev), .raw (.ref A.s), .raw (.ref p), x4, .un, x5] ∧ S' = standS A st ++ [(p, .lst (handsD o))]) (gs_forR .never rfl rfl T.z_range (gd_callB call_len (ca_len (by first | exact .inl rfl | exact .inr rfl)) rfl T.z_len (by decide +kernel) (ga_cons (gd_var (pv 0) rfl) ga_nil)) ⟨by rw [List.length_map]; omega, by rw [List.length_map]; omega⟩ sc_l_order_by.nd (j := 4) rfl (by first | exact .inl rfl | exact .inr rfl) (fun _ Γ' S' => ∃ (st : LSt) (o : List Bool) (x4 x5 : Sl), Jn (startL row row1 bx) st o ∧ Γ' = [.dat (.list (zs.map .int)), .dat (.int ev), .raw (.ref A.s), .raw (.ref p), x4, .un, x5] ∧ S' = standS A st ++ [(p, .lst (handsD o))]) ⟨_, [], .un, .un, j0, rfl, rfl⟩ ?_ (fun _ _ h => h)) ?_
    · rintro i Γ' S' G0 hi ⟨st, o, x4, x5, jn, rfl, rfl⟩
      rw [List.length_map] at hi
      obtain ⟨z, hz⟩ : ∃ z, atI (zs.map PyData.int) ((i : Int) - (i : Int) % ev) = some (.int z) := by
        obtain ⟨q, hq⟩ : ∃ q : Nat, (i : Int) - (i : Int) % ev = (q : Int) := ⟨((i : Int) - (i : Int) % ev).toNat, by rcases hev with rfl | rfl <;> omega⟩
        have hq2 : q < zs.length := by rcases hev with rfl | rfl <;> omega
        rw [hq]
        exact ⟨zs[q], atI_nat (by rw [List.getElem?_map, List.getElem?_eq_getElem hq2]; rfl)⟩
      have hev0 : 0 < ev := by rcases hev with rfl | rfl <;> decide
      obtain ⟨hb, ehb⟩ := hand_of z
      have hol := jn.len
      refine gss_set (i := 6) sc_l_order_by.nd rfl (by first | exact .inl rfl | exact .inr rfl) (r := .dat (.int (hI hb))) (gd_cast (gd_mod (by (first | decide | omega)) (gd_ixL (gd_var (pv 0) rfl) (gd_sub (gd_var (pv 4) rfl) (gd_mod (by (first | decide | omega)) (gd_var (pv 4) rfl) (gd_var (pv 1) rfl))) (by (first | exact held_at _ | assumption | exact ixh | exact ixb (by assumption) | exact rfl | (simp only [*]; exact rfl)))) gd_int) (by rw [ehb])) ?_
      refine gss_cons (M := fun Γ' S' => ∃ b : Bool, Γ' = [.dat (.list (zs.map .int)), .dat (.int ev), .raw (.ref A.s), .raw (.ref p), .dat (.int (i : Int)), .un, .dat (.int (hI b))] ∧ S' = standS A st ++ [(p, .lst (handsD o))]) (gs_if (gt_not (gt_val (gd_callP (S1 := standS A st) (F := [(p, .lst (handsD o))]) (ok_l_can T) (hr.mono (by decide)) rfl T.m_l_can T.F_l_can.kp T.b_l_can (gas_cons (r := .raw _) (gr_var (pv 2) rfl) (gas_cons (r := .dat _) (gd_var (pv 6) rfl) gas_nil)) ⟨A, st, hb, rfl, rfl, jn.w, rfl, rfl⟩))) (fun _ => ?_) (fun _ => gss_nil ⟨hb, rfl, rfl⟩)) ?_
      · refine gss_set (i := 6) sc_l_order_by.nd rfl (by first | exact .inl rfl | exact .inr rfl) (r := .dat (.int (hI (!hb)))) (gd_cast (gd_sub gd_int (gd_var (pv 6) rfl)) (by rw [neg_hand])) (gss_nil ⟨!hb, rfl, rfl⟩)
      rintro Γ' S' ⟨b, rfl, rfl⟩
      refine gss_one (gs_if (gt_val (gd_callP (S1 := standS A st) (F := [(p, .lst (handsD o))]) (ok_l_can T) (hr.mono (by decide)) rfl T.m_l_can T.F_l_can.kp T.b_l_can (gas_cons (r := .raw _) (gr_var (pv 2) rfl) (gas_cons (r := .dat _) (gd_var (pv 6) rfl) gas_nil)) ⟨A, st, b, rfl, rfl, jn.w, rfl, rfl⟩)) (fun hc => ?_) (fun _ => gss_nil ⟨st, o, _, _, jn, rfl, rfl⟩))
      refine gss_then ?_
      refine gs_appO (n := 4) (gr_var (pv 3) rfl) (gd_var (pv 6) rfl) rfl (by rw [hands_len]; omega) ?_
      refine gss_at rfl (S2 := standS A st ++ [(p, .lst (handsD (o ++ [b])))]) (by rw [← hands_snoc]; rfl) ?_
      refine gss_one (gs_exprE (ge_mono (ge_call (S1 := standS A st) (F := [(p, .lst (handsD (o ++ [b])))]) (ok_l_done T) (hr.mono (by decide)) rfl T.m_l_done T.F_l_done.kp T.b_l_done (fun _ => GQ.p0At) (gas_cons (r := .raw _) (gr_var (pv 2) rfl) (gas_cons (r := .dat _) (gd_var (pv 6) rfl) gas_nil)) ⟨A, st, b, rfl, rfl, jn.w, jn.small, lcan_over hc, rfl, rfl⟩) (fun r S' h => ?_) fun _ _ ⟨_, h, _⟩ => h))
      obtain ⟨S1', ⟨_, rfl⟩, rfl⟩ := h
      exact ⟨st.done b, o ++ [b], _, _, jn.go hc, rfl, rfl⟩
    rintro Γ' S' ⟨st, o, x4, x5, jn, rfl, rfl⟩
    have q0 : atI [rowD st.r0, rowD st.r1] 0 = some (.list (st.r0.map Stp.toD)) := rfl
    have q1 : atI [rowD st.r0, rowD st.r1] 1 = some (.list (st.r1.map Stp.toD)) := rfl
    have e0 : st.r0 = row := jn.r0
    have e1 : st.r1 = row1 := jn.r1
    have hg0 := jn.w.g0.1
    have hg1 := jn.w.g1.1
    have hr0 : st.rem ≤ row.length + row1.length := by unfold LSt.rem; rw [e0, e1]; omega
    refine gss_cons (M := fun Γ' S' => ∃ (st : LSt) (o : List Bool) (x4 x5 x6 : Sl), Jn (startL row row1 bx) st o ∧ st.rem = 0 ∧ Γ' = [.dat (.list (zs.map .int)), .dat (.int ev), .raw (.ref A.s), .raw (.ref p), x4, x5, x6] ∧ S' = standS A st ++ [(p, .lst (handsD o))]) (gs_forR .never rfl rfl T.z_range (gd_add (gd_callB call_len (ca_len (by first | exact .inl rfl | exact .inr rfl)) rfl T.z_len (by decide +kernel) (ga_cons (gd_ixL (ge_ixS (n := 0) (gr_var (pv 2) rfl) gd_int rfl rfl) gd_int (by (first | exact held_at _ | assumption | exact ixh | exact ixb (by assumption) | exact rfl | (simp only [*]; exact rfl)))) ga_nil)) (gd_callB call_len (ca_len (by first | exact .inl rfl | exact .inr rfl)) rfl T.z_len (by decide +kernel) (ga_cons (gd_ixL (ge_ixS (n := 0) (gr_var (pv 2) rfl) gd_int rfl rfl) gd_int (by (first | exact held_at _ | assumption | exact ixh | exact ixb (by assumption) | exact rfl | (simp only [*]; exact rfl)))) ga_nil))) ⟨by simp only [List.length_map]; omega, by simp only [List.length_map]; omega⟩ sc_l_order_by.nd (j := 5) rfl (by first | exact .inl rfl | exact .inr rfl) (fun i Γ' S' => ∃ (st : LSt) (o : List Bool) (x4 x5 x6 : Sl), Jn (startL row row1 bx) st o ∧ (st.rem + i ≤ row.length + row1.length ∨ st.rem = 0) ∧ Γ' = [.dat (.list (zs.map .int)), .dat (.int ev), .raw (.ref A.s), .raw (.ref p), x4, x5, x6] ∧ S' = standS A st ++ [(p, .lst (handsD o))]) ⟨st, o, _, _, _, jn, .inl (by omega), rfl, rfl⟩ ?_ ?_) ?_
    · rintro i Γ' S' G0 hi ⟨st, o, x4, x5, x6, jn, hrm, rfl, rfl⟩
      have hol := jn.len
      obtain ⟨b, eb⟩ : ∃ b, b = !st.lcan false := ⟨_, rfl⟩
      refine gss_set (i := 6) sc_l_order_by.nd rfl (by first | exact .inl rfl | exact .inr rfl) (r := .dat (.int (hI b))) (gd_cast (gd_callTy call_int1 ca_intB rfl T.z_int (by decide +kernel) (ga_cons (gd_not (gd_callP (S1 := standS A st) (F := [(p, .lst (handsD o))]) (ok_l_can T) (hr.mono (by decide)) rfl T.m_l_can T.F_l_can.kp T.b_l_can (gas_cons (r := .raw _) (gr_var (pv 2) rfl) (gas_cons (r := .dat _) gd_int gas_nil)) ⟨A, st, false, rfl, rfl, jn.w, rfl, rfl⟩)) ga_nil)) (by rw [eb]; rfl)) ?_
      refine gss_one (gs_if (gt_val (gd_callP (S1 := standS A st) (F := [(p, .lst (handsD o))]) (ok_l_can T) (hr.mono (by decide)) rfl T.m_l_can T.F_l_can.kp T.b_l_can (gas_cons (r := .raw _) (gr_var (pv 2) rfl) (gas_cons (r := .dat _) (gd_var (pv 6) rfl) gas_nil)) ⟨A, st, b, rfl, rfl, jn.w, rfl, rfl⟩)) (fun hc => ?_) (fun hc => gss_nil ⟨st, o, _, _, _, jn, .inr (jn.left (by rw [← eb]; exact hc)), rfl, rfl⟩))
      refine gss_then ?_
      refine gs_appO (n := 4) (gr_var (pv 3) rfl) (gd_var (pv 6) rfl) rfl (by rw [hands_len]; omega) ?_
      refine gss_at rfl (S2 := standS A st ++ [(p, .lst (handsD (o ++ [b])))]) (by rw [← hands_snoc]; rfl) ?_
      refine gss_one (gs_exprE (ge_mono (ge_call (S1 := standS A st) (F := [(p, .lst (handsD (o ++ [b])))]) (ok_l_done T) (hr.mono (by decide)) rfl T.m_l_done T.F_l_done.kp T.b_l_done (fun _ => GQ.p0At) (gas_cons (r := .raw _) (gr_var (pv 2) rfl) (gas_cons (r := .dat _) (gd_var (pv 6) rfl) gas_nil)) ⟨A, st, b, rfl, rfl, jn.w, jn.small, lcan_over hc, rfl, rfl⟩) (fun r S' h => ?_) fun _ _ ⟨_, h, _⟩ => h))
      obtain ⟨S1', ⟨_, rfl⟩, rfl⟩ := h
      have hrr := jn.rem hc
      exact ⟨st.done b, o ++ [b], _, _, _, jn.go hc, by omega, rfl, rfl⟩
    · rintro Γ' S' ⟨st, o, x4, x5, x6, jn, hrm, rfl, rfl⟩
      refine ⟨st, o, x4, x5, x6, jn, ?_, rfl, rfl⟩
      simp only [List.length_map] at hrm
      rw [e0, e1] at hrm
      omega
    rintro Γ' S' ⟨st, o, x4, x5, x6, jn, hrm, rfl, rfl⟩
    refine gss_freeze 3 4 rfl rfl hp ?_
    exact gss_ret (r := .dat _) (gd_var (pv 3) rfl) ⟨o, st, jn, hrm, rfl, rfl⟩
end

def fD (f : Bool → Bool) : List PyData := [.bool (f false), .bool (f true)]
def aheadD : Option (List (Bool × Stp)) → PyData
  | none => .none
  | some l => .list (fD fun b => ahd b l)
def R_l_ahead (ds : List PyData) (d : PyData) : Prop := ∃ (row row1 : List Stp) (o : List Bool), ds = [.list (handsD o), .list [rowD row, rowD row1]] ∧ o.length ≤ 1000 ∧ zipO row row1 o ≠ none ∧ d = aheadD (zipO row row1 o)
theorem hit_snoc (b : Bool) (pre : List (Bool × Stp)) (d e : Bool × Stp) : hit b (pre ++ [d]) e = (hit b pre e || (!decide (e.1 = b) && (decide (d.1 = b) && !apart d.2 e.2))) := by
  unfold hit
  rw [List.any_append, List.any_cons, List.any_nil, Bool.or_false, Bool.and_or_distrib_left]
theorem fD_at (f : Bool → Bool) (b : Bool) : atI (fD f) (hI b) = some (.bool (f b)) := by cases b <;> rfl
theorem ix2 (b : Bool) (n : Nat) (h : n = 2) : ixN n (hI b) = some (if b then 1 else 0) := by subst h; cases b <;> rfl
theorem fD_hit {f : Bool → Bool} {pre : List (Bool × Stp)} {d e : Bool × Stp} (h1 : d.1 ≠ e.1) (h2 : apart d.2 e.2 = false) : (fD fun b => f b || hit b pre e).set (if d.1 then 1 else 0) (.bool true) = fD fun b => f b || hit b (pre ++ [d]) e := by
  obtain ⟨d1, d2⟩ := d
  obtain ⟨e1, e2⟩ := e
  simp only [hit_snoc, h2]
  cases d1 <;> cases e1 <;> first | exact absurd rfl h1 | simp [fD]
theorem fD_miss {f : Bool → Bool} {pre : List (Bool × Stp)} {d e : Bool × Stp} (h : d.1 = e.1 ∨ apart d.2 e.2 = true) : (fD fun b => f b || hit b pre e) = fD fun b => f b || hit b (pre ++ [d]) e := by
  obtain ⟨d1, d2⟩ := d
  obtain ⟨e1, e2⟩ := e
  simp only [hit_snoc]
  rcases h with h | h
  · simp only at h
    subst h
    cases d1 <;> simp [fD]
  · simp only at h
    rw [h]
    simp [fD]
theorem fD_next {l : List (Bool × Stp)} {e : Bool × Stp} : (fD fun b => ahd b l || hit b l e) = fD fun b => ahd b (l ++ [e]) := by
  simp only [ahd_snoc]

section
variable {P : Program} {w : World} {K : PySem.W.Frag} {mg : Str → Option Value} {base : Heap}
theorem sc_l_ahead : FnScope ["_law_order", "_law_rows", "_law_places", "_law_steps", "_law_found", "_law_hand", "_law_step", "_law_early"] ["_law_order", "_law_rows"] (defScope s_l_ahead) := ⟨rfl, rfl, rfl, by decide +kernel, rfl, by decide +kernel, by decide +kernel⟩
theorem ok_l_ahead (T : Txt K mg) : FnOk P w K mg base CX0 2 T.f_l_ahead T.d_l_ahead ["_law_order", "_law_rows"] (SpD K R_l_ahead) := by
  refine pure_def T.F_l_ahead sc_l_ahead (fun ds d h => ?_) (fun cdv A outer s H E B ds d hr h => ?_)
  · obtain ⟨row, row1, o, rfl, hol, hzo, rfl⟩ := h; rfl
  · obtain ⟨row, row1, o, rfl, hol, hzo, rfl⟩ := h
    refine gss_then ?_
    refine gs_setF (i := 2) (gf_lst (ga_cons gd_int (ga_cons gd_int ga_nil)) (by show 2 ≤ 100000; decide)) sc_l_ahead.nd rfl (by first | exact .inl rfl | exact .inr rfl) fun q hq => ?_
    refine gss_then ?_
    refine gs_setF (i := 3) (gf_lst ga_nil (by show 0 ≤ 100000; decide)) sc_l_ahead.nd rfl (by first | exact .inl rfl | exact .inr rfl) fun p hp => ?_
    refine gss_then ?_
    refine gs_setF (i := 4) (gf_lst (ga_cons gd_bl (ga_cons gd_bl ga_nil)) (by show 2 ≤ 100000; decide)) sc_l_ahead.nd rfl (by first | exact .inl rfl | exact .inr rfl) fun w0 hw0 => ?_
    refine gss_at (Γ2 := [.dat (.list (handsD o)), .dat (.list [rowD row, rowD row1]), .raw (.ref q), .raw (.ref p), .raw (.ref w0), .un, .un, .un]) (S2 := [(w0, .lst (fD fun b => ahd b [])), (p, .lst ([].map pairD)), (q, .lst [.int (cnt2 [] false : Nat), .int (cnt2 [] true : Nat)])]) rfl rfl ?_
    refine gss_cons (M := fun Γ' S' => ∃ (l : List (Bool × Stp)) (x5 x6 x7 : Sl), zipO row row1 o = some l ∧ Γ' = [.dat (.list (handsD o)), .dat (.list [rowD row, rowD row1]), .raw (.ref q), .raw (.ref p), .raw (.ref w0), x5, x6, x7] ∧ S' = [(w0, .lst (fD fun b => ahd b l)), (p, .lst (l.map pairD)), (q, .lst [.int (cnt2 l false : Nat), .int (cnt2 l true : Nat)])]) (gs_forL (ds := handsD o) .never rfl (gd_var (pv 0) rfl) sc_l_ahead.nd (j := 5) rfl (by first | exact .inl rfl | exact .inr rfl) (fun i Γ' S' => ∃ (l : List (Bool × Stp)) (x5 x6 x7 : Sl), zipO row row1 (o.take i) = some l ∧ Γ' = [.dat (.list (handsD o)), .dat (.list [rowD row, rowD row1]), .raw (.ref q), .raw (.ref p), .raw (.ref w0), x5, x6, x7] ∧ S' = [(w0, .lst (fD fun b => ahd b l)), (p, .lst (l.map pairD)), (q, .lst [.int (cnt2 l false : Nat), .int (cnt2 l true : Nat)])]) ⟨[], .un, .un, .un, rfl, rfl, rfl⟩ ?_ ?_) ?_
    · rintro i d Γ' S' G hd ⟨l, x5, x6, x7, hz, rfl, rfl⟩
      obtain ⟨b, hb, rfl⟩ := hands_at hd
      obtain ⟨z1, z2⟩ := zip_take hb hz
      have zb := zip_all hz
      have hll : l.length ≤ 1000 := by rw [zb.2, List.length_take]; omega
      have ri := rows_ix (row := row) (row1 := row1) b
      have ci := cnt_ix l b
      obtain ⟨t, ht⟩ : ∃ t, (rowOf row row1 b)[cnt2 l b]? = some t := by
        cases hx : (rowOf row row1 b)[cnt2 l b]? with
        | some t => exact ⟨t, rfl⟩
        | none => exact absurd (z2 hx) hzo
      have ti : atI ((rowOf row row1 b).map Stp.toD) (cnt2 l b : Nat) = some t.toD := atI_nat (by rw [List.getElem?_map, ht]; rfl)
      refine gss_set (i := 6) sc_l_ahead.nd rfl (by first | exact .inl rfl | exact .inr rfl) (r := .dat _) (gd_ixL (gd_ixL (gd_var (pv 1) rfl) (gd_var (pv 5) rfl) (by (first | exact held_at _ | assumption | exact ixh | exact ixb (by assumption) | exact rfl | (simp only [*]; exact rfl)))) (gd_ixO (n := 2) (gr_var (pv 2) rfl) (gd_var (pv 5) rfl) rfl (by (first | exact held_at _ | assumption | exact ixh | exact ixb (by assumption) | exact rfl | (simp only [*]; exact rfl)))) (by (first | exact held_at _ | assumption | exact ixh | exact ixb (by assumption) | exact rfl | (simp only [*]; exact rfl)))) ?_
      refine gss_then ?_
      refine gs_setO (n := 2) (m := if b then 1 else 0) (gr_var (pv 2) rfl) (gd_var (pv 5) rfl) (gd_add (gd_ixO (n := 2) (gr_var (pv 2) rfl) (gd_var (pv 5) rfl) rfl (by (first | exact held_at _ | assumption | exact ixh | exact ixb (by assumption) | exact rfl | (simp only [*]; exact rfl)))) gd_int) rfl (by cases b <;> rfl) ?_
      refine gss_cons (M := fun Γ' S' => ∃ y7, Γ' = [.dat (.list (handsD o)), .dat (.list [rowD row, rowD row1]), .raw (.ref q), .raw (.ref p), .raw (.ref w0), .dat (.int (hI b)), .dat t.toD, y7] ∧ S' = [(w0, .lst (fD fun b0 => ahd b0 l || hit b0 l (b, t))), (p, .lst (l.map pairD)), (q, .lst ([PyData.int (cnt2 l false : Nat), .int (cnt2 l true : Nat)].set (if b then 1 else 0) (.int ((cnt2 l b : Nat) + 1))))]) (gl_for (n := 3) (F := [(p, .lst (l.map pairD))]) .never rfl (pv 3) rfl (.inr ⟨p, rfl, List.mem_cons_self⟩) sc_l_ahead.nd (j := 7) rfl (by first | exact .inl rfl | exact .inr rfl) (fun j Γ' S' => ∃ y7, Γ' = [.dat (.list (handsD o)), .dat (.list [rowD row, rowD row1]), .raw (.ref q), .raw (.ref p), .raw (.ref w0), .dat (.int (hI b)), .dat t.toD, y7] ∧ S' = [(w0, .lst (fD fun b0 => ahd b0 l || hit b0 (l.take j) (b, t))), (p, .lst (l.map pairD)), (q, .lst ([PyData.int (cnt2 l false : Nat), .int (cnt2 l true : Nat)].set (if b then 1 else 0) (.int ((cnt2 l b : Nat) + 1))))]) ⟨x7, rfl, ?_⟩ (fun j Γ' S' h e he => ?_) ?_ ?_) ?_
      · rw [List.take_zero]
        have e : ∀ b0, hit b0 [] (b, t) = false := fun b0 => by unfold hit; rw [List.any_nil, Bool.and_false]
        simp only [e, Bool.or_false]
        rfl
      · obtain ⟨y7, rfl, rfl⟩ := h
        simp only [List.mem_cons, List.not_mem_nil, or_false] at he
        subst he
        exact List.mem_cons_of_mem _ List.mem_cons_self
      · rintro j dd Γ' S' G2 hdd ⟨y7, rfl, rfl⟩
        obtain ⟨e, he, rfl⟩ : ∃ e, l[j]? = some e ∧ dd = pairD e := by
          rw [List.getElem?_map] at hdd
          cases hq2 : l[j]? with
          | none => rw [hq2] at hdd; cases hdd
          | some e => rw [hq2] at hdd; cases hdd; exact ⟨e, rfl, rfl⟩
        have e0 : atI [PyData.int (hI e.1), e.2.toD] 0 = some (.int (hI e.1)) := atI_nat (j := 0) rfl
        have e1 : atI [PyData.int (hI e.1), e.2.toD] 1 = some e.2.toD := atI_nat (j := 1) rfl
        have nx : l.take (j + 1) = l.take j ++ [e] := ahd_at (b := true) he
        refine gss_one (gs_if (gt_of (gw_and (gt_ne hr.units (gd_ixT (gd_var (pv 7) rfl) gd_int (by (first | exact held_at _ | assumption | exact ixh | exact ixb (by assumption) | exact rfl | (simp only [*]; exact rfl)))) (gd_var (pv 5) rfl) (by (first | exact shaped_int _ | exact shaped_bool _ | exact shaped_none | assumption | exact shaped_ints _ | exact shaped_str (by decide +kernel) | exact rfl | decide +kernel)) (by (first | exact shaped_int _ | exact shaped_bool _ | exact shaped_none | assumption | exact shaped_ints _ | exact shaped_str (by decide +kernel) | exact rfl | decide +kernel))) (fun hh => by first | exact gw_dead (absurd hh (by (first | decide +kernel | (simp only [List.length_cons, List.length_nil, eqv_int]; decide) | (simp only [List.length_cons, List.length_nil, eqv_int, decide_eq_true_eq, decide_eq_false_iff_not]; omega)))) | exact (gw_and1 (gt_not (gt_val (gd_call (ok_l_apart T) (hr.mono (by decide)) rfl T.m_l_apart T.F_l_apart.kp T.b_l_apart pass0 (ga_cons (gd_ixT (gd_var (pv 7) rfl) gd_int (by (first | exact held_at _ | assumption | exact ixh | exact ixb (by assumption) | exact rfl | (simp only [*]; exact rfl)))) (ga_cons (gd_var (pv 6) rfl) ga_nil)) (by (exact ⟨_, _, rfl, rfl⟩))))))))) (fun h2 => ?_) (fun h2 => ?_))
        · rw [eqv_hand, Bool.and_eq_true] at h2
          refine gss_one (gs_setO (n := 0) (m := if e.1 then 1 else 0) (gr_var (pv 4) rfl) (gd_ixT (gd_var (pv 7) rfl) gd_int (by (first | exact held_at _ | assumption | exact ixh | exact ixb (by assumption) | exact rfl | (simp only [*]; exact rfl)))) gd_bl rfl (by cases e.1 <;> rfl) ⟨_, rfl, ?_⟩)
          rw [nx, ← fD_hit (by simpa using h2.1) (by simpa using h2.2)]
          rfl
        · rw [eqv_hand, Bool.and_eq_false_iff] at h2
          refine gss_nil ⟨_, rfl, ?_⟩
          rw [nx, ← fD_miss (h2.imp (fun z => by simpa using z) fun z => by simpa using z)]
      · rintro Γ' S' ⟨y7, rfl, rfl⟩
        rw [List.length_map, List.take_length]
        exact ⟨y7, rfl, rfl⟩
      rintro Γ' S' ⟨y7, rfl, rfl⟩
      refine gss_one (gs_appO (n := 1) (gr_var (pv 3) rfl) (gd_tup (ga_cons (gd_var (pv 5) rfl) (ga_cons (gd_var (pv 6) rfl) ga_nil)) (by (first | decide | (simp only [List.length_append, List.length_cons, List.length_nil, List.length_map, List.length_set, List.length_take, List.length_drop]; omega)))) rfl (by rw [List.length_map]; omega) ⟨_, _, _, _, z1 t ht, rfl, ?_⟩)
      show [(w0, OV.lst _), (p, OV.lst (l.map pairD ++ [pairD (b, t)])), (q, _)] = _
      rw [fD_next, List.map_append, cnt_snoc, cnt_snoc]
      cases b <;> rfl
    · rintro Γ' S' ⟨l, x5, x6, x7, hz, rfl, rfl⟩
      have e : (handsD o).length = o.length := by unfold handsD; rw [List.length_map]
      rw [e, List.take_length] at hz
      exact ⟨l, x5, x6, x7, hz, rfl, rfl⟩
    · rintro Γ' S' ⟨l, x5, x6, x7, hz, rfl, rfl⟩
      exact gss_one (gs_retE (ge_mono (ge_freeze (n := 0) (gr_var (pv 4) rfl) rfl hw0) (fun r S' h => by show r = _; rw [h.1, hz]; rfl) fun _ _ h => h))
theorem sc_l_pair : FnScope ["_law_told", "_law_due"] ["_law_told", "_law_due"] (defScope s_l_pair) := ⟨rfl, rfl, rfl, by decide +kernel, rfl, by decide +kernel, by decide +kernel⟩
theorem ok_l_pair (T : Txt K mg) : FnOk P w K mg base CX0 1 T.f_l_pair T.d_l_pair ["_law_told", "_law_due"] (SpD K R_l_pair) := by
  refine pure_def T.F_l_pair sc_l_pair (fun ds d h => ?_) (fun cdv A outer s H E B ds d hr h => ?_)
  · obtain ⟨x, y, rfl, rfl⟩ := h; rfl
  · obtain ⟨x, y, rfl, rfl⟩ := h
    have f0 : atI [PyData.bool x, .bool y] 0 = some (.bool x) := atI_nat (j := 0) rfl
    have f1 : atI [PyData.bool x, .bool y] 1 = some (.bool y) := atI_nat (j := 1) rfl
    refine gss_if (gt_of (gw_or (gt_not (gt_val (gd_isi (n := "tuple") rfl T.z_isinstance (by decide +kernel) (pe_bltn rfl T.z_tuple (by decide +kernel) rfl) (gd_var (pv 0) rfl) (by first | exact kit_tuple_tuple | exact kit_list_tuple | exact kit_int_tuple | exact kit_bool_tuple | exact kit_str_tuple | exact kit_NoneType_tuple | exact kit_dict_tuple)))) (fun hh => by first | exact gw_dead (absurd hh (by (first | decide +kernel | (simp only [List.length_cons, List.length_nil, eqv_int]; decide) | (simp only [List.length_cons, List.length_nil, eqv_int, decide_eq_true_eq, decide_eq_false_iff_not]; omega)))) | exact (gw_or (gt_ne hr.units (gd_callB call_len (ca_len (by first | exact .inl rfl | exact .inr rfl)) rfl T.z_len (by decide +kernel) (ga_cons (gd_var (pv 0) rfl) ga_nil)) gd_int (by (first | exact shaped_int _ | exact shaped_bool _ | exact shaped_none | assumption | exact shaped_ints _ | exact shaped_str (by decide +kernel) | exact rfl | decide +kernel)) (by (first | exact shaped_int _ | exact shaped_bool _ | exact shaped_none | assumption | exact shaped_ints _ | exact shaped_str (by decide +kernel) | exact rfl | decide +kernel))) (fun hh => by first | exact gw_dead (absurd hh (by (first | decide +kernel | (simp only [List.length_cons, List.length_nil, eqv_int]; decide) | (simp only [List.length_cons, List.length_nil, eqv_int, decide_eq_true_eq, decide_eq_false_iff_not]; omega)))) | exact (gw_or (gt_not (gt_val (gd_isi (n := "bool") rfl T.z_isinstance (by decide +kernel) (pe_bltn rfl T.z_bool (by decide +kernel) rfl) (gd_ixT (gd_var (pv 0) rfl) gd_int (by (first | exact held_at _ | assumption | exact ixh | exact ixb (by assumption) | exact rfl | (simp only [*]; exact rfl)))) (by first | exact kit_tuple_bool | exact kit_list_bool | exact kit_int_bool | exact kit_bool_bool | exact kit_str_bool | exact kit_NoneType_bool | exact kit_dict_bool)))) (fun hh => by first | exact gw_dead (absurd hh (by (first | decide +kernel | (simp only [List.length_cons, List.length_nil, eqv_int]; decide) | (simp only [List.length_cons, List.length_nil, eqv_int, decide_eq_true_eq, decide_eq_false_iff_not]; omega)))) | exact (gw_or1 (gt_not (gt_val (gd_isi (n := "bool") rfl T.z_isinstance (by decide +kernel) (pe_bltn rfl T.z_bool (by decide +kernel) rfl) (gd_ixT (gd_var (pv 0) rfl) gd_int (by (first | exact held_at _ | assumption | exact ixh | exact ixb (by assumption) | exact rfl | (simp only [*]; exact rfl)))) (by first | exact kit_tuple_bool | exact kit_list_bool | exact kit_int_bool | exact kit_bool_bool | exact kit_str_bool | exact kit_NoneType_bool | exact kit_dict_bool)))))))))))) (fun h1 => ?_) (fun h1 => ?_)
    · (try (exact absurd h1 (by (first | decide +kernel | (simp only [List.length_cons, List.length_nil, eqv_int]; decide) | (simp only [List.length_cons, List.length_nil, eqv_int, decide_eq_true_eq, decide_eq_false_iff_not]; omega)))))
      all_goals (
        refine gss_ret (r := .dat _) gd_bl ?_
        (first | exact rfl | (simp only [*]; done) | (simp only [*]; exact rfl))
      )
    · (try (exact absurd h1 (by (first | decide +kernel | (simp only [List.length_cons, List.length_nil, eqv_int]; decide) | (simp only [List.length_cons, List.length_nil, eqv_int, decide_eq_true_eq, decide_eq_false_iff_not]; omega)))))
      all_goals (
        refine gss_nil ?_
        refine gss_ret (r := .dat _) (gd_and (gd_eq hr.units (gd_ixT (gd_var (pv 0) rfl) gd_int (by (first | exact held_at _ | assumption | exact ixh | exact ixb (by assumption) | exact rfl | (simp only [*]; exact rfl)))) (gd_ixL (gd_var (pv 1) rfl) gd_int (by (first | exact held_at _ | assumption | exact ixh | exact ixb (by assumption) | exact rfl | (simp only [*]; exact rfl)))) (by (first | exact shaped_int _ | exact shaped_bool _ | exact shaped_none | assumption | exact shaped_ints _ | exact shaped_str (by decide +kernel) | exact rfl | decide +kernel)) (by (first | exact shaped_int _ | exact shaped_bool _ | exact shaped_none | assumption | exact shaped_ints _ | exact shaped_str (by decide +kernel) | exact rfl | decide +kernel))) (fun hh => by first | exact gd_dead (absurd hh (by (first | decide +kernel | (simp only [List.length_cons, List.length_nil, eqv_int]; decide) | (simp only [List.length_cons, List.length_nil, eqv_int, decide_eq_true_eq, decide_eq_false_iff_not]; omega)))) | exact (gd_one (gd_eq hr.units (gd_ixT (gd_var (pv 0) rfl) gd_int (by (first | exact held_at _ | assumption | exact ixh | exact ixb (by assumption) | exact rfl | (simp only [*]; exact rfl)))) (gd_ixL (gd_var (pv 1) rfl) gd_int (by (first | exact held_at _ | assumption | exact ixh | exact ixb (by assumption) | exact rfl | (simp only [*]; exact rfl)))) (by (first | exact shaped_int _ | exact shaped_bool _ | exact shaped_none | assumption | exact shaped_ints _ | exact shaped_str (by decide +kernel) | exact rfl | decide +kernel)) (by (first | exact shaped_int _ | exact shaped_bool _ | exact shaped_none | assumption | exact shaped_ints _ | exact shaped_str (by decide +kernel) | exact rfl | decide +kernel)))))) ?_
        exact congrArg (fun z => Sl.dat (.bool z)) (by rw [eqv_bool, eqv_bool]; simp)
      )
theorem sc_l_more : FnScope ["_law_ones", "_law_others", "_law_order"] ["_law_ones", "_law_others", "_law_order"] (defScope s_l_more) := ⟨rfl, rfl, rfl, by decide +kernel, rfl, by decide +kernel, by decide +kernel⟩
theorem ok_l_more (T : Txt K mg) (TB : GxR.TabB base mg T.c_is_ahead T.P_is_ahead) : FnOk P w K mg base CX0 7 T.f_l_more T.d_l_more ["_law_ones", "_law_others", "_law_order"] (SpM K (R_l_more T)) := by
  refine mut_def0 T.F_l_more sc_l_more (fun as S PR PX h => ?_) (fun cdv A outer s H E B as S PR PX hr h => ?_)
  · obtain ⟨row, row1, o, ps, rfl, hol, hz, tr, rfl, rfl, rfl⟩ := h; rfl
  · obtain ⟨row, row1, o, ps, rfl, hol, hz, tr, rfl, rfl, rfl⟩ := h
    refine gss_then ?_
    refine gs_tryM (l := [(.ref T.C_NoTurn, (fun Γ' S' => Γ' = [.dat (rowD row), .dat (rowD row1), .dat (.list (handsD o))] ∧ S' = [(T.P_is_ahead, .ho (.tbl ps))]))]) rfl rfl (fun cls Γ' S' => cls = .ref T.C_NoTurn ∧ Γ' = [.dat (rowD row), .dat (rowD row1), .dat (.list (handsD o))] ∧ S' = [(T.P_is_ahead, .ho (.tbl ps))]) (fun W pn xe tkW hpo => ?_) ?_ ?_
    · refine gss_one (gs_exprE (ge_mono (ge_call (S1 := [(T.P_is_ahead, .ho (.tbl ps))]) (F := []) (ok_ahead T TB) (hr.mono (by decide)) rfl T.m_ahead T.F_ahead.kp T.b_ahead (fun σ => L2N.passAt tkW σ) (gas_cons (r := .dat _) (gd_var (pv 0) rfl) (gas_cons (r := .dat _) (gd_var (pv 1) rfl) (gas_cons (r := .dat _) (gd_var (pv 2) rfl) gas_nil))) ⟨row, row1, o, ps, rfl, hol, tr, rfl, rfl, rfl⟩) (fun r S' h => ?_) (fun cls S' h => ?_)))
      · obtain ⟨S1', ⟨l, hl, _⟩, rfl⟩ := h
        rw [hz] at hl
        cases hl
      · obtain ⟨S1', ⟨_, rfl, rfl⟩, rfl⟩ := h
        exact ⟨rfl, rfl, rfl⟩
    · rintro cls Γ' S' ⟨rfl, rfl, rfl⟩
      exact ⟨true, T.ex_NoTurn_NoTurn, fun _ => ⟨rfl, rfl⟩, fun h => (nomatch h)⟩
    · exact (.cons ⟨rfl, by decide, .inl T.g_NoTurn⟩ (fun a oe pn Γ' S' ⟨h1, h2⟩ => by subst h1 h2; exact gss_ret (r := .dat _) gd_bl ⟨rfl, ps, tr, rfl⟩) .nil)
end
/-! ### the law: a pure def that is told by a call; the plain order -/
section
open G
theorem ge_callA {X : Cx} {B : Bs} {Γ : Gam} {S : Sto} {CX : CXT} {n : Nat} {f : Addr} {fd : FuncData} {ps : List Str} {R : List PyData → PyData → Prop} {E : XK} {x : Str} {p pos : Pos} {e : Expr} {es : List Expr} {Pe : Sl → Sto → Prop} {ex : Value → Gam → Sto → Prop} (F : FnOk X.prog X.w X.K X.mg X.base CX n f fd ps (SpD X.K R)) (hr : Room n X.A) (hg : Gl X x) (hm : X.mg x = some (.ref f)) (hk : PySem.W.keepIn X.K (.ref f) = true) (hb : Binds X.K fd ps []) (hx : Passes CX X E)
    (ha : GEA X B Γ S (e :: es) (fun as S' => ∃ ds d, as = ds.map Sl.dat ∧ R ds d ∧ Pe (.dat d) S')) (hdb : (x == ("__debug__" : Str)) = false := by decide) (he : starEach (e :: es) X.env = (false, eval e X.env) :: starEach es X.env := by rfl) (hpl : (backTo pos (starEach es X.env)).any (·.1) = false := by rfl) :
    GE X B Γ S (.Call (.Name x p) (e :: es) [] pos) Pe ex := (pe_call F hr hg hm hk hb .nil hx ha hdb he hpl).imp fun σ H Q ⟨H0, at0, k, _⟩ => ⟨H0, at0, fun as S' vs H1 H' ⟨ds, d, ea, hR, hp⟩ at1 e1 hvs => by
  subst ea
  have hd : ∀ {vs : List V} {ds : List PyData}, ArgsOk X.K H1 vs (ds.map Sl.dat) → DpAll X.K H1 vs ds := by
    intro vs ds
    induction ds generalizing vs with
    | nil => intro h; cases h; exact .nil
    | cons d ds ih => intro h; cases h with | cons a b => exact .cons a.toDp (ih b)
  show SpD X.K R (vs ++ []) H' Q E
  rw [List.append_nil]
  exact ⟨H1, ds, d, at1.e2, hR, hd hvs, fun v H2 H2' x2 hv => k _ S' v H2 H2' hp (at1.ext x2) (e1.trans x2.e0) ⟨v, rfl, hv⟩⟩⟩
end
structure Pn (z s : LSt) (q : List Bool) : Prop where
  w : Wf s
  bd : Bnd (200 + (s.p0 + s.p1)) s
  wk : walk s q = (none, z)
theorem Pn.small {z s : LSt} {q : List Bool} (h : Pn z s q) : SmallL s := h.bd.small (by
  have h1 := h.w.l0
  have h2 := h.w.l1
  have h3 := h.w.g0.1
  have h4 := h.w.g1.1
  omega) (by omega)
theorem Pn.over {z s : LSt} {b : Bool} {q : List Bool} (h : Pn z s (b :: q)) : s.over b = false := over_of (walk_cons h.wk).1
theorem Pn.go {z s : LSt} {b : Bool} {q : List Bool} (h : Pn z s (b :: q)) : Pn z (s.done b) q := by
  obtain ⟨he, h2⟩ := walk_cons h.wk
  exact ⟨h.w.done he, by rw [done_ps]; exact h.bd.done (by omega) h.w he, h2⟩
def tailP (row row1 : List Stp) (b : Bool) : Nat → List Bool
  | 0 => List.replicate (rowOf row row1 b).length b ++ List.replicate (rowOf row row1 (!b)).length (!b)
  | 1 => List.replicate (rowOf row row1 (!b)).length (!b)
  | _ => []
theorem tail_step {row row1 : List Stp} {b : Bool} {j : Nat} {d : PyData} (h : [PyData.int (hI b), .int (hI (!b))][j]? = some d) : ∃ x, d = .int (hI x) ∧ tailP row row1 b j = List.replicate (rowOf row row1 x).length x ++ tailP row row1 b (j + 1) := by
  match j, h with
  | 0, h => cases h; exact ⟨b, rfl, rfl⟩
  | 1, h => cases h; exact ⟨!b, rfl, (List.append_nil _).symm⟩
  | j + 2, h => simp at h
theorem zipO_some {row row1 : List Stp} {o : List Bool} (h : zipO row row1 o ≠ none) : ∃ l, zipO row row1 o = some l := by
  cases q : zipO row row1 o with
  | none => exact absurd q h
  | some l => exact ⟨l, rfl⟩

section
variable {P : Program} {w : World} {K : PySem.W.Frag} {mg : Str → Option Value} {base : Heap}
theorem sc_law : FnScope ["_law_script", "_law_many", "_law_boxes", "_law_size", "_law_first", "_law_second", "_law_start", "_law_rows", "_law_stand", "_law_every", "_law_order", "_law_due", "_law_told", "_law_cut", "_law_more_here", "_law_found", "_law_lead", "_law_k", "_law_other", "_law_hand", "_law_step"] ["_law_script"] (defScope s_law) := ⟨rfl, rfl, rfl, by decide +kernel, rfl, by decide +kernel, by decide +kernel⟩
theorem ok_law (T : Txt K mg) (TB : GxR.TabB base mg T.c_is_ahead T.P_is_ahead) : FnOk P w K mg base CX0 9 T.f_law T.d_law ["_law_script"] (SpM K (R_law T)) := by
  refine mut_def0 T.F_law sc_law (fun as S PR PX h => ?_) (fun cdv A0 outer s H E B as S PR PX hr h => ?_)
  · obtain ⟨ns, rfl, hs, hl, rfl, rfl, rfl⟩ := h; rfl
  · obtain ⟨ns, rfl, hs, hl, rfl, rfl, rfl⟩ := h
    have im : ∀ (z : Int) (k : Bool), z.natAbs ≤ 22 → IntMulOk z (if k = true then 1 else 0) := fun z k hz => mul_ok (small_of (k := 8) (by decide) (by decide) (Nat.lt_of_le_of_lt hz (by decide))) (by cases k <;> decide)
    refine gss_set (i := 1) sc_law.nd rfl (by first | exact .inl rfl | exact .inr rfl) (r := .dat _) (gd_add gd_int (gd_mod (by (first | decide | omega)) (gd_call (ok_l_cell_at T) (hr.mono (by decide)) rfl T.m_l_cell_at T.F_l_cell_at.kp T.b_l_cell_at pass0 (ga_cons (gd_var (pv 0) rfl) (ga_cons gd_int ga_nil)) (by (exact ⟨_, _, rfl, by first | decide | omega, rfl⟩))) gd_int)) ?_
    refine gss_join (fun Γ (x : Int) => Γ.set 1 (.dat (.int x))) (fun x => 0 < x ∧ x ≤ 9) (gt_eq hr.units (gd_mod (by (first | decide | omega)) (gd_fdiv (by (exact ⟨by decide, by decide⟩)) (gd_call (ok_l_cell_at T) (hr.mono (by decide)) rfl T.m_l_cell_at T.F_l_cell_at.kp T.b_l_cell_at pass0 (ga_cons (gd_var (pv 0) rfl) (ga_cons gd_int ga_nil)) (by (exact ⟨_, _, rfl, by first | decide | omega, rfl⟩))) gd_int) gd_int) gd_int (by (first | exact shaped_int _ | exact shaped_bool _ | exact shaped_none | assumption | exact shaped_ints _ | exact shaped_str (by decide +kernel) | exact rfl | decide +kernel)) (by (first | exact shaped_int _ | exact shaped_bool _ | exact shaped_none | assumption | exact shaped_ints _ | exact shaped_str (by decide +kernel) | exact rfl | decide +kernel))) (fun _ => ?_) (fun _ => gss_nil ⟨_, by omega, rfl, rfl⟩) ?_
    · refine gss_set (i := 1) sc_law.nd rfl (by first | exact .inl rfl | exact .inr rfl) (r := .dat _) (gd_add gd_int (gd_mod (by (first | decide | omega)) (gd_fdiv (by (exact ⟨by decide, by decide⟩)) (gd_call (ok_l_cell_at T) (hr.mono (by decide)) rfl T.m_l_cell_at T.F_l_cell_at.kp T.b_l_cell_at pass0 (ga_cons (gd_var (pv 0) rfl) (ga_cons gd_int ga_nil)) (by (exact ⟨_, _, rfl, by first | decide | omega, rfl⟩))) gd_int) gd_int)) ?_
      exact gss_nil ⟨_, by omega, rfl, rfl⟩
    rintro m ⟨hm0, hm9⟩
    refine gss_then ?_
    refine gs_setLcR (j := 17) 2 (fun k : Nat => .int (num (cell ns 0 / 18 + 5 * (k : Int)))) rfl rfl (sw_true rfl rfl rfl (by decide +kernel)) rfl sc_law.nd rfl T.z_range (gd_var (pv 1) rfl) ⟨by omega, by omega⟩ (blkOk_by (own := [("_law_k", 17)]) (N := ["_law_script", "_law_many", "_law_boxes", "_law_size", "_law_first", "_law_second", "_law_start", "_law_rows", "_law_stand", "_law_every", "_law_order", "_law_due", "_law_told", "_law_cut", "_law_more_here", "_law_found", "_law_lead", "_law_k", "_law_other", "_law_hand", "_law_step"]) (sc := defScope s_law) (by decide +kernel)) (fun _ _ _ _ _ => pg_name (i := 17) sc_law.nd rfl (Or.inl rfl)) (fun i D acc hi _ _ _ _ _ => by
      have hm5 : IntMulOk 5 (i : Int) := mul_ok (by decide) (small_of (k := 8) (by decide) (by decide) (by omega))
      have hsm : Small (cell ns 0 / 18 + 5 * (i : Int)) := bxG_small hs (by omega)
      exact (gd_call (ok_l_number_by T) (hr.mono (by decide)) rfl T.m_l_number_by T.F_l_number_by.kp T.b_l_number_by pass0 (ga_cons (gd_add (gd_fdiv (by (exact ⟨by decide, by decide⟩)) (gd_call (ok_l_cell_at T) (hr.mono (by decide)) rfl T.m_l_cell_at T.F_l_cell_at.kp T.b_l_cell_at pass0 (ga_cons (gd_var (pv 0) rfl) (ga_cons gd_int ga_nil)) (by (exact ⟨_, _, rfl, by first | decide | omega, rfl⟩))) gd_int) (gd_mul (by (first | assumption | exact im _ _ (by decide))) gd_int (gd_var (pv 17) rfl))) ga_nil) (by (exact ⟨_, rfl, by first | assumption | exact cell_small (by assumption) _ | exact small_le (by assumption) (by omega), rfl⟩)))) (q := ?_)
    rw [bxG_map ns m]
    obtain ⟨bx, ebx⟩ : ∃ b, b = bxG ns m := ⟨_, rfl⟩
    rw [← ebx]
    have hbl : bx.length = m.toNat := by rw [ebx]; unfold bxG; rw [List.length_map, List.length_range]
    have hb200 : ∀ x ∈ bx, x.natAbs < 2 ^ 200 := fun x hx => by
      rw [ebx] at hx
      obtain ⟨k, _, rfl⟩ := List.mem_map.mp hx
      exact num_lt _
    obtain ⟨sz, esz⟩ : ∃ z : Int, z = 9 + 22 * (if PyData.eqv (.int (cell ns 4 % 8)) (.int 1) = true then 1 else 0) := ⟨_, rfl⟩
    have hsz : sz = 9 ∨ sz = 31 := by rw [esz]; split <;> omega
    have hsz0 : 0 < sz := by omega
    refine gss_set (i := 3) sc_law.nd rfl (by first | exact .inl rfl | exact .inr rfl) (r := .dat (.int sz)) (gd_cast (gd_add gd_int (gd_mul (by (first | assumption | exact im _ _ (by decide))) gd_int (gd_callTy call_int1 ca_intB rfl T.z_int (by decide +kernel) (ga_cons (gd_eq hr.units (gd_mod (by (first | decide | omega)) (gd_call (ok_l_cell_at T) (hr.mono (by decide)) rfl T.m_l_cell_at T.F_l_cell_at.kp T.b_l_cell_at pass0 (ga_cons (gd_var (pv 0) rfl) (ga_cons gd_int ga_nil)) (by (exact ⟨_, _, rfl, by first | decide | omega, rfl⟩))) gd_int) gd_int (by (first | exact shaped_int _ | exact shaped_bool _ | exact shaped_none | assumption | exact shaped_ints _ | exact shaped_str (by decide +kernel) | exact rfl | decide +kernel)) (by (first | exact shaped_int _ | exact shaped_bool _ | exact shaped_none | assumption | exact shaped_ints _ | exact shaped_str (by decide +kernel) | exact rfl | decide +kernel))) ga_nil)))) (by rw [esz])) ?_
    refine gss_set (i := 4) sc_law.nd rfl (by first | exact .inl rfl | exact .inr rfl) (r := .dat _) (gd_mod (by (first | decide | omega)) (gd_call (ok_l_cell_at T) (hr.mono (by decide)) rfl T.m_l_cell_at T.F_l_cell_at.kp T.b_l_cell_at pass0 (ga_cons (gd_var (pv 0) rfl) (ga_cons gd_int ga_nil)) (by (exact ⟨_, _, rfl, by first | decide | omega, rfl⟩))) (gd_var (pv 3) rfl)) ?_
    refine gss_set (i := 5) sc_law.nd rfl (by first | exact .inl rfl | exact .inr rfl) (r := .dat _) (gd_mod (by (first | decide | omega)) (gd_call (ok_l_cell_at T) (hr.mono (by decide)) rfl T.m_l_cell_at T.F_l_cell_at.kp T.b_l_cell_at pass0 (ga_cons (gd_var (pv 0) rfl) (ga_cons gd_int ga_nil)) (by (exact ⟨_, _, rfl, by first | decide | omega, rfl⟩))) (gd_var (pv 3) rfl)) ?_
    obtain ⟨a0, ea0⟩ : ∃ a, a = cell ns 1 % sz := ⟨_, rfl⟩
    obtain ⟨a1, ea1⟩ : ∃ a, a = cell ns 2 % sz := ⟨_, rfl⟩
    have ha0 : 0 ≤ a0 ∧ a0 ≤ 30 := by rcases hsz with rfl | rfl <;> omega
    have ha1 : 0 ≤ a1 ∧ a1 ≤ 30 := by rcases hsz with rfl | rfl <;> omega
    rw [← ea0, ← ea1]
    refine gss_set (i := 6) sc_law.nd rfl (by first | exact .inl rfl | exact .inr rfl) (r := .dat _) (gd_add gd_int (gd_callB (call_min2 rfl) ca_min2 rfl T.z_min (by decide +kernel) (ga_cons (gd_var (pv 4) rfl) (ga_cons gd_int ga_nil)))) ?_
    obtain ⟨ss, ess⟩ : ∃ a, a = 6 + (if (20 : Int) < a0 then 20 else a0) := ⟨_, rfl⟩
    have hss : 0 ≤ ss := by rw [ess]; split <;> omega
    rw [← ess]
    refine gss_set (i := 7) sc_law.nd rfl (by first | exact .inl rfl | exact .inr rfl) (r := .dat _) (gd_lst (ga_cons (gd_call (ok_l_row_by T) (hr.mono (by decide)) rfl T.m_l_row_by T.F_l_row_by.kp T.b_l_row_by pass0 (ga_cons (gd_call (ok_l_cells T) (hr.mono (by decide)) rfl T.m_l_cells T.F_l_cells.kp T.b_l_cells pass0 (ga_cons (gd_var (pv 0) rfl) (ga_cons gd_int (ga_cons (gd_var (pv 4) rfl) ga_nil))) (by (exact ⟨_, _, _, rfl, hs, by omega, by omega, by omega, rfl⟩))) (ga_cons (gd_var (pv 1) rfl) ga_nil)) (by (exact ⟨_, _, rfl, cellsN_small hs _ (by omega), hm0, by rw [cellsN_len]; omega, rfl⟩))) (ga_cons (gd_call (ok_l_row_by T) (hr.mono (by decide)) rfl T.m_l_row_by T.F_l_row_by.kp T.b_l_row_by pass0 (ga_cons (gd_call (ok_l_cells T) (hr.mono (by decide)) rfl T.m_l_cells T.F_l_cells.kp T.b_l_cells pass0 (ga_cons (gd_var (pv 0) rfl) (ga_cons (gd_var (pv 6) rfl) (ga_cons (gd_var (pv 5) rfl) ga_nil))) (by (exact ⟨_, _, _, rfl, hs, by omega, by omega, by omega, rfl⟩))) (ga_cons (gd_var (pv 1) rfl) ga_nil)) (by (exact ⟨_, _, rfl, cellsN_small hs _ (by omega), hm0, by rw [cellsN_len]; omega, rfl⟩))) ga_nil)) (by (first | decide | (simp only [List.length_append, List.length_cons, List.length_nil, List.length_map, List.length_set, List.length_take, List.length_drop]; omega)))) ?_
    obtain ⟨row, er0⟩ : ∃ r, r = row9 (cellsN ns 6 a0.toNat) m := ⟨_, rfl⟩
    obtain ⟨row1, er1⟩ : ∃ r, r = row9 (cellsN ns ss a1.toNat) m := ⟨_, rfl⟩
    have hg0 : GoodR bx.length row := by rw [hbl, er0]; exact row9_good hm0 (by rw [cellsN_len]; omega)
    have hg1 : GoodR bx.length row1 := by rw [hbl, er1]; exact row9_good hm0 (by rw [cellsN_len]; omega)
    have hB0 : Bnd 200 (startL row row1 bx) := ⟨(by decide : (0 : Int).natAbs < 2 ^ 200), (by decide : (0 : Int).natAbs < 2 ^ 200), hb200, by rw [er0]; exact row9_add _ _, by rw [er1]; exact row9_add _ _⟩
    have hw0 : Wf (startL row row1 bx) := wf_start hg0 hg1
    have j0 : Jn (startL row row1 bx) (startL row row1 bx) [] := ⟨rfl, hw0, gi_start (by rw [er0]; exact (row9_cl _ _).1) (by rw [er1]; exact (row9_cl _ _).1), ge_start (by rw [er0]; exact (row9_cl _ _).2) (by rw [er1]; exact (row9_cl _ _).2), rfl, rfl, hB0, rfl⟩
    rw [← er0, ← er1]
    refine gss_at (Γ2 := [.dat (.list (ns.map .int)), .dat (.int m), .dat (.list (bx.map .int)), .dat (.int sz), .dat (.int a0), .dat (.int a1), .dat (.int ss), .dat (.list [rowD row, rowD row1]), .un, .un, .un, .un, .un, .un, .un, .un, .un, .un, .un, .un, .un]) (S2 := [(T.P_is_ahead, OV.ho (.tbl #[]))]) rfl rfl ?_
    refine gss_then ?_
    refine gs_setLsS (i := 8) sc_law.nd rfl (by first | exact .inl rfl | exact .inr rfl) (gea_F (gf_list rfl T.z_list (by decide +kernel) (.dat (gd_var (pv 2) rfl))) fun b hb => gea_F (gf_lst (ga_cons gd_int (ga_cons gd_int ga_nil)) (by show 2 ≤ 100000; decide)) fun n hn => gea_F (gf_lst (ga_cons gd_int (ga_cons gd_int ga_nil)) (by show 2 ≤ 100000; decide)) fun q hq => gea_v (r := .dat _) gd_non (gea_v (r := .dat _) (gd_var (pv 7) rfl) (gea_nil ⟨(by decide : 5 ≤ 100000), fun s hs => ?_⟩)))
    obtain ⟨A, eA⟩ : ∃ A : SA, A = ⟨s, q, n, b⟩ := ⟨_, rfl⟩
    refine gss_at (Γ2 := [.dat (.list (ns.map .int)), .dat (.int m), .dat (.list (bx.map .int)), .dat (.int sz), .dat (.int a0), .dat (.int a1), .dat (.int ss), .dat (.list [rowD row, rowD row1]), .raw (.ref A.s), .un, .un, .un, .un, .un, .un, .un, .un, .un, .un, .un, .un]) (S2 := standS A (startL row row1 bx) ++ [(T.P_is_ahead, OV.ho (.tbl #[]))]) (by rw [eA]; rfl) (by rw [eA]; rfl) ?_
    obtain ⟨ev, eev⟩ : ∃ z : Int, z = 1 + 3 * (if PyData.eqv (.int (cell ns 3 % 3)) (.int 0) = true then 1 else 0) := ⟨_, rfl⟩
    have hev : ev = 1 ∨ ev = 4 := by rw [eev]; split <;> omega
    refine gss_set (i := 9) sc_law.nd rfl (by first | exact .inl rfl | exact .inr rfl) (r := .dat (.int ev)) (gd_cast (gd_add gd_int (gd_mul (by (first | assumption | exact im _ _ (by decide))) gd_int (gd_callTy call_int1 ca_intB rfl T.z_int (by decide +kernel) (ga_cons (gd_eq hr.units (gd_mod (by (first | decide | omega)) (gd_call (ok_l_cell_at T) (hr.mono (by decide)) rfl T.m_l_cell_at T.F_l_cell_at.kp T.b_l_cell_at pass0 (ga_cons (gd_var (pv 0) rfl) (ga_cons gd_int ga_nil)) (by (exact ⟨_, _, rfl, by first | decide | omega, rfl⟩))) gd_int) gd_int (by (first | exact shaped_int _ | exact shaped_bool _ | exact shaped_none | assumption | exact shaped_ints _ | exact shaped_str (by decide +kernel) | exact rfl | decide +kernel)) (by (first | exact shaped_int _ | exact shaped_bool _ | exact shaped_none | assumption | exact shaped_ints _ | exact shaped_str (by decide +kernel) | exact rfl | decide +kernel))) ga_nil)))) (by rw [eev])) ?_
    have hzl := Nat.le_trans (cutZ_len ns (ss + (if (20 : Int) < a1 then 20 else a1))) hl
    refine gss_then ?_
    refine gs_setE (i := 10) sc_law.nd rfl (by first | exact .inl rfl | exact .inr rfl) (ge_mono (ge_call (S1 := standS A (startL row row1 bx)) (F := [(T.P_is_ahead, OV.ho (.tbl #[]))]) (ok_l_order_by T) (hr.mono (by decide)) rfl T.m_l_order_by T.F_l_order_by.kp T.b_l_order_by (fun _ => GQ.p0At) (gas_cons (r := .dat (.list ((cutZ ns (ss + (if (20 : Int) < a1 then 20 else a1))).map .int))) (gd_cast (gd_slice (gd_var (pv 0) rfl) (go_some (gd_add (gd_var (pv 6) rfl) (gd_callB (call_min2 rfl) ca_min2 rfl T.z_min (by decide +kernel) (ga_cons (gd_var (pv 5) rfl) (ga_cons gd_int ga_nil))))) go_none) (by rw [cut_map])) (gas_cons (r := .dat _) (gd_var (pv 9) rfl) (gas_cons (r := .raw _) (gr_var (pv 8) rfl) gas_nil))) ⟨A, row, row1, bx, _, ev, rfl, hev, hzl, rfl, j0, by omega, rfl, rfl⟩) (fun r S' h => ?_) fun _ _ ⟨_, h, _⟩ => h)
    obtain ⟨S1', ⟨o, st, jn, hrem, rfl, rfl⟩, rfl⟩ := h
    refine gss_pick (S2 := ((T.P_is_ahead, OV.ho (.tbl #[])) :: standS A st)) [4, 0, 1, 2, 3] (by decide) rfl ?_
    have hol := jn.len
    have hhl := hands_len o
    obtain ⟨l, hz, hmore, hplain⟩ : ∃ l, zipO row row1 o = some l ∧ (∀ b, zipO row row1 (o ++ [b]) = none) ∧ ∀ b, ahd (!b) l = false → walk (startL row row1 bx) (List.replicate (rowOf row row1 b).length b ++ List.replicate (rowOf row row1 (!b)).length (!b)) = (none, st) := ⟨_, (jn.zip hw0).1, jn.more hw0 hrem, jn.plain hw0 hrem⟩
    have hzo : zipO row row1 o ≠ none := by rw [hz]; exact fun z => nomatch z
    refine gss_set (i := 11) sc_law.nd rfl (by first | exact .inl rfl | exact .inr rfl) (r := .dat (.list (fD fun b => ahd b l))) (gd_cast (gd_call (ok_l_ahead T) (hr.mono (by decide)) rfl T.m_l_ahead T.F_l_ahead.kp T.b_l_ahead pass0 (ga_cons (gd_var (pv 10) rfl) (ga_cons (gd_var (pv 7) rfl) ga_nil)) (by (exact ⟨row, row1, _, rfl, by omega, by assumption, rfl⟩))) (by rw [hz]; rfl)) ?_
    refine gss_then ?_
    refine gs_setE (i := 12) sc_law.nd rfl (by first | exact .inl rfl | exact .inr rfl) (ge_mono (ge_callF (S1 := [(T.P_is_ahead, OV.ho (.tbl #[]))]) (F := standS A st) (ex := fun _ _ _ => False) (ok_ahead T TB) (hr.mono (by decide)) rfl T.m_ahead T.F_ahead.kp T.b_ahead (gas_cons (r := .dat _) (gd_callTy call_list_of (ca_list (by first | exact .inl rfl | exact .inr rfl)) rfl T.z_list (by decide +kernel) (ga_cons (gd_ixL (gd_var (pv 7) rfl) gd_int (by (first | exact held_at _ | assumption | exact ixh | exact ixb (by assumption) | exact rfl | (simp only [*]; exact rfl)))) ga_nil)) (gas_cons (r := .dat _) (gd_callTy call_list_of (ca_list (by first | exact .inl rfl | exact .inr rfl)) rfl T.z_list (by decide +kernel) (ga_cons (gd_ixL (gd_var (pv 7) rfl) gd_int (by (first | exact held_at _ | assumption | exact ixh | exact ixb (by assumption) | exact rfl | (simp only [*]; exact rfl)))) ga_nil)) (gas_cons (r := .dat _) (gd_callTy call_list_of (ca_list (by first | exact .inl rfl | exact .inr rfl)) rfl T.z_list (by decide +kernel) (ga_cons (gd_var (pv 10) rfl) ga_nil)) gas_nil))) ⟨row, row1, o, #[], rfl, by omega, trivial, rfl, rfl, rfl⟩ (fun cls S' ⟨h, _⟩ => hzo h)) (fun r S' h => ?_) fun _ _ h => h)
    obtain ⟨S1', ⟨l2, hl2, rfl, ps1, tr1, rfl⟩, rfl⟩ := h
    rw [hz] at hl2
    cases hl2
    refine gss_at (Γ2 := [.dat (.list (ns.map .int)), .dat (.int m), .dat (.list (bx.map .int)), .dat (.int sz), .dat (.int a0), .dat (.int a1), .dat (.int ss), .dat (.list [rowD row, rowD row1]), .raw (.ref A.s), .dat (.int ev), .dat (.list (handsD o)), .dat (.list (fD fun b => ahd b l)), .dat (.tuple [.bool (ahd false l), .bool (ahd true l)]), .un, .un, .un, .un, .un, .un, .un, .un]) (S2 := ((T.P_is_ahead, OV.ho (.tbl ps1)) :: standS A st)) rfl rfl ?_
    obtain ⟨kc, hkc⟩ : ∃ kc : Nat, (kc : Int) = cell ns 5 % (((handsD o).length : Int) + 1) := ⟨(cell ns 5 % (((handsD o).length : Int) + 1)).toNat, by have := Int.emod_nonneg (cell ns 5) (show (((handsD o).length : Int) + 1) ≠ 0 by omega); omega⟩
    have hkl : kc ≤ (handsD o).length := by have := Int.emod_lt_of_pos (cell ns 5) (show 0 < (((handsD o).length : Int) + 1) by omega); omega
    refine gss_set (i := 13) sc_law.nd rfl (by first | exact .inl rfl | exact .inr rfl) (r := .dat (.list (handsD (o.take kc)))) (gd_cast (gd_slice (gd_var (pv 10) rfl) go_none (go_some (gd_mod (by (first | decide | omega)) (gd_call (ok_l_cell_at T) (hr.mono (by decide)) rfl T.m_l_cell_at T.F_l_cell_at.kp T.b_l_cell_at pass0 (ga_cons (gd_var (pv 0) rfl) (ga_cons gd_int ga_nil)) (by (exact ⟨_, _, rfl, by first | decide | omega, rfl⟩))) (gd_add (gd_callB call_len (ca_len (by first | exact .inl rfl | exact .inr rfl)) rfl T.z_len (by decide +kernel) (ga_cons (gd_var (pv 10) rfl) ga_nil)) gd_int)))) (by rw [← hkc, cut_lo hkl]; unfold handsD; rw [List.map_take])) ?_
    have hzc := zip_cut kc hzo
    obtain ⟨lc, hlc⟩ := zipO_some hzc
    have htl : (o.take kc).length ≤ 1000 := by rw [List.length_take]; omega
    refine gss_cons (M := fun Γ' S' => Γ' = [.dat (.list (ns.map .int)), .dat (.int m), .dat (.list (bx.map .int)), .dat (.int sz), .dat (.int a0), .dat (.int a1), .dat (.int ss), .dat (.list [rowD row, rowD row1]), .raw (.ref A.s), .dat (.int ev), .dat (.list (handsD o)), .dat (.list (fD fun b => ahd b l)), .dat (.tuple [.bool (ahd false l), .bool (ahd true l)]), .dat (.list (handsD (o.take kc))), .un, .un, .un, .un, .un, .un, .un] ∧ ∃ ps : Array Value, TriplesOk ps.toList ∧ S' = ((T.P_is_ahead, OV.ho (.tbl ps)) :: standS A st)) (gs_ifE (Pt := (fun c S' => c = false ∧ ∃ ps : Array Value, TriplesOk ps.toList ∧ S' = ((T.P_is_ahead, OV.ho (.tbl ps)) :: standS A st))) (gte_w (gwe_or (Pt' := fun c S' => c = false ∧ S' = ((T.P_is_ahead, OV.ho (.tbl ps1)) :: standS A st)) (gte_of (gt_not (gt_val (gd_call (ok_l_pair T) (hr.mono (by decide)) rfl T.m_l_pair T.F_l_pair.kp T.b_l_pair pass0 (ga_cons (gd_var (pv 12) rfl) (ga_cons (gd_var (pv 11) rfl) ga_nil)) (by (exact ⟨ahd false l, ahd true l, rfl, rfl⟩))))) ⟨rfl, rfl⟩) (fun S' h => absurd h.1 (by decide)) (fun S' h => ?_))) (fun S' h => absurd h.1 (by decide)) (fun S' h => gss_nil ⟨rfl, h.2⟩)) ?_
    · obtain ⟨_, rfl⟩ := h
      refine gwe_or1 (gte_not (gte_val (Pe := fun r S' => r = .dat (.bool true) ∧ ∃ ps : Array Value, TriplesOk ps.toList ∧ S' = ((T.P_is_ahead, OV.ho (.tbl ps)) :: standS A st)) (ge_callA (ok_l_pair T) (hr.mono (by decide)) rfl T.m_l_pair T.F_l_pair.kp T.b_l_pair pass0 (gea_cons (Pe := fun r S' => r = .dat (.tuple [.bool (ahd false lc), .bool (ahd true lc)]) ∧ ∃ ps : Array Value, TriplesOk ps.toList ∧ S' = ((T.P_is_ahead, OV.ho (.tbl ps)) :: standS A st)) (ge_mono (ge_callF (S1 := [(T.P_is_ahead, OV.ho (.tbl ps1))]) (F := standS A st) (ex := fun _ _ _ => False) (ok_ahead T TB) (hr.mono (by decide)) rfl T.m_ahead T.F_ahead.kp T.b_ahead (gas_cons (r := .dat _) (gd_ixL (gd_var (pv 7) rfl) gd_int (by (first | exact held_at _ | assumption | exact ixh | exact ixb (by assumption) | exact rfl | (simp only [*]; exact rfl)))) (gas_cons (r := .dat _) (gd_ixL (gd_var (pv 7) rfl) gd_int (by (first | exact held_at _ | assumption | exact ixh | exact ixb (by assumption) | exact rfl | (simp only [*]; exact rfl)))) (gas_cons (r := .dat _) (gd_var (pv 13) rfl) gas_nil))) ⟨row, row1, o.take kc, ps1, rfl, by omega, tr1, rfl, rfl, rfl⟩ (fun cls S' ⟨h, _⟩ => hzc h)) (fun r S' h => ?_) fun _ _ h => h) (fun r S' h => ?_))) (fun r S' ⟨h1, h2⟩ => ⟨true, h1, rfl, h2⟩)))
      · obtain ⟨S1', ⟨l2, hl2, rfl, ps2, tr2, rfl⟩, rfl⟩ := h
        rw [hlc] at hl2
        cases hl2
        exact ⟨rfl, ps2, tr2, rfl⟩
      · obtain ⟨rfl, ps2, tr2, rfl⟩ := h
        exact gea_v (r := .dat (.list (fD fun b => ahd b lc))) (gd_cast (gd_call (ok_l_ahead T) (hr.mono (by decide)) rfl T.m_l_ahead T.F_l_ahead.kp T.b_l_ahead pass0 (ga_cons (gd_var (pv 13) rfl) (ga_cons (gd_var (pv 7) rfl) ga_nil)) (by (exact ⟨row, row1, _, rfl, by omega, by assumption, rfl⟩))) (by rw [hlc]; rfl)) (gea_nil ⟨[.tuple [.bool (ahd false lc), .bool (ahd true lc)], .list (fD fun b => ahd b lc)], .bool true, rfl, ⟨ahd false lc, ahd true lc, rfl, rfl⟩, rfl, ps2, tr2, rfl⟩)
    rintro Γ' S' ⟨rfl, ps2, tr2, rfl⟩
    obtain ⟨hm, ehm⟩ := hand_of (cell ns 5)
    refine gss_set (i := 14) sc_law.nd rfl (by first | exact .inl rfl | exact .inr rfl) (r := .dat (.int (hI hm))) (gd_cast (gd_mod (by (first | decide | omega)) (gd_call (ok_l_cell_at T) (hr.mono (by decide)) rfl T.m_l_cell_at T.F_l_cell_at.kp T.b_l_cell_at pass0 (ga_cons (gd_var (pv 0) rfl) (ga_cons gd_int ga_nil)) (by (exact ⟨_, _, rfl, by first | decide | omega, rfl⟩))) gd_int) (by rw [ehm])) ?_
    refine gss_cons (M := fun Γ' S' => Γ' = [.dat (.list (ns.map .int)), .dat (.int m), .dat (.list (bx.map .int)), .dat (.int sz), .dat (.int a0), .dat (.int a1), .dat (.int ss), .dat (.list [rowD row, rowD row1]), .raw (.ref A.s), .dat (.int ev), .dat (.list (handsD o)), .dat (.list (fD fun b => ahd b l)), .dat (.tuple [.bool (ahd false l), .bool (ahd true l)]), .dat (.list (handsD (o.take kc))), .dat (.int (hI hm)), .un, .un, .un, .un, .un, .un] ∧ ∃ ps : Array Value, TriplesOk ps.toList ∧ S' = ((T.P_is_ahead, OV.ho (.tbl ps)) :: standS A st)) (gs_ifE (Pt := (fun c S' => c = false ∧ ∃ ps : Array Value, TriplesOk ps.toList ∧ S' = ((T.P_is_ahead, OV.ho (.tbl ps)) :: standS A st))) (gte_not (gte_val (Pe := fun r S' => r = .dat (.bool true) ∧ ∃ ps : Array Value, TriplesOk ps.toList ∧ S' = ((T.P_is_ahead, OV.ho (.tbl ps)) :: standS A st)) (ge_mono (ge_call (S1 := [(T.P_is_ahead, OV.ho (.tbl ps2))]) (F := standS A st) (ok_l_more T TB) (hr.mono (by decide)) rfl T.m_l_more T.F_l_more.kp T.b_l_more (fun _ => GQ.p0At) (gas_cons (r := .dat _) (gd_callTy call_list_of (ca_list (by first | exact .inl rfl | exact .inr rfl)) rfl T.z_list (by decide +kernel) (ga_cons (gd_ixL (gd_var (pv 7) rfl) gd_int (by (first | exact held_at _ | assumption | exact ixh | exact ixb (by assumption) | exact rfl | (simp only [*]; exact rfl)))) ga_nil)) (gas_cons (r := .dat _) (gd_callTy call_list_of (ca_list (by first | exact .inl rfl | exact .inr rfl)) rfl T.z_list (by decide +kernel) (ga_cons (gd_ixL (gd_var (pv 7) rfl) gd_int (by (first | exact held_at _ | assumption | exact ixh | exact ixb (by assumption) | exact rfl | (simp only [*]; exact rfl)))) ga_nil)) (gas_cons (r := .dat (.list (handsD (o ++ [hm])))) (gd_cast (gd_cat (gd_var (pv 10) rfl) (gd_lst (ga_cons (gd_var (pv 14) rfl) ga_nil) (by (first | decide | (simp only [List.length_append, List.length_cons, List.length_nil, List.length_map, List.length_set, List.length_take, List.length_drop]; omega)))) (by (first | decide | (simp only [List.length_append, List.length_cons, List.length_nil, List.length_map, List.length_set, List.length_take, List.length_drop]; omega)))) (congrArg PyData.list (hands_snoc o hm))) gas_nil))) ⟨row, row1, o ++ [hm], ps2, rfl, by rw [List.length_append]; show o.length + 1 ≤ 1000; omega, hmore hm, tr2, rfl, rfl, rfl⟩) (fun r S' h => ?_) fun _ _ ⟨_, h, _⟩ => h) (fun r S' ⟨h1, h2⟩ => ⟨true, h1, rfl, h2⟩))) (fun S' h => absurd h.1 (by decide)) (fun S' h => gss_nil ⟨rfl, h.2⟩)) ?_
    · obtain ⟨S1', ⟨rfl, ps3, tr3, rfl⟩, rfl⟩ := h
      exact ⟨rfl, ps3, tr3, rfl⟩
    rintro Γ' S' ⟨rfl, ps3, tr3, rfl⟩
    refine gss_then ?_
    refine gs_setE (i := 15) sc_law.nd rfl (by first | exact .inl rfl | exact .inr rfl) (ge_mono (ge_callF (S1 := ((T.P_is_ahead, OV.ho (.tbl ps3)) :: standS A st)) (F := []) (ex := fun _ _ _ => False) (ok_walked T) (hr.mono (by decide)) rfl T.m_walked T.F_walked.kp T.b_walked (gas_cons (r := .dat _) (gd_callTy call_list_of (ca_list (by first | exact .inl rfl | exact .inr rfl)) rfl T.z_list (by decide +kernel) (ga_cons (gd_ixL (gd_var (pv 7) rfl) gd_int (by (first | exact held_at _ | assumption | exact ixh | exact ixb (by assumption) | exact rfl | (simp only [*]; exact rfl)))) ga_nil)) (gas_cons (r := .dat _) (gd_callTy call_list_of (ca_list (by first | exact .inl rfl | exact .inr rfl)) rfl T.z_list (by decide +kernel) (ga_cons (gd_ixL (gd_var (pv 7) rfl) gd_int (by (first | exact held_at _ | assumption | exact ixh | exact ixb (by assumption) | exact rfl | (simp only [*]; exact rfl)))) ga_nil)) (gas_cons (r := .dat _) (gd_callTy call_list_of (ca_list (by first | exact .inl rfl | exact .inr rfl)) rfl T.z_list (by decide +kernel) (ga_cons (gd_var (pv 2) rfl) ga_nil)) (gas_cons (r := .dat _) (gd_callTy call_list_of (ca_list (by first | exact .inl rfl | exact .inr rfl)) rfl T.z_list (by decide +kernel) (ga_cons (gd_var (pv 10) rfl) ga_nil)) gas_nil)))) ⟨_, _, _, _, row, row1, bx, o, rfl, .inl rfl, .inl rfl, .inl rfl, .inl rfl, hg0, hg1, hB0, by omega, rfl, rfl⟩ (fun cls S' ⟨e, h, _⟩ => by rw [jn.wk] at h; cases h)) (fun r S' h => ?_) fun _ _ h => h)
    rw [jn.wk] at h
    obtain ⟨S1', ⟨_, t, b', n', rfl, rfl⟩, rfl⟩ := h
    refine gss_at (Γ2 := [.dat (.list (ns.map .int)), .dat (.int m), .dat (.list (bx.map .int)), .dat (.int sz), .dat (.int a0), .dat (.int a1), .dat (.int ss), .dat (.list [rowD row, rowD row1]), .raw (.ref A.s), .dat (.int ev), .dat (.list (handsD o)), .dat (.list (fD fun b => ahd b l)), .dat (.tuple [.bool (ahd false l), .bool (ahd true l)]), .dat (.list (handsD (o.take kc))), .dat (.int (hI hm)), .raw (.ref t), .un, .un, .un, .un, .un]) (S2 := ((t, OV.ho (.tup [.ref b', .ref n'])) :: (n', .lst [.int st.n0, .int st.n1]) :: (b', .lst (st.bx.map .int)) :: ((T.P_is_ahead, OV.ho (.tbl ps3)) :: standS A st))) rfl rfl ?_
    have hb1k : st.bx.length ≤ 1000 := by
      have e : ∀ (q : List Bool) (z z' : LSt), walk z q = (none, z') → z'.bx.length = z.bx.length := fun q => by
        induction q with
        | nil => intro z z' h; cases h; rfl
        | cons x q ih => intro z z' h; rw [ih _ _ (walk_cons h).2, done_bl]
      rw [e _ _ _ jn.wk]
      show bx.length ≤ 1000
      omega
    refine gss_if (gt_of (gw_or (gt_not (gt_val (gd_isT (nm := "tuple") rfl T.z_isinstance (by decide +kernel) (pe_bltn rfl T.z_tuple (by decide +kernel) rfl) (gr_var (pv 15) rfl) (n := 0) (ws := [.ref b', .ref n']) rfl kit_tuple_tuple))) (fun _ => gw_or1 (gt_ne hr.units (gd_lenT (n := 0) rfl T.z_len (by decide +kernel) (gr_var (pv 15) rfl) rfl) gd_int (shaped_int _) (shaped_int _))))) (fun hh => absurd hh (by simp [eqv_int])) (fun _ => gss_nil ?_)
    refine gss_cons (M := fun Γ' S' => ∃ y16 y18 y19 y20 : Sl, Γ' = [.dat (.list (ns.map .int)), .dat (.int m), .dat (.list (bx.map .int)), .dat (.int sz), .dat (.int a0), .dat (.int a1), .dat (.int ss), .dat (.list [rowD row, rowD row1]), .raw (.ref A.s), .dat (.int ev), .dat (.list (handsD o)), .dat (.list (fD fun b => ahd b l)), .dat (.tuple [.bool (ahd false l), .bool (ahd true l)]), .dat (.list (handsD (o.take kc))), .dat (.int (hI hm)), .raw (.ref t), y16, .un, y18, y19, y20] ∧ S' = ((t, OV.ho (.tup [.ref b', .ref n'])) :: (n', .lst [.int st.n0, .int st.n1]) :: (b', .lst (st.bx.map .int)) :: ((T.P_is_ahead, OV.ho (.tbl ps3)) :: standS A st))) (gs_forR .never rfl rfl T.z_range gd_int ⟨by decide, by decide⟩ sc_law.nd (j := 16) rfl (by first | exact .inl rfl | exact .inr rfl) (fun _ Γ' S' => ∃ y16 y18 y19 y20 : Sl, Γ' = [.dat (.list (ns.map .int)), .dat (.int m), .dat (.list (bx.map .int)), .dat (.int sz), .dat (.int a0), .dat (.int a1), .dat (.int ss), .dat (.list [rowD row, rowD row1]), .raw (.ref A.s), .dat (.int ev), .dat (.list (handsD o)), .dat (.list (fD fun b => ahd b l)), .dat (.tuple [.bool (ahd false l), .bool (ahd true l)]), .dat (.list (handsD (o.take kc))), .dat (.int (hI hm)), .raw (.ref t), y16, .un, y18, y19, y20] ∧ S' = ((t, OV.ho (.tup [.ref b', .ref n'])) :: (n', .lst [.int st.n0, .int st.n1]) :: (b', .lst (st.bx.map .int)) :: ((T.P_is_ahead, OV.ho (.tbl ps3)) :: standS A st))) ⟨_, _, _, _, rfl, rfl⟩ ?_ (fun _ _ h => h)) ?_
    · rintro i Γ' S' G0 hi ⟨y16, y18, y19, y20, rfl, rfl⟩
      obtain ⟨b, hib⟩ : ∃ b : Bool, (i : Int) = hI b := by
        have : i = 0 ∨ i = 1 := by omega
        rcases this with rfl | rfl
        · exact ⟨false, rfl⟩
        · exact ⟨true, rfl⟩
      rw [hib]
      refine gss_at (Γ2 := [.dat (.list (ns.map .int)), .dat (.int m), .dat (.list (bx.map .int)), .dat (.int sz), .dat (.int a0), .dat (.int a1), .dat (.int ss), .dat (.list [rowD row, rowD row1]), .raw (.ref A.s), .dat (.int ev), .dat (.list (handsD o)), .dat (.list (fD fun b => ahd b l)), .dat (.tuple [.bool (ahd false l), .bool (ahd true l)]), .dat (.list (handsD (o.take kc))), .dat (.int (hI hm)), .raw (.ref t), .dat (.int (hI b)), .un, y18, y19, y20]) (S2 := ((t, OV.ho (.tup [.ref b', .ref n'])) :: (n', .lst [.int st.n0, .int st.n1]) :: (b', .lst (st.bx.map .int)) :: ((T.P_is_ahead, OV.ho (.tbl ps3)) :: standS A st))) rfl rfl ?_
      have f1 : atI [PyData.bool (ahd false l), .bool (ahd true l)] (1 - hI b) = some (.bool (ahd (!b) l)) := by cases b <;> rfl
      refine gss_one (gs_if (gt_not (gt_val (gd_ixT (gd_var (pv 12) rfl) (gd_sub gd_int (gd_var (pv 16) rfl)) (by (first | exact held_at _ | assumption | exact ixh | exact ixb (by assumption) | exact rfl | (simp only [*]; exact rfl)))))) (fun hh => ?_) (fun _ => gss_nil ⟨_, _, _, _, rfl, rfl⟩))
      have hwp := hplain b (by simpa using hh)
      refine gss_then ?_
      refine gs_setLsS (i := 18) sc_law.nd rfl (by first | exact .inl rfl | exact .inr rfl) (gea_F (gf_list rfl T.z_list (by decide +kernel) (.dat (gd_var (pv 2) rfl))) fun b2 hb2 => gea_F (gf_lst (ga_cons gd_int (ga_cons gd_int ga_nil)) (by show 2 ≤ 100000; decide)) fun n2 hn2 => gea_F (gf_lst (ga_cons gd_int (ga_cons gd_int ga_nil)) (by show 2 ≤ 100000; decide)) fun q2 hq2 => gea_v (r := .dat _) gd_non (gea_v (r := .dat _) (gd_var (pv 7) rfl) (gea_nil ⟨(by decide : 5 ≤ 100000), fun s2 hs2 => ?_⟩)))
      obtain ⟨A2, eA2⟩ : ∃ A : SA, A = ⟨s2, q2, n2, b2⟩ := ⟨_, rfl⟩
      refine gss_at (Γ2 := [.dat (.list (ns.map .int)), .dat (.int m), .dat (.list (bx.map .int)), .dat (.int sz), .dat (.int a0), .dat (.int a1), .dat (.int ss), .dat (.list [rowD row, rowD row1]), .raw (.ref A.s), .dat (.int ev), .dat (.list (handsD o)), .dat (.list (fD fun b => ahd b l)), .dat (.tuple [.bool (ahd false l), .bool (ahd true l)]), .dat (.list (handsD (o.take kc))), .dat (.int (hI hm)), .raw (.ref t), .dat (.int (hI b)), .un, .raw (.ref A2.s), y19, y20]) (S2 := standS A2 (startL row row1 bx) ++ ((t, OV.ho (.tup [.ref b', .ref n'])) :: (n', .lst [.int st.n0, .int st.n1]) :: (b', .lst (st.bx.map .int)) :: ((T.P_is_ahead, OV.ho (.tbl ps3)) :: standS A st))) (by rw [eA2]; rfl) (by rw [eA2]; rfl) ?_
      clear eA2 hs2 hq2 hn2 hb2
      clear s2 q2 n2 b2
      refine gss_cons (M := fun Γ' S' => ∃ (s2 : LSt) (y19 y20 : Sl), Pn st s2 (tailP row row1 b 2) ∧ Γ' = [.dat (.list (ns.map .int)), .dat (.int m), .dat (.list (bx.map .int)), .dat (.int sz), .dat (.int a0), .dat (.int a1), .dat (.int ss), .dat (.list [rowD row, rowD row1]), .raw (.ref A.s), .dat (.int ev), .dat (.list (handsD o)), .dat (.list (fD fun b => ahd b l)), .dat (.tuple [.bool (ahd false l), .bool (ahd true l)]), .dat (.list (handsD (o.take kc))), .dat (.int (hI hm)), .raw (.ref t), .dat (.int (hI b)), .un, .raw (.ref A2.s), y19, y20] ∧ S' = standS A2 s2 ++ ((t, OV.ho (.tup [.ref b', .ref n'])) :: (n', .lst [.int st.n0, .int st.n1]) :: (b', .lst (st.bx.map .int)) :: ((T.P_is_ahead, OV.ho (.tbl ps3)) :: standS A st))) (gs_forT (ds := [.int (hI b), .int (hI (!b))]) .never rfl (gd_cast (gd_tup (ga_cons (gd_var (pv 16) rfl) (ga_cons (gd_sub gd_int (gd_var (pv 16) rfl)) ga_nil)) (by (first | decide | (simp only [List.length_append, List.length_cons, List.length_nil, List.length_map, List.length_set, List.length_take, List.length_drop]; omega)))) (by rw [neg_hand])) sc_law.nd (j := 19) rfl (by first | exact .inl rfl | exact .inr rfl) (fun j Γ' S' => ∃ (s2 : LSt) (y19 y20 : Sl), Pn st s2 (tailP row row1 b j) ∧ Γ' = [.dat (.list (ns.map .int)), .dat (.int m), .dat (.list (bx.map .int)), .dat (.int sz), .dat (.int a0), .dat (.int a1), .dat (.int ss), .dat (.list [rowD row, rowD row1]), .raw (.ref A.s), .dat (.int ev), .dat (.list (handsD o)), .dat (.list (fD fun b => ahd b l)), .dat (.tuple [.bool (ahd false l), .bool (ahd true l)]), .dat (.list (handsD (o.take kc))), .dat (.int (hI hm)), .raw (.ref t), .dat (.int (hI b)), .un, .raw (.ref A2.s), y19, y20] ∧ S' = standS A2 s2 ++ ((t, OV.ho (.tup [.ref b', .ref n'])) :: (n', .lst [.int st.n0, .int st.n1]) :: (b', .lst (st.bx.map .int)) :: ((T.P_is_ahead, OV.ho (.tbl ps3)) :: standS A st))) ⟨_, _, _, ⟨hw0, hB0, hwp⟩, rfl, rfl⟩ ?_ (fun _ _ h => h)) ?_
      · rintro j d Γ' S' G1 hd ⟨s2, y19, y20, pn, rfl, rfl⟩
        obtain ⟨x, rfl, htl2⟩ := tail_step (row := row) (row1 := row1) hd
        rw [htl2] at pn
        have ri : atI [rowD row, rowD row1] (hI x) = some (.list ((rowOf row row1 x).map Stp.toD)) := rows_ix x
        refine gss_one (gs_forL (ds := (rowOf row row1 x).map Stp.toD) .never rfl (gd_ixL (gd_var (pv 7) rfl) (gd_var (pv 19) rfl) (by (first | exact held_at _ | assumption | exact ixh | exact ixb (by assumption) | exact rfl | (simp only [*]; exact rfl)))) sc_law.nd (j := 20) rfl (by first | exact .inl rfl | exact .inr rfl) (fun k Γ' S' => ∃ (s2 : LSt) (y20 : Sl), Pn st s2 (List.replicate ((rowOf row row1 x).length - k) x ++ tailP row row1 b (j + 1)) ∧ Γ' = [.dat (.list (ns.map .int)), .dat (.int m), .dat (.list (bx.map .int)), .dat (.int sz), .dat (.int a0), .dat (.int a1), .dat (.int ss), .dat (.list [rowD row, rowD row1]), .raw (.ref A.s), .dat (.int ev), .dat (.list (handsD o)), .dat (.list (fD fun b => ahd b l)), .dat (.tuple [.bool (ahd false l), .bool (ahd true l)]), .dat (.list (handsD (o.take kc))), .dat (.int (hI hm)), .raw (.ref t), .dat (.int (hI b)), .un, .raw (.ref A2.s), .dat (.int (hI x)), y20] ∧ S' = standS A2 s2 ++ ((t, OV.ho (.tup [.ref b', .ref n'])) :: (n', .lst [.int st.n0, .int st.n1]) :: (b', .lst (st.bx.map .int)) :: ((T.P_is_ahead, OV.ho (.tbl ps3)) :: standS A st))) ⟨s2, y20, pn, rfl, rfl⟩ ?_ ?_)
        · rintro k d Γ' S' G2 hd ⟨s2, y20, pn, rfl, rfl⟩
          have hk : k < (rowOf row row1 x).length := by
            have := (List.getElem?_eq_some_iff.mp hd).1
            rw [List.length_map] at this
            exact this
          rw [show (rowOf row row1 x).length - k = ((rowOf row row1 x).length - (k + 1)) + 1 by omega, List.replicate_succ] at pn
          have pn : Pn st s2 (x :: (List.replicate ((rowOf row row1 x).length - (k + 1)) x ++ tailP row row1 b (j + 1))) := pn
          refine gss_one (gs_exprE (ge_mono (ge_call (S1 := standS A2 s2) (F := ((t, OV.ho (.tup [.ref b', .ref n'])) :: (n', .lst [.int st.n0, .int st.n1]) :: (b', .lst (st.bx.map .int)) :: ((T.P_is_ahead, OV.ho (.tbl ps3)) :: standS A st))) (ok_l_done T) (hr.mono (by decide)) rfl T.m_l_done T.F_l_done.kp T.b_l_done (fun _ => GQ.p0At) (gas_cons (r := .raw _) (gr_var (pv 18) rfl) (gas_cons (r := .dat _) (gd_var (pv 19) rfl) gas_nil)) ⟨A2, s2, x, rfl, rfl, pn.w, pn.small, pn.over, rfl, rfl⟩) (fun r S' h => ?_) fun _ _ ⟨_, h, _⟩ => h))
          obtain ⟨S1', ⟨_, rfl⟩, rfl⟩ := h
          exact ⟨s2.done x, _, pn.go, rfl, rfl⟩
        · rintro Γ' S' ⟨s2, y20, pn, rfl, rfl⟩
          rw [List.length_map, Nat.sub_self, List.replicate_zero, List.nil_append] at pn
          exact ⟨s2, _, _, pn, rfl, rfl⟩
      rintro Γ' S' ⟨s2, y19, y20, pn, rfl, rfl⟩
      have he2 : s2 = st := congrArg Prod.snd (show ((none : Option Er), s2) = (none, st) from pn.wk)
      subst he2
      refine gss_if (gt_of (gw_or (gt_not (gt_val (gd_callP0 (ok_l_ints T) (hr.mono (by decide)) rfl T.m_l_ints T.F_l_ints.kp T.b_l_ints (gas_cons (r := .raw _) (gr_ixT (n := 4) (gr_var (pv 15) rfl) gd_int rfl rfl) (gas_cons (r := .raw _) (ge_ixS (n := 0) (gr_var (pv 18) rfl) gd_int rfl rfl) gas_nil)) ⟨_, _, s2.bx, rfl, .inr ⟨_, rfl, (List.mem_cons_of_mem _ (List.mem_cons_of_mem _ (List.mem_cons_of_mem _ (List.mem_cons_of_mem _ (List.mem_cons_of_mem _ (List.mem_cons_of_mem _ (List.mem_cons_self)))))))⟩, .inr ⟨_, rfl, (List.mem_cons_of_mem _ (List.mem_cons_of_mem _ (List.mem_cons_of_mem _ (List.mem_cons_self))))⟩, hb1k, rfl, rfl⟩))) (fun _ => gw_or1 (gt_not (gt_val (gd_callP0 (ok_l_ints T) (hr.mono (by decide)) rfl T.m_l_ints T.F_l_ints.kp T.b_l_ints (gas_cons (r := .raw _) (gr_ixT (n := 4) (gr_var (pv 15) rfl) gd_int rfl rfl) (gas_cons (r := .raw _) (ge_ixS (n := 0) (gr_var (pv 18) rfl) gd_int rfl rfl) gas_nil)) ⟨_, _, [s2.n0, s2.n1], rfl, .inr ⟨_, rfl, (List.mem_cons_of_mem _ (List.mem_cons_of_mem _ (List.mem_cons_of_mem _ (List.mem_cons_of_mem _ (List.mem_cons_of_mem _ (List.mem_cons_self))))))⟩, .inr ⟨_, rfl, (List.mem_cons_of_mem _ (List.mem_cons_of_mem _ (List.mem_cons_self)))⟩, (by show 2 ≤ 1000; decide), rfl, rfl⟩)))))) (fun hh => absurd hh (by simp)) (fun _ => gss_nil ?_)
      refine gss_pick (S2 := ((t, OV.ho (.tup [.ref b', .ref n'])) :: (n', .lst [.int s2.n0, .int s2.n1]) :: (b', .lst (s2.bx.map .int)) :: ((T.P_is_ahead, OV.ho (.tbl ps3)) :: standS A s2))) [4, 5, 6, 7, 8, 9, 10, 11] (by decide) rfl ?_
      exact gss_nil ⟨_, _, _, _, rfl, rfl⟩
    rintro Γ' S' ⟨y16, y18, y19, y20, rfl, rfl⟩
    exact gss_ret (r := .dat _) (gd_and (gd_callP0 (ok_l_ints T) (hr.mono (by decide)) rfl T.m_l_ints T.F_l_ints.kp T.b_l_ints (gas_cons (r := .raw _) (gr_ixT (n := 0) (gr_var (pv 15) rfl) gd_int rfl rfl) (gas_cons (r := .raw _) (ge_ixS (n := 4) (gr_var (pv 8) rfl) gd_int rfl rfl) gas_nil)) ⟨_, _, st.bx, rfl, .inr ⟨_, rfl, (List.mem_cons_of_mem _ (List.mem_cons_of_mem _ (List.mem_cons_self)))⟩, .inr ⟨_, rfl, (List.mem_cons_of_mem _ (List.mem_cons_of_mem _ (List.mem_cons_of_mem _ (List.mem_cons_of_mem _ (List.mem_cons_of_mem _ (List.mem_cons_of_mem _ (List.mem_cons_of_mem _ (List.mem_cons_self))))))))⟩, hb1k, rfl, rfl⟩) (fun _ => gd_one (gd_callP0 (ok_l_ints T) (hr.mono (by decide)) rfl T.m_l_ints T.F_l_ints.kp T.b_l_ints (gas_cons (r := .raw _) (gr_ixT (n := 0) (gr_var (pv 15) rfl) gd_int rfl rfl) (gas_cons (r := .raw _) (ge_ixS (n := 4) (gr_var (pv 8) rfl) gd_int rfl rfl) gas_nil)) ⟨_, _, [st.n0, st.n1], rfl, .inr ⟨_, rfl, (List.mem_cons_of_mem _ (List.mem_cons_self))⟩, .inr ⟨_, rfl, (List.mem_cons_of_mem _ (List.mem_cons_of_mem _ (List.mem_cons_of_mem _ (List.mem_cons_of_mem _ (List.mem_cons_of_mem _ (List.mem_cons_of_mem _ (List.mem_cons_self)))))))⟩, (by show 2 ≤ 1000; decide), rfl, rfl⟩))) rfl
end
theorem all_mk {l : PySem.W.OpenLaw} {w : World} {K : PySem.W.Frag} {h : Heap} {mg : Str → Option Value} {fa : Addr} (X : K.In h) (G : h.Ns mainGlobals mg) (hfa : mg "law" = some (.ref fa))
    {f_wall : Addr} {od_wall an_wall : Option Addr} {sl_wall : Array (Option Value)} {oc_wall kV_wall dc_wall pm_wall cd_wall ct_wall : Value}
    (a_wall : PySem.W.nsIn K mainGlobals "_wall" = some (some (.ref f_wall))) (l_wall : K.lookup f_wall = some ⟨oc_wall, od_wall, .func (PySem.W.fnOf "_wall" "_wall" (defArgs s_wall) (defBody s_wall) (defScope s_wall) .none kV_wall dc_wall pm_wall an_wall cd_wall ct_wall), sl_wall⟩) (c_wall : PySem.W.codeIn K cd_wall "_wall" = true) (k_wall : PySem.W.keepIn K (.ref f_wall) = true)
    {f_is_whole : Addr} {od_is_whole an_is_whole : Option Addr} {sl_is_whole : Array (Option Value)} {oc_is_whole kV_is_whole dc_is_whole pm_is_whole cd_is_whole ct_is_whole : Value}
    (a_is_whole : PySem.W.nsIn K mainGlobals "is_whole" = some (some (.ref f_is_whole))) (l_is_whole : K.lookup f_is_whole = some ⟨oc_is_whole, od_is_whole, .func (PySem.W.fnOf "is_whole" "is_whole" (defArgs s_is_whole) (defBody s_is_whole) (defScope s_is_whole) .none kV_is_whole dc_is_whole pm_is_whole an_is_whole cd_is_whole ct_is_whole), sl_is_whole⟩) (c_is_whole : PySem.W.codeIn K cd_is_whole "is_whole" = true) (k_is_whole : PySem.W.keepIn K (.ref f_is_whole) = true)
    {f_is_step : Addr} {od_is_step an_is_step : Option Addr} {sl_is_step : Array (Option Value)} {oc_is_step kV_is_step dc_is_step pm_is_step cd_is_step ct_is_step : Value}
    (a_is_step : PySem.W.nsIn K mainGlobals "is_step" = some (some (.ref f_is_step))) (l_is_step : K.lookup f_is_step = some ⟨oc_is_step, od_is_step, .func (PySem.W.fnOf "is_step" "is_step" (defArgs s_is_step) (defBody s_is_step) (defScope s_is_step) .none kV_is_step dc_is_step pm_is_step an_is_step cd_is_step ct_is_step), sl_is_step⟩) (c_is_step : PySem.W.codeIn K cd_is_step "is_step" = true) (k_is_step : PySem.W.keepIn K (.ref f_is_step) = true)
    {f_apart : Addr} {od_apart an_apart : Option Addr} {sl_apart : Array (Option Value)} {oc_apart kV_apart dc_apart pm_apart cd_apart ct_apart : Value}
    (a_apart : PySem.W.nsIn K mainGlobals "apart" = some (some (.ref f_apart))) (l_apart : K.lookup f_apart = some ⟨oc_apart, od_apart, .func (PySem.W.fnOf "apart" "apart" (defArgs s_apart) (defBody s_apart) (defScope s_apart) .none kV_apart dc_apart pm_apart an_apart cd_apart ct_apart), sl_apart⟩) (c_apart : PySem.W.codeIn K cd_apart "apart" = true) (k_apart : PySem.W.keepIn K (.ref f_apart) = true)
    {f_check_row : Addr} {od_check_row an_check_row : Option Addr} {sl_check_row : Array (Option Value)} {oc_check_row kV_check_row dc_check_row pm_check_row cd_check_row ct_check_row : Value}
    (a_check_row : PySem.W.nsIn K mainGlobals "check_row" = some (some (.ref f_check_row))) (l_check_row : K.lookup f_check_row = some ⟨oc_check_row, od_check_row, .func (PySem.W.fnOf "check_row" "check_row" (defArgs s_check_row) (defBody s_check_row) (defScope s_check_row) .none kV_check_row dc_check_row pm_check_row an_check_row cd_check_row ct_check_row), sl_check_row⟩) (c_check_row : PySem.W.codeIn K cd_check_row "check_row" = true) (k_check_row : PySem.W.keepIn K (.ref f_check_row) = true)
    {f_ahead : Addr} {od_ahead an_ahead : Option Addr} {sl_ahead : Array (Option Value)} {oc_ahead kV_ahead dc_ahead pm_ahead cd_ahead ct_ahead : Value}
    (a_ahead : PySem.W.nsIn K mainGlobals "ahead" = some (some (.ref f_ahead))) (l_ahead : K.lookup f_ahead = some ⟨oc_ahead, od_ahead, .func (PySem.W.fnOf "ahead" "ahead" (defArgs s_ahead) (defBody s_ahead) (defScope s_ahead) .none kV_ahead dc_ahead pm_ahead an_ahead cd_ahead ct_ahead), sl_ahead⟩) (c_ahead : PySem.W.codeIn K cd_ahead "ahead" = true) (k_ahead : PySem.W.keepIn K (.ref f_ahead) = true)
    {f_steps_of : Addr} {od_steps_of an_steps_of : Option Addr} {sl_steps_of : Array (Option Value)} {oc_steps_of kV_steps_of dc_steps_of pm_steps_of cd_steps_of ct_steps_of : Value}
    (a_steps_of : PySem.W.nsIn K mainGlobals "_steps_of" = some (some (.ref f_steps_of))) (l_steps_of : K.lookup f_steps_of = some ⟨oc_steps_of, od_steps_of, .func (PySem.W.fnOf "_steps_of" "_steps_of" (defArgs s_steps_of) (defBody s_steps_of) (defScope s_steps_of) .none kV_steps_of dc_steps_of pm_steps_of an_steps_of cd_steps_of ct_steps_of), sl_steps_of⟩) (c_steps_of : PySem.W.codeIn K cd_steps_of "_steps_of" = true) (k_steps_of : PySem.W.keepIn K (.ref f_steps_of) = true)
    {f_is_ahead : Addr} {od_is_ahead an_is_ahead : Option Addr} {sl_is_ahead : Array (Option Value)} {oc_is_ahead kV_is_ahead dc_is_ahead pm_is_ahead cd_is_ahead ct_is_ahead : Value}
    (a_is_ahead : PySem.W.nsIn K mainGlobals "_is_ahead" = some (some (.ref f_is_ahead))) (l_is_ahead : K.lookup f_is_ahead = some ⟨oc_is_ahead, od_is_ahead, .func (PySem.W.fnOf "_is_ahead" "_is_ahead" (defArgs s_is_ahead) (defBody s_is_ahead) (defScope s_is_ahead) .none kV_is_ahead dc_is_ahead pm_is_ahead an_is_ahead cd_is_ahead ct_is_ahead), sl_is_ahead⟩) (c_is_ahead : PySem.W.codeIn K cd_is_ahead "_is_ahead" = true) (k_is_ahead : PySem.W.keepIn K (.ref f_is_ahead) = true)
    {f_walked : Addr} {od_walked an_walked : Option Addr} {sl_walked : Array (Option Value)} {oc_walked kV_walked dc_walked pm_walked cd_walked ct_walked : Value}
    (a_walked : PySem.W.nsIn K mainGlobals "walked" = some (some (.ref f_walked))) (l_walked : K.lookup f_walked = some ⟨oc_walked, od_walked, .func (PySem.W.fnOf "walked" "walked" (defArgs s_walked) (defBody s_walked) (defScope s_walked) .none kV_walked dc_walked pm_walked an_walked cd_walked ct_walked), sl_walked⟩) (c_walked : PySem.W.codeIn K cd_walked "walked" = true) (k_walked : PySem.W.keepIn K (.ref f_walked) = true)
    {f_l_cell_at : Addr} {od_l_cell_at an_l_cell_at : Option Addr} {sl_l_cell_at : Array (Option Value)} {oc_l_cell_at kV_l_cell_at dc_l_cell_at pm_l_cell_at cd_l_cell_at ct_l_cell_at : Value}
    (a_l_cell_at : PySem.W.nsIn K mainGlobals "_law_cell_at" = some (some (.ref f_l_cell_at))) (l_l_cell_at : K.lookup f_l_cell_at = some ⟨oc_l_cell_at, od_l_cell_at, .func (PySem.W.fnOf "_law_cell_at" "_law_cell_at" (defArgs s_l_cell_at) (defBody s_l_cell_at) (defScope s_l_cell_at) .none kV_l_cell_at dc_l_cell_at pm_l_cell_at an_l_cell_at cd_l_cell_at ct_l_cell_at), sl_l_cell_at⟩) (c_l_cell_at : PySem.W.codeIn K cd_l_cell_at "_law_cell_at" = true) (k_l_cell_at : PySem.W.keepIn K (.ref f_l_cell_at) = true)
    {f_l_number_by : Addr} {od_l_number_by an_l_number_by : Option Addr} {sl_l_number_by : Array (Option Value)} {oc_l_number_by kV_l_number_by dc_l_number_by pm_l_number_by cd_l_number_by ct_l_number_by : Value}
    (a_l_number_by : PySem.W.nsIn K mainGlobals "_law_number_by" = some (some (.ref f_l_number_by))) (l_l_number_by : K.lookup f_l_number_by = some ⟨oc_l_number_by, od_l_number_by, .func (PySem.W.fnOf "_law_number_by" "_law_number_by" (defArgs s_l_number_by) (defBody s_l_number_by) (defScope s_l_number_by) .none kV_l_number_by dc_l_number_by pm_l_number_by an_l_number_by cd_l_number_by ct_l_number_by), sl_l_number_by⟩) (c_l_number_by : PySem.W.codeIn K cd_l_number_by "_law_number_by" = true) (k_l_number_by : PySem.W.keepIn K (.ref f_l_number_by) = true)
    {f_l_step_by : Addr} {od_l_step_by an_l_step_by : Option Addr} {sl_l_step_by : Array (Option Value)} {oc_l_step_by kV_l_step_by dc_l_step_by pm_l_step_by cd_l_step_by ct_l_step_by : Value}
    (a_l_step_by : PySem.W.nsIn K mainGlobals "_law_step_by" = some (some (.ref f_l_step_by))) (l_l_step_by : K.lookup f_l_step_by = some ⟨oc_l_step_by, od_l_step_by, .func (PySem.W.fnOf "_law_step_by" "_law_step_by" (defArgs s_l_step_by) (defBody s_l_step_by) (defScope s_l_step_by) .none kV_l_step_by dc_l_step_by pm_l_step_by an_l_step_by cd_l_step_by ct_l_step_by), sl_l_step_by⟩) (c_l_step_by : PySem.W.codeIn K cd_l_step_by "_law_step_by" = true) (k_l_step_by : PySem.W.keepIn K (.ref f_l_step_by) = true)
    {f_l_cells : Addr} {od_l_cells an_l_cells : Option Addr} {sl_l_cells : Array (Option Value)} {oc_l_cells kV_l_cells dc_l_cells pm_l_cells cd_l_cells ct_l_cells : Value}
    (a_l_cells : PySem.W.nsIn K mainGlobals "_law_cells" = some (some (.ref f_l_cells))) (l_l_cells : K.lookup f_l_cells = some ⟨oc_l_cells, od_l_cells, .func (PySem.W.fnOf "_law_cells" "_law_cells" (defArgs s_l_cells) (defBody s_l_cells) (defScope s_l_cells) .none kV_l_cells dc_l_cells pm_l_cells an_l_cells cd_l_cells ct_l_cells), sl_l_cells⟩) (c_l_cells : PySem.W.codeIn K cd_l_cells "_law_cells" = true) (k_l_cells : PySem.W.keepIn K (.ref f_l_cells) = true)
    {f_l_row_by : Addr} {od_l_row_by an_l_row_by : Option Addr} {sl_l_row_by : Array (Option Value)} {oc_l_row_by kV_l_row_by dc_l_row_by pm_l_row_by cd_l_row_by ct_l_row_by : Value}
    (a_l_row_by : PySem.W.nsIn K mainGlobals "_law_row_by" = some (some (.ref f_l_row_by))) (l_l_row_by : K.lookup f_l_row_by = some ⟨oc_l_row_by, od_l_row_by, .func (PySem.W.fnOf "_law_row_by" "_law_row_by" (defArgs s_l_row_by) (defBody s_l_row_by) (defScope s_l_row_by) .none kV_l_row_by dc_l_row_by pm_l_row_by an_l_row_by cd_l_row_by ct_l_row_by), sl_l_row_by⟩) (c_l_row_by : PySem.W.codeIn K cd_l_row_by "_law_row_by" = true) (k_l_row_by : PySem.W.keepIn K (.ref f_l_row_by) = true)
    {f_l_ints : Addr} {od_l_ints an_l_ints : Option Addr} {sl_l_ints : Array (Option Value)} {oc_l_ints kV_l_ints dc_l_ints pm_l_ints cd_l_ints ct_l_ints : Value}
    (a_l_ints : PySem.W.nsIn K mainGlobals "_law_ints" = some (some (.ref f_l_ints))) (l_l_ints : K.lookup f_l_ints = some ⟨oc_l_ints, od_l_ints, .func (PySem.W.fnOf "_law_ints" "_law_ints" (defArgs s_l_ints) (defBody s_l_ints) (defScope s_l_ints) .none kV_l_ints dc_l_ints pm_l_ints an_l_ints cd_l_ints ct_l_ints), sl_l_ints⟩) (c_l_ints : PySem.W.codeIn K cd_l_ints "_law_ints" = true) (k_l_ints : PySem.W.keepIn K (.ref f_l_ints) = true)
    {f_l_can : Addr} {od_l_can an_l_can : Option Addr} {sl_l_can : Array (Option Value)} {oc_l_can kV_l_can dc_l_can pm_l_can cd_l_can ct_l_can : Value}
    (a_l_can : PySem.W.nsIn K mainGlobals "_law_can" = some (some (.ref f_l_can))) (l_l_can : K.lookup f_l_can = some ⟨oc_l_can, od_l_can, .func (PySem.W.fnOf "_law_can" "_law_can" (defArgs s_l_can) (defBody s_l_can) (defScope s_l_can) .none kV_l_can dc_l_can pm_l_can an_l_can cd_l_can ct_l_can), sl_l_can⟩) (c_l_can : PySem.W.codeIn K cd_l_can "_law_can" = true) (k_l_can : PySem.W.keepIn K (.ref f_l_can) = true)
    {f_l_done : Addr} {od_l_done an_l_done : Option Addr} {sl_l_done : Array (Option Value)} {oc_l_done kV_l_done dc_l_done pm_l_done cd_l_done ct_l_done : Value}
    (a_l_done : PySem.W.nsIn K mainGlobals "_law_done" = some (some (.ref f_l_done))) (l_l_done : K.lookup f_l_done = some ⟨oc_l_done, od_l_done, .func (PySem.W.fnOf "_law_done" "_law_done" (defArgs s_l_done) (defBody s_l_done) (defScope s_l_done) .none kV_l_done dc_l_done pm_l_done an_l_done cd_l_done ct_l_done), sl_l_done⟩) (c_l_done : PySem.W.codeIn K cd_l_done "_law_done" = true) (k_l_done : PySem.W.keepIn K (.ref f_l_done) = true)
    {f_l_apart : Addr} {od_l_apart an_l_apart : Option Addr} {sl_l_apart : Array (Option Value)} {oc_l_apart kV_l_apart dc_l_apart pm_l_apart cd_l_apart ct_l_apart : Value}
    (a_l_apart : PySem.W.nsIn K mainGlobals "_law_apart" = some (some (.ref f_l_apart))) (l_l_apart : K.lookup f_l_apart = some ⟨oc_l_apart, od_l_apart, .func (PySem.W.fnOf "_law_apart" "_law_apart" (defArgs s_l_apart) (defBody s_l_apart) (defScope s_l_apart) .none kV_l_apart dc_l_apart pm_l_apart an_l_apart cd_l_apart ct_l_apart), sl_l_apart⟩) (c_l_apart : PySem.W.codeIn K cd_l_apart "_law_apart" = true) (k_l_apart : PySem.W.keepIn K (.ref f_l_apart) = true)
    {f_l_order_by : Addr} {od_l_order_by an_l_order_by : Option Addr} {sl_l_order_by : Array (Option Value)} {oc_l_order_by kV_l_order_by dc_l_order_by pm_l_order_by cd_l_order_by ct_l_order_by : Value}
    (a_l_order_by : PySem.W.nsIn K mainGlobals "_law_order_by" = some (some (.ref f_l_order_by))) (l_l_order_by : K.lookup f_l_order_by = some ⟨oc_l_order_by, od_l_order_by, .func (PySem.W.fnOf "_law_order_by" "_law_order_by" (defArgs s_l_order_by) (defBody s_l_order_by) (defScope s_l_order_by) .none kV_l_order_by dc_l_order_by pm_l_order_by an_l_order_by cd_l_order_by ct_l_order_by), sl_l_order_by⟩) (c_l_order_by : PySem.W.codeIn K cd_l_order_by "_law_order_by" = true) (k_l_order_by : PySem.W.keepIn K (.ref f_l_order_by) = true)
    {f_l_ahead : Addr} {od_l_ahead an_l_ahead : Option Addr} {sl_l_ahead : Array (Option Value)} {oc_l_ahead kV_l_ahead dc_l_ahead pm_l_ahead cd_l_ahead ct_l_ahead : Value}
    (a_l_ahead : PySem.W.nsIn K mainGlobals "_law_ahead" = some (some (.ref f_l_ahead))) (l_l_ahead : K.lookup f_l_ahead = some ⟨oc_l_ahead, od_l_ahead, .func (PySem.W.fnOf "_law_ahead" "_law_ahead" (defArgs s_l_ahead) (defBody s_l_ahead) (defScope s_l_ahead) .none kV_l_ahead dc_l_ahead pm_l_ahead an_l_ahead cd_l_ahead ct_l_ahead), sl_l_ahead⟩) (c_l_ahead : PySem.W.codeIn K cd_l_ahead "_law_ahead" = true) (k_l_ahead : PySem.W.keepIn K (.ref f_l_ahead) = true)
    {f_l_pair : Addr} {od_l_pair an_l_pair : Option Addr} {sl_l_pair : Array (Option Value)} {oc_l_pair kV_l_pair dc_l_pair pm_l_pair cd_l_pair ct_l_pair : Value}
    (a_l_pair : PySem.W.nsIn K mainGlobals "_law_pair" = some (some (.ref f_l_pair))) (l_l_pair : K.lookup f_l_pair = some ⟨oc_l_pair, od_l_pair, .func (PySem.W.fnOf "_law_pair" "_law_pair" (defArgs s_l_pair) (defBody s_l_pair) (defScope s_l_pair) .none kV_l_pair dc_l_pair pm_l_pair an_l_pair cd_l_pair ct_l_pair), sl_l_pair⟩) (c_l_pair : PySem.W.codeIn K cd_l_pair "_law_pair" = true) (k_l_pair : PySem.W.keepIn K (.ref f_l_pair) = true)
    {f_l_more : Addr} {od_l_more an_l_more : Option Addr} {sl_l_more : Array (Option Value)} {oc_l_more kV_l_more dc_l_more pm_l_more cd_l_more ct_l_more : Value}
    (a_l_more : PySem.W.nsIn K mainGlobals "_law_more" = some (some (.ref f_l_more))) (l_l_more : K.lookup f_l_more = some ⟨oc_l_more, od_l_more, .func (PySem.W.fnOf "_law_more" "_law_more" (defArgs s_l_more) (defBody s_l_more) (defScope s_l_more) .none kV_l_more dc_l_more pm_l_more an_l_more cd_l_more ct_l_more), sl_l_more⟩) (c_l_more : PySem.W.codeIn K cd_l_more "_law_more" = true) (k_l_more : PySem.W.keepIn K (.ref f_l_more) = true)
    {f_law : Addr} {od_law an_law : Option Addr} {sl_law : Array (Option Value)} {oc_law kV_law dc_law pm_law cd_law ct_law : Value}
    (a_law : PySem.W.nsIn K mainGlobals "law" = some (some (.ref f_law))) (l_law : K.lookup f_law = some ⟨oc_law, od_law, .func (PySem.W.fnOf "law" "law" (defArgs s_law) (defBody s_law) (defScope s_law) .none kV_law dc_law pm_law an_law cd_law ct_law), sl_law⟩) (c_law : PySem.W.codeIn K cd_law "law" = true) (k_law : PySem.W.keepIn K (.ref f_law) = true)
    {aa_BOX_WORDS : Addr} {dd_BOX_WORDS : Option Addr} {it_BOX_WORDS : Array Value} {n_BOX_WORDS : Nat} {sl_BOX_WORDS : Array (Option Value)} (a_BOX_WORDS : PySem.W.nsIn K mainGlobals "BOX_WORDS" = some (some (.ref aa_BOX_WORDS))) (l_BOX_WORDS : K.lookup aa_BOX_WORDS = some ⟨.type "tuple", dd_BOX_WORDS, .seq it_BOX_WORDS n_BOX_WORDS, sl_BOX_WORDS⟩) (v_BOX_WORDS : Vals [V.str "load", V.str "plus", V.str "store"] it_BOX_WORDS.toList)
    {aa_GUARD_WORDS : Addr} {dd_GUARD_WORDS : Option Addr} {it_GUARD_WORDS : Array Value} {n_GUARD_WORDS : Nat} {sl_GUARD_WORDS : Array (Option Value)} (a_GUARD_WORDS : PySem.W.nsIn K mainGlobals "GUARD_WORDS" = some (some (.ref aa_GUARD_WORDS))) (l_GUARD_WORDS : K.lookup aa_GUARD_WORDS = some ⟨.type "tuple", dd_GUARD_WORDS, .seq it_GUARD_WORDS n_GUARD_WORDS, sl_GUARD_WORDS⟩) (v_GUARD_WORDS : Vals [V.str "take", V.str "free"] it_GUARD_WORDS.toList)
    {aa_BARE_WORDS : Addr} {dd_BARE_WORDS : Option Addr} {it_BARE_WORDS : Array Value} {n_BARE_WORDS : Nat} {sl_BARE_WORDS : Array (Option Value)} (a_BARE_WORDS : PySem.W.nsIn K mainGlobals "BARE_WORDS" = some (some (.ref aa_BARE_WORDS))) (l_BARE_WORDS : K.lookup aa_BARE_WORDS = some ⟨.type "tuple", dd_BARE_WORDS, .seq it_BARE_WORDS n_BARE_WORDS, sl_BARE_WORDS⟩) (v_BARE_WORDS : Vals [V.str "twice", V.str "take", V.str "free"] it_BARE_WORDS.toList)
    {tt_MOST_STEPS : Tok} (a_MOST_STEPS : PySem.W.nsIn K mainGlobals "MOST_STEPS" = some (some (.int 60 tt_MOST_STEPS)))
    (z_len : PySem.W.nsIn K mainGlobals "len" = some none)
    (z_isinstance : PySem.W.nsIn K mainGlobals "isinstance" = some none)
    (z_int : PySem.W.nsIn K mainGlobals "int" = some none)
    (z_bool : PySem.W.nsIn K mainGlobals "bool" = some none)
    (z_str : PySem.W.nsIn K mainGlobals "str" = some none)
    (z_list : PySem.W.nsIn K mainGlobals "list" = some none)
    (z_tuple : PySem.W.nsIn K mainGlobals "tuple" = some none)
    (z_range : PySem.W.nsIn K mainGlobals "range" = some none)
    (z_all : PySem.W.nsIn K mainGlobals "all" = some none)
    (z_enumerate : PySem.W.nsIn K mainGlobals "enumerate" = some none)
    (z_ValueError : PySem.W.nsIn K mainGlobals "ValueError" = some none)
    (z_min : PySem.W.nsIn K mainGlobals "min" = some none)
    {C_Loom : Addr} (aC_Loom : PySem.W.nsIn K mainGlobals "Loom" = some (some (.ref C_Loom))) (pg_Loom : PySem.W.plainGet K C_Loom Str.empty = true) (hd_Loom : PySem.W.hasDictIn K C_Loom = true) (po_Loom : PySem.W.plainOver K C_Loom = true) (sa_Loom : PySem.W.findIn K (.ref C_Loom) "__setattr__" = some (some (.builtin "object.__setattr__"))) (mk_Loom : PySem.W.makesIn K C_Loom = true) (kc_Loom : PySem.W.keepIn K (.ref C_Loom) = true)
    (no__rows : PySem.W.findIn K (.ref C_Loom) "_rows" = some none)
    (no_boxes : PySem.W.findIn K (.ref C_Loom) "boxes" = some none)
    (no_numbers : PySem.W.findIn K (.ref C_Loom) "numbers" = some none)
    (no_places : PySem.W.findIn K (.ref C_Loom) "places" = some none)
    (no_holder : PySem.W.findIn K (.ref C_Loom) "holder" = some none)
    {f_Loom___init : Addr} {od_Loom___init an_Loom___init : Option Addr} {sl_Loom___init : Array (Option Value)} {oc_Loom___init kV_Loom___init dc_Loom___init pm_Loom___init cd_Loom___init ct_Loom___init : Value}
    (a_Loom___init : PySem.W.findIn K (.ref C_Loom) "__init__" = some (some (.ref f_Loom___init))) (i_Loom___init : PySem.W.isFn K (.ref f_Loom___init) = true) (l_Loom___init : K.lookup f_Loom___init = some ⟨oc_Loom___init, od_Loom___init, .func (PySem.W.fnOf "__init__" "Loom.__init__" (defArgs s_Loom___init) (defBody s_Loom___init) (defScope s_Loom___init) .none kV_Loom___init dc_Loom___init pm_Loom___init an_Loom___init cd_Loom___init ct_Loom___init), sl_Loom___init⟩) (c_Loom___init : PySem.W.codeIn K cd_Loom___init "Loom.__init__" = true) (k_Loom___init : PySem.W.keepIn K (.ref f_Loom___init) = true)
    {f_Loom_over : Addr} {od_Loom_over an_Loom_over : Option Addr} {sl_Loom_over : Array (Option Value)} {oc_Loom_over kV_Loom_over dc_Loom_over pm_Loom_over cd_Loom_over ct_Loom_over : Value}
    (a_Loom_over : PySem.W.findIn K (.ref C_Loom) "over" = some (some (.ref f_Loom_over))) (i_Loom_over : PySem.W.isFn K (.ref f_Loom_over) = true) (l_Loom_over : K.lookup f_Loom_over = some ⟨oc_Loom_over, od_Loom_over, .func (PySem.W.fnOf "over" "Loom.over" (defArgs s_Loom_over) (defBody s_Loom_over) (defScope s_Loom_over) .none kV_Loom_over dc_Loom_over pm_Loom_over an_Loom_over cd_Loom_over ct_Loom_over), sl_Loom_over⟩) (c_Loom_over : PySem.W.codeIn K cd_Loom_over "Loom.over" = true) (k_Loom_over : PySem.W.keepIn K (.ref f_Loom_over) = true)
    {f_Loom_waits : Addr} {od_Loom_waits an_Loom_waits : Option Addr} {sl_Loom_waits : Array (Option Value)} {oc_Loom_waits kV_Loom_waits dc_Loom_waits pm_Loom_waits cd_Loom_waits ct_Loom_waits : Value}
    (a_Loom_waits : PySem.W.findIn K (.ref C_Loom) "waits" = some (some (.ref f_Loom_waits))) (i_Loom_waits : PySem.W.isFn K (.ref f_Loom_waits) = true) (l_Loom_waits : K.lookup f_Loom_waits = some ⟨oc_Loom_waits, od_Loom_waits, .func (PySem.W.fnOf "waits" "Loom.waits" (defArgs s_Loom_waits) (defBody s_Loom_waits) (defScope s_Loom_waits) .none kV_Loom_waits dc_Loom_waits pm_Loom_waits an_Loom_waits cd_Loom_waits ct_Loom_waits), sl_Loom_waits⟩) (c_Loom_waits : PySem.W.codeIn K cd_Loom_waits "Loom.waits" = true) (k_Loom_waits : PySem.W.keepIn K (.ref f_Loom_waits) = true)
    {f_Loom_go : Addr} {od_Loom_go an_Loom_go : Option Addr} {sl_Loom_go : Array (Option Value)} {oc_Loom_go kV_Loom_go dc_Loom_go pm_Loom_go cd_Loom_go ct_Loom_go : Value}
    (a_Loom_go : PySem.W.findIn K (.ref C_Loom) "go" = some (some (.ref f_Loom_go))) (i_Loom_go : PySem.W.isFn K (.ref f_Loom_go) = true) (l_Loom_go : K.lookup f_Loom_go = some ⟨oc_Loom_go, od_Loom_go, .func (PySem.W.fnOf "go" "Loom.go" (defArgs s_Loom_go) (defBody s_Loom_go) (defScope s_Loom_go) .none kV_Loom_go dc_Loom_go pm_Loom_go an_Loom_go cd_Loom_go ct_Loom_go), sl_Loom_go⟩) (c_Loom_go : PySem.W.codeIn K cd_Loom_go "Loom.go" = true) (k_Loom_go : PySem.W.keepIn K (.ref f_Loom_go) = true)
    {f_Loom_twin : Addr} {od_Loom_twin an_Loom_twin : Option Addr} {sl_Loom_twin : Array (Option Value)} {oc_Loom_twin kV_Loom_twin dc_Loom_twin pm_Loom_twin cd_Loom_twin ct_Loom_twin : Value}
    (a_Loom_twin : PySem.W.findIn K (.ref C_Loom) "twin" = some (some (.ref f_Loom_twin))) (i_Loom_twin : PySem.W.isFn K (.ref f_Loom_twin) = true) (l_Loom_twin : K.lookup f_Loom_twin = some ⟨oc_Loom_twin, od_Loom_twin, .func (PySem.W.fnOf "twin" "Loom.twin" (defArgs s_Loom_twin) (defBody s_Loom_twin) (defScope s_Loom_twin) .none kV_Loom_twin dc_Loom_twin pm_Loom_twin an_Loom_twin cd_Loom_twin ct_Loom_twin), sl_Loom_twin⟩) (c_Loom_twin : PySem.W.codeIn K cd_Loom_twin "Loom.twin" = true) (k_Loom_twin : PySem.W.keepIn K (.ref f_Loom_twin) = true)
    {f_Loom__next_step : Addr} {od_Loom__next_step an_Loom__next_step : Option Addr} {sl_Loom__next_step : Array (Option Value)} {oc_Loom__next_step kV_Loom__next_step dc_Loom__next_step pm_Loom__next_step cd_Loom__next_step ct_Loom__next_step : Value}
    (a_Loom__next_step : PySem.W.findIn K (.ref C_Loom) "_next_step" = some (some (.ref f_Loom__next_step))) (i_Loom__next_step : PySem.W.isFn K (.ref f_Loom__next_step) = true) (l_Loom__next_step : K.lookup f_Loom__next_step = some ⟨oc_Loom__next_step, od_Loom__next_step, .func (PySem.W.fnOf "_next_step" "Loom._next_step" (defArgs s_Loom__next_step) (defBody s_Loom__next_step) (defScope s_Loom__next_step) .none kV_Loom__next_step dc_Loom__next_step pm_Loom__next_step an_Loom__next_step cd_Loom__next_step ct_Loom__next_step), sl_Loom__next_step⟩) (c_Loom__next_step : PySem.W.codeIn K cd_Loom__next_step "Loom._next_step" = true) (k_Loom__next_step : PySem.W.keepIn K (.ref f_Loom__next_step) = true)
    {f_Loom__do_guard : Addr} {od_Loom__do_guard an_Loom__do_guard : Option Addr} {sl_Loom__do_guard : Array (Option Value)} {oc_Loom__do_guard kV_Loom__do_guard dc_Loom__do_guard pm_Loom__do_guard cd_Loom__do_guard ct_Loom__do_guard : Value}
    (a_Loom__do_guard : PySem.W.findIn K (.ref C_Loom) "_do_guard" = some (some (.ref f_Loom__do_guard))) (i_Loom__do_guard : PySem.W.isFn K (.ref f_Loom__do_guard) = true) (l_Loom__do_guard : K.lookup f_Loom__do_guard = some ⟨oc_Loom__do_guard, od_Loom__do_guard, .func (PySem.W.fnOf "_do_guard" "Loom._do_guard" (defArgs s_Loom__do_guard) (defBody s_Loom__do_guard) (defScope s_Loom__do_guard) .none kV_Loom__do_guard dc_Loom__do_guard pm_Loom__do_guard an_Loom__do_guard cd_Loom__do_guard ct_Loom__do_guard), sl_Loom__do_guard⟩) (c_Loom__do_guard : PySem.W.codeIn K cd_Loom__do_guard "Loom._do_guard" = true) (k_Loom__do_guard : PySem.W.keepIn K (.ref f_Loom__do_guard) = true)
    {f_Loom__do_box : Addr} {od_Loom__do_box an_Loom__do_box : Option Addr} {sl_Loom__do_box : Array (Option Value)} {oc_Loom__do_box kV_Loom__do_box dc_Loom__do_box pm_Loom__do_box cd_Loom__do_box ct_Loom__do_box : Value}
    (a_Loom__do_box : PySem.W.findIn K (.ref C_Loom) "_do_box" = some (some (.ref f_Loom__do_box))) (i_Loom__do_box : PySem.W.isFn K (.ref f_Loom__do_box) = true) (l_Loom__do_box : K.lookup f_Loom__do_box = some ⟨oc_Loom__do_box, od_Loom__do_box, .func (PySem.W.fnOf "_do_box" "Loom._do_box" (defArgs s_Loom__do_box) (defBody s_Loom__do_box) (defScope s_Loom__do_box) .none kV_Loom__do_box dc_Loom__do_box pm_Loom__do_box an_Loom__do_box cd_Loom__do_box ct_Loom__do_box), sl_Loom__do_box⟩) (c_Loom__do_box : PySem.W.codeIn K cd_Loom__do_box "Loom._do_box" = true) (k_Loom__do_box : PySem.W.keepIn K (.ref f_Loom__do_box) = true)
    {C_NoTurn : Addr} (g_NoTurn : PySem.W.nsIn K mainGlobals "NoTurn" = some (some (.ref C_NoTurn))) (x_NoTurn : PySem.W.excIn K C_NoTurn [.type "ValueError", .type "Exception", .type "BaseException", .type "object"] "ValueError.__new__" = true) (kx_NoTurn : PySem.W.keepIn K (.ref C_NoTurn) = true) (s_NoTurn : PySem.W.subIn K (.ref C_NoTurn) (.type "BaseException") = some true) (t_NoTurn : PySem.W.typeIn K (.ref C_NoTurn) = some (.type "type"))
    {C_Waits : Addr} (g_Waits : PySem.W.nsIn K mainGlobals "Waits" = some (some (.ref C_Waits))) (x_Waits : PySem.W.excIn K C_Waits [.type "ValueError", .type "Exception", .type "BaseException", .type "object"] "ValueError.__new__" = true) (kx_Waits : PySem.W.keepIn K (.ref C_Waits) = true) (s_Waits : PySem.W.subIn K (.ref C_Waits) (.type "BaseException") = some true) (t_Waits : PySem.W.typeIn K (.ref C_Waits) = some (.type "type"))
    {C_Again : Addr} (g_Again : PySem.W.nsIn K mainGlobals "Again" = some (some (.ref C_Again))) (x_Again : PySem.W.excIn K C_Again [.type "ValueError", .type "Exception", .type "BaseException", .type "object"] "ValueError.__new__" = true) (kx_Again : PySem.W.keepIn K (.ref C_Again) = true) (s_Again : PySem.W.subIn K (.ref C_Again) (.type "BaseException") = some true) (t_Again : PySem.W.typeIn K (.ref C_Again) = some (.type "type"))
    {C_NotHeld : Addr} (g_NotHeld : PySem.W.nsIn K mainGlobals "NotHeld" = some (some (.ref C_NotHeld))) (x_NotHeld : PySem.W.excIn K C_NotHeld [.type "ValueError", .type "Exception", .type "BaseException", .type "object"] "ValueError.__new__" = true) (kx_NotHeld : PySem.W.keepIn K (.ref C_NotHeld) = true) (s_NotHeld : PySem.W.subIn K (.ref C_NotHeld) (.type "BaseException") = some true) (t_NotHeld : PySem.W.typeIn K (.ref C_NotHeld) = some (.type "type"))
    {C_WeaveError : Addr} (g_WeaveError : PySem.W.nsIn K mainGlobals "WeaveError" = some (some (.ref C_WeaveError)))
    (e1_NoTurn : PySem.W.findIn K (.ref C_NoTurn) "__getattribute__" = some (some (.builtin "BaseException.__getattribute__"))) (e2_NoTurn : PySem.W.findIn K (.ref C_NoTurn) "__getattr__" = some none) (e3_NoTurn : PySem.W.hasDictIn K C_NoTurn = true) (e4_NoTurn : PySem.W.findIn K (.ref C_NoTurn) "__class__" = some (some (.builtin "object.__class__"))) (e5_NoTurn : PySem.W.specialIn K (.builtin "object.__class__") "__get__" = some (some (.builtin "getset_descriptor.__get__"))) (e6_NoTurn : PySem.W.takesIn K (.builtin "object.__class__") = some true) (e7_NoTurn : PySem.W.mroIn K C_NoTurn (.type "object") = some true) (kv_NoTurn : PySem.W.kitOne K (.ref C_NoTurn) (.type "ValueError") = some true)
    (ex_NoTurn_NoTurn : PySem.W.exmOne K (.ref C_NoTurn) (.ref C_NoTurn) = some true)
    (ex_NoTurn_Waits : PySem.W.exmOne K (.ref C_NoTurn) (.ref C_Waits) = some false)
    (ex_NoTurn_Again : PySem.W.exmOne K (.ref C_NoTurn) (.ref C_Again) = some false)
    (ex_NoTurn_NotHeld : PySem.W.exmOne K (.ref C_NoTurn) (.ref C_NotHeld) = some false)
    (ex_NoTurn_WeaveError : PySem.W.exmOne K (.ref C_NoTurn) (.ref C_WeaveError) = some true)
    (e1_Waits : PySem.W.findIn K (.ref C_Waits) "__getattribute__" = some (some (.builtin "BaseException.__getattribute__"))) (e2_Waits : PySem.W.findIn K (.ref C_Waits) "__getattr__" = some none) (e3_Waits : PySem.W.hasDictIn K C_Waits = true) (e4_Waits : PySem.W.findIn K (.ref C_Waits) "__class__" = some (some (.builtin "object.__class__"))) (e5_Waits : PySem.W.specialIn K (.builtin "object.__class__") "__get__" = some (some (.builtin "getset_descriptor.__get__"))) (e6_Waits : PySem.W.takesIn K (.builtin "object.__class__") = some true) (e7_Waits : PySem.W.mroIn K C_Waits (.type "object") = some true) (kv_Waits : PySem.W.kitOne K (.ref C_Waits) (.type "ValueError") = some true)
    (ex_Waits_NoTurn : PySem.W.exmOne K (.ref C_Waits) (.ref C_NoTurn) = some false)
    (ex_Waits_Waits : PySem.W.exmOne K (.ref C_Waits) (.ref C_Waits) = some true)
    (ex_Waits_Again : PySem.W.exmOne K (.ref C_Waits) (.ref C_Again) = some false)
    (ex_Waits_NotHeld : PySem.W.exmOne K (.ref C_Waits) (.ref C_NotHeld) = some false)
    (ex_Waits_WeaveError : PySem.W.exmOne K (.ref C_Waits) (.ref C_WeaveError) = some true)
    (e1_Again : PySem.W.findIn K (.ref C_Again) "__getattribute__" = some (some (.builtin "BaseException.__getattribute__"))) (e2_Again : PySem.W.findIn K (.ref C_Again) "__getattr__" = some none) (e3_Again : PySem.W.hasDictIn K C_Again = true) (e4_Again : PySem.W.findIn K (.ref C_Again) "__class__" = some (some (.builtin "object.__class__"))) (e5_Again : PySem.W.specialIn K (.builtin "object.__class__") "__get__" = some (some (.builtin "getset_descriptor.__get__"))) (e6_Again : PySem.W.takesIn K (.builtin "object.__class__") = some true) (e7_Again : PySem.W.mroIn K C_Again (.type "object") = some true) (kv_Again : PySem.W.kitOne K (.ref C_Again) (.type "ValueError") = some true)
    (ex_Again_NoTurn : PySem.W.exmOne K (.ref C_Again) (.ref C_NoTurn) = some false)
    (ex_Again_Waits : PySem.W.exmOne K (.ref C_Again) (.ref C_Waits) = some false)
    (ex_Again_Again : PySem.W.exmOne K (.ref C_Again) (.ref C_Again) = some true)
    (ex_Again_NotHeld : PySem.W.exmOne K (.ref C_Again) (.ref C_NotHeld) = some false)
    (ex_Again_WeaveError : PySem.W.exmOne K (.ref C_Again) (.ref C_WeaveError) = some true)
    (e1_NotHeld : PySem.W.findIn K (.ref C_NotHeld) "__getattribute__" = some (some (.builtin "BaseException.__getattribute__"))) (e2_NotHeld : PySem.W.findIn K (.ref C_NotHeld) "__getattr__" = some none) (e3_NotHeld : PySem.W.hasDictIn K C_NotHeld = true) (e4_NotHeld : PySem.W.findIn K (.ref C_NotHeld) "__class__" = some (some (.builtin "object.__class__"))) (e5_NotHeld : PySem.W.specialIn K (.builtin "object.__class__") "__get__" = some (some (.builtin "getset_descriptor.__get__"))) (e6_NotHeld : PySem.W.takesIn K (.builtin "object.__class__") = some true) (e7_NotHeld : PySem.W.mroIn K C_NotHeld (.type "object") = some true) (kv_NotHeld : PySem.W.kitOne K (.ref C_NotHeld) (.type "ValueError") = some true)
    (ex_NotHeld_NoTurn : PySem.W.exmOne K (.ref C_NotHeld) (.ref C_NoTurn) = some false)
    (ex_NotHeld_Waits : PySem.W.exmOne K (.ref C_NotHeld) (.ref C_Waits) = some false)
    (ex_NotHeld_Again : PySem.W.exmOne K (.ref C_NotHeld) (.ref C_Again) = some false)
    (ex_NotHeld_NotHeld : PySem.W.exmOne K (.ref C_NotHeld) (.ref C_NotHeld) = some true)
    (ex_NotHeld_WeaveError : PySem.W.exmOne K (.ref C_NotHeld) (.ref C_WeaveError) = some true)
    {q : Program} (TF : GQ.TabF q mg h) {cc_is_ahead PP_is_ahead : Addr} {ve_is_ahead : Value} {vd_is_ahead : Option Addr} {vv_is_ahead : Array Value} {vl_is_ahead : Array (Option Value)} (tc_is_ahead : cd_is_ahead = .ref cc_is_ahead) (tl_is_ahead : K.lookup cc_is_ahead = some ⟨ve_is_ahead, vd_is_ahead, .fields vv_is_ahead, vl_is_ahead⟩) (tp_is_ahead : vv_is_ahead[11]? = some (.ref PP_is_ahead)) (tn_is_ahead : K.lookup PP_is_ahead = none) (qr_is_ahead : ((recsOf q).any fun e => e.name == "_is_ahead") = true)
    : LamX.LawAtS l w K CX0 9 63 "_law_script" mg fa h := by
  have e := hfa.symm.trans (PySem.W.mg_of X G a_law)
  cases e
  have TT := GQ.tab_of X TF qr_is_ahead (PySem.W.mg_of X G a_is_ahead) l_is_ahead tc_is_ahead tl_is_ahead tp_is_ahead
  let T : Txt K mg := { f_wall := f_wall, d_wall := _, F_wall := fun_mk (st := s_wall) l_wall c_wall k_wall, m_wall := PySem.W.mg_of X G a_wall, b_wall := (fun_mk (st := s_wall) l_wall c_wall k_wall).binds (ps := ["k"]) (fun _ _ _ _ _ _ us hl => match us, hl with | [_], _ => rfl), f_is_whole := f_is_whole, d_is_whole := _, F_is_whole := fun_mk (st := s_is_whole) l_is_whole c_is_whole k_is_whole, m_is_whole := PySem.W.mg_of X G a_is_whole, b_is_whole := (fun_mk (st := s_is_whole) l_is_whole c_is_whole k_is_whole).binds (ps := ["thing"]) (fun _ _ _ _ _ _ us hl => match us, hl with | [_], _ => rfl), f_is_step := f_is_step, d_is_step := _, F_is_step := fun_mk (st := s_is_step) l_is_step c_is_step k_is_step, m_is_step := PySem.W.mg_of X G a_is_step, b_is_step := (fun_mk (st := s_is_step) l_is_step c_is_step k_is_step).binds (ps := ["thing"]) (fun _ _ _ _ _ _ us hl => match us, hl with | [_], _ => rfl), f_apart := f_apart, d_apart := _, F_apart := fun_mk (st := s_apart) l_apart c_apart k_apart, m_apart := PySem.W.mg_of X G a_apart, b_apart := (fun_mk (st := s_apart) l_apart c_apart k_apart).binds (ps := ["one", "other"]) (fun _ _ _ _ _ _ us hl => match us, hl with | [_, _], _ => rfl), f_check_row := f_check_row, d_check_row := _, F_check_row := fun_mk (st := s_check_row) l_check_row c_check_row k_check_row, m_check_row := PySem.W.mg_of X G a_check_row, b_check_row := (fun_mk (st := s_check_row) l_check_row c_check_row k_check_row).binds (ps := ["row", "boxes"]) (fun _ _ _ _ _ _ us hl => match us, hl with | [_, _], _ => rfl), f_ahead := f_ahead, d_ahead := _, F_ahead := fun_mk (st := s_ahead) l_ahead c_ahead k_ahead, m_ahead := PySem.W.mg_of X G a_ahead, b_ahead := (fun_mk (st := s_ahead) l_ahead c_ahead k_ahead).binds (ps := ["ones", "others", "order"]) (fun _ _ _ _ _ _ us hl => match us, hl with | [_, _, _], _ => rfl), f_steps_of := f_steps_of, d_steps_of := _, F_steps_of := fun_mk (st := s_steps_of) l_steps_of c_steps_of k_steps_of, m_steps_of := PySem.W.mg_of X G a_steps_of, b_steps_of := (fun_mk (st := s_steps_of) l_steps_of c_steps_of k_steps_of).binds (ps := ["ones", "others", "order"]) (fun _ _ _ _ _ _ us hl => match us, hl with | [_, _, _], _ => rfl), f_is_ahead := f_is_ahead, d_is_ahead := _, F_is_ahead := fun_mk (st := s_is_ahead) l_is_ahead c_is_ahead k_is_ahead, m_is_ahead := PySem.W.mg_of X G a_is_ahead, b_is_ahead := (fun_mk (st := s_is_ahead) l_is_ahead c_is_ahead k_is_ahead).binds (ps := ["hand", "steps"]) (fun _ _ _ _ _ _ us hl => match us, hl with | [_, _], _ => rfl), f_walked := f_walked, d_walked := _, F_walked := fun_mk (st := s_walked) l_walked c_walked k_walked, m_walked := PySem.W.mg_of X G a_walked, b_walked := (fun_mk (st := s_walked) l_walked c_walked k_walked).binds (ps := ["ones", "others", "boxes", "order"]) (fun _ _ _ _ _ _ us hl => match us, hl with | [_, _, _, _], _ => rfl), f_l_cell_at := f_l_cell_at, d_l_cell_at := _, F_l_cell_at := fun_mk (st := s_l_cell_at) l_l_cell_at c_l_cell_at k_l_cell_at, m_l_cell_at := PySem.W.mg_of X G a_l_cell_at, b_l_cell_at := (fun_mk (st := s_l_cell_at) l_l_cell_at c_l_cell_at k_l_cell_at).binds (ps := ["_law_script", "_law_k"]) (fun _ _ _ _ _ _ us hl => match us, hl with | [_, _], _ => rfl), f_l_number_by := f_l_number_by, d_l_number_by := _, F_l_number_by := fun_mk (st := s_l_number_by) l_l_number_by c_l_number_by k_l_number_by, m_l_number_by := PySem.W.mg_of X G a_l_number_by, b_l_number_by := (fun_mk (st := s_l_number_by) l_l_number_by c_l_number_by k_l_number_by).binds (ps := ["_law_cell"]) (fun _ _ _ _ _ _ us hl => match us, hl with | [_], _ => rfl), f_l_step_by := f_l_step_by, d_l_step_by := _, F_l_step_by := fun_mk (st := s_l_step_by) l_l_step_by c_l_step_by k_l_step_by, m_l_step_by := PySem.W.mg_of X G a_l_step_by, b_l_step_by := (fun_mk (st := s_l_step_by) l_l_step_by c_l_step_by k_l_step_by).binds (ps := ["_law_cell", "_law_many", "_law_held"]) (fun _ _ _ _ _ _ us hl => match us, hl with | [_, _, _], _ => rfl), f_l_cells := f_l_cells, d_l_cells := _, F_l_cells := fun_mk (st := s_l_cells) l_l_cells c_l_cells k_l_cells, m_l_cells := PySem.W.mg_of X G a_l_cells, b_l_cells := (fun_mk (st := s_l_cells) l_l_cells c_l_cells k_l_cells).binds (ps := ["_law_script", "_law_start", "_law_size"]) (fun _ _ _ _ _ _ us hl => match us, hl with | [_, _, _], _ => rfl), f_l_row_by := f_l_row_by, d_l_row_by := _, F_l_row_by := fun_mk (st := s_l_row_by) l_l_row_by c_l_row_by k_l_row_by, m_l_row_by := PySem.W.mg_of X G a_l_row_by, b_l_row_by := (fun_mk (st := s_l_row_by) l_l_row_by c_l_row_by k_l_row_by).binds (ps := ["_law_cells_here", "_law_many"]) (fun _ _ _ _ _ _ us hl => match us, hl with | [_, _], _ => rfl), f_l_ints := f_l_ints, d_l_ints := _, F_l_ints := fun_mk (st := s_l_ints) l_l_ints c_l_ints k_l_ints, m_l_ints := PySem.W.mg_of X G a_l_ints, b_l_ints := (fun_mk (st := s_l_ints) l_l_ints c_l_ints k_l_ints).binds (ps := ["_law_found", "_law_due"]) (fun _ _ _ _ _ _ us hl => match us, hl with | [_, _], _ => rfl), f_l_can := f_l_can, d_l_can := _, F_l_can := fun_mk (st := s_l_can) l_l_can c_l_can k_l_can, m_l_can := PySem.W.mg_of X G a_l_can, b_l_can := (fun_mk (st := s_l_can) l_l_can c_l_can k_l_can).binds (ps := ["_law_stand", "_law_hand"]) (fun _ _ _ _ _ _ us hl => match us, hl with | [_, _], _ => rfl), f_l_done := f_l_done, d_l_done := _, F_l_done := fun_mk (st := s_l_done) l_l_done c_l_done k_l_done, m_l_done := PySem.W.mg_of X G a_l_done, b_l_done := (fun_mk (st := s_l_done) l_l_done c_l_done k_l_done).binds (ps := ["_law_stand", "_law_hand"]) (fun _ _ _ _ _ _ us hl => match us, hl with | [_, _], _ => rfl), f_l_apart := f_l_apart, d_l_apart := _, F_l_apart := fun_mk (st := s_l_apart) l_l_apart c_l_apart k_l_apart, m_l_apart := PySem.W.mg_of X G a_l_apart, b_l_apart := (fun_mk (st := s_l_apart) l_l_apart c_l_apart k_l_apart).binds (ps := ["_law_one", "_law_other"]) (fun _ _ _ _ _ _ us hl => match us, hl with | [_, _], _ => rfl), f_l_order_by := f_l_order_by, d_l_order_by := _, F_l_order_by := fun_mk (st := s_l_order_by) l_l_order_by c_l_order_by k_l_order_by, m_l_order_by := PySem.W.mg_of X G a_l_order_by, b_l_order_by := (fun_mk (st := s_l_order_by) l_l_order_by c_l_order_by k_l_order_by).binds (ps := ["_law_cells_here", "_law_every", "_law_stand"]) (fun _ _ _ _ _ _ us hl => match us, hl with | [_, _, _], _ => rfl), f_l_ahead := f_l_ahead, d_l_ahead := _, F_l_ahead := fun_mk (st := s_l_ahead) l_l_ahead c_l_ahead k_l_ahead, m_l_ahead := PySem.W.mg_of X G a_l_ahead, b_l_ahead := (fun_mk (st := s_l_ahead) l_l_ahead c_l_ahead k_l_ahead).binds (ps := ["_law_order", "_law_rows"]) (fun _ _ _ _ _ _ us hl => match us, hl with | [_, _], _ => rfl), f_l_pair := f_l_pair, d_l_pair := _, F_l_pair := fun_mk (st := s_l_pair) l_l_pair c_l_pair k_l_pair, m_l_pair := PySem.W.mg_of X G a_l_pair, b_l_pair := (fun_mk (st := s_l_pair) l_l_pair c_l_pair k_l_pair).binds (ps := ["_law_told", "_law_due"]) (fun _ _ _ _ _ _ us hl => match us, hl with | [_, _], _ => rfl), f_l_more := f_l_more, d_l_more := _, F_l_more := fun_mk (st := s_l_more) l_l_more c_l_more k_l_more, m_l_more := PySem.W.mg_of X G a_l_more, b_l_more := (fun_mk (st := s_l_more) l_l_more c_l_more k_l_more).binds (ps := ["_law_ones", "_law_others", "_law_order"]) (fun _ _ _ _ _ _ us hl => match us, hl with | [_, _, _], _ => rfl), f_law := fa, d_law := _, F_law := fun_mk (st := s_law) l_law c_law k_law, m_law := PySem.W.mg_of X G a_law, b_law := (fun_mk (st := s_law) l_law c_law k_law).binds (ps := ["_law_script"]) (fun _ _ _ _ _ _ us hl => match us, hl with | [_], _ => rfl), a_BOX_WORDS := aa_BOX_WORDS, m_BOX_WORDS := PySem.W.mg_of X G a_BOX_WORDS, c_BOX_WORDS := fun H0 => .tup (.inr ⟨_, it_BOX_WORDS, n_BOX_WORDS, l_BOX_WORDS, rfl, rfl, (by have e := Vals.length v_BOX_WORDS; simp only [Array.length_toList] at e; rw [← e]; exact Evl.sz_of (by decide)), v_BOX_WORDS⟩) (.cons (.str _) (.cons (.str _) (.cons (.str _) .nil))), r_BOX_WORDS := rfl, a_GUARD_WORDS := aa_GUARD_WORDS, m_GUARD_WORDS := PySem.W.mg_of X G a_GUARD_WORDS, c_GUARD_WORDS := fun H0 => .tup (.inr ⟨_, it_GUARD_WORDS, n_GUARD_WORDS, l_GUARD_WORDS, rfl, rfl, (by have e := Vals.length v_GUARD_WORDS; simp only [Array.length_toList] at e; rw [← e]; exact Evl.sz_of (by decide)), v_GUARD_WORDS⟩) (.cons (.str _) (.cons (.str _) .nil)), r_GUARD_WORDS := rfl, a_BARE_WORDS := aa_BARE_WORDS, m_BARE_WORDS := PySem.W.mg_of X G a_BARE_WORDS, c_BARE_WORDS := fun H0 => .tup (.inr ⟨_, it_BARE_WORDS, n_BARE_WORDS, l_BARE_WORDS, rfl, rfl, (by have e := Vals.length v_BARE_WORDS; simp only [Array.length_toList] at e; rw [← e]; exact Evl.sz_of (by decide)), v_BARE_WORDS⟩) (.cons (.str _) (.cons (.str _) (.cons (.str _) .nil))), r_BARE_WORDS := rfl, t_MOST_STEPS := tt_MOST_STEPS, m_MOST_STEPS := PySem.W.mg_of X G a_MOST_STEPS, c_MOST_STEPS := fun _ => .int _, r_MOST_STEPS := ⟨_, rfl⟩, z_len := PySem.W.mg_none_of X G z_len, z_isinstance := PySem.W.mg_none_of X G z_isinstance, z_int := PySem.W.mg_none_of X G z_int, z_bool := PySem.W.mg_none_of X G z_bool, z_str := PySem.W.mg_none_of X G z_str, z_list := PySem.W.mg_none_of X G z_list, z_tuple := PySem.W.mg_none_of X G z_tuple, z_range := PySem.W.mg_none_of X G z_range, z_all := PySem.W.mg_none_of X G z_all, z_enumerate := PySem.W.mg_none_of X G z_enumerate, z_ValueError := PySem.W.mg_none_of X G z_ValueError, z_min := PySem.W.mg_none_of X G z_min, C_Loom := C_Loom, cl_Loom := ⟨pg_Loom, hd_Loom, po_Loom, sa_Loom⟩, mg_Loom := PySem.W.mg_of X G aC_Loom, no__rows := no__rows, no_boxes := no_boxes, no_numbers := no_numbers, no_places := no_places, no_holder := no_holder, f_Loom___init := f_Loom___init, d_Loom___init := _, F_Loom___init := fun_mk (st := s_Loom___init) l_Loom___init c_Loom___init k_Loom___init, b_Loom___init := (fun_mk (st := s_Loom___init) l_Loom___init c_Loom___init k_Loom___init).binds (ps := ["self", "ones", "others", "boxes"]) (fun _ _ _ _ _ _ us hl => match us, hl with | [_, _, _, _], _ => rfl), M_Loom___init := ⟨mk_Loom, a_Loom___init, i_Loom___init, kc_Loom⟩, f_Loom_over := f_Loom_over, d_Loom_over := _, F_Loom_over := fun_mk (st := s_Loom_over) l_Loom_over c_Loom_over k_Loom_over, b_Loom_over := (fun_mk (st := s_Loom_over) l_Loom_over c_Loom_over k_Loom_over).binds (ps := ["self", "hand"]) (fun _ _ _ _ _ _ us hl => match us, hl with | [_, _], _ => rfl), M_Loom_over := ⟨a_Loom_over, i_Loom_over, k_Loom_over⟩, f_Loom_waits := f_Loom_waits, d_Loom_waits := _, F_Loom_waits := fun_mk (st := s_Loom_waits) l_Loom_waits c_Loom_waits k_Loom_waits, b_Loom_waits := (fun_mk (st := s_Loom_waits) l_Loom_waits c_Loom_waits k_Loom_waits).binds (ps := ["self", "hand"]) (fun _ _ _ _ _ _ us hl => match us, hl with | [_, _], _ => rfl), M_Loom_waits := ⟨a_Loom_waits, i_Loom_waits, k_Loom_waits⟩, f_Loom_go := f_Loom_go, d_Loom_go := _, F_Loom_go := fun_mk (st := s_Loom_go) l_Loom_go c_Loom_go k_Loom_go, b_Loom_go := (fun_mk (st := s_Loom_go) l_Loom_go c_Loom_go k_Loom_go).binds (ps := ["self", "hand"]) (fun _ _ _ _ _ _ us hl => match us, hl with | [_, _], _ => rfl), M_Loom_go := ⟨a_Loom_go, i_Loom_go, k_Loom_go⟩, f_Loom_twin := f_Loom_twin, d_Loom_twin := _, F_Loom_twin := fun_mk (st := s_Loom_twin) l_Loom_twin c_Loom_twin k_Loom_twin, b_Loom_twin := (fun_mk (st := s_Loom_twin) l_Loom_twin c_Loom_twin k_Loom_twin).binds (ps := ["self"]) (fun _ _ _ _ _ _ us hl => match us, hl with | [_], _ => rfl), M_Loom_twin := ⟨a_Loom_twin, i_Loom_twin, k_Loom_twin⟩, f_Loom__next_step := f_Loom__next_step, d_Loom__next_step := _, F_Loom__next_step := fun_mk (st := s_Loom__next_step) l_Loom__next_step c_Loom__next_step k_Loom__next_step, b_Loom__next_step := (fun_mk (st := s_Loom__next_step) l_Loom__next_step c_Loom__next_step k_Loom__next_step).binds (ps := ["self", "hand"]) (fun _ _ _ _ _ _ us hl => match us, hl with | [_, _], _ => rfl), M_Loom__next_step := ⟨a_Loom__next_step, i_Loom__next_step, k_Loom__next_step⟩, f_Loom__do_guard := f_Loom__do_guard, d_Loom__do_guard := _, F_Loom__do_guard := fun_mk (st := s_Loom__do_guard) l_Loom__do_guard c_Loom__do_guard k_Loom__do_guard, b_Loom__do_guard := (fun_mk (st := s_Loom__do_guard) l_Loom__do_guard c_Loom__do_guard k_Loom__do_guard).binds (ps := ["self", "hand", "word"]) (fun _ _ _ _ _ _ us hl => match us, hl with | [_, _, _], _ => rfl), M_Loom__do_guard := ⟨a_Loom__do_guard, i_Loom__do_guard, k_Loom__do_guard⟩, f_Loom__do_box := f_Loom__do_box, d_Loom__do_box := _, F_Loom__do_box := fun_mk (st := s_Loom__do_box) l_Loom__do_box c_Loom__do_box k_Loom__do_box, b_Loom__do_box := (fun_mk (st := s_Loom__do_box) l_Loom__do_box c_Loom__do_box k_Loom__do_box).binds (ps := ["self", "hand", "word", "box"]) (fun _ _ _ _ _ _ us hl => match us, hl with | [_, _, _, _], _ => rfl), M_Loom__do_box := ⟨a_Loom__do_box, i_Loom__do_box, k_Loom__do_box⟩, C_NoTurn := C_NoTurn, g_NoTurn := PySem.W.mg_of X G g_NoTurn, x_NoTurn := x_NoTurn, k_NoTurn := kx_NoTurn, s_NoTurn := s_NoTurn, t_NoTurn := t_NoTurn, C_Waits := C_Waits, g_Waits := PySem.W.mg_of X G g_Waits, x_Waits := x_Waits, k_Waits := kx_Waits, s_Waits := s_Waits, t_Waits := t_Waits, C_Again := C_Again, g_Again := PySem.W.mg_of X G g_Again, x_Again := x_Again, k_Again := kx_Again, s_Again := s_Again, t_Again := t_Again, C_NotHeld := C_NotHeld, g_NotHeld := PySem.W.mg_of X G g_NotHeld, x_NotHeld := x_NotHeld, k_NotHeld := kx_NotHeld, s_NotHeld := s_NotHeld, t_NotHeld := t_NotHeld, C_WeaveError := C_WeaveError, g_WeaveError := PySem.W.mg_of X G g_WeaveError, ec_NoTurn := ⟨e1_NoTurn, e2_NoTurn, s_NoTurn, e3_NoTurn, e4_NoTurn, e5_NoTurn, e6_NoTurn, e7_NoTurn⟩, kv_NoTurn := kv_NoTurn, ex_NoTurn_NoTurn := ex_NoTurn_NoTurn, ex_NoTurn_Waits := ex_NoTurn_Waits, ex_NoTurn_Again := ex_NoTurn_Again, ex_NoTurn_NotHeld := ex_NoTurn_NotHeld, ex_NoTurn_WeaveError := ex_NoTurn_WeaveError, ec_Waits := ⟨e1_Waits, e2_Waits, s_Waits, e3_Waits, e4_Waits, e5_Waits, e6_Waits, e7_Waits⟩, kv_Waits := kv_Waits, ex_Waits_NoTurn := ex_Waits_NoTurn, ex_Waits_Waits := ex_Waits_Waits, ex_Waits_Again := ex_Waits_Again, ex_Waits_NotHeld := ex_Waits_NotHeld, ex_Waits_WeaveError := ex_Waits_WeaveError, ec_Again := ⟨e1_Again, e2_Again, s_Again, e3_Again, e4_Again, e5_Again, e6_Again, e7_Again⟩, kv_Again := kv_Again, ex_Again_NoTurn := ex_Again_NoTurn, ex_Again_Waits := ex_Again_Waits, ex_Again_Again := ex_Again_Again, ex_Again_NotHeld := ex_Again_NotHeld, ex_Again_WeaveError := ex_Again_WeaveError, ec_NotHeld := ⟨e1_NotHeld, e2_NotHeld, s_NotHeld, e3_NotHeld, e4_NotHeld, e5_NotHeld, e6_NotHeld, e7_NotHeld⟩, kv_NotHeld := kv_NotHeld, ex_NotHeld_NoTurn := ex_NotHeld_NoTurn, ex_NotHeld_Waits := ex_NotHeld_Waits, ex_NotHeld_Again := ex_NotHeld_Again, ex_NotHeld_NotHeld := ex_NotHeld_NotHeld, ex_NotHeld_WeaveError := ex_NotHeld_WeaveError, c_is_ahead := cc_is_ahead, P_is_ahead := PP_is_ahead, t_is_ahead := tc_is_ahead }
  have one : ∀ p ∈ [(cc_is_ahead, PP_is_ahead)], p = (cc_is_ahead, PP_is_ahead) := fun p hp => List.mem_singleton.mp hp
  refine ⟨T.d_law, [(cc_is_ahead, PP_is_ahead)], SpM K (R_law T), fun p hp => by rw [one p hp]; exact TT.1, fun p hp => by rw [one p hp]; exact tn_is_ahead, fun p hp => by rw [one p hp]; exact TT.2, fun s v => .of_eq rfl, fun H a ns hl hb hT hS => ?_, fun base _ _ TB => ok_law T ⟨(TB _ List.mem_cons_self).code, (TB _ List.mem_cons_self).bm, (TB _ List.mem_cons_self).gP⟩⟩
  exact GQ.lawM_sp ⟨ns, rfl, fun z hz => bits_log (hb z hz), hl, rfl, rfl, rfl⟩ (fun _ _ h => h) (hT _ List.mem_cons_self) hS
end My
open PySem PySem.W PyProof.Rows
set_option maxRecDepth 100000 in
set_option maxHeartbeats 0 in
theorem PySem.Challenge.cw_guardrows_k09_whole_who_is_ahead_holds : PySem.Challenge.rw_guardrows_k09_whole_who_is_ahead.Holds := by
  w_on; o_law; k_head; (case hw => w_witness2)
  k_fill
  refine GQ.walk_tabs (l := PySem.Challenge.rw_guardrows_k09_whole_who_is_ahead) (n := 63) (k := 9) (x := "_law_script") (CX := fun _ => L2.CX0) rfl (by decide) rfl ⟨rfl, by decide, by decide⟩ (fun w h Y => PySem.W.kIn_of Y) ?F (fun _ _ _ _ _ h => h)
  case F =>
    intro w mg fa h KX G hmg TF
    refine' My.all_mk KX G hmg ?a_wall ?l_wall ?c_wall ?k_wall ?a_is_whole ?l_is_whole ?c_is_whole ?k_is_whole ?a_is_step ?l_is_step ?c_is_step ?k_is_step ?a_apart ?l_apart ?c_apart ?k_apart ?a_check_row ?l_check_row ?c_check_row ?k_check_row ?a_ahead ?l_ahead ?c_ahead ?k_ahead ?a_steps_of ?l_steps_of ?c_steps_of ?k_steps_of ?a_is_ahead ?l_is_ahead ?c_is_ahead ?k_is_ahead ?a_walked ?l_walked ?c_walked ?k_walked ?a_l_cell_at ?l_l_cell_at ?c_l_cell_at ?k_l_cell_at ?a_l_number_by ?l_l_number_by ?c_l_number_by ?k_l_number_by ?a_l_step_by ?l_l_step_by ?c_l_step_by ?k_l_step_by ?a_l_cells ?l_l_cells ?c_l_cells ?k_l_cells ?a_l_row_by ?l_l_row_by ?c_l_row_by ?k_l_row_by ?a_l_ints ?l_l_ints ?c_l_ints ?k_l_ints ?a_l_can ?l_l_can ?c_l_can ?k_l_can ?a_l_done ?l_l_done ?c_l_done ?k_l_done ?a_l_apart ?l_l_apart ?c_l_apart ?k_l_apart ?a_l_order_by ?l_l_order_by ?c_l_order_by ?k_l_order_by ?a_l_ahead ?l_l_ahead ?c_l_ahead ?k_l_ahead ?a_l_pair ?l_l_pair ?c_l_pair ?k_l_pair ?a_l_more ?l_l_more ?c_l_more ?k_l_more ?a_law ?l_law ?c_law ?k_law ?a_BOX_WORDS ?l_BOX_WORDS ?v_BOX_WORDS ?a_GUARD_WORDS ?l_GUARD_WORDS ?v_GUARD_WORDS ?a_BARE_WORDS ?l_BARE_WORDS ?v_BARE_WORDS ?a_MOST_STEPS ?z_len ?z_isinstance ?z_int ?z_bool ?z_str ?z_list ?z_tuple ?z_range ?z_all ?z_enumerate ?z_ValueError ?z_min ?aC_Loom ?pg_Loom ?hd_Loom ?po_Loom ?sa_Loom ?mk_Loom ?kc_Loom ?no__rows ?no_boxes ?no_numbers ?no_places ?no_holder ?a_Loom___init ?i_Loom___init ?l_Loom___init ?c_Loom___init ?k_Loom___init ?a_Loom_over ?i_Loom_over ?l_Loom_over ?c_Loom_over ?k_Loom_over ?a_Loom_waits ?i_Loom_waits ?l_Loom_waits ?c_Loom_waits ?k_Loom_waits ?a_Loom_go ?i_Loom_go ?l_Loom_go ?c_Loom_go ?k_Loom_go ?a_Loom_twin ?i_Loom_twin ?l_Loom_twin ?c_Loom_twin ?k_Loom_twin ?a_Loom__next_step ?i_Loom__next_step ?l_Loom__next_step ?c_Loom__next_step ?k_Loom__next_step ?a_Loom__do_guard ?i_Loom__do_guard ?l_Loom__do_guard ?c_Loom__do_guard ?k_Loom__do_guard ?a_Loom__do_box ?i_Loom__do_box ?l_Loom__do_box ?c_Loom__do_box ?k_Loom__do_box ?g_NoTurn ?x_NoTurn ?kx_NoTurn ?s_NoTurn ?t_NoTurn ?g_Waits ?x_Waits ?kx_Waits ?s_Waits ?t_Waits ?g_Again ?x_Again ?kx_Again ?s_Again ?t_Again ?g_NotHeld ?x_NotHeld ?kx_NotHeld ?s_NotHeld ?t_NotHeld ?g_WeaveError ?e1_NoTurn ?e2_NoTurn ?e3_NoTurn ?e4_NoTurn ?e5_NoTurn ?e6_NoTurn ?e7_NoTurn ?kv_NoTurn ?ex_NoTurn_NoTurn ?ex_NoTurn_Waits ?ex_NoTurn_Again ?ex_NoTurn_NotHeld ?ex_NoTurn_WeaveError ?e1_Waits ?e2_Waits ?e3_Waits ?e4_Waits ?e5_Waits ?e6_Waits ?e7_Waits ?kv_Waits ?ex_Waits_NoTurn ?ex_Waits_Waits ?ex_Waits_Again ?ex_Waits_NotHeld ?ex_Waits_WeaveError ?e1_Again ?e2_Again ?e3_Again ?e4_Again ?e5_Again ?e6_Again ?e7_Again ?kv_Again ?ex_Again_NoTurn ?ex_Again_Waits ?ex_Again_Again ?ex_Again_NotHeld ?ex_Again_WeaveError ?e1_NotHeld ?e2_NotHeld ?e3_NotHeld ?e4_NotHeld ?e5_NotHeld ?e6_NotHeld ?e7_NotHeld ?kv_NotHeld ?ex_NotHeld_NoTurn ?ex_NotHeld_Waits ?ex_NotHeld_Again ?ex_NotHeld_NotHeld ?ex_NotHeld_WeaveError TF ?tc_is_ahead ?tl_is_ahead ?tp_is_ahead ?tn_is_ahead ?qr_is_ahead
    (case a_wall => k_is)
    (case l_wall => k_is)
    (case c_wall => k_is)
    (case k_wall => k_is)
    (case a_is_whole => k_is)
    (case l_is_whole => k_is)
    (case c_is_whole => k_is)
    (case k_is_whole => k_is)
    (case a_is_step => k_is)
    (case l_is_step => k_is)
    (case c_is_step => k_is)
    (case k_is_step => k_is)
    (case a_apart => k_is)
    (case l_apart => k_is)
    (case c_apart => k_is)
    (case k_apart => k_is)
    (case a_check_row => k_is)
    (case l_check_row => k_is)
    (case c_check_row => k_is)
    (case k_check_row => k_is)
    (case a_ahead => k_is)
    (case l_ahead => k_is)
    (case c_ahead => k_is)
    (case k_ahead => k_is)
    (case a_steps_of => k_is)
    (case l_steps_of => k_is)
    (case c_steps_of => k_is)
    (case k_steps_of => k_is)
    (case a_is_ahead => k_is)
    (case l_is_ahead => k_is)
    (case c_is_ahead => k_is)
    (case k_is_ahead => k_is)
    (case a_walked => k_is)
    (case l_walked => k_is)
    (case c_walked => k_is)
    (case k_walked => k_is)
    (case a_l_cell_at => k_is)
    (case l_l_cell_at => k_is)
    (case c_l_cell_at => k_is)
    (case k_l_cell_at => k_is)
    (case a_l_number_by => k_is)
    (case l_l_number_by => k_is)
    (case c_l_number_by => k_is)
    (case k_l_number_by => k_is)
    (case a_l_step_by => k_is)
    (case l_l_step_by => k_is)
    (case c_l_step_by => k_is)
    (case k_l_step_by => k_is)
    (case a_l_cells => k_is)
    (case l_l_cells => k_is)
    (case c_l_cells => k_is)
    (case k_l_cells => k_is)
    (case a_l_row_by => k_is)
    (case l_l_row_by => k_is)
    (case c_l_row_by => k_is)
    (case k_l_row_by => k_is)
    (case a_l_ints => k_is)
    (case l_l_ints => k_is)
    (case c_l_ints => k_is)
    (case k_l_ints => k_is)
    (case a_l_can => k_is)
    (case l_l_can => k_is)
    (case c_l_can => k_is)
    (case k_l_can => k_is)
    (case a_l_done => k_is)
    (case l_l_done => k_is)
    (case c_l_done => k_is)
    (case k_l_done => k_is)
    (case a_l_apart => k_is)
    (case l_l_apart => k_is)
    (case c_l_apart => k_is)
    (case k_l_apart => k_is)
    (case a_l_order_by => k_is)
    (case l_l_order_by => k_is)
    (case c_l_order_by => k_is)
    (case k_l_order_by => k_is)
    (case a_l_ahead => k_is)
    (case l_l_ahead => k_is)
    (case c_l_ahead => k_is)
    (case k_l_ahead => k_is)
    (case a_l_pair => k_is)
    (case l_l_pair => k_is)
    (case c_l_pair => k_is)
    (case k_l_pair => k_is)
    (case a_l_more => k_is)
    (case l_l_more => k_is)
    (case c_l_more => k_is)
    (case k_l_more => k_is)
    (case a_law => k_is)
    (case l_law => k_is)
    (case c_law => k_is)
    (case k_law => k_is)
    (case a_BOX_WORDS => k_is)
    (case l_BOX_WORDS => k_is)
    (case a_GUARD_WORDS => k_is)
    (case l_GUARD_WORDS => k_is)
    (case a_BARE_WORDS => k_is)
    (case l_BARE_WORDS => k_is)
    (case a_MOST_STEPS => k_is)
    (case z_len => k_is)
    (case z_isinstance => k_is)
    (case z_int => k_is)
    (case z_bool => k_is)
    (case z_str => k_is)
    (case z_list => k_is)
    (case z_tuple => k_is)
    (case z_range => k_is)
    (case z_all => k_is)
    (case z_enumerate => k_is)
    (case z_ValueError => k_is)
    (case z_min => k_is)
    (case aC_Loom => k_is)
    (case pg_Loom => k_is)
    (case hd_Loom => k_is)
    (case po_Loom => k_is)
    (case sa_Loom => k_is)
    (case mk_Loom => k_is)
    (case kc_Loom => k_is)
    (case no__rows => k_is)
    (case no_boxes => k_is)
    (case no_numbers => k_is)
    (case no_places => k_is)
    (case no_holder => k_is)
    (case a_Loom___init => k_is)
    (case i_Loom___init => k_is)
    (case l_Loom___init => k_is)
    (case c_Loom___init => k_is)
    (case k_Loom___init => k_is)
    (case a_Loom_over => k_is)
    (case i_Loom_over => k_is)
    (case l_Loom_over => k_is)
    (case c_Loom_over => k_is)
    (case k_Loom_over => k_is)
    (case a_Loom_waits => k_is)
    (case i_Loom_waits => k_is)
    (case l_Loom_waits => k_is)
    (case c_Loom_waits => k_is)
    (case k_Loom_waits => k_is)
    (case a_Loom_go => k_is)
    (case i_Loom_go => k_is)
    (case l_Loom_go => k_is)
    (case c_Loom_go => k_is)
    (case k_Loom_go => k_is)
    (case a_Loom_twin => k_is)
    (case i_Loom_twin => k_is)
    (case l_Loom_twin => k_is)
    (case c_Loom_twin => k_is)
    (case k_Loom_twin => k_is)
    (case a_Loom__next_step => k_is)
    (case i_Loom__next_step => k_is)
    (case l_Loom__next_step => k_is)
    (case c_Loom__next_step => k_is)
    (case k_Loom__next_step => k_is)
    (case a_Loom__do_guard => k_is)
    (case i_Loom__do_guard => k_is)
    (case l_Loom__do_guard => k_is)
    (case c_Loom__do_guard => k_is)
    (case k_Loom__do_guard => k_is)
    (case a_Loom__do_box => k_is)
    (case i_Loom__do_box => k_is)
    (case l_Loom__do_box => k_is)
    (case c_Loom__do_box => k_is)
    (case k_Loom__do_box => k_is)
    (case g_NoTurn => k_is)
    (case x_NoTurn => k_exc)
    (case kx_NoTurn => k_is)
    (case s_NoTurn => k_is)
    (case t_NoTurn => k_is)
    (case g_Waits => k_is)
    (case x_Waits => k_exc)
    (case kx_Waits => k_is)
    (case s_Waits => k_is)
    (case t_Waits => k_is)
    (case g_Again => k_is)
    (case x_Again => k_exc)
    (case kx_Again => k_is)
    (case s_Again => k_is)
    (case t_Again => k_is)
    (case g_NotHeld => k_is)
    (case x_NotHeld => k_exc)
    (case kx_NotHeld => k_is)
    (case s_NotHeld => k_is)
    (case t_NotHeld => k_is)
    (case g_WeaveError => k_is)
    (case e1_NoTurn => k_is)
    (case e2_NoTurn => k_is)
    (case e3_NoTurn => k_is)
    (case e4_NoTurn => k_is)
    (case e5_NoTurn => k_is)
    (case e6_NoTurn => k_is)
    (case e7_NoTurn => k_is)
    (case kv_NoTurn => first | rfl | k_is)
    (case ex_NoTurn_NoTurn => first | rfl | k_is)
    (case ex_NoTurn_Waits => first | rfl | k_is)
    (case ex_NoTurn_Again => first | rfl | k_is)
    (case ex_NoTurn_NotHeld => first | rfl | k_is)
    (case ex_NoTurn_WeaveError => first | rfl | k_is)
    (case e1_Waits => k_is)
    (case e2_Waits => k_is)
    (case e3_Waits => k_is)
    (case e4_Waits => k_is)
    (case e5_Waits => k_is)
    (case e6_Waits => k_is)
    (case e7_Waits => k_is)
    (case kv_Waits => first | rfl | k_is)
    (case ex_Waits_NoTurn => first | rfl | k_is)
    (case ex_Waits_Waits => first | rfl | k_is)
    (case ex_Waits_Again => first | rfl | k_is)
    (case ex_Waits_NotHeld => first | rfl | k_is)
    (case ex_Waits_WeaveError => first | rfl | k_is)
    (case e1_Again => k_is)
    (case e2_Again => k_is)
    (case e3_Again => k_is)
    (case e4_Again => k_is)
    (case e5_Again => k_is)
    (case e6_Again => k_is)
    (case e7_Again => k_is)
    (case kv_Again => first | rfl | k_is)
    (case ex_Again_NoTurn => first | rfl | k_is)
    (case ex_Again_Waits => first | rfl | k_is)
    (case ex_Again_Again => first | rfl | k_is)
    (case ex_Again_NotHeld => first | rfl | k_is)
    (case ex_Again_WeaveError => first | rfl | k_is)
    (case e1_NotHeld => k_is)
    (case e2_NotHeld => k_is)
    (case e3_NotHeld => k_is)
    (case e4_NotHeld => k_is)
    (case e5_NotHeld => k_is)
    (case e6_NotHeld => k_is)
    (case e7_NotHeld => k_is)
    (case kv_NotHeld => first | rfl | k_is)
    (case ex_NotHeld_NoTurn => first | rfl | k_is)
    (case ex_NotHeld_Waits => first | rfl | k_is)
    (case ex_NotHeld_Again => first | rfl | k_is)
    (case ex_NotHeld_NotHeld => first | rfl | k_is)
    (case ex_NotHeld_WeaveError => first | rfl | k_is)
    (case v_BOX_WORDS => exact (.cons ⟨_, rfl⟩ (.cons ⟨_, rfl⟩ (.cons ⟨_, rfl⟩ .nil))))
    (case v_GUARD_WORDS => exact (.cons ⟨_, rfl⟩ (.cons ⟨_, rfl⟩ .nil)))
    (case v_BARE_WORDS => exact (.cons ⟨_, rfl⟩ (.cons ⟨_, rfl⟩ (.cons ⟨_, rfl⟩ .nil))))
    (case tc_is_ahead => exact rfl)
    (case tl_is_ahead => k_is)
    (case tp_is_ahead => exact rfl)
    (case tn_is_ahead => exact rfl)
    (case qr_is_ahead => decide +kernel)
