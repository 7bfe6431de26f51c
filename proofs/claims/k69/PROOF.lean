import PyProof.Rows.All
import Wide.All
import OpenK.AllK
import Wide.FinOn
import PyProof.ReprRoads
import PyProof.CallFns
import PyProof.P3In
import KE.KUnpackStar
import HandS.ForMost
import HandS.Deep
import HandS.Star
import HandS.ClsMeth
import KE.KSuper
import KE.KeyNested
import HandS.TupSets
import HandS.TupAny
import HandS.List
import HandS.IsInst
import HandS.Lambda
import HandS.Style
import HandS.Iter
import HandS.Codes
import HandS.Property
import KE.SortData
import HandS.LawCells
import HandS.Sort
import HandS.Conv
import HandS.Zip
import PySem.Challenge.RW_closestrule_k69_whole_cases_say_all
import HandS.SortRule
import HandS.StrMore
import HandS.Text
import KE.GoesEnum
import HandS.Dict
import HandS.DictTup
import KE.KDictPairs
import HandS.SetFor
import PyProof.ReprLen
import KE.SortKeyHeap
import HandS.SortKw
import HandS.OwnEq
import KE.KDictKeyed
import KE.KDictWalk
import KE.KDictList
import KE.KDictDisplayH
import PyProof.DictTable
import HandS.GenList
import HandS.SetBool
import HandS.Strs
import HandS.Set
import HandS.EndTab
import KE.RegKSuper
import KE.KExcLine
set_option Elab.async false
set_option linter.all false
set_option maxRecDepth 100000
set_option maxHeartbeats 4000000

namespace Cr
open PySem PySem.Spec PyProof.Rows L2

/-! ### repr of data -/
section
variable {X : Cx}
/-- what repr asks: data without dicts, its text not too long -/
def rRepr (K : PySem.W.Frag) : List V → Hp → VK → Prop := fun xs H Q =>
  ∃ x d, xs = [x] ∧ Dp K H x d ∧ d.showable = true ∧ d.hasDict = false ∧ d.depth ≤ 60 ∧ d.shown.length ≤ sizeLine ∧ Q (.str d.shown) H
theorem call_reprD (hgd : X.A.guards = some []) (hun : X.A.units + 64 < cLine) : CallR X (.builtin "repr") (rRepr X.K) := by
  intro pins s σ H xs us Q I rel hq
  obtain ⟨a, d, rfl, hd, h1, h2, h3, h4, q⟩ := hq
  cases rel with
  | cons r0 rt =>
    cases rt
    have big : ∀ (c : Addr), a = .ref c → wpAny (model X.prog X.w) X.A (call (.builtin "repr") [.ref c]) (EP X pins σ Q) X.xe s := fun c e => by
      subst e
      obtain ⟨as, rd⟩ := Dp.reads I d (.ref c) (.ref c) hd rfl
      refine repr_of_reads' (h₀ := s.heap) rd h1 (fun z => by rw [h2] at z; cases z) hgd (by omega) (fun _ _ z => z) (fun h' u tk kp => ?_) h4
      exact ⟨.str d.shown, H, I.kept kp, ⟨_, rfl⟩, q⟩
    cases hd with
    | non =>
      cases r0
      exact PySem.P.repr_of_none ⟨.str "None", H, I.tok _, ⟨_, rfl⟩, q⟩
    | bl b =>
      cases r0
      exact PySem.P.repr_of_bool ⟨.str (if b then "True" else "False"), H, I.tok _, ⟨_, rfl⟩, by cases b <;> exact q⟩
    | int i =>
      obtain ⟨t, rfl⟩ := r0
      exact PySem.P.repr_of_int (of_decide_eq_true (by simpa only [PyData.showable] using h1)) ⟨.str (toString i), H, I.tok _, ⟨_, rfl⟩, q⟩
    | str x =>
      obtain ⟨t, rfl⟩ := r0
      exact PySem.P.repr_of_str ⟨.str (reprText x), H, I.tok _, ⟨_, rfl⟩, q⟩ h4
    | tup _ _ =>
      cases r0
      exact big _ rfl
    | lst _ _ =>
      cases r0
      exact big _ rfl
/-- x in t, t a tuple of data -/
def rInT (K : PySem.W.Frag) : R2 := fun x y H Q => ∃ d ds, Dp K H x d ∧ Dp K H y (.tuple ds) ∧ SeqAt.shaped d = true ∧ SeqAt.shaped (.tuple ds) = true ∧ Q (.bl (ds.any fun z => PyData.eqv z d)) H
theorem op_inT (hu : X.A.units + 65 < cLine) : OpR X (compareOp .In) (rInT X.K) := by
  intro pins s σ H x y v u Q I rx ry hq
  obtain ⟨d, ds, h1, h2, h3, h4, q⟩ := hq
  obtain ⟨as, r1⟩ := Dp.reads I d x v h1 rx
  obtain ⟨bs, r2⟩ := Dp.reads I (.tuple ds) y u h2 ry
  exact SeqAt.in_tuple_reads r2 r1 (SeqAt.canLay_of_shaped h4) (SeqAt.canLay_of_shaped h3) (room_in_shaped h3 hu) ⟨.bl _, H, I, rfl, q⟩
def rNotInT (K : PySem.W.Frag) : R2 := fun x y H Q => ∃ d ds, Dp K H x d ∧ Dp K H y (.tuple ds) ∧ SeqAt.shaped d = true ∧ SeqAt.shaped (.tuple ds) = true ∧ Q (.bl (!ds.any fun z => PyData.eqv z d)) H
theorem op_notInT (hu : X.A.units + 65 < cLine) : OpR X (compareOp .NotIn) (rNotInT X.K) := by
  intro pins s σ H x y v u Q I rx ry hq
  obtain ⟨d, ds, h1, h2, h3, h4, q⟩ := hq
  obtain ⟨as, r1⟩ := Dp.reads I d x v h1 rx
  obtain ⟨bs, r2⟩ := Dp.reads I (.tuple ds) y u h2 ry
  exact SeqAt.notIn_tuple_reads r2 r1 (SeqAt.canLay_of_shaped h4) (SeqAt.canLay_of_shaped h3) (room_in_shaped h3 hu) ⟨.bl _, H, I, rfl, q⟩
end

/-! ### *a, b = a list -/
section
variable {X : Cx} {pos : Pos}
def gStar1 (K : PySem.W.Frag) (t : TGs) : TG := fun v σ H Q => ∃ a xs y, v = .ref a ∧ SqL K H a (xs ++ [y]) ∧ xs.length < 16000 ∧ ∀ p, H p = none → t [.ref p, y] σ (upd H p (.lst xs)) Q
theorem vals_snoc : ∀ {xs : List V} {y : V} {us : List Value}, Vals (xs ++ [y]) us → ∃ ws z, us = ws ++ [z] ∧ Vals xs ws ∧ RelV y z := by
  intro xs
  induction xs with
  | nil =>
    intro y us r
    cases r with
    | cons r0 rt =>
      cases rt
      exact ⟨[], _, rfl, .nil, r0⟩
  | cons x xs ih =>
    intro y us r
    cases r with
    | cons r0 rt =>
      obtain ⟨ws, z, e, r1, r2⟩ := ih rt
      exact ⟨_ :: ws, z, by rw [e]; rfl, .cons r0 r1, r2⟩
/-- the star's list as a new object -/
theorem star_items {prog : Program} {w : World} {A : Around} {E : Value → Shared → Prop} {s : Shared} {l : Addr} {ws : List Value} {z : Value} {Q : List Value → Shared → Prop} (hl : s.heap.IsList l (ws ++ [z]).toArray) (hh : A.handled = none) (hz : ws.length < 16000)
    (h : ∀ (hp : Heap) (tk : Nat), (∀ b o, s.heap.get? b = some o → hp.get? b = some o) → Q [.ref hp.objs.size, z] { s with heap := hp.push { cls := .type "list", data := .seq ws.toArray }, toks := tk }) :
    wpAny (model prog w) A (unpackItems (.ref l) 2 (some 0)) Q E s := by
  have hll : l < s.heap.objs.size := by obtain ⟨o, ho, _⟩ := hl; exact Heap.lt_size ho
  have hlt : l ≠ s.heap.objs.size := Nat.ne_of_lt hll
  unfold unpackItems
  refine wpAny_bind ?_
  unfold notIterableAtAll
  refine wpAny_bind (wpAny_specialOf hl.typeIs slot_list_iter.lookup (wpAny_pure ?_))
  simp only [Bool.false_eq_true, if_false]
  refine wpAny_bind (wpAny_holding (wpAny_pyIter_list hl ?_))
  refine wpAny_bind (wpAny_holding (PySem.W.kun_draw hlt 0 0 _ _ ⟨_, Heap.get?_push_size _ rfl, rfl, rfl⟩ (hl.push _) (by omega) fun h1 hit1 hs1 => ?_))
  have hl1 : h1.IsList l (ws ++ [z]).toArray := (hl.push _).extBut hs1.extBut hlt
  obtain ⟨oi, hoi, _⟩ := id hit1
  obtain ⟨ol, hol, _⟩ := id hl1
  have hsz : (ws ++ [z]).toArray.size = ws.length + 1 := by simp
  rw [if_neg (show ¬ (List.length _ < 0) by omega)]
  refine wpAny_bind (wpAny_holding (PySem.W.kun_collect (s := { s with heap := h1 }) (T := "list_iterator") (.inr (.inr (.inl rfl))) (Walks.list (A := A.in1) hh s.heap.objs.size l hlt (ws ++ [z]).toArray) (fun j u st => st.1.typeIs) (k := 0) (by omega) ⟨hit1, hl1⟩ (Heap.lt_size hoi) (Heap.lt_size hol) (fun h2 tk hk => ?_) (by rw [sizeLine_eq]; omega)))
  have e0 : (ws ++ [z]).toArray.toList.drop 0 = ws ++ [z] := by simp
  rw [e0]
  show wpAny _ _ (if (ws ++ [z]).length < 1 then _ else _) _ _ _
  rw [if_neg (by simp)]
  show wpAny _ _ (newList ((ws ++ [z]).take ((ws ++ [z]).length - 1)) >>= fun d => pure (([] : List Value) ++ [d] ++ (ws ++ [z]).drop ((ws ++ [z]).length - 1))) _ _ _
  have e1 : (ws ++ [z]).length - 1 = ws.length := by simp
  rw [e1, List.take_left, List.drop_left]
  refine wpAny_bind (wpAny_newList (wpAny_pure ?_) (by rw [sizeLine_eq]; omega))
  have kp : ∀ b o, s.heap.get? b = some o → h2.get? b = some o := fun b o e =>
    hk b o (Nat.ne_of_lt (Heap.lt_size e)) (hs1.extBut b o (Nat.ne_of_lt (Heap.lt_size e)) (Heap.get?_push_of_some _ e))
  exact h h2 tk kp
theorem pg_star1 {es : List Expr} {k : Nat} {t : TGs} (hc : X.calm = true) (h : PGs X es t)
    (hn : (assignEach es X.env).length = 2 := by rfl) (hst : (assignEach es X.env).findIdx? (·.1) = some 0 := by rfl) : PG X (.Tuple es k pos) (gStar1 X.K t) := by
  refine ⟨fun pins s σ H v u Q I r hw => ?_⟩
  obtain ⟨a, xs, y, e1, hq, hl, hw⟩ := hw
  subst e1
  cases r
  obtain ⟨its, rv, pl, hz⟩ := I.list hq
  have hL : s.heap.IsList a its.toArray := by
    obtain ⟨o, m, e, c, d, q⟩ := pl
    exact ⟨o, e, c, m, q⟩
  obtain ⟨ws, z, e2, r1, r2⟩ := vals_snoc rv
  subst e2
  have hwl : ws.length < 16000 := by rw [← r1.length]; exact hl
  rw [PyProof.Rows.assign_Tuple]
  refine wpAny_bind (wpAny_standAt ?_)
  unfold unpack
  rw [hn, hst]
  refine wpAny_bind (wpAny_holding (star_items hL (I.ok.hd hc) hwl fun hp tk kp => ?_))
  have I1 : Inv X pins σ H { s with heap := hp } := I.kept (t' := s.toks) kp
  have hf : H hp.objs.size = none := I1.hok.fresh (Nat.le_refl _)
  have I2 := I1.laid (a := hp.objs.size) (o := .lst xs) (t' := tk) (h' := hp.push { cls := .type "list", data := .seq ws.toArray }) (fun b u e => Heap.get?_push_of_some _ e) (Nat.le_refl _) ⟨by rw [sizeLine_eq]; omega, ws, 0, r1, Heap.get?_push_size _ rfl⟩
  exact h.run pins _ σ _ [.ref hp.objs.size, y] [.ref hp.objs.size, z] Q I2 (.cons rfl (.cons r2 .nil)) (hw _ hf)
/-- a starred name among targets -/
theorem pgs_star {e : Expr} {es : List Expr} {sp : Pos} {t : TG} {u : TGs} (h1 : PG X e t) (h2 : PGs X es u)
    (hs : (assignEach (.Starred e sp :: es) X.env).map (·.2) = assign e X.env :: (assignEach es X.env).map (·.2) := by rfl) : PGs X (.Starred e sp :: es) (gCons t u) := by
  refine ⟨fun pins s σ H vs us Q I r hq => ?_⟩
  obtain ⟨v, vr, rfl, hq⟩ := hq
  cases r with
  | cons r rr =>
    rw [hs]
    refine assignInOrder_cons (thn (h1.run pins s σ H _ _ _ I r hq) fun _ s1 ⟨σ1, H1, I1, q1⟩ => h2.run pins s1 σ1 H1 _ _ Q I1 rr q1)
end

/-! ### a local that holds a class, called with a star -/
section
variable {X : Cx} {CX : CXT} {k : Nat} {f C : Addr} {sp : Sp} {E : XK} {e fe : Expr} {te tf : TE} {p pos : Pos}
def tMakeLS (X : Cx) (C : Addr) (sp : Sp) (E : XK) (tf te : TE) : TE := fun σ H Q => tf σ H fun y H1 => y = V.ref C ∧ te σ H1 fun v H2 => ∃ a xs, v = V.ref a ∧ (SqT X.K H2 a xs ∨ SqL X.K H2 a xs) ∧
  ∀ x dx, H2 x = none → H2 dx = none → dx ≠ x → sp (V.ref x :: xs) (upd (upd H2 dx (.own x)) x (.ins C dx [])) (fun r H3 => r = .non ∧ Q (.ref x) H3) E
theorem pe_makeLS (hf : PE X fe tf) (M : Mk X.K C f) (F : FnR X.prog X.w X.K X.mg X.base CX k f sp) (hr : Room (k + 1) X.A) (hx : Passes CX X E) (he : PE X e te)
    (ht : eval (.Call fe [.Starred e p] [] pos) X.env = (do callWith pos (← eval fe X.env) [] (backTo pos (starEach [.Starred e p] X.env)) (backToKw pos (keywordEach [] X.env))) := by rfl)
    (hst : starEach [.Starred e p] X.env = [(true, eval e X.env)] := by rfl) : PE X (.Call fe [.Starred e p] [] pos) (tMakeLS X C sp E tf te) := by
  refine ⟨fun pins s σ H Q I h => ?_⟩
  refine Call_ (thn (hf.run pins s σ H _ I h) fun u s1 ⟨y, H1, I1, ry, ey, q⟩ => ?_) ht
  subst ey
  obtain rfl : u = Value.ref C := ry
  refine PySem.W.callWith_S (h₀ := X.base) I.ok.mod.kin M.kp (thn (he.run pins s1 σ H1 _ I1 q) fun v s2 ⟨z, H2, I2, rz, a, xs, ez, hxs, q2⟩ => ?_) hst
  subst ez
  obtain rfl : v = Value.ref a := rz
  exact StX.star_any I2 hxs fun us s3 I3 rv => ⟨I3.kIn, StX.run_makeR M F hr hx I3 rv q2⟩
end
end Cr

namespace Cr
open PySem PySem.Spec PyProof.Rows L2

/-! ### def __init__(self, *v): super().__init__(*v) -/
section
variable {prog : Program} {w : World} {A : Around} {E : Value → Shared → Prop} {h : Heap} {g : Array GenState} {d : Drawn} {t : Nat} {os : OsState}
/-- super().m as a value: a bound method -/
theorem getAttr_super {so D x C f : Addr} {fo : Obj} {l0 l : List Value} {K : PySem.W.Frag} {name : Str} {Q : Value → Shared → Prop}
    (hso : h.get? so = some (PySem.W.ks_superObj D x C)) (hno : PySem.W.Looks (model prog w) h (opaqueClassAbove (.ref C)) none)
    (hC : PySem.W.Looks (model prog w) h (mroOf (.ref C)) l0) (hl : (l0.dropWhile (· != .ref D)).drop 1 = l) (X : K.In h)
    (hf : PySem.W.alongIn K name l = some (some (.ref f))) (hfo : h.get? f = some fo) (hfc : fo.cls = .type "function") (hxC : x ≠ C) (hn : (name == ("__class__" : Str)) = false)
    (hq : Q (.ref h.objs.size) ⟨h.push (PySem.W.methodObj (.ref f) (.ref x)), g, d, t + 1, os⟩) :
    wpAny (model prog w) A (getAttr (.ref so) name true) Q E ⟨h, g, d, t, os⟩ := by
  have lk := F.ks_slot_super_ga.lookup
  have ty : ∀ t', (⟨h, g, d, t', os⟩ : Shared).TypeIs (.ref so) "super" := fun _ => ⟨_, hso, rfl⟩
  unfold getAttr getAttrBy
  refine wpAny_bind (wpAny_mkText (wpAny_holding (wpAny_bind (wpAny_typeOf (ty _) (wpAny_bind (wpAny_of_eq lk ?_))))))
  show wpAny _ _ (getAttrByItsOwn (.ref so) (.str name t) (.type "super") (.builtin "super.__getattribute__") true true) _ _ _
  unfold getAttrByItsOwn hookBefore callGetattribute boundAndCalled
  refine wpAny_bind (wpAny_of_eq (show (if onTheHeap (.type "super") then typeLookup (.type "super") "__getattr__" else pure none) = pure none from rfl) ?_)
  refine wpAny_bind (wpAny_attempt (wpAny_holding ?_))
  show wpAny _ _ (bindSpecial (.builtin "super.__getattribute__") (.ref so) >>= _) _ _ _
  refine wpAny_bind (wpAny_of_eq (F.ks_slot_super_ga.bind _) ?_)
  refine wpAny_mono (Q := fun v s' => v = .ref h.objs.size ∧ s' = ⟨h.push (PySem.W.methodObj (.ref f) (.ref x)), g, d, t + 1, os⟩) (E := fun _ _ => False)
    (wpAny_call_entry F.ks_slot_super_ga (ty _) F.ks_entry_super_ga (ks_wpAny_super_ga hso hno hC hl X hf hfo hfc hxC hn ⟨_, rfl, rfl, rfl⟩) (F.ks_gaArgs_super _ _)) (fun v s' hv => ?_) fun _ _ z => z.elim
  obtain ⟨rfl, rfl⟩ := hv
  exact wpAny_pure hq
end

/-- the facts of the text for such a def at f, in the class D, the next __init__ (for instances of C) at f2 -/
structure SupDef (P : Program) (K : PySem.W.Frag) (f C D f2 : Addr) (pv : Str) : Prop where
  ex : ∃ (name qual : Str) (params : Arguments) (scope : Scope) (dV kV doc pm ct oc ccl cl : Value) (an od cdd cld : Option Addr) (osl ccs csl : Array (Option Value)) (cc cda : Addr) (vs : Array Value) (file : Str) (tf : Tok) (ar : Arg) (p0 p1 p2 p3 p4 p5 p6 : Pos),
    K.lookup f = some ⟨oc, od, .func (PySem.W.ksFn name qual params [.Expr (.Call (.Attribute (.Call (.Name "super" p0) [] [] p1) "__init__" p2) [.Starred (.Name pv p3) p4] [] p5) p6] scope dV kV doc pm an (.ref cda) ct cc), osl⟩ ∧
    PySem.W.codeIn K (.ref cda) qual = true ∧ (params.posonlyargs ++ params.args).head? = some ar ∧ ar.arg = ("self" : Str) ∧
    K.lookup cda = some ⟨ccl, cdd, .fields vs, ccs⟩ ∧ vs[2]? = some (.str file tf) ∧ ((P.main.file : Str) == file) = true ∧ K.lookup cc = some ⟨cl, cld, .cell (some (.ref D)), csl⟩ ∧
    (scope.names.lookup ("super" : Str) = some .globalImplicit ∧ scope.names.lookup ("__class__" : Str) = some .free ∧ scope.names.lookup ("self" : Str) = some .local ∧ scope.names.lookup pv = some .local ∧ scope.kind = .function ∧
      scope.isCoroutine = false ∧ scope.isGenerator = false ∧ (∀ y ∈ scope.names, y.2 ≠ .cell) ∧ ∀ y, scope.names.lookup y = some .free → y = ("__class__" : Str)) ∧
    (∀ (u : Value) (rest : List Value), bindArgs (PySem.W.ksFn name qual params [.Expr (.Call (.Attribute (.Call (.Name "super" p0) [] [] p1) "__init__" p2) [.Starred (.Name pv p3) p4] [] p5) p6] scope dV kV doc pm an (.ref cda) ct cc) ⟨u :: rest, []⟩ =
      (newTuple rest >>= fun t => pure [(("self" : Str), u), (pv, t)]))
  cD : ∃ cdD, PySem.W.clsIn K D = some cdD
  cC : ∃ cdC, PySem.W.clsIn K C = some cdC
  sub : PySem.W.mroIn K C (.ref D) = some true
  sup : PySem.W.nsIn K mainGlobals "super" = some none
  top : (P.main.scope.names.lookup ("super" : Str)).isSome = false
  opq : PySem.W.nsIn K cStatics "thirdparty.any" = some none
  next : PySem.W.ks_superIn K C D "__init__" = some (some (.ref f2))
  ty : PySem.W.typeIn K (.ref f2) = some (.type "function")
  fi : PySem.W.fnIn K f2 = true
  nd : ("self" : Str) ≠ pv

def supX (CX : CXT) (P : Program) (w : World) (K : PySem.W.Frag) (mg : Str → Option Value) (base : Heap) (pv : Str) (env : Env) (A : Around) (outer : List Env) (s : Shared) (H : Hp) (E : XK) : Cx where
  prog := P
  w := w
  K := K
  mg := mg
  base := base
  A := A.deeper env
  N := ["self", pv]
  s_0 := s
  H_0 := H
  env := env
  outer := outer
  stack := env :: outer
  ex := []
  fn := fun _ => false
  calm := true
  pn := []
  xe := fun e s' => wpAny (model P w) (A.deeper env) (leaving env e) (fun _ s'' => CX outer H s E e s'') (fun e' s'' => CX outer H s E e' s'') s'

section
variable {CX : CXT} {P : Program} {w : World} {K : PySem.W.Frag} {mg : Str → Option Value} {base : Heap} {pv : Str} {A : Around} {outer : List Env} {s : Shared} {H : Hp} {E : XK} {h0 : Heap} {tk : Nat} {qual : Str} {scope : Scope} {f cc cda D : Addr} {v1 v2 : V} {u1 u2 : Value}
/-- the state at such a def's body -/
theorem sup_inv (e0 : Env0 P w K mg base A outer s H) (hd : A.handled = none) (hns : h0.Ns s.heap.objs.size (fun y => [(("self" : Str), u1), (pv, u2)].reverse.lookup y)) (kp : ∀ b o, s.heap.get? b = some o → h0.get? b = some o)
    (r1 : RelV v1 u1) (r2 : RelV v2 u2) (nd : ("self" : Str) ≠ pv) {cl : Value} {cld : Option Addr} {csl : Array (Option Value)} {cv : Option Value} (hcell : K.lookup cc = some ⟨cl, cld, .cell cv, csl⟩)
    (sc2 : scope.names.lookup ("__class__" : Str) = some .free) (sc3 : scope.names.lookup ("self" : Str) = some .local) (sc4 : scope.names.lookup pv = some .local) (sck : scope.kind = .function)
    (scc : ∀ y ∈ scope.names, y.2 ≠ .cell) (scf : ∀ y, scope.names.lookup y = some .free → y = ("__class__" : Str)) :
    Inv (supX CX P w K mg base pv (PySem.W.ksEnv qual scope s.heap.objs.size f (.ref cda) cc) A outer s H E) [] [some v1, some v2] H { s with heap := h0, toks := tk } := by
  have hin : base.get? cc = some ⟨cl, cld, .cell cv, csl⟩ := e0.mod.kin _ _ hcell
  obtain ⟨hc1, hc2⟩ := e0.bs _ _ hin
  have look1 : ∀ y c, [(("__class__" : Str), cc)].lookup y = some c → y = ("__class__" : Str) ∧ c = cc := fun y c e => by
    rw [List.lookup_cons] at e
    split at e
    · rename_i q
      exact ⟨eq_of_beq q, (Option.some.inj e).symm⟩
    · cases e
  have nof : ∀ b : Addr, b ∉ (supX CX P w K mg base pv (PySem.W.ksEnv qual scope s.heap.objs.size f (.ref cda) cc) A outer s H E).ex := fun b z => absurd (show b ∈ ([] : List Addr) from z) (by simp)
  refine ⟨⟨e0.mod, sck, rfl, rfl, Nat.le_refl _, fun y z c q1 q2 => ?_, fun y hy => ?_, fun y c q _ => (nomatch q), fun _ => hd, Around.frames_deeper e0.frames, .inr ⟨rfl, rfl⟩, fun b z => absurd z (nof b), e0.bs, e0.bsz, fun b _ _ => nof b, fun b z => absurd z (nof b), e0.funs, e0.frf⟩,
    rfl, e0.bare, Un.kept kp, ⟨_, hns, fun i y v q1 q2 q3 => ?_⟩, fun y c q => ?_, e0.hok.fresh (Nat.le_refl _), fun y c q => ?_, fun p hp => absurd (show p ∈ ([] : List (Addr × Obj)) from hp) (by simp), e0.hok.kept kp, rfl⟩
  · exact (look1 y c q1).1.trans (look1 z c q2).1.symm
  · have hy : scope.names.lookup y = some .cell ∨ scope.names.lookup y = some .free := hy
    rcases hy with hy | hy
    · exact absurd rfl (scc _ (PySem.mem_of_lookup hy))
    · rw [scf y hy]
      exact ⟨cc, rfl⟩
  · have q1 : (["self", pv] : List Str)[i]? = some y := q1
    match i, q1, q2 with
    | 0, q1, q2 =>
      obtain rfl := Option.some.inj q1
      obtain rfl := Option.some.inj (Option.some.inj q2)
      refine ⟨u1, r1, .inl ⟨sc3, ?_⟩⟩
      have ne : (("self" : Str) == pv) = false := beq_eq_false_iff_ne.mpr nd
      show [(pv, u2), (("self" : Str), u1)].lookup ("self" : Str) = some u1
      rw [List.lookup_cons, ne]
      rfl
    | 1, q1, q2 =>
      obtain rfl := Option.some.inj q1
      obtain rfl := Option.some.inj (Option.some.inj q2)
      refine ⟨u2, r2, .inl ⟨sc4, ?_⟩⟩
      show [(pv, u2), (("self" : Str), u1)].lookup pv = some u2
      rw [List.lookup_cons, beq_self_eq_true]
    | i + 2, q1, q2 => cases q1
  · obtain ⟨_, rfl⟩ := look1 y c q
    exact ⟨cv, _, kp _ _ hc1, rfl⟩
  · obtain ⟨_, rfl⟩ := look1 y c q
    exact hc2
end

section
variable {X : Cx} {CX : CXT} {pv : Str} {S0 : Shared} {H : Hp} {E : XK} {qual : Str} {scope : Scope} {f f2 cc cda C D x p dx L : Addr} {k : Nat} {fs : List (Str × V)} {rest : List V} {sp : Sp} {Q : VK}
theorem boot_super : bootBuiltins "super" = some (.type "super") := by kernel_rfl
theorem sup_eval {p0 p1 p2 p3 p4 p5 : Pos} {cdD cdC : ClassData} {fd : FuncData} {oc ccl cl : Value} {od cdd cld : Option Addr} {osl ccs csl : Array (Option Value)} {cvs : Array Value} {file : Str} {tf : Tok} {ar : Arg}
    (hE : X.env = PySem.W.ksEnv qual scope L f (.ref cda) cc) (hN : X.N = [("self" : Str), pv]) (I : Inv X [] [some (.ref x), some (.ref p)] H S0)
    (lk : X.K.lookup f = some ⟨oc, od, .func fd, osl⟩) (hhd : (fd.params.posonlyargs ++ fd.params.args).head? = some ar) (har : ar.arg = ("self" : Str)) (hcda : X.K.lookup cda = some ⟨ccl, cdd, .fields cvs, ccs⟩) (hfl : cvs[2]? = some (.str file tf))
    (hfile : ((X.prog.main.file : Str) == file) = true) (hcell : X.K.lookup cc = some ⟨cl, cld, .cell (some (.ref D)), csl⟩) (hcD : PySem.W.clsIn X.K D = some cdD) (hcC : PySem.W.clsIn X.K C = some cdC) (hsub : PySem.W.mroIn X.K C (.ref D) = some true)
    (hsup : PySem.W.nsIn X.K mainGlobals "super" = some none) (htop : (X.prog.main.scope.names.lookup ("super" : Str)).isSome = false) (hopq : PySem.W.nsIn X.K cStatics "thirdparty.any" = some none)
    (hnext : PySem.W.ks_superIn X.K C D "__init__" = some (some (.ref f2))) (hty : PySem.W.typeIn X.K (.ref f2) = some (.type "function")) (hfi : PySem.W.fnIn X.K f2 = true)
    (sc1 : scope.names.lookup ("super" : Str) = some .globalImplicit) (sc2 : scope.names.lookup ("__class__" : Str) = some .free) (sc3 : scope.names.lookup ("self" : Str) = some .local) (sc4 : scope.names.lookup pv = some .local) (sck : scope.kind = .function)
    (hdb : (pv == ("__debug__" : Str)) = false) (hcd : (pv == ("__classdict__" : Str)) = false)
    (hx : H x = some (.ins C dx fs)) (hp : H p = some (.tup rest)) (G : FnR X.prog X.w X.K X.mg X.base CX k f2 sp) (hr : Room k X.A)
    (hpass : Passes CX X E) (hsp : sp (V.ref x :: rest) H (fun _ H' => Q .non H') E) (body : List Stmt) :
    PySem.wpAt (model X.prog X.w) X.A (.func body X.env) (eval (.Call (.Attribute (.Call (.Name "super" p0) [] [] p1) "__init__" p2) [.Starred (.Name pv p3) p4] [] p5) X.env)
      (fun _ s' => ∃ H', Inv X [] [some (.ref x), some (.ref p)] H' s' ∧ Q .non H') X.xe S0 := by
  have hse : starEach [.Starred (.Name pv p3) p4] X.env = [(true, eval (.Name pv p3) X.env)] := rfl
  have hke : backToKw p5 (keywordEach [] X.env) = [] := rfl
  have hform : methodCallForm ([Expr.Starred (.Name pv p3) p4].length + ([] : List Keyword).length) (backTo p5 [(true, eval (.Name pv p3) X.env)]) [] = false := rfl
  have hpos : methodCallPos false (.Call (.Name "super" p0) [] [] p1) X.env p2 p5 = pure p5 := rfl
  have hcal : ∀ ov, calleeOf false (.Call (.Name "super" p0) [] [] p1) X.env ov "__init__" = (getAttr ov "__init__" true >>= fun v => pure (v, [])) := fun _ => rfl
  have KX : X.K.In S0.heap := I.kIn
  obtain ⟨mA, O, _⟩ := ins_get I.hok hx
  obtain ⟨od2, J, _⟩ := O.look
  obtain ⟨oD, hD1, hD2⟩ : ∃ oD, S0.heap.get? D = some oD ∧ oD.data = .cls cdD := by
    unfold PySem.W.clsIn at hcD
    split at hcD
    · rename_i q
      cases hcD
      exact ⟨_, KX _ _ q, rfl⟩
    · cases hcD
  obtain ⟨fo, hfo, hfoc⟩ : ∃ fo, X.K.lookup f2 = some fo ∧ fo.cls = .type "function" := by
    have z : (X.K.lookup f2).map (·.cls) = some (.type "function") := hty
    cases q : X.K.lookup f2 with
    | none => rw [q] at z; cases z
    | some o => rw [q] at z; exact ⟨o, rfl, Option.some.inj z⟩
  obtain ⟨mb, hb1, hb2⟩ := I.ok.mod.blt
  rw [arm_eval_Call, hse, hke]
  refine PySem.wpAt_bind (ks_wpAt_super_base (by rw [hE]; exact sc1) (by rw [hE]; exact sc2) (by decide) (by rw [hE]) (KX _ _ lk) rfl hhd (by rw [hE]) (KX _ _ hcda) rfl hfl hfile htop ?_)
  refine PySem.W.ks_loadName_global (by rw [hE]; exact sck) (by rw [hE]; exact sc1) ?_
  refine PySem.Calls.loadGlobal_builtin (env := X.env) (by rw [I.ok.glob]; exact I.ok.mod.glob.keeps I.bk) (PySem.W.mg_none_of I.ok.mod.kin I.ok.mod.glob hsup) (by rw [I.ok.blt]; exact hb1.keeps I.bk) ((hb2 _ (by decide +kernel)).trans boot_super) ⟨rfl, ?_⟩
  refine wpAny_loadName_free (by rw [hE]; exact sck) (by rw [hE]; exact sc2) (c := cc) (by rw [hE]; rfl) ⟨_, KX _ _ hcell, rfl⟩ ?_
  obtain ⟨m, hm1, hm2⟩ := I.loc
  obtain ⟨us, rs, lo⟩ := hm2 0 "self" (.ref x) (by rw [hN]; rfl) rfl (.inl (by rw [hE]; exact sc3))
  cases rs
  have hself : m "self" = some (.ref x) := by
    rcases lo with ⟨_, q⟩ | ⟨q, _⟩
    · exact q
    · rw [hE] at q
      have q : scope.names.lookup ("self" : Str) = some .cell ∨ scope.names.lookup ("self" : Str) = some .free := q
      rw [sc3] at q
      rcases q with q | q <;> cases q
  rw [har]
  refine wpAny_loadName_local (by rw [hE]; exact sck) (by rw [hE]; exact sc3) hm1 hself ?_
  obtain ⟨hh, gg, dd, tt, oo⟩ := S0
  refine ks_wpAny_isType_cls hD1 hD2 ⟨rfl, ?_⟩
  refine ks_wpAny_call_super hD1 hD2 J.at_ J.cls (fun c e => ?_) (PySem.W.looks_mroIn KX hsub) (fun h1 hs1 k1 => ?_)
  · have z := J.no
    unfold PySem.W.notCls at z
    rw [e] at z
    exact Bool.noConfusion z
  have I1 := I.kept (t' := tt) k1
  refine PySem.wpAt_of_wpAny (wpAny_bind (wpAny_standAt ?_))
  unfold methodCall
  rw [hform, hpos, hcal]
  refine wpAny_bind (wpAny_holding (wpAny_bind ?_))
  have KX1 : X.K.In h1 := I1.kIn
  have hne : x ≠ C := PySem.W.ks_ne KX J hcC
  have hal : PySem.W.alongIn X.K "__init__" ((cdC.mro.dropWhile (· != .ref D)).drop 1) = some (some (.ref f2)) := by
    unfold PySem.W.ks_superIn at hnext
    rw [hcC] at hnext
    exact hnext
  refine getAttr_super hs1 (PySem.W.looks_opaque KX1 hopq) (l0 := cdC.mro) (fun A' Q' E' s' k' q' => wpAny_bind ((PySem.W.looks_clsIn KX1 hcC) A' _ E' s' k' (wpAny_pure q'))) rfl KX1 hal (KX1 _ _ hfo) hfoc hne (by decide) (wpAny_pure ?_)
  refine wpAny_bind (wpAny_pure ?_)
  have I2 := ClX.pin_new (o := PySem.W.methodObj (.ref f2) (.ref x)) (t' := tt + 1) I1 (fun _ _ z => Heap.get?_push_of_some _ z) (Nat.le_refl _) (Heap.get?_push_size h1 rfl) (fun v z => nomatch z)
  refine PySem.W.ks_call (P := PySem.W.MethP X.K h1.objs.size f2 (.ref x)) rfl (PySem.W.keeps_M hfi) (PySem.W.ks_lone ?_)
  have name : PE X (.Name pv p3) (tVar 1) := pe_var (by rw [hN]; rfl) (.inl (by rw [hE]; exact sc4)) hdb hcd
  refine thn (name.run _ _ _ H (fun v H' => v = .ref p ∧ H' = H) I2 ⟨.ref p, rfl, rfl, rfl⟩) fun v s3 ⟨y, H3, I3, ry, ey, eH⟩ => ?_
  subst ey eH
  obtain rfl : v = Value.ref p := ry
  refine star_tup I3 (SqT.of hp) fun us s4 I4 rv => ⟨⟨ClX.pin_at I4, I4.kIn⟩, ?_⟩
  refine thn (wpAny_call (PySem.W.method_call (ClX.pin_at I4) (run_fnR (us := Value.ref x :: us) (vs := V.ref x :: rest) G hr hpass I4 (.cons rfl rv) hsp))) fun u5 s5 ⟨v5, H5, I5, r5, q5⟩ => ?_
  exact ⟨H5, ClX.unpin I5, q5⟩
end

section
variable {CX : CXT} {P : Program} {w : World} {K : PySem.W.Frag} {mg : Str → Option Value} {base : Heap} {k : Nat} {f f2 C D : Addr} {pv : Str} {sp : Sp}
theorem fn_super (T : SupDef P K f C D f2 pv) (hCX : StX.CXUp CX) (hdb : (pv == ("__debug__" : Str)) = false) (hcdn : (pv == ("__classdict__" : Str)) = false) (G : FnR P w K mg base CX k f2 sp)
    (hpass : ∀ (env : Env) (A : Around) (outer : List Env) (s : Shared) (H : Hp) (E : XK), Passes CX (supX CX P w K mg base pv env A outer s H E) E) :
    FnR P w K mg base CX (k + 1) f (fun vs H Q E => ∃ x dx fs rest, vs = V.ref x :: rest ∧ rest.length ≤ sizeLine ∧ H x = some (.ins C dx fs) ∧ ∀ p, H p = none → sp (V.ref x :: rest) (upd H p (.tup rest)) (fun _ H' => Q .non H') E) := by
  intro A outer s H us vs Q E hr e0 r hsp
  obtain ⟨x, dx, fs, rest, rfl, hz, hx, hq⟩ := hsp
  obtain ⟨name, qual, params, scope, dV, kV, doc, pm, ct, oc, ccl, cl, an, od, cdd, cld, osl, ccs, csl, cc, cda, cvs, file, tf, ar, p0, p1, p2, p3, p4, p5, p6, lk, hcd, hhd, har, hcda, hfl, hfile, hcell, ⟨sc1, sc2, sc3, sc4, sck, sco, scg, scc, scf⟩, hbind⟩ := T.ex
  obtain ⟨cdD, hcD⟩ := T.cD
  obtain ⟨cdC, hcC⟩ := T.cC
  cases r with
  | cons r0 rt =>
    rename_i u urest
    cases r0
    have KX : K.In s.heap := e0.mod.kin.keeps fun b o e => (e0.bs b o e).1
    have hn : H s.heap.objs.size = none := e0.hok.fresh (Nat.le_refl _)
    have hl2 : urest.length ≤ sizeLine := by rw [← rt.length]; exact hz
    refine codeAny_call_function hr.depth (KX _ _ lk) rfl sco scg rfl (PySem.W.codeRec_of KX hcd) ?_
    rw [hbind]
    refine wpAny_bind (wpAny_newTuple (wpAny_pure ?_) hl2)
    have new : ObjOk P w (upd H s.heap.objs.size (.tup rest)) (s.heap.push ({ cls := .type "tuple", data := .seq urest.toArray } : Obj)) s.heap.objs.size (.tup rest) := ⟨hz, urest, rt, ⟨_, Heap.get?_push_size _ rfl, rfl, _, rfl⟩⟩
    have e1 := StX.env0_laid e0 new
    have un1 := StX.un_laid (fs := frs outer) (s := s) (o := ({ cls := .type "tuple", data := .seq urest.toArray } : Obj)) (u := .tup rest) hn
    have hpar : ∀ y ∈ [(("self" : Str), Value.ref x), (pv, Value.ref s.heap.objs.size)], scope.names.lookup y.1 = some .local := by
      intro y hy
      rcases List.mem_cons.mp hy with rfl | hy
      · exact sc3
      · rw [List.mem_singleton.mp hy]; exact sc4
    refine wpAny_newFunctionEnv scc hpar (fun h0 hns hsb => ?_) sck
    have kp : ∀ b o, (s.heap.push ({ cls := .type "tuple", data := .seq urest.toArray } : Obj)).get? b = some o → h0.get? b = some o := fun b o e =>
      hsb.extBut b o (Nat.ne_of_lt (Heap.lt_size e)) (Heap.get?_push_of_some _ e)
    have lim0 : (s.heap.push ({ cls := .type "tuple", data := .seq urest.toArray } : Obj)).NoLimit := e0.mod.nolimit.keeps fun b o e => (e1.bs b o e).1
    refine ⟨lim0.keeps kp, ks_codeAny_funcAt ?_⟩
    have I := sup_inv (CX := CX) (E := E) (tk := s.toks + 2) (qual := qual) (f := f) (cda := cda) (v1 := .ref x) (v2 := .ref s.heap.objs.size) e1 hr.hd hns kp rfl rfl T.nd hcell sc2 sc3 sc4 sck scc scf
    have xs : x ≠ s.heap.objs.size := ne_of_none hx hn
    have body := sup_eval (p0 := p0) (p1 := p1) (p2 := p2) (p3 := p3) (p4 := p4) (p5 := p5) (Q := Q) (dx := dx) (fs := fs) (rest := rest) (k := k) (sp := sp) (CX := CX) (E := E) rfl rfl I lk hhd har hcda hfl hfile hcell hcD hcC T.sub T.sup T.top T.opq T.next T.ty T.fi sc1 sc2 sc3 sc4 sck hdb hcdn
      (by rw [upd_ne xs]; exact hx) upd_same G (hr.deeper _) (hpass _ _ _ _ _ _) (hq _ hn) [.Expr (.Call (.Attribute (.Call (.Name "super" p0) [] [] p1) "__init__" p2) [.Starred (.Name pv p3) p4] [] p5) p6]
    refine ks_wpAt_execs_cons (ks_wpAt_Expr_any (ks_wpAt_mono body (fun v s' z => ?_) (fun e s' z => ?_)) (by show interactive (PySem.W.ksEnv qual scope _ f (.ref cda) cc) = false; unfold interactive; rw [show (PySem.W.ksEnv qual scope _ f (.ref cda) cc).scope.kind = .function from sck]; rfl))
    · obtain ⟨H', J, q⟩ := z
      refine PySem.wpAt_of_wpAny (wpAny_pure ?_)
      exact ⟨V.non, H', J.os, J.bare, un1.trans J.base, J.hok, rfl, q⟩
    · have up : ∀ b o, s.heap.get? b = some o → (s.heap.push ({ cls := .type "tuple", data := .seq urest.toArray } : Obj)).get? b = some o := fun b o e => Heap.get?_push_of_some _ e
      exact wpAny_mono z (fun _ s'' y => hCX outer s H { s with heap := s.heap.push ({ cls := .type "tuple", data := .seq urest.toArray } : Obj) } _ E e s'' un1 up rfl y) fun e' s'' y => hCX outer s H { s with heap := s.heap.push ({ cls := .type "tuple", data := .seq urest.toArray } : Obj) } _ E e' s'' un1 up rfl y
end
end Cr

namespace Cr
open PySem PySem.Spec PyProof.Rows L2

/-- ints, and tuples of such, so many deep -/
def PlainV (h : Heap) : Nat → Value → Prop
  | 0, v => ∃ i t, v = .int i t
  | n + 1, v => (∃ i t, v = .int i t) ∨ ∃ a o vs m, v = .ref a ∧ h.get? a = some o ∧ o.cls = .type "tuple" ∧ o.data = .seq vs m ∧ ∀ u ∈ vs.toList, PlainV h n u
structure KeyAt (h : Heap) (k : NestedKey) (a : Addr) : Prop where
  is : NestedIs h k (.ref a)
  dp : k.depth ≤ 8
  pl : PlainV h 8 (.ref a)
theorem PlainV.at {h h' : Heap} (kp : ∀ a o vs m, h.get? a = some o → o.data = .seq vs m → h'.get? a = some o) : ∀ n v, PlainV h n v → PlainV h' n v
  | 0, _, x => x
  | n + 1, v, x => by
    rcases x with x | ⟨a, o, vs, m, e, h1, h2, h3, h4⟩
    · exact .inl x
    · exact .inr ⟨a, o, vs, m, e, kp _ _ _ _ h1 h3, h2, h3, fun u hu => PlainV.at kp n u (h4 u hu)⟩
theorem KeyAt.at {h h' : Heap} {k : NestedKey} {a : Addr} (x : KeyAt h k a) (kp : ∀ a o vs m, h.get? a = some o → o.data = .seq vs m → h'.get? a = some o) : KeyAt h' k a := ⟨NestedIs.at kp _ _ x.is, x.dp, x.pl.at kp _ _⟩
theorem KeyAt.beside {h h' : Heap} {k : NestedKey} {a b : Addr} {o : Obj} {es : Array (Int × Value)} {ep : Nat} {t : SetTable} (x : KeyAt h k b) (ho : h.get? a = some o) (hd : o.data = .set es ep t) (hs : Heap.SameBut a h h') : KeyAt h' k b :=
  x.at fun c oc vs m hc hv => by
    refine (hs.2 c fun e => ?_).trans hc
    subst e
    rw [ho] at hc
    cases hc
    rw [hd] at hv
    cases hv
section
variable {P : Program} {w : World} {A : Around} {E : Value → Shared → Prop} {s : Shared}
theorem forIn_sure {vs : Array Value} {f : Value → Sem Bool} {g : Bool → Bool} {out : Bool} {Q : Option Bool × Unit → Shared → Prop}
    {body : Value → Option Bool × Unit → Sem (ForInStep (Option Bool × Unit))} (hb : ∀ v r, body v r = (f v >>= fun b => if g b = true then pure (.done (some out, ())) else pure (.yield (none, ()))))
    (hf : ∀ v ∈ vs.toList, ∀ (A : Around) (E : Value → Shared → Prop) (Q : Bool → Shared → Prop), (∀ b, g b = false → Q b s) → wpAny (model P w) A (f v) Q E s) (h : Q (none, ()) s) : wpAny (model P w) A (forIn vs (none, ()) body) Q E s := by
  rw [← Array.forIn_toList]
  refine wpAny_forIn_list _ (fun rest r s' => r = (none, ()) ∧ s' = s ∧ ∀ v ∈ rest, v ∈ vs.toList) _ ?_ ?_ _ _ ⟨rfl, rfl, fun v hv => hv⟩
  · rintro v rest r s' ⟨rfl, rfl, hall⟩
    rw [hb]
    refine wpAny_bind (hf v (hall v List.mem_cons_self) _ _ _ fun b gb => ?_)
    rw [if_neg (by rw [gb]; decide)]
    exact wpAny_pure ⟨rfl, rfl, fun u hu => hall u (List.mem_cons_of_mem _ hu)⟩
  · rintro r s' ⟨rfl, rfl, _⟩
    exact h
theorem own_not : ∀ (n : Nat) (v : Value), PlainV s.heap n v → ∀ (A : Around) (E : Value → Shared → Prop) (Q : Bool → Shared → Prop), Q false s → wpAny (model P w) A (ofAClassStatement n v) Q E s
  | 0, _, ⟨i, t, rfl⟩, A, E, Q, q => wpAny_pure q
  | n + 1, v, x, A, E, Q, q => by
    rcases x with ⟨i, t, rfl⟩ | ⟨a, o, vs, m, rfl, h1, h2, h3, h4⟩
    · exact wpAny_pure q
    · unfold ofAClassStatement
      refine wpAny_bind (wpAny_typeOf (T := "tuple") ⟨o, h1, h2⟩ ?_)
      dsimp only
      refine wpAny_bind (wpAny_pure ?_)
      simp only [Bool.not_true, Bool.false_eq_true, if_false]
      refine wpAny_bind (wpAny_seqItems h1 h3 ?_)
      dsimp only
      refine wpAny_bind (forIn_sure (f := ofAClassStatement n) (g := id) (out := true) (fun _ _ => rfl) (fun u hu A' E' Q' hq' => own_not n u (h4 u hu) A' E' Q' (hq' false rfl)) ?_)
      exact wpAny_pure q
theorem by_value : ∀ (n : Nat) (v : Value), PlainV s.heap n v → ∀ (A : Around) (E : Value → Shared → Prop) (Q : Bool → Shared → Prop), Q true s → wpAny (model P w) A (hashByValue n v) Q E s
  | 0, _, ⟨i, t, rfl⟩, A, E, Q, q => wpAny_pure q
  | n + 1, v, x, A, E, Q, q => by
    rcases x with ⟨i, t, rfl⟩ | ⟨a, o, vs, m, rfl, h1, h2, h3, h4⟩
    · exact wpAny_pure q
    · unfold hashByValue
      refine wpAny_bind (wpAny_specialOf (T := "tuple") ⟨o, h1, h2⟩ F.slot_tuple_hash.lookup ?_)
      dsimp only
      refine wpAny_bind (wpAny_seqItems h1 h3 ?_)
      refine wpAny_bind (forIn_sure (f := hashByValue n) (g := fun b => !b) (out := false) (fun _ _ => rfl) (fun u hu A' E' Q' hq' => by_value n u (h4 u hu) A' E' Q' (hq' true rfl)) ?_)
      exact wpAny_pure q
end

/-! ### the set: each key once -/
abbrev hk (w : World) (p : Addr × NestedKey) : Int := p.2.hash w
structure SetN (w : World) (h : Heap) (a : Addr) (L : List (Addr × NestedKey)) (es : Array (Int × Value)) (ep : Nat) (t : SetTable) : Prop where
  ob : ∃ o, h.get? a = some o ∧ o.ExactSet ∧ o.data = .set es ep t
  rows : es.toList = L.map fun p => (hk w p, Value.ref p.1)
  tab : TabOk t (L.map (hk w))
  plain : t.plain = true
  room : L.length * 5 < t.mask * 3
  few : L.length < 64
section
variable {P : Program} {w : World} {A : Around} {E : Value → Shared → Prop} {s : Shared} {a x : Addr} {L : List (Addr × NestedKey)} {es : Array (Int × Value)} {ep : Nat} {t : SetTable} {k : NestedKey}
theorem SetN.count (R : SetN w s.heap a L es ep t) : es.size = L.length := by
  rw [← Array.length_toList, R.rows, List.length_map]
theorem SetN.fits (R : SetN w s.heap a L es ep t) : t.fits es.size = true := by
  have e1 : t.place.size = L.length := by rw [R.tab.sz, List.length_map]
  have e2 := R.count
  have e3 := R.room
  unfold SetTable.fits SetTable.fill
  rw [R.tab.dm, Bool.and_eq_true, beq_iff_eq, decide_eq_true_eq]
  exact ⟨by omega, show t.place.size + 0 ≤ t.mask by omega⟩
theorem SetN.row (R : SetN w s.heap a L es ep t) {i : Nat} {p : Addr × NestedKey} (e : L[i]? = some p) : es[i]? = some (hk w p, Value.ref p.1) := by
  rw [← Array.getElem?_toList, R.rows, List.getElem?_map, e]
  rfl
/-- a search among such keys shows nothing -/
theorem unseen (kx : KeyAt s.heap k x) {ys : List Value} (hy : ∀ y ∈ ys, ∃ k' c, y = Value.ref c ∧ KeyAt s.heap k' c) {Q : Bool → Shared → Prop} (q : Q false s) : wpAny (model P w) A (searchCouldBeSeen (.ref x) ys) Q E s := by
  unfold searchCouldBeSeen
  refine wpAny_bind (wpAny_forIn_list _ (fun rest r s' => r.1 = none ∧ s' = s ∧ ∀ y ∈ rest, y ∈ ys) _ ?_ ?_ _ _ ⟨rfl, rfl, fun y h => h⟩)
  · rintro v rest r s' ⟨hr, rfl, hall⟩
    obtain ⟨k', c, rfl, kc⟩ := hy v (hall v List.mem_cons_self)
    have next : ∀ y ∈ rest, y ∈ ys := fun y h => hall y (List.mem_cons_of_mem _ h)
    dsimp only
    by_cases hv : (x == c || (carriedByValue (.ref x) && carriedByValue (.ref c))) = true
    · exact wp_if_pos hv (wpAny_pure ⟨rfl, rfl, next⟩)
    · refine wp_if_neg hv (wpAny_bind (quiet_key _ _ 8 _ kx.is kx.dp _ _ _ ?_))
      simp only [Bool.not_true, Bool.false_eq_true, if_false]
      refine wpAny_bind (quiet_key _ _ 8 _ kc.is kc.dp _ _ _ ?_)
      simp only [Bool.not_true, Bool.false_eq_true, if_false]
      refine wpAny_bind (own_not 8 _ kx.pl _ _ _ ?_)
      simp only [Bool.false_eq_true, if_false]
      refine wpAny_bind (own_not 8 _ kc.pl _ _ _ ?_)
      simp only [Bool.false_eq_true, if_false]
      exact wpAny_pure ⟨rfl, rfl, next⟩
  · rintro ⟨r1, r2⟩ s' ⟨hr, rfl, _⟩
    simp only at hr
    subst hr
    exact wpAny_pure q
/-- the way of k's probes through the table -/
abbrev road (w : World) (t : SetTable) (k : NestedKey) : SetTable.Probe := runAt t.mask (SetTable.bits (k.hash w) % (t.mask + 1)) (SetTable.bits (k.hash w))
theorem no_dummy (m : Nat) : ∀ (n : Nat) (p : SetTable.Probe), p.dummy = none → (nth m p n).dummy = none
  | 0, _, e => e
  | n + 1, p, e => no_dummy m n (adv m p) (by unfold adv; split <;> exact e)
/-- a key that is not there: the first empty slot of its way -/
theorem search_new (R : SetN w s.heap a L es ep t) (kL : ∀ p ∈ L, KeyAt s.heap p.2 p.1) (kx : KeyAt s.heap k x) (hne : ∀ p ∈ L, p.2 ≠ k) (hu : A.units + 8 < cLine) {K : Nat} (hKf : K < 10 * SetTable.turns t.mask)
    (hK : way t.mask (k.hash w) K ∉ t.place.toList) (hKb : ∀ c, c < K → way t.mask (k.hash w) c ∈ t.place.toList) {Q : SetFound → Shared → Prop} (q : Q (.free (way t.mask (k.hash w) K) false) s) :
    ∀ (f c : Nat) (stand : Option SetTable.Probe), stand.getD (t.probeStart (k.hash w)) = nth t.mask (road w t k) c → c ≤ K → K - c < f → wpAny (model P w) A (setSearchFrom a (.ref x) (k.hash w) true f stand) Q E s
  | 0, c, stand, _, _, hf => absurd hf (Nat.not_lt_zero _)
  | f + 1, c, stand, hst, hc, hf => by
    obtain ⟨o, ho, hex, hd⟩ := R.ob
    have hgw : ¬ t.gaveWay = true := by unfold SetTable.gaveWay; rw [mask_odd R.tab.mok]; decide
    rw [setSearchFrom_succ]
    refine wpAny_bind (wpAny_setState_of ho hd R.fits ?_)
    dsimp only
    refine wp_if_neg hgw ?_
    try refine wpAny_bind (wpAny_pure ?_)
    have sh : ∀ j, nth t.mask (nth t.mask (road w t k) c) j = nth t.mask (road w t k) (c + j) := fun j => (nth_add t.mask c _ j).symm
    have sj : ∀ j, (nth t.mask (nth t.mask (road w t k) c) j).j = way t.mask (k.hash w) (c + j) := fun j => congrArg SetTable.Probe.j (sh j)
    have spec := go_spec t R.tab.ris R.tab.dm (fun i => (es[i]?.map (·.1)).getD 0) (k.hash w) (10 * SetTable.turns t.mask) (K - c) _ (no_dummy t.mask c (road w t k) rfl) (by omega)
      (fun j hj => by rw [sj]; exact hKb (c + j) (by omega)) (by rw [sj, show c + (K - c) = K by omega]; exact hK)
    rcases spec with ⟨j, i, hj, hi, hh, hno, hpr⟩ | ⟨hno, hpr⟩
    · have e1 : t.probe (fun i => (es[i]?.map (·.1)).getD 0) (k.hash w) (stand.getD (t.probeStart (k.hash w))) = some (.candidate (way t.mask (k.hash w) (c + j)) i (nth t.mask (road w t k) (c + (j + 1)))) := by
        rw [hst, ← sj, ← sh]
        exact hpr
      rw [e1]
      dsimp only
      rw [sj] at hi
      have hil : i < L.length := by
        have h1 : i < t.place.toList.length := (List.getElem?_eq_some_iff.mp hi).1
        have h2 := R.tab.sz
        rw [List.length_map] at h2
        rw [Array.length_toList] at h1
        omega
      have hp : L[i]? = some L[i] := List.getElem?_eq_getElem hil
      generalize L[i] = p at hp
      have hm : p ∈ L := List.mem_of_getElem? hp
      have hneq : decide (p.2 = k) = false := decide_eq_false (hne p hm)
      have on : wpAny (model P w) A (searchRest a (.ref x) (k.hash w) true f es t (way t.mask (k.hash w) (c + j)) i (nth t.mask (road w t k) (c + (j + 1)))) Q E s := by
        unfold searchRest
        rw [R.row hp]
        dsimp only
        refine wpAny_bind (wpAny_holding ((nestedKind P w).eqBool hu ⟨(kL p hm).is, (kL p hm).dp⟩ ⟨kx.is, kx.dp⟩ ?_))
        refine wpAny_bind (wpAny_setState_of ho hd R.fits ?_)
        dsimp only
        refine wp_if_neg (by rw [hneq]; decide) ?_
        try refine wpAny_bind (wpAny_pure ?_)
        rw [sameMem]
        dsimp only
        have hsl : t.slot (way t.mask (k.hash w) (c + j)) = .live i := slot_live R.tab.ris hi
        simp only [if_true, hsl, R.row hp]
        refine wpAny_bind (wpAny_isSame_ref_self (wpAny_bind (wpAny_pure ?_)))
        simp only [if_true]
        refine wp_if_neg (by rw [hneq]; decide) ?_
        exact search_new R kL kx hne hu hKf hK hKb q f (c + (j + 1)) _ rfl (by omega) (by omega)
      by_cases hl : t.led = true
      · refine wp_if_neg (by rw [hl]; decide) ?_
        try refine wpAny_bind (wpAny_pure ?_)
        exact on
      · have hl' : t.led = false := by cases q : t.led <;> simp_all
        refine wp_if_pos (by rw [hl']; decide) ?_
        refine wpAny_bind (unseen kx (fun y hy => ?_) ?_)
        · obtain ⟨e, he, ee⟩ := List.mem_map.mp hy
          have he2 : e ∈ es.toList := by have z : e ∈ es ∧ e.1 = k.hash w := by simpa using he
                                         simpa using z.1
          rw [R.rows] at he2
          obtain ⟨p2, hp2, e2⟩ := List.mem_map.mp he2
          exact ⟨p2.2, p2.1, by rw [← ee, ← e2], kL p2 hp2⟩
        · refine wp_if_neg (by decide) ?_
          try refine wpAny_bind (wpAny_pure ?_)
          exact on
    · have e1 : t.probe (fun i => (es[i]?.map (·.1)).getD 0) (k.hash w) (stand.getD (t.probeStart (k.hash w))) = some (.empty (way t.mask (k.hash w) K) none) := by
        have e2 : way t.mask (k.hash w) K = (nth t.mask (nth t.mask (road w t k) c) (K - c)).j := by rw [sj, show c + (K - c) = K by omega]
        rw [hst, e2]
        exact hpr
      rw [e1]
      exact wpAny_pure q
end

section
variable {P : Program} {w : World} {A : Around} {E : Value → Shared → Prop} {s : Shared} {a x : Addr} {L : List (Addr × NestedKey)} {es : Array (Int × Value)} {ep : Nat} {t : SetTable} {k : NestedKey}
/-- entries taken in the order of a permutation of their places -/
theorem reorder {es : Array (Int × Value)} {L : List (Addr × NestedKey)} (hr : es.toList = L.map fun p => (hk w p, Value.ref p.1)) {order : Array Nat} (hp : order.toList.Perm (List.range L.length)) :
    ∃ L2 : List (Addr × NestedKey), (order.filterMap (es[·]?)).toList = L2.map (fun p => (hk w p, Value.ref p.1)) ∧ L2.Perm L ∧ L2.map (hk w) = order.toList.map fun i => (es.map (·.1)).getD i 0 := by
  have at_ : ∀ i (h : i < L.length), es[i]? = some (hk w L[i], Value.ref L[i].1) := fun i h => by
    rw [← Array.getElem?_toList, hr, List.getElem?_map, List.getElem?_eq_getElem h]
    rfl
  have part : ∀ l : List Nat, (∀ i ∈ l, i < L.length) → l.filterMap (fun i => es[i]?) = (l.filterMap (fun i => L[i]?)).map (fun p => (hk w p, Value.ref p.1)) ∧ (l.filterMap (fun i => L[i]?)).map (hk w) = l.map fun i => (es.map (·.1)).getD i 0 := by
    intro l
    induction l with
    | nil => intro _; exact ⟨rfl, rfl⟩
    | cons i l ih =>
      intro hl
      have hi := hl i List.mem_cons_self
      obtain ⟨e1, e2⟩ := ih fun j hj => hl j (List.mem_cons_of_mem _ hj)
      have e4 : (es.map (·.1)).getD i 0 = hk w L[i] := by
        have e5 : (es.map (·.1))[i]? = some (hk w L[i]) := by rw [Array.getElem?_map, at_ i hi]; rfl
        simp [Array.getD_eq_getD_getElem?, e5]
      rw [List.filterMap_cons_some (at_ i hi), List.filterMap_cons_some (List.getElem?_eq_getElem hi), List.map_cons, List.map_cons, List.map_cons, e1, e2, e4]
      exact ⟨rfl, rfl⟩
  obtain ⟨e1, e2⟩ := part order.toList fun i hi => List.mem_range.mp (hp.mem_iff.mp hi)
  refine ⟨_, by first | (rw [Array.toList_filterMap]; exact e1) | simpa using e1, ?_, e2⟩
  have all : ∀ n, n ≤ L.length → (List.range n).filterMap (fun i => L[i]?) = L.take n := by
    intro n
    induction n with
    | zero => intro _; rfl
    | succ n ih =>
      intro hn
      rw [List.range_succ, List.filterMap_append, ih (Nat.le_of_succ_le hn), List.take_succ, List.getElem?_eq_getElem hn, List.filterMap_cons_some (List.getElem?_eq_getElem hn)]
      rfl
  have z := hp.filterMap (fun i => L[i]?)
  rw [all L.length (Nat.le_refl _), List.take_length] at z
  exact z
/-- the table laid anew -/
theorem relay_new {o : Obj} (ho : s.heap.get? a = some o) (hex : o.ExactSet) (hd : o.data = .set es ep t) (hr : es.toList = L.map fun p => (hk w p, Value.ref p.1)) (hsz : t.place.size = es.size) (hdm : t.dummies = #[]) (hfl : es.size ≤ t.mask)
    (pl : t.plain = true) (few : L.length < 64) {wanted M : Nat} (hw : SetTable.sizeAbove wanted - 1 = M) (hM : MaskOk M) (hw2 : SetTable.sizeAbove wanted ≤ 128) (hn : L.length * 5 < M * 3) {Q : Unit → Shared → Prop}
    (q : ∀ h' L' es' ep' t', Heap.SameBut a s.heap h' → SetN w h' a L' es' ep' t' → L'.Perm L → Q () { s with heap := h' }) : wpAny (model P w) A (setRelay a wanted) Q E s := by
  have hsl : es.size = L.length := by rw [← Array.length_toList, hr, List.length_map]
  have hfits : t.fits es.size = true := by
    unfold SetTable.fits SetTable.fill
    rw [hdm, Bool.and_eq_true, beq_iff_eq, decide_eq_true_eq]
    exact ⟨hsz, show t.place.size + 0 ≤ t.mask by omega⟩
  obtain ⟨t', order, e, hp, T, em, el, ep', ed⟩ := relaid_ok t (hs := es.map (·.1)) (wanted := wanted) hw hM (by rw [Array.size_map, hsl]; omega)
  rw [Array.size_map, hsl] at hp
  obtain ⟨L2, r1, r2, r3⟩ := reorder hr hp
  rw [← r3] at T
  have hs2 : (order.filterMap (es[·]?)).size = es.size := by rw [← Array.length_toList, r1, List.length_map, r2.length_eq, hsl]
  rw [setRelay_eq]
  refine wpAny_bind (wpAny_setState_of ho hd hfits ?_)
  dsimp only
  refine wp_if_neg (by rw [sizeLine_eq]; omega) ?_
  try refine wpAny_bind (wpAny_pure ?_)
  rw [e]
  dsimp only
  refine wpAny_bind (wp_if_neg (by rw [hs2]; simp) ?_)
  try refine wpAny_bind (wpAny_pure ?_)
  refine wpAny_pure ?_
  dsimp only
  refine wpAny_storeSet_of ho hd ?_ (by rw [hs2, hsl, sizeLine_eq]; omega)
  have sb : Heap.SameBut a s.heap (s.heap.update a (Obj.putSet (order.filterMap (es[·]?)) t')) := Heap.SameBut.update ..
  refine q _ L2 (order.filterMap (es[·]?)) (ep + 1) t' sb ⟨⟨_, store_at ho hd, ⟨hex.1, hex.2.1, hex.2.2⟩, rfl⟩, r1, T, by rw [ep']; exact pl, by rw [r2.length_eq, em]; exact hn, by rw [r2.length_eq]; exact few⟩ r2
/-- one more key -/
theorem add_new (R : SetN w s.heap a L es ep t) (kL : ∀ p ∈ L, KeyAt s.heap p.2 p.1) (kx : KeyAt s.heap k x) (hne : ∀ p ∈ L, p.2 ≠ k) (hu : A.units + 8 < cLine) (hfew : L.length + 1 < 64) {Q : Bool → Shared → Prop}
    (q : ∀ b h' L' es' ep' t', Heap.SameBut a s.heap h' → SetN w h' a L' es' ep' t' → L'.Perm ((x, k) :: L) → Q b { s with heap := h' }) : wpAny (model P w) A (setAddHashed a (.ref x) (k.hash w)) Q E s := by
  obtain ⟨o, ho, hex, hd⟩ := R.ob
  have hsl := R.count
  have hroom := R.room
  obtain ⟨K, hKf, hK, hKb⟩ := R.tab.first (by rw [List.length_map]; omega) (k.hash w)
  have hbig : K < 100000 := by
    have z : 10 * SetTable.turns t.mask ≤ 1420 := by
      unfold SetTable.turns
      rcases R.tab.mok with e | e | e <;> omega
    omega
  unfold setAddHashed
  refine wpAny_holding ?_
  rw [show (100000 : Nat) = 99999 + 1 from rfl, setAddHashedIn_succ]
  refine wpAny_bind (wpAny_setState_of ho hd R.fits ?_)
  dsimp only
  refine wp_if_neg (by simp [byScan, Value.scannable]) ?_
  try refine wpAny_bind (wpAny_pure ?_)
  unfold setSearch
  refine wpAny_bind (search_new R kL kx hne hu hKf hK hKb ?_ 100000 0 none rfl (Nat.zero_le _) (by omega))
  dsimp only
  refine wpAny_bind (wpAny_setState_of ho hd R.fits ?_)
  dsimp only
  obtain ⟨q1, q2, q3, q4, q5, q6, q7, q8, q9⟩ := R.tab.put hK hKb
  have hp1 : (t.put (way t.mask (k.hash w) K)).1.plain = true := by rw [q6]; exact R.plain
  generalize hpt : t.put (way t.mask (k.hash w) K) = pt at q1 q3 q4 q5 q6 q7 q8 q9 hp1 ⊢
  obtain ⟨t1, p⟩ := pt
  dsimp only at q1 q3 q4 q5 q6 q7 q8 q9 hp1 ⊢
  subst q1
  first
    | (refine wpAny_bind ?_; refine wp_if_pos hp1 ?_; refine by_value 8 _ kx.pl _ _ _ ?_)
    | refine wp_if_pos hp1 (wpAny_bind (by_value 8 _ kx.pl _ _ _ ?_))
  simp only [if_true]
  generalize hpp : SetTable.below t.place (way t.mask (k.hash w) K) = p at q2 q3 ⊢
  have hin : (SetTable.insertAt es p (k.hash w, Value.ref x)).toList = (L.take p ++ (x, k) :: L.drop p).map fun p => (hk w p, Value.ref p.1) := by
    rw [SetTable.toList_insertAt, R.rows, List.map_append, List.map_cons, List.map_take, List.map_drop]
  have pm : (L.take p ++ (x, k) :: L.drop p).Perm ((x, k) :: L) := put_perm L p (x, k)
  have hhs : (L.take p ++ (x, k) :: L.drop p).map (hk w) = (L.map (hk w)).take p ++ k.hash w :: (L.map (hk w)).drop p := by rw [List.map_append, List.map_cons, List.map_take, List.map_drop]
  rw [← hhs] at q3
  have hlen : (L.take p ++ (x, k) :: L.drop p).length = L.length + 1 := pm.length_eq
  have hes : (SetTable.insertAt es p (k.hash w, Value.ref x)).size = L.length + 1 := by rw [← Array.length_toList, hin, List.length_map, hlen]
  generalize SetTable.insertAt es p (k.hash w, Value.ref x) = es1 at hin hes ⊢
  generalize L.take p ++ (x, k) :: L.drop p = L1 at pm hlen q3 hin
  refine wpAny_bind (wpAny_storeSet_of ho hd ?_ (by rw [hes, sizeLine_eq]; omega))
  have sb : Heap.SameBut a s.heap (s.heap.update a (Obj.putSet es1 t1)) := Heap.SameBut.update ..
  have ho1 := store_at (es' := es1) (t' := t1) ho hd
  generalize s.heap.update a (Obj.putSet es1 t1) = h1 at sb ho1 ⊢
  by_cases hf : t1.tooFull = true
  · first
      | (refine wpAny_bind ?_; refine wp_if_pos (by simp [hf]) ?_)
      | (refine wp_if_pos (by simp [hf]) ?_; refine wpAny_bind ?_)
    have hfull : (L.length + 1) * 5 ≥ t1.mask * 3 := by
      unfold SetTable.tooFull at hf
      rw [decide_eq_true_eq, q9, List.length_map] at hf
      exact hf
    rw [hsl]
    have hsz1 : t1.place.size = es1.size := by rw [q3.sz, List.length_map, hlen, hes]
    have two : (t.mask = 7 ∧ L.length = 4) ∨ (t.mask = 31 ∧ L.length = 18) := by
      rcases R.tab.mok with e | e | e
      · left; rw [q4, e] at hfull; rw [e] at hroom; exact ⟨e, by omega⟩
      · right; rw [q4, e] at hfull; rw [e] at hroom; exact ⟨e, by omega⟩
      · exfalso; rw [q4, e] at hfull; omega
    have go : ∀ M, SetTable.sizeAbove (SetTable.grown (L.length + 1)) - 1 = M → MaskOk M → SetTable.sizeAbove (SetTable.grown (L.length + 1)) ≤ 128 → (L.length + 1) * 5 < M * 3 →
        wpAny (model P w) A (setRelay a (SetTable.grown (L.length + 1))) (fun _ s' => wpAny (model P w) A (pure true) Q E s') E { s with heap := h1 } := fun M y1 y2 y3 y4 => by
      refine relay_new (s := { s with heap := h1 }) ho1 ⟨hex.1, hex.2.1, hex.2.2⟩ rfl hin hsz1 q3.dm (by rw [hes, q4]; rcases two with ⟨e, e2⟩ | ⟨e, e2⟩ <;> omega) hp1 (by rw [hlen]; exact hfew) y1 y2 y3 (by rw [hlen]; exact y4) ?_
      intro h2 L2 es2 ep2 t2 sb2 R2 pm2
      exact wpAny_pure (q true h2 L2 es2 ep2 t2 (sb.trans sb2) R2 (pm2.trans pm))
    rcases two with ⟨_, e2⟩ | ⟨_, e2⟩
    · exact go 31 (by rw [e2, size_20]) (.inr (.inl rfl)) (by rw [e2, size_20]; decide) (by omega)
    · exact go 127 (by rw [e2, size_76]) (.inr (.inr rfl)) (by rw [e2, size_76]; decide) (by omega)
  · first
      | refine wp_if_neg (by simp [hf]) ?_
      | (refine wpAny_bind ?_; refine wp_if_neg (by simp [hf]) ?_; refine wpAny_pure ?_)
    refine wpAny_pure (q true h1 L1 es1 (ep + 1) t1 sb ⟨⟨_, ho1, ⟨hex.1, hex.2.1, hex.2.2⟩, rfl⟩, hin, q3, hp1, ?_, by rw [hlen]; exact hfew⟩ pm)
    unfold SetTable.tooFull at hf
    rw [decide_eq_true_eq, q9, List.length_map] at hf
    rw [hlen]
    omega
end

abbrev set0 (w : World) : Obj := { cls := .type "set", dict := none, data := .set #[] 0 (.fresh 0 0 (!w.params.followText "set-order")) }
section
variable {P : Program} {w : World} {A : Around} {E : Value → Shared → Prop} {s : Shared}
theorem setN_none {h : Heap} {a : Addr} (ho : h.get? a = some (set0 w)) : SetN w h a [] #[] 0 (.fresh 0 0 (!w.params.followText "set-order")) :=
  ⟨⟨_, ho, ⟨rfl, rfl, rfl⟩, rfl⟩, rfl, ⟨List.Pairwise.nil, rfl, rfl, .inl rfl, fun x hx => (by cases hx), fun i h j hi => (by simp at hi)⟩, rfl, (show 0 * 5 < 7 * 3 by decide), (show 0 < 64 by decide)⟩
theorem SetN.keep {h h' : Heap} {a : Addr} {L : List (Addr × NestedKey)} {es : Array (Int × Value)} {ep : Nat} {t : SetTable} (R : SetN w h a L es ep t) (kp : ∀ o, h.get? a = some o → h'.get? a = some o) : SetN w h' a L es ep t := by
  obtain ⟨o, ho, r⟩ := R.ob
  exact ⟨⟨o, kp o ho, r⟩, R.rows, R.tab, R.plain, R.room, R.few⟩
theorem nodup_same {α : Type} {l : List α} (nd : l.Nodup) {i j : Nat} {x : α} (a : l[i]? = some x) (b : l[j]? = some x) : i = j := by
  obtain ⟨h1, e1⟩ := List.getElem?_eq_some_iff.mp a
  obtain ⟨h2, e2⟩ := List.getElem?_eq_some_iff.mp b
  exact (List.getElem_inj nd).mp (e1.trans e2.symm)
/-- the loop that fills the set, from the i-th item on -/
theorem fill_new {I : Addr} {fp wr : List Addr} {G : Array GenState → Array GenState → Prop} {n : Nat} {Pv : Nat → Value → Prop} {St : Nat → Shared → Prop} {R : Result → Shared → Prop}
    (W : WalksS P w A.in1 I fp wr G n Pv St) (S : Addr) (hSf : S ∉ fp) (ks : List (Addr × NestedKey)) (hn : n = ks.length) (nd : (ks.map (·.2)).Nodup) (hfew : ks.length < 64) (hval : ∀ i v, Pv i v → ∃ p, ks[i]? = some p ∧ v = .ref p.1)
    (h0 : Heap) (hkey : ∀ p ∈ ks, KeyAt h0 p.2 p.1) (hS0 : h0.get? S = none) (hw0 : ∀ b ∈ wr, h0.get? b = none) (hu : A.in1.units + 8 < cLine) :
    ∀ (m i : Nat) (s : Shared), n - i = m → i ≤ n → St i s → (∀ b o, h0.get? b = some o → s.heap.get? b = some o) → (∃ L es ep t, SetN w s.heap S L es ep t ∧ L.Perm (ks.take i)) →
      (∀ s' L es ep t, Moved (S :: wr) G s s' → SetN w s'.heap S L es ep t → L.Perm ks → (∀ b o, h0.get? b = some o → s'.heap.get? b = some o) → R (.ok (.ret .none)) s') →
      codeAny (model P w) A (.builtin "set.update.loop" ⟨[.ref S, .ref I], []⟩) R s := by
  have hSw : S ∉ wr := fun h => hSf (W.sub _ h)
  have sub1 : ∀ b ∈ wr, b ∈ S :: wr := fun b hb => List.mem_cons_of_mem _ hb
  have stay : ∀ {s s' : Shared}, Moved wr G s s' → (∀ b o, h0.get? b = some o → s.heap.get? b = some o) → ∀ b o, h0.get? b = some o → s'.heap.get? b = some o := fun hm hkp b o e =>
    hm.heap b o (fun hb => by rw [hw0 b hb] at e; cases e) (hkp b o e)
  intro m
  induction m with
  | zero =>
    intro i s hm0 hi hst hkp ⟨L, es, ep, t, hS, g⟩ hR
    obtain rfl : i = n := by omega
    refine codeAny_builtin F.entry_set_update_loop ?_
    rw [Around.under_plainId F.plain_set_update_loop _]
    show wpAny _ A.in1 (pyNext (.ref I) >>= _) _ _ s
    refine wpAny_bind (W.done s _ _ hst fun s' hm => ?_)
    show wpAny _ A.in1 (ret Value.none) _ _ s'
    rw [hn, List.take_length] at g
    exact wpAny_pure (hR s' L es ep t (hm.mono sub1) (hS.keep fun o e => hm.heap S o hSw e) g (stay hm hkp))
  | succ m ih =>
    intro i s hm0 hi hst hkp ⟨L, es, ep, t, hS, g⟩ hR
    have hlt : i < n := by omega
    refine codeAny_builtin F.entry_set_update_loop ?_
    rw [Around.under_plainId F.plain_set_update_loop _]
    show wpAny _ A.in1 (pyNext (.ref I) >>= _) _ _ s
    refine wpAny_bind (W.item i s _ _ hlt hst fun v s' hP hst' hm => ?_)
    obtain ⟨p, hp, rfl⟩ := hval i v hP
    have hkp' := stay hm hkp
    have hmem : ∀ q ∈ L, q ∈ ks := fun q hq => List.mem_of_mem_take (g.mem_iff.mp hq)
    have kat : ∀ q ∈ ks, KeyAt s'.heap q.2 q.1 := fun q hq => (hkey q hq).at fun b o _ _ e _ => hkp' b o e
    have hS' : SetN w s'.heap S L es ep t := hS.keep fun o e => hm.heap S o hSw e
    have hpk : p ∈ ks := List.mem_of_getElem? hp
    have new : ∀ q ∈ L, q.2 ≠ p.2 := fun q hq e => by
      obtain ⟨j, hj⟩ := List.mem_iff_getElem?.mp (g.mem_iff.mp hq)
      have hji : j < i := by
        have z := (List.getElem?_eq_some_iff.mp hj).1
        rw [List.length_take] at z
        omega
      rw [List.getElem?_take_of_lt hji] at hj
      have a1 : (ks.map (·.2))[j]? = some p.2 := by rw [List.getElem?_map, hj, ← e]; rfl
      have a2 : (ks.map (·.2))[i]? = some p.2 := by rw [List.getElem?_map, hp]; rfl
      have := nodup_same nd a1 a2
      omega
    show wpAny _ A.in1 (holding [Value.ref p.1] (setAdd S (.ref p.1)) >>= _) _ _ s'
    refine wpAny_bind (wpAny_holding ?_)
    unfold setAdd
    refine wpAny_holding (wpAny_bind ((nestedKind P w).pyHash hu ⟨(kat p hpk).is, (kat p hpk).dp⟩ ?_))
    have hll : L.length = i := by rw [g.length_eq, List.length_take]; omega
    refine add_new (s := { s' with toks := s'.toks + p.2.draws }) hS' (fun q hq => kat q (hmem q hq)) (kat p hpk) new hu (by omega) fun b h' L' es' ep' t' hsb hS2 pm => ?_
    have g' : L'.Perm (ks.take (i + 1)) := by
      rw [List.take_succ, hp]
      exact pm.trans (((g.cons p)).trans (List.perm_append_comm (l₁ := [p]) (l₂ := ks.take i)))
    have hkp2 : ∀ b o, h0.get? b = some o → h'.get? b = some o := fun b o e => (hsb.2 b (fun z => by rw [z, hS0] at e; cases e)).trans (hkp' b o e)
    refine wpAny_pure ⟨plainId_quiet F.plain_set_update_loop _, ih (i + 1) _ (by omega) hlt (W.frame _ s' _ _ hst' (Nat.le_add_right _ _) fun b hb o e => ?_) hkp2 ⟨L', es', ep', t', hS2, g'⟩ fun s'' L2 es2 ep2 t2 hm'' hS'' g'' hkp'' => ?_⟩
    · rw [hsb.2 b (fun h : b = S => hSf (by rw [← h]; exact hb))]; exact e
    · refine hR s'' L2 es2 ep2 t2 (Moved.trans W.gtrans ((hm.mono sub1).then_heap (Nat.le_add_right _ _) fun b o hb e => ?_) hm'') hS'' g'' hkp''
      rw [hsb.2 b (fun h : b = S => hb (by rw [h]; exact List.mem_cons_self))]; exact e
end

section
variable {P : Program} {w : World} {A : Around} {E : Value → Shared → Prop} {s : Shared}
theorem absent_from {h : Heap} {b : Addr} (hb : h.objs.size ≤ b) : h.get? b = none := by
  cases q : h.get? b with
  | none => rfl
  | some o => exact absurd (Nat.lt_of_lt_of_le (Heap.lt_size q) hb) (Nat.lt_irrefl _)
/-- what set.__init__ does with a tuple of different keys -/
theorem init_new {l : Addr} {items : Array Value} (ks : List (Addr × NestedKey)) (hh : A.handled = none) (hl : s.heap.IsTuple l items) (hit : items.toList = ks.map fun p => Value.ref p.1) (hkey : ∀ p ∈ ks, KeyAt s.heap p.2 p.1) (nd : (ks.map (·.2)).Nodup)
    (hfew : ks.length < 64) (hu : A.units + 20 < cLine) :
    wpAny (model P w) A.in1.in1 (Builtin.«set.__init__» ⟨[.ref s.heap.objs.size, .ref l], []⟩)
      (fun fin s' => match fin with
        | .done f => wants (fun r s2 => r = .none ∧ ∃ h' tk L es ep t, s2 = { s with heap := h', toks := tk } ∧ SetN w h' s.heap.objs.size L es ep t ∧ L.Perm ks ∧ ∀ b o, s.heap.get? b = some o → h'.get? b = some o) E (.ok f) s'
        | .again c' => c'.quiet = true ∧ codeAny (model P w) A.in1 c' (wants (fun r s2 => r = .none ∧ ∃ h' tk L es ep t, s2 = { s with heap := h', toks := tk } ∧ SetN w h' s.heap.objs.size L es ep t ∧ L.Perm ks ∧ ∀ b o, s.heap.get? b = some o → h'.get? b = some o) E) s')
      (fun e s' => wants (fun r s2 => r = .none ∧ ∃ h' tk L es ep t, s2 = { s with heap := h', toks := tk } ∧ SetN w h' s.heap.objs.size L es ep t ∧ L.Perm ks ∧ ∀ b o, s.heap.get? b = some o → h'.get? b = some o) E (.error e) s')
      { s with heap := s.heap.push (set0 w) } := by
  have hisz : items.size = ks.length := by rw [← Array.length_toList, hit, List.length_map]
  obtain ⟨ol, hol, hcl, nl, hdl⟩ := hl
  obtain ⟨ocls, odict, odata, oslots⟩ := ol
  simp only at hcl hdl
  subst hcl; subst hdl
  have hS : (s.heap.push (set0 w)).get? s.heap.objs.size = some (set0 w) := Heap.get?_push_size _ rfl
  have hol' : (s.heap.push (set0 w)).get? l = some { cls := .type "tuple", dict := odict, data := .seq items nl, slots := oslots } := Heap.get?_push_of_some _ hol
  have hsls := F.sub_tuple_set
  have hslf := F.sub_tuple_frozenset
  have hne : (Value.type "tuple" == Value.type "dict") = false := by decide
  have hl1 : (s.heap.push (set0 w)).IsTuple l items := ⟨_, hol', rfl, nl, rfl⟩
  have hlS : l < s.heap.objs.size := Heap.lt_size hol
  have hz1 : (s.heap.push (set0 w)).objs.size = s.heap.objs.size + 1 := Heap.size_push ..
  unfold Builtin.«set.__init__» noKeywords Builtin.Frozenset.updateFrom
  generalize hPI : pyIter = PI
  wp_walk
  subst hPI
  refine wpAny_pyIter_tuple hl1 (wpAny_bind (wpAny_runValue ?_))
  have hh3 : A.in1.in1.in1.handled = none := by simp [hh]
  have hneI : l ≠ (s.heap.push (set0 w)).objs.size := by rw [hz1]; exact Nat.ne_of_lt (Nat.lt_succ_of_lt hlS)
  have hSf : s.heap.objs.size ∉ [(s.heap.push (set0 w)).objs.size, l] := by
    rw [hz1]
    simp only [List.mem_cons, List.mem_singleton, List.not_mem_nil, or_false, not_or]
    exact ⟨Nat.ne_of_lt (Nat.lt_succ_self _), Nat.ne_of_gt hlS⟩
  have hval : ∀ (i : Nat) (v : Value), items[i]? = some v → ∃ p, ks[i]? = some p ∧ v = .ref p.1 := fun i v hv => by
    rw [← Array.getElem?_toList, hit, List.getElem?_map] at hv
    cases hq : ks[i]? with
    | none => rw [hq] at hv; cases hv
    | some p => rw [hq] at hv; exact ⟨p, rfl, (Option.some.inj hv).symm⟩
  refine fill_new ((Walks.tuple hh3 _ l hneI items).toS) s.heap.objs.size hSf ks hisz nd hfew hval s.heap hkey (absent_from (Nat.le_refl _))
    (fun b hb => absent_from (by rw [List.mem_singleton.mp hb, hz1]; omega)) (by show A.units + 3 + 8 < cLine; omega) (items.size - 0) 0 _ (by omega) (Nat.zero_le _)
    ⟨⟨_, Heap.get?_push_size _ rfl, rfl, rfl⟩, (hl1.push _)⟩ (fun b o e => Heap.get?_push_of_some _ (Heap.get?_push_of_some _ e)) ⟨[], #[], 0, _, setN_none (Heap.get?_push_of_some _ hS), by simp⟩ fun s' L es ep t hm hS' g' hkp => ?_
  obtain ⟨h', g2, d', tk', os'⟩ := s'
  have eg : g2 = s.gens := hm.gens
  have ed : d' = s.drawn := hm.drawn
  have eo : os' = s.os := hm.os
  subst eg; subst ed; subst eo
  show wpAny _ _ _ _ _ _
  refine wpAny_pure ?_
  show wpAny _ _ (ret Value.none) _ _ _
  exact wpAny_pure ⟨rfl, h', tk', L, es, ep, t, rfl, hS', g', hkp⟩
/-- set(t), t a tuple of different keys -/
theorem call_setT {l : Addr} {items : Array Value} (ks : List (Addr × NestedKey)) {Q : Value → Shared → Prop} (hh : A.handled = none) (hl : s.heap.IsTuple l items) (hit : items.toList = ks.map fun p => Value.ref p.1) (hkey : ∀ p ∈ ks, KeyAt s.heap p.2 p.1)
    (nd : (ks.map (·.2)).Nodup) (hfew : ks.length < 64) (hu : A.units + 30 < cLine)
    (q : ∀ (h' : Heap) (tk : Nat) L es ep t, SetN w h' s.heap.objs.size L es ep t → L.Perm ks → (∀ b o, s.heap.get? b = some o → h'.get? b = some o) → Q (.ref s.heap.objs.size) { s with heap := h', toks := tk }) :
    wpAny (model P w) A (call (.type "set") [.ref l]) Q E s := by
  obtain ⟨c, tl, hmro⟩ := F.called_set.mro
  have hmade := F.called_set.made
  have hsub := F.called_set.sub
  refine wpAny_call (codeAny_of_tree ?_)
  show wpAny _ _ (callAny (.type "set") _) _ _ _
  refine wpAny_pure ⟨Code.quiet_builtin _ (by decide +kernel), codeAny_builtin F.entry_type_call ?_⟩
  rw [Around.under_plain (weight_type_call_type "set" [.ref l] []) rfl]
  have h1 := F.called_set.notType
  have h2 := F.called_set.canCreate
  have hct := F.typeCall_set_1 (.ref l)
  repeat (any_goals (first | assumption | wp_step))
  refine codeAny_mono (code_set_led1 (.ref l) (E := E) (Q₁ := fun obj s1 => obj = .ref s.heap.objs.size ∧ s1 = { s with heap := s.heap.push (set0 w) }) ⟨rfl, rfl⟩) fun r s1 hr => ?_
  cases r with
  | error e => exact hr
  | ok fl =>
    cases fl with
    | ret obj =>
      obtain ⟨rfl, rfl⟩ := hr
      have hT : Shared.TypeIs { s with heap := s.heap.push (set0 w) } (.ref s.heap.objs.size) "set" := ⟨_, Heap.get?_push_size _ rfl, rfl⟩
      have hli := F.called_set.init.lookup
      have hbi := F.called_set.init.bind (.ref s.heap.objs.size)
      repeat (any_goals (first | assumption | wp_step))
      refine codeAny_mono (codeAny_call_builtin F.called_set.init.plain F.entry_set_init (check_set_init_1 hT (init_new (A := A) (E := E) ks hh hl hit hkey nd hfew (by omega)))) fun r2 s2 hr2 => ?_
      cases r2 with
      | error e => exact hr2
      | ok fl2 =>
        cases fl2 with
        | ret r =>
          obtain ⟨rfl, h', tk, L, es, ep, t, rfl, hS', g', hk'⟩ := hr2
          repeat (any_goals (first | assumption | wp_step))
          exact q _ _ _ _ _ _ hS' g' hk'
        | _ => exact hr2.elim
    | _ => exact hr.elim
end

/-! ### data that may be a key -/
mutual
def toKey : PyData → NestedKey
  | .int i => .num i
  | .tuple ds => .tup (toKeys ds)
  | .none => .none
  | .bool _ => .none
  | .str _ => .none
  | .list _ => .none
  | .dict _ => .none
def toKeys : List PyData → List NestedKey
  | [] => []
  | d :: ds => toKey d :: toKeys ds
end
def KeyD : Nat → PyData → Prop
  | 0, d => ∃ i, d = .int i
  | n + 1, d => (∃ i, d = .int i) ∨ ∃ ds, d = .tuple ds ∧ ∀ e ∈ ds, KeyD n e
theorem toKeys_map : ∀ ds, toKeys ds = ds.map toKey
  | [] => rfl
  | d :: ds => by rw [toKeys, toKeys_map ds, List.map_cons]
theorem depthAll_le {n : Nat} : ∀ ks : List NestedKey, (∀ k ∈ ks, k.depth ≤ n) → NestedKey.depthAll ks ≤ n
  | [], _ => Nat.zero_le _
  | k :: ks, h => Nat.max_le.mpr ⟨h k List.mem_cons_self, depthAll_le ks fun j hj => h j (List.mem_cons_of_mem _ hj)⟩
section
variable {X : Cx} {pins : List (Addr × Obj)} {σ : L2.St} {H : Hp} {s : Shared}
theorem key_of (I : Inv X pins σ H s) : ∀ (n : Nat) (d : PyData) (v : V) (u : Value), KeyD n d → Dp X.K H v d → RelV v u → NestedIs s.heap (toKey d) u ∧ PlainV s.heap n u ∧ (toKey d).depth ≤ n
  | 0, _, v, u, ⟨i, rfl⟩, h, r => by
    cases h
    obtain ⟨t, rfl⟩ := r
    exact ⟨.int i t, ⟨i, t, rfl⟩, Nat.le_refl _⟩
  | n + 1, d, v, u, hd, h, r => by
    rcases hd with ⟨i, rfl⟩ | ⟨ds, rfl, hds⟩
    · cases h
      obtain ⟨t, rfl⟩ := r
      exact ⟨.int i t, .inl ⟨i, t, rfl⟩, Nat.zero_le _⟩
    · cases h with
      | tup hs ha =>
        rename_i a xs
        cases r
        obtain ⟨its, rv, ⟨o, ho, hc, m, hdt⟩, hz⟩ := I.tuple hs
        have all : ∀ (ds : List PyData) (xs : List V) (its : List Value), (∀ e ∈ ds, KeyD n e) → DpAll X.K H xs ds → Vals xs its → NestedAll s.heap (toKeys ds) its ∧ (∀ w ∈ its, PlainV s.heap n w) ∧ ∀ k ∈ toKeys ds, k.depth ≤ n := by
          intro ds
          induction ds with
          | nil =>
            intro xs its _ h1 h2
            cases h1
            cases h2
            exact ⟨.nil, fun w hw => (nomatch hw), fun k hk => (nomatch hk)⟩
          | cons d ds ih =>
            intro xs its hk h1 h2
            cases h1 with
            | cons a1 a2 =>
              cases h2 with
              | cons b1 b2 =>
                obtain ⟨e1, e2, e3⟩ := key_of I n d _ _ (hk d List.mem_cons_self) a1 b1
                obtain ⟨f1, f2, f3⟩ := ih _ _ (fun e he => hk e (List.mem_cons_of_mem _ he)) a2 b2
                refine ⟨.cons e1 f1, fun w hw => ?_, fun k hk => ?_⟩
                · rcases List.mem_cons.mp hw with rfl | hw
                  · exact e2
                  · exact f2 w hw
                · rcases List.mem_cons.mp hk with rfl | hk
                  · exact e3
                  · exact f3 k hk
        obtain ⟨g1, g2, g3⟩ := all ds xs its hds ha rv
        refine ⟨.tup ho hc hdt (by simpa using g1), .inr ⟨a, o, _, m, rfl, ho, hc, hdt, by simpa using g2⟩, ?_⟩
        exact Nat.succ_le_succ (depthAll_le _ g3)
/-- len(set(e)), e a tuple of different tuples -/
def tLenSetD (K : PySem.W.Frag) (ta : TE) : TE := fun σ H Q => ta σ H fun x H1 => ∃ (l : Addr) (xs : List V) (ds : List PyData), x = .ref l ∧ SqT K H1 l xs ∧ DpAll K H1 xs ds ∧ (∀ d ∈ ds, KeyD 8 d ∧ ∃ es, d = .tuple es) ∧ (ds.map toKey).Nodup ∧ ds.length < 64 ∧ Q (.int (ds.length : Nat)) H1
theorem DpAll.length {K : PySem.W.Frag} : ∀ {xs : List V} {ds : List PyData}, DpAll K H xs ds → xs.length = ds.length
  | _, _, .nil => rfl
  | _, _, .cons _ r => congrArg Nat.succ (DpAll.length r)
theorem keys_of (I : Inv X pins σ H s) : ∀ (xs : List V) (ds : List PyData) (its : List Value), DpAll X.K H xs ds → Vals xs its → (∀ d ∈ ds, KeyD 8 d ∧ ∃ es, d = .tuple es) →
    ∃ ks : List (Addr × NestedKey), its = ks.map (fun p => Value.ref p.1) ∧ ks.map (·.2) = ds.map toKey ∧ ∀ p ∈ ks, KeyAt s.heap p.2 p.1
  | _, _, _, .nil, .nil, _ => ⟨[], rfl, rfl, fun p hp => (nomatch hp)⟩
  | _, _, _, .cons (d := d) a1 a2, .cons b1 b2, hk => by
    obtain ⟨ks, e1, e2, e3⟩ := keys_of I _ _ _ a2 b2 fun d hd => hk d (List.mem_cons_of_mem _ hd)
    obtain ⟨k1, es, rfl⟩ := hk d List.mem_cons_self
    obtain ⟨g1, g2, g3⟩ := key_of I 8 _ _ _ k1 a1 b1
    cases a1 with
    | tup hs ha =>
      cases b1
      refine ⟨(_, toKey (.tuple es)) :: ks, by rw [e1]; rfl, by rw [List.map_cons, List.map_cons, e2], fun p hp => ?_⟩
      rcases List.mem_cons.mp hp with rfl | hp
      · exact ⟨g1, g3, g2⟩
      · exact e3 p hp
theorem pe_lenSetD {a : Expr} {ta : TE} {p p2 q pos : Pos} (hg : Gl X "len") (hm : X.mg "len" = none) (hg2 : Gl X "set") (hm2 : X.mg "set" = none) (ha : PE X a ta) (hu : X.A.units + 64 < cLine) (hc : X.calm = true := by rfl)
    (na : starEach [a] X.env = (false, eval a X.env) :: starEach [] X.env := by rfl) : PE X (.Call (.Name "len" p) [.Call (.Name "set" p2) [a] [] q] [] pos) (tLenSetD X.K ta) := by
  refine ⟨fun pins s σ H Q I h => ?_⟩
  refine Call_ (ld_blt I hg hm boot_len ?_)
  refine PyProof.Rows.callWith_builtin1 (PyProof.Rows.args_cons ?_ rfl) rfl rfl
  refine Call_ (ld_blt I hg2 hm2 boot_set ?_)
  refine PyProof.Rows.callWith_type1 (PyProof.Rows.args_cons (thn (ha.run pins s σ H _ I h) fun v s1 ⟨x, H1, I1, r1, q1⟩ => PyProof.Rows.args_nil ?_) na) na rfl
  obtain ⟨l, xs, ds, rfl, hq, hds, hkd, hnd, hl, q1⟩ := q1
  cases r1
  obtain ⟨its, r, pl, hz⟩ := I1.tuple hq
  obtain ⟨ks, e1, e2, e3⟩ := keys_of I1 xs ds its hds r hkd
  have hlen : ks.length = ds.length := by rw [← List.length_map (f := (·.2)), e2, List.length_map]
  refine call_setT (A := X.A) ks (I1.ok.hd hc) pl (by simpa using e1) e3 (by rw [e2]; exact hnd) (by omega) (by omega) fun h' tk L es ep t R pm hk => ?_
  refine PyProof.Rows.args_nil ?_
  obtain ⟨o, ho, hex, hd⟩ := R.ob
  have I2 : Inv X pins σ H1 { s1 with heap := h', toks := tk } := I1.kept hk
  have hcnt : es.size = ds.length := by rw [R.count (s := { s1 with heap := h', toks := tk }), pm.length_eq, hlen]
  refine call_len_set ho hex hd (R.fits (s := { s1 with heap := h', toks := tk })) (by rw [hcnt]; omega) ⟨.int ds.length, H1, I2.tok _, ⟨_, by rw [hcnt]⟩, q1⟩
end
end Cr

namespace Cr
open PySem PySem.Spec PyProof.Rows L2

/-! ### defs that ask for repr: nothing else is being shown around them -/
def FnG (P : Program) (w : World) (K : PySem.W.Frag) (mg : Str → Option Value) (base : Heap) (CX : CXT) (k : Nat) (f : Addr) (sp : Sp) : Prop :=
  ∀ (A : Around) (outer : List Env) (s : Shared) (H : Hp) (us : List Value) (vs : List V) (Q : VK) (E : XK), A.guards = some [] → Room k A → Env0 P w K mg base A outer s H → Vals vs us → sp vs H Q E →
    codeAny (model P w) A (.call (.ref f) ⟨us, []⟩) (CR CX outer P w H s Q E) s
section
variable {P : Program} {w : World} {K : PySem.W.Frag} {mg : Str → Option Value} {base : Heap}
theorem okG {CX : CXT} {x qual : Str} {st : Stmt} {f : Addr} {fd : FuncData} {N ps : List Str} {k : Nat} {sp : Sp} (F : Fun K x qual st f fd) (S : FnScope N ps (defScope st)) (b : Binds K fd ps []) (len : ∀ vs H Q E, sp vs H Q E → vs.length = ps.length)
    (hbody : ∀ (cdv : Value) (A : Around) (outer : List Env) (s : Shared) (H : Hp) (vs : List V) (Q : VK) (E : XK), A.guards = some [] → Room k (A.deeper (envOfC qual (defScope st) s.heap.objs.size f cdv)) → sp vs H Q E →
      ∃ t, PSs (cxOf CX P w K mg base N qual (defScope st) f cdv A outer s H E) (defBody st) t ∧ t { nx := fun _ H' => Q .non H', rt := Q } (start N vs) H) : FnG P w K mg base CX (k + 1) f sp := by
  intro A outer s H us vs Q E hg hr e0 r hsp
  obtain ⟨oc, od, kV, doc, pm, an, cdv, ct, osl, rfl, lk, hcd⟩ := F.ex
  have hl := len _ _ _ _ hsp
  have hl2 : (us ++ []).length = ps.length := by rw [List.append_nil, ← r.length]; exact hl
  have KX : K.In s.heap := e0.mod.kin.keeps fun b o e => (e0.bs b o e).1
  have hb := b s us KX hl2
  rw [List.append_nil] at hb
  refine StX.run_bnd (G := fun ws H2 => ws = vs ∧ H2 = H) lk hcd S hr e0 (fun A' Ex Q' h => ?_) (fun s2 H2 ws ⟨e1, e2⟩ hr' => ?_)
  · exact hb _ _ _ _ (h s H vs us e0 Un.refl rfl (fun _ _ z => z) r hl ⟨rfl, rfl⟩)
  · subst e1 e2
    exact hbody cdv A outer s2 _ _ Q E hg hr' hsp
end
section
variable {X : Cx} {CX : CXT} {k : Nat} {f : Addr} {sp : Sp} {E : XK} {x : Str} {p pos : Pos} {e : Expr} {es : List Expr} {t : TA}
/-- f(e, ..) of such a def -/
theorem pe_callG (F : FnG X.prog X.w X.K X.mg X.base CX k f sp) (hgd : X.A.guards = some []) (hr : Room k X.A) (hg : Gl X x) (hm : X.mg x = some (.ref f)) (hk : PySem.W.keepIn X.K (.ref f) = true) (hx : Passes CX X E)
    (ha : PA X (e :: es) t) (hdb : (x == ("__debug__" : Str)) = false := by decide) (he : starEach (e :: es) X.env = (false, eval e X.env) :: starEach es X.env := by rfl) (hpl : (backTo pos (starEach es X.env)).any (·.1) = false := by rfl) :
    PE X (.Call (.Name x p) (e :: es) [] pos) (fun σ H Q => t σ H fun vs H1 => sp vs H1 Q E) := by
  refine ⟨fun pins s σ H Q I h => ?_⟩
  refine wpAny_Call_Name_kw (ld_glob I hg hm ?_ hdb)
  refine PySem.W.callWith_K (h₀ := X.base) I.ok.mod.kin hk (thn (ha.run pos pins s σ H _ I h) fun us s1 ⟨vs, H1, I1, r, q⟩ => ⟨I1.kIn, ?_⟩) he hpl
  refine wpAny_call (codeAny_mono (F X.A X.stack s1 H1 us vs Q E hgd hr I1.env0 r q) fun rr s' hq => ?_)
  cases rr with
  | error e => exact hx pins σ H1 s1 e s' I1 hq
  | ok fl =>
    cases fl with
    | ret u => exact I1.after hq
    | next => exact False.elim hq
    | brk => exact False.elim hq
    | cont => exact False.elim hq
end

/-! ### the law's end for such a law -/
/-- the abstract heap that knows the script alone -/
def knows (a : Addr) (o : Obj) (xs : List V) : Hp := fun b => if b = a then some (.frz o (.lst xs)) else none
theorem law_runs {P : Program} {w : World} {K : PySem.W.Frag} {mg mb : Str → Option Value} {CX : CXT} {k : Nat} {fa a : Addr} {sp : Sp} {s : Shared} {vs : List Value} {ns : List Int}
    (KX : K.In s.heap) (hns : s.heap.Ns mainGlobals mg) (hb : s.heap.Ns builtinsNs mb) (hbb : ∀ x : Str, x ≠ "__name__" → mb x = bootBuiltins x) (hlim : s.heap.NoLimit) (hg : s.gens = #[])
    (ha : s.heap.get? a = some { cls := .type "list", data := .seq vs.toArray }) (hi : IntsAre vs ns) (hl : ns.length ≤ sizeLine) (hr : Room k callerA)
    (F : ∀ base : Heap, K.In base → base.Ns mainGlobals mg → FnG P w K mg base CX k fa sp)
    (hsp : ∀ H : Hp, Only H → SqL K H a (ns.map V.int) → sp [.ref a] H (fun v _ => v = .bl true) fun _ _ _ => False)
    (hCX : ∀ H e s', CX [] H s (fun _ _ _ => False) e s' → False) :
    codeAny (model P w) callerA (.call (.ref fa) ⟨[.ref a], []⟩) (fun r s' => r = .ok (.ret (.bool true)) ∧ OldK s.heap s'.heap ∧ s'.os = s.os ∧ AllBare s'.gens) s := by
  have main : ∀ H : Hp, Only H → SqL K H a (ns.map V.int) → HOk P w H s.heap → (∀ b, H b ≠ none → b = a) → (H a ≠ none → K.lookup a = none) →
      codeAny (model P w) callerA (.call (.ref fa) ⟨[.ref a], []⟩) (fun r s' => r = .ok (.ret (.bool true)) ∧ OldK s.heap s'.heap ∧ s'.os = s.os ∧ AllBare s'.gens) s := by
    intro H hO hS hok hA hKa
    have isA : ∀ {b : Addr} {u : HO}, H b = some u → b = a := fun {b u} q => hA b (by rw [q]; exact Option.some_ne_none u)
    have free : ∀ {b : Addr}, b ≠ a → H b = none := fun {b} n => by
      cases q : H b with
      | none => rfl
      | some u => exact absurd (isA q) n
    have dictNe : ∀ {b : Addr} {o : Obj} {es : Array DictEntry} {ep : Nat}, s.heap.get? b = some o → o.data = .dict es ep → b ≠ a := fun {b o es ep} e d z => by
      subst z
      rw [ha] at e
      cases e
      exact nomatch (show Data.seq vs.toArray _ = Data.dict es ep from d)
    have nsB : ∀ {b : Addr} {m : Str → Option Value}, s.heap.Ns b m → (hidT s.heap H).Ns b m := fun ⟨o, es, ep, e, d, r⟩ => ⟨o, es, ep, hidT_get e (free (dictNe e d)), d, r⟩
    have kB : K.In (hidT s.heap H) := fun b o e => hidT_get (KX b o e) (by
      cases q : H b with
      | none => rfl
      | some u =>
        have z := isA q
        subst z
        rw [hKa (by rw [q]; exact Option.some_ne_none u)] at e
        cases e)
    obtain ⟨mc, l1, l2⟩ := hlim
    have e0 : Env0 P w K mg (hidT s.heap H) callerA [] s H := ⟨rfl, ⟨kB, nsB hns, ⟨mb, nsB hb, hbb⟩, ⟨mc, nsB l1, l2⟩⟩, fun b o e => of_hidT e, Nat.le_of_eq (hidT_size _ _), trivial, fun b z => absurd (show b ∈ ([] : List Addr) from z) (by simp), hok, .of_eq hg⟩
    refine codeAny_mono (F _ kB (nsB hns) callerA [] s H [.ref a] [.ref a] _ _ rfl hr e0 (.cons rfl .nil) (hsp H hO hS)) fun r s' h => ?_
    cases r with
    | error e => exact (hCX H e s' h).elim
    | ok fl =>
      cases fl with
      | next => exact False.elim h
      | brk => exact False.elim h
      | cont => exact False.elim h
      | ret u =>
        obtain ⟨v, H', os, bare, un, hok', rv, rfl⟩ := h
        cases rv
        refine ⟨rfl, OldK.of_keep fun b o e => ?_, os, bare⟩
        rcases hO b with q | ⟨ob, xs, q⟩
        · exact un.keep b o e q (fun z => absurd (show b ∈ ([] : List Addr) from z) (by simp)) (by simp)
        · obtain ⟨a1, _⟩ := hok b _ q
          obtain ⟨a2, _⟩ := hok' b _ (un.frzs b ob _ q)
          rw [e] at a1
          cases a1
          exact a2
  have rv := vals_ints hi
  have ln := hi.length
  cases hk : K.lookup a with
  | some o =>
    have e := KX a o hk
    rw [ha] at e
    cases e
    exact main (fun _ => none) (fun _ => .inl rfl) (.inr ⟨_, vs.toArray, _, hk, rfl, rfl, rfl, by rw [List.size_toArray, ln]; exact hl, by simpa using rv⟩) (fun b u z => nomatch z) (fun b z => absurd rfl z) fun z => absurd rfl z
  | none =>
    have at_ : knows a { cls := .type "list", data := .seq vs.toArray } (ns.map V.int) a = some (.frz { cls := .type "list", data := .seq vs.toArray } (.lst (ns.map V.int))) := if_pos rfl
    have off : ∀ b, b ≠ a → knows a { cls := .type "list", data := .seq vs.toArray } (ns.map V.int) b = none := fun b n => if_neg n
    refine main (knows a { cls := .type "list", data := .seq vs.toArray } (ns.map V.int)) (fun b => ?_) (.inl (.inr ⟨_, at_⟩)) (fun b u z => ?_) (fun b z => ?_) fun _ => hk
    · by_cases n : b = a
      · subst n; exact .inr ⟨_, _, at_⟩
      · exact .inl (off b n)
    · by_cases n : b = a
      · subst n
        rw [at_] at z
        cases z
        exact ⟨ha, by rw [List.length_map]; exact hl, vs, _, rv, ha⟩
      · rw [off b n] at z
        cases z
    · by_cases n : b = a
      · exact n
      · exact absurd (off b n) z
theorem walk_G {l : PySem.W.OpenLaw} {n k : Nat} {q : Program} {loose : List Str} {XP : (Str → Option Value) → Heap → Prop} {YP : World → Heap → Prop} {d : DefRec} {K : Params → PySem.W.Frag} {CX : World → CXT} {sp : World → Sp}
    (hn : l.most = some n) (hn2 : n ≤ sizeLine) (hdf : d.params.defaults = []) (hr : Room k callerA) (hY : ∀ (w : World) (h : Heap), YP w h → (K w.params).In h)
    (F : ∀ (w : World) (mg : Str → Option Value) (fa : Addr) (h : Heap), (K w.params).In h → h.Ns mainGlobals mg → mg d.name = some (.ref fa) →
      ∀ base : Heap, (K w.params).In base → base.Ns mainGlobals mg → FnG l.prog w (K w.params) mg base (CX w) k fa (sp w))
    (hsp : ∀ (w : World) (H : Hp) (a : Addr) (ns : List Int), ns.length ≤ n → Only H → SqL (K w.params) H a (ns.map V.int) → sp w [.ref a] H (fun v _ => v = .bl true) fun _ _ _ => False)
    (hCX : ∀ (w : World) (H : Hp) (s : Shared) (e : Value) (s' : Shared), CX w [] H s (fun _ _ _ => False) e s' → False) :
    PySem.W.WalkO q loose XP YP l.row.toRowW d [] (fun f vs => PySem.call f vs) := by
  refine Att.attach_call hn hdf fun w s0 s1 mg mb fa o pm cd doc a vs ns G Y ho hd hcd hmg hobj hints hlen hg => ?_
  have KX := hY w _ Y
  exact law_runs KX G.T.g G.T.b G.T.builtins G.T.nolimit hg hobj hints (Nat.le_trans hlen hn2) hr (F w mg fa _ KX G.T.g hmg) (fun H hO hS => hsp w H a ns hlen hO hS) fun H e s' => hCX w H s1 e s'
end Cr

namespace Cr
open PySem PySem.Spec PyProof.Rows L2

/-! ### tuples that are known to the object: they have no dict of their own -/
def PT (H : Hp) (a : Addr) (xs : List V) : Prop := ∃ o : Obj, H a = some (.frz o (.tup xs)) ∧ o.dict = none
abbrev ptO (o : Obj) (xs : List V) : HO := .frz o (.tup xs)
theorem PT.sq {K : PySem.W.Frag} {H : Hp} {a : Addr} {xs : List V} (h : PT H a xs) : SqT K H a xs := let ⟨o, e, _⟩ := h; .inl (.inr ⟨o, e⟩)
theorem PT.on {H H' : Hp} {a : Addr} {xs : List V} (h : PT H a xs) (k : ∀ u, H a = some u → H' a = some u) : PT H' a xs := let ⟨o, e, d⟩ := h; ⟨o, k _ e, d⟩
theorem PT.new {H : Hp} {p : Addr} {o : Obj} {xs : List V} (d : o.dict = none) : PT (upd H p (ptO o xs)) p xs := ⟨o, upd_same, d⟩
theorem PT.ne {H : Hp} {a p : Addr} {xs : List V} (h : PT H a xs) (hp : H p = none) : a ≠ p := let ⟨_, e, _⟩ := h; ne_of_none e hp
theorem PT.neq {H : Hp} {a p : Addr} {xs : List V} {u : HO} (h : PT H a xs) (hp : H p = some u) (n : ∀ o xs, u ≠ ptO o xs) : a ≠ p := fun z => by
  obtain ⟨o, e, _⟩ := h
  rw [z, hp] at e
  exact n _ _ (Option.some.inj e)
theorem PT.inj {H : Hp} {a : Addr} {xs ys : List V} (h : PT H a xs) (k : PT H a ys) : xs = ys := by
  obtain ⟨o, e, _⟩ := h
  obtain ⟨o', e', _⟩ := k
  rw [e] at e'
  injection e' with e'
  injection e' with _ e'
  injection e'
theorem PT.old {H : Hp} {a : Addr} {xs : List V} (h : PT H a xs) : ∃ u, H a = some u := let ⟨_, e, _⟩ := h; ⟨_, e⟩
theorem PT.no {H : Hp} {a : Addr} {xs ys : List V} (h : PT H a xs) : H a ≠ some (.lst ys) := fun z => by
  obtain ⟨o, e, _⟩ := h
  rw [z] at e
  cases e

theorem PT.ty {K : PySem.W.Frag} {H : Hp} {a : Addr} {xs : List V} (h : PT H a xs) : TyX K H (.ref a) (.type "tuple") := let ⟨_, e, _⟩ := h; .fTuple e

/-! ### making them -/
abbrev tupOb (us : List Value) : Obj := { cls := .type "tuple", data := .seq us.toArray }
section
variable {X : Cx} {pins : List (Addr × Obj)} {σ : L2.St} {H : Hp} {s : Shared}
theorem tup_ob {P : Program} {w : World} {h : Heap} {us : List Value} {xs : List V} (z : xs.length ≤ sizeLine) (r : Vals xs us) : ObjOk P w H (h.push (tupOb us)) h.objs.size (ptO (tupOb us) xs) :=
  have g : (h.push (tupOb us)).get? h.objs.size = some (tupOb us) := Heap.get?_push_size _ rfl
  ⟨g, z, us, r, ⟨_, g, rfl, _, rfl⟩⟩
theorem tup_laid {us : List Value} {xs : List V} {t' : Nat} (inv : Inv X pins σ H s) (z : xs.length ≤ sizeLine) (r : Vals xs us) : Inv X pins σ (upd H s.heap.objs.size (ptO (tupOb us) xs)) { s with heap := s.heap.push (tupOb us), toks := t' } :=
  inv.laid (t' := t') (fun _ _ q => Heap.get?_push_of_some _ q) (Nat.le_refl _) (tup_ob z r)
end
section
variable {X : Cx}
def tTupF (t : TA) : TE := fun σ H Q => t σ H fun xs H1 => xs.length ≤ sizeLine ∧ ∀ (p : Addr) (o : Obj), H1 p = none → o.dict = none → Q (.ref p) (upd H1 p (ptO o xs))
theorem pe_tupF {es : List Expr} {t : TA} {pos : Pos} {x1} (h : PA X es t) : PE X (.Tuple es x1 pos) (tTupF t) := by
  refine ⟨fun ps st σ H Q inv need => ?_⟩
  refine wpAny_Tuple_spliced (thn (h.run pos ps st σ H _ inv need) fun us s1 got => ?_)
  obtain ⟨xs, H1, inv1, r, z, q⟩ := got
  exact ⟨by rw [← r.length]; exact z, .ref s1.heap.objs.size, _, tup_laid (t' := s1.toks) inv1 z r, rfl, q _ _ (inv1.hok.fresh (Nat.le_refl _)) rfl⟩
/-- tuple(xs) -/
def rTupE (K : PySem.W.Frag) : List V → Hp → VK → Prop := fun xs H Q => ∃ p ys, xs = [V.ref p] ∧ ((SqL K H p ys ∧ ∀ (l : Addr) (o : Obj), H l = none → o.dict = none → Q (.ref l) (upd H l (ptO o ys))) ∨ (SqT K H p ys ∧ Q (.ref p) H))
theorem call_tupF : CallR X (.type "tuple") (rTupE X.K) := by
  intro ps st σ H xs us Q inv r need
  obtain ⟨p, ys, rfl, need⟩ := need
  obtain ⟨u, rfl, ru⟩ := vals1 r
  cases ru
  rcases need with ⟨hq, q⟩ | ⟨hq, q⟩
  · obtain ⟨its, rv, pl, z⟩ := inv.list hq
    refine call_tuple_list pl.isList (fun h' kp => ?_) (by have := rv.length; simp only [List.size_toArray]; omega)
    have inv1 : Inv X ps σ H { st with heap := h' } := inv.kept (t' := st.toks) kp
    exact ⟨.ref h'.objs.size, _, tup_laid (t' := st.toks) inv1 z rv, rfl, q _ _ (inv1.hok.fresh (Nat.le_refl _)) rfl⟩
  · obtain ⟨its, rv, pl, z⟩ := inv.tuple hq
    exact call_tuple_same pl ⟨.ref p, H, inv, rfl, q⟩
/-- t + u -/
def rCatF (K : PySem.W.Frag) : R2 := fun x y H Q => ∃ a b xs ys, x = .ref a ∧ y = .ref b ∧ SqT K H a xs ∧ SqT K H b ys ∧ xs.length + ys.length ≤ sizeLine ∧
  (xs = [] → Q (.ref b) H) ∧ (xs ≠ [] → ys = [] → Q (.ref a) H) ∧ (xs ≠ [] → ys ≠ [] → ∀ (p : Addr) (o : Obj), H p = none → o.dict = none → Q (.ref p) (upd H p (ptO o (xs ++ ys))))
theorem op_catF : OpR X (binaryOp .Add) (rCatF X.K) := by
  intro ps st σ H x y v u Q inv rx ry need
  obtain ⟨a, b, xs, ys, rfl, rfl, ha, hb, z, q0, q1, q2⟩ := need
  by_cases hx : xs = []
  · subst hx
    exact op_catA ps st σ H _ _ v u Q inv rx ry ⟨a, b, [], ys, rfl, rfl, ha, hb, z, q0, fun n => absurd rfl n, fun n => absurd rfl n⟩
  · cases rx
    cases ry
    obtain ⟨i1, r1, p1, _⟩ := inv.tuple ha
    obtain ⟨i2, r2, p2, _⟩ := inv.tuple hb
    refine HT.cat_tup p1 p2 (fun w => hx (r1.nil_iff.mp w)) (fun w => ⟨.ref a, H, inv, rfl, q1 hx (r2.nil_iff.mp w)⟩) (fun w => ?_) (by rw [← r1.length, ← r2.length]; exact z)
    exact ⟨.ref st.heap.objs.size, _, tup_laid (t' := st.toks) inv (by rw [List.length_append]; exact z) (r1.append r2), rfl, q2 hx (fun e => w (r2.nil_iff.mpr e)) _ _ (inv.hok.fresh (Nat.le_refl _)) rfl⟩
/-- t[lo:hi] -/
def rSlF (K : PySem.W.Frag) : V → Option Int → Option Int → Hp → VK → Prop := fun x lo hi H Q => ∃ a xs, x = .ref a ∧ SqT K H a xs ∧
  (HT.sIx xs.length 0 lo = 0 ∧ HT.sIx xs.length xs.length hi = xs.length → Q (.ref a) H) ∧ (¬ (HT.sIx xs.length 0 lo = 0 ∧ HT.sIx xs.length xs.length hi = xs.length) → ∀ (p : Addr) (o : Obj), H p = none → o.dict = none → Q (.ref p) (upd H p (ptO o (cutV xs lo hi))))
theorem sl_tupF : SlR X (rSlF X.K) := by
  intro ps st σ H x v vl vu lo hi sl Q inv rx hs pl pu need
  obtain ⟨a, xs, rfl, hx, q1, q2⟩ := need
  by_cases hw : HT.sIx xs.length 0 lo = 0 ∧ HT.sIx xs.length xs.length hi = xs.length
  · exact sl_tupA ps st σ H _ v vl vu lo hi sl Q inv rx hs pl pu ⟨a, xs, rfl, hx, q1, fun n => absurd hw n⟩
  · cases rx
    obtain ⟨its, r, ht, z⟩ := inv.tuple hx
    have len : its.toArray.size = xs.length := by rw [List.size_toArray]; exact r.length.symm
    refine ⟨"tuple", _, PyProof.Rows.slot_tuple_getitem.lookup, ht.typeIs, HT.getItem_tuple_cut ht hs pl pu (by rw [len]; exact hw) ?_ (by rw [len]; exact z)⟩
    rw [len]
    exact ⟨.ref st.heap.objs.size, _, tup_laid (t' := st.toks) inv (Nat.le_trans (cutV_length xs lo hi) z) ((r.drop _).take _), rfl, q2 hw _ _ (inv.hok.fresh (Nat.le_refl _)) rfl⟩
end
section
variable {CX : CXT} {P : Program} {w : World} {K : PySem.W.Frag} {mg : Str → Option Value} {base : Heap} {k : Nat} {f : Addr} {name qual : Str} {params : Arguments} {body : List Stmt} {scope : Scope} {dV kV doc pm cdv ct oc : Value} {an od : Option Addr} {osl : Array (Option Value)} {N ps : List Str} {sp : Sp}
/-- def f(a, .., *v) -/
theorem fn_starF {pv : Str} (lk : K.lookup f = some ⟨oc, od, .func (PySem.W.fnOf name qual params body scope dV kV doc pm an cdv ct), osl⟩) (hcd : PySem.W.codeIn K cdv qual = true) (S : FnScope N (ps ++ [pv]) scope) (up : StX.CXUp CX)
    (hb : ∀ us rest : List Value, us.length = ps.length → bindArgs (PySem.W.fnOf name qual params body scope dV kV doc pm an cdv ct) ⟨us ++ rest, []⟩ = (newTuple rest >>= fun t => pure (ps.zip us ++ [(pv, t)])))
    (hbody : ∀ (A : Around) (outer : List Env) (s : Shared) (H : Hp) (vs : List V) (Q : VK) (E : XK), Room k (A.deeper (envOfC qual scope s.heap.objs.size f cdv)) → sp vs H Q E →
      ∃ t, PSs (cxOf CX P w K mg base N qual scope f cdv A outer s H E) body t ∧ t { nx := fun _ H' => Q .non H', rt := Q } (L2.start N vs) H) :
    FnR P w K mg base CX (k + 1) f (fun vs H Q E => ∃ ws rest, vs = ws ++ rest ∧ ws.length = ps.length ∧ rest.length ≤ sizeLine ∧ ∀ (p : Addr) (o : Obj), H p = none → o.dict = none → sp (ws ++ [V.ref p]) (upd H p (ptO o rest)) Q E) := by
  intro A outer s H us vs Q E room e0 r need
  obtain ⟨ws, rest, rfl, len, z, need⟩ := need
  obtain ⟨u1, u2, rfl, r1, r2⟩ := StX.vals_split r
  have fresh : H s.heap.objs.size = none := e0.hok.fresh (Nat.le_refl _)
  have l1 : u1.length = ps.length := by rw [← r1.length]; exact len
  refine StX.run_bnd lk hcd S room e0 (G := fun xs H2 => ∃ p o, H p = none ∧ Obj.dict o = none ∧ xs = ws ++ [V.ref p] ∧ H2 = upd H p (ptO o rest)) (fun A' Ex Q' h => ?_) fun s2 H2 xs got room' => ?_
  · rw [hb u1 u2 l1]
    refine wpAny_bind (wpAny_newTuple (wpAny_pure ?_) (by rw [← r2.length]; exact z))
    have un := StX.un_laid (fs := frs outer) (s := s) (o := tupOb u2) (u := ptO (tupOb u2) rest) fresh
    have fin := h _ _ (ws ++ [V.ref s.heap.objs.size]) (u1 ++ [Value.ref s.heap.objs.size]) (StX.env0_laid e0 (tup_ob z r2)) un rfl (fun e s' => up outer s H _ _ E e s' un (fun _ _ q => Heap.get?_push_of_some _ q) rfl) (r1.append (.cons rfl .nil)) (by rw [List.length_append, List.length_append, len]; rfl) ⟨_, _, fresh, rfl, rfl, rfl⟩
    rw [List.zip_append l1.symm] at fin
    exact fin
  · obtain ⟨p, o, hp, d, rfl, rfl⟩ := got
    exact hbody A outer s2 _ _ Q E room' (need p o hp d)
end
end Cr

namespace Cr
open PySem PySem.Spec PyProof.Rows L2

/-! ### heaps that keep their tuples -/
def TK (H H' : Hp) : Prop := ∀ a xs, PT H a xs → PT H' a xs
theorem TK.refl (H : Hp) : TK H H := fun _ _ h => h
theorem TK.trans {H H1 H2 : Hp} (a : TK H H1) (b : TK H1 H2) : TK H H2 := fun c o h => b c o (a c o h)
theorem TK.new {H : Hp} {p : Addr} {o : HO} (h : H p = none) : TK H (upd H p o) := fun a xs e => e.on fun u q => by rw [upd_ne (ne_of_none q h)]; exact q
theorem TK.lst {H : Hp} {p : Addr} {ys : List V} {o : HO} (h : H p = some (.lst ys)) : TK H (upd H p o) := fun a xs e => e.on fun u q => by rw [upd_ne (e.neq h (fun _ _ z => by cases z))]; exact q
theorem TK.same {H H' : Hp} (h : Same H H') : TK H H' := fun a xs e => e.on fun u q => h a u q
theorem Same.pt {H H' : Hp} (k : Same H H') {a : Addr} {xs : List V} (h : PT H a xs) : PT H' a xs := h.on fun u e => k a u e
theorem Same.new {H : Hp} {p : Addr} {o : HO} (h : H p = none) : Same H (upd H p o) := fun a u e => by rw [upd_ne (ne_of_none e h)]; exact e
/-- all but S is as it was -/
def SB (S : Addr) (H H' : Hp) : Prop := ∀ b o, b ≠ S → H b = some o → H' b = some o
theorem SB.refl (S : Addr) (H : Hp) : SB S H H := fun _ _ _ h => h
theorem SB.trans {S : Addr} {H H1 H2 : Hp} (a : SB S H H1) (b : SB S H1 H2) : SB S H H2 := fun c o n h => b c o n (a c o n h)
theorem SB.same {S : Addr} {H H' : Hp} (h : Same H H') : SB S H H' := fun a u _ e => h a u e
theorem SB.at {S : Addr} {H : Hp} {o : HO} : SB S H (upd H S o) := fun a u n e => by rw [upd_ne n]; exact e
theorem SB.new {S : Addr} {H : Hp} {p : Addr} {o : HO} (h : H p = none) : SB S H (upd H p o) := SB.same (Same.new h)
theorem SB.pt {S : Addr} {H H' : Hp} (k : SB S H H') {a : Addr} {xs : List V} (h : PT H a xs) (n : a ≠ S) : PT H' a xs := h.on fun u e => k a u n e
theorem SB.free {S : Addr} {H H' : Hp} (h : SB S H H') {p : Addr} (n : p ≠ S) (hp : H' p = none) : H p = none := by
  cases q : H p with
  | none => rfl
  | some o => rw [h p o n q] at hp; cases hp
/-- the source: three ints in a list -/
def Src (H : Hp) (S : Addr) : Prop := ∃ a b c : Int, H S = some (.lst [.int a, .int b, .int c])
theorem SB.tk {S : Addr} {H H' : Hp} (h : SB S H H') (s : Src H S) : TK H H' := fun a xs e => by
  obtain ⟨x, y, z, q⟩ := s
  exact e.on fun u w => h a u (e.neq q (fun _ _ z => by cases z)) w
theorem Src.same {H H' : Hp} {S : Addr} (s : Src H S) (h : Same H H') : Src H' S := let ⟨a, b, c, q⟩ := s; ⟨a, b, c, h _ _ q⟩
theorem Src.ne {H : Hp} {S p : Addr} (s : Src H S) (h : H p = none) : p ≠ S := fun e => by obtain ⟨a, b, c, q⟩ := s; rw [e, q] at h; cases h
theorem Src.neq {H : Hp} {S p : Addr} {o : HO} (s : Src H S) (h : H p = some o) (n : ∀ a b c : Int, o ≠ .lst [.int a, .int b, .int c]) : p ≠ S := fun e => by obtain ⟨a, b, c, q⟩ := s; rw [e, q] at h; exact n a b c (Option.some.inj h).symm

/-! ### values that are tuples of ints and of such -/
mutual
inductive TD (H : Hp) : V → PyData → Prop
  | int (i : Int) : TD H (.int i) (.int i)
  | non : TD H .non .none
  | tup {a : Addr} {xs : List V} {ds : List PyData} : PT H a xs → TDs H xs ds → TD H (.ref a) (.tuple ds)
inductive TDs (H : Hp) : List V → List PyData → Prop
  | nil : TDs H [] []
  | cons {v : V} {vs : List V} {d : PyData} {ds : List PyData} : TD H v d → TDs H vs ds → TDs H (v :: vs) (d :: ds)
end
mutual
theorem TD.mono {H H' : Hp} (k : TK H H') : ∀ {v : V} {d : PyData}, TD H v d → TD H' v d
  | _, _, .int i => .int i
  | _, _, .non => .non
  | _, _, .tup h r => .tup (k _ _ h) (TDs.mono k r)
theorem TDs.mono {H H' : Hp} (k : TK H H') : ∀ {vs : List V} {ds : List PyData}, TDs H vs ds → TDs H' vs ds
  | _, _, .nil => .nil
  | _, _, .cons h r => .cons (TD.mono k h) (TDs.mono k r)
end
mutual
theorem TD.dp {K : PySem.W.Frag} {H : Hp} : ∀ {v : V} {d : PyData}, TD H v d → Dp K H v d
  | _, _, .int i => .int i
  | _, _, .non => .non
  | _, _, .tup h r => .tup h.sq (TDs.dp r)
theorem TDs.dp {K : PySem.W.Frag} {H : Hp} : ∀ {vs : List V} {ds : List PyData}, TDs H vs ds → DpAll K H vs ds
  | _, _, .nil => .nil
  | _, _, .cons h r => .cons (TD.dp h) (TDs.dp r)
end
theorem TDs.length {H : Hp} : ∀ {vs : List V} {ds : List PyData}, TDs H vs ds → vs.length = ds.length
  | _, _, .nil => rfl
  | _, _, .cons _ r => congrArg Nat.succ (TDs.length r)
theorem TDs.get {H : Hp} : ∀ {vs : List V} {ds : List PyData} {i : Nat} {v : V}, TDs H vs ds → vs[i]? = some v → ∃ d, ds[i]? = some d ∧ TD H v d
  | _, _, _, _, .nil, e => by simp at e
  | _, _, 0, _, .cons h _, e => by simp at e; subst e; exact ⟨_, rfl, h⟩
  | _, _, i + 1, v, .cons _ r, e => by
    obtain ⟨d, h1, h2⟩ := TDs.get (i := i) (v := v) r (by simpa using e)
    exact ⟨d, by simpa using h1, h2⟩
theorem TDs.append {H : Hp} : ∀ {vs ws : List V} {ds es : List PyData}, TDs H vs ds → TDs H ws es → TDs H (vs ++ ws) (ds ++ es)
  | _, _, _, _, .nil, s => s
  | _, _, _, _, .cons h r, s => .cons h (TDs.append r s)
theorem TD.tupv {H : Hp} {v : V} {ds : List PyData} (h : TD H v (.tuple ds)) : ∃ a xs, v = .ref a ∧ PT H a xs ∧ TDs H xs ds := by
  cases h with
  | tup h r => exact ⟨_, _, rfl, h, r⟩
theorem TD.intv {H : Hp} {v : V} {i : Int} (h : TD H v (.int i)) : v = .int i := by cases h; rfl

/-! ### conditions, cases, rules -/
abbrev Cond := Int × Int
abbrev Case := List Cond
abbrev Rule := Case × Int
def condD (c : Cond) : PyData := .tuple [.int c.1, .int c.2]
def caseD (c : Case) : PyData := .tuple (c.map condD)
def ruleD (r : Rule) : PyData := .tuple [caseD r.1, .int r.2]
def condOk (c : Cond) : Bool := decide (0 ≤ c.1) && decide (c.1 ≤ 4) && decide (0 ≤ c.2) && decide (c.2 ≤ 9)
structure CaseOk (c : Case) : Prop where
  each : ∀ x ∈ c, 0 ≤ x.1 ∧ x.1 ≤ 4 ∧ 0 ≤ x.2 ∧ x.2 ≤ 9
  asc : c.Pairwise fun x y => x.1 < y.1
structure RuleOk (r : Rule) : Prop where
  case : CaseOk r.1
  lo : 0 ≤ r.2
  hi : r.2 ≤ 99
structure RulesOk (n : Nat) (rs : List Rule) : Prop where
  each : ∀ r ∈ rs, RuleOk r
  nd : rs.Nodup
  few : rs.length ≤ n
theorem CaseOk.nil : CaseOk [] := ⟨fun x h => (nomatch h), .nil⟩
theorem asc_len : ∀ (c : Case) (lo : Int), (∀ x ∈ c, lo ≤ x.1 ∧ x.1 ≤ 4) → c.Pairwise (fun x y => x.1 < y.1) → lo ≤ 5 → (c.length : Int) ≤ 5 - lo
  | [], lo, _, _, h => by simp; omega
  | x :: c, lo, h, p, _ => by
    have hx := h x List.mem_cons_self
    cases p with
    | cons h1 h2 =>
      have := asc_len c (x.1 + 1) (fun y hy => ⟨by have := h1 y hy; omega, (h y (List.mem_cons_of_mem _ hy)).2⟩) h2 (by omega)
      rw [List.length_cons]
      push_cast
      omega
theorem CaseOk.len {c : Case} (h : CaseOk c) : c.length ≤ 5 := by
  have := asc_len c 0 (fun x hx => ⟨(h.each x hx).1, (h.each x hx).2.1⟩) h.asc (by omega)
  omega
theorem CaseOk.sub {c d : Case} (h : CaseOk c) (s : List.Sublist d c) : CaseOk d := ⟨fun x hx => h.each x (s.mem hx), h.asc.sublist s⟩

/-! ### equality of data -/
mutual
theorem eqv_cond : ∀ (a b : Cond), PyData.eqv (condD a) (condD b) = decide (a = b)
  | (a1, a2), (b1, b2) => by
    have e : PyData.eqv (condD (a1, a2)) (condD (b1, b2)) = ((a1 == b1) && ((a2 == b2) && true)) := by simp only [condD, PyData.eqv, PyData.eqvAll]
    rw [e]
    by_cases h : ((a1, a2) : Cond) = (b1, b2)
    · cases h; simp
    · rw [decide_eq_false h]
      by_cases h1 : a1 = b1
      · by_cases h2 : a2 = b2
        · exact absurd (by rw [h1, h2]) h
        · simp [h2]
      · simp [h1]
end
theorem eqvAll_conds : ∀ (a b : Case), PyData.eqvAll (a.map condD) (b.map condD) = decide (a = b)
  | [], [] => by simp [PyData.eqvAll]
  | [], b :: bs => by simp [PyData.eqvAll]
  | a :: as, [] => by simp [PyData.eqvAll]
  | a :: as, b :: bs => by
    rw [List.map_cons, List.map_cons]
    simp only [PyData.eqvAll, eqv_cond, eqvAll_conds as bs]
    by_cases h1 : a = b <;> by_cases h2 : as = bs <;> simp [h1, h2]
theorem eqv_case (a b : Case) : PyData.eqv (caseD a) (caseD b) = decide (a = b) := by
  have e : PyData.eqv (caseD a) (caseD b) = PyData.eqvAll (a.map condD) (b.map condD) := by simp only [caseD, PyData.eqv]
  rw [e, eqvAll_conds]
theorem eqv_rule : ∀ (a b : Rule), PyData.eqv (ruleD a) (ruleD b) = decide (a = b)
  | (a1, a2), (b1, b2) => by
    have e : PyData.eqv (ruleD (a1, a2)) (ruleD (b1, b2)) = (decide (a1 = b1) && ((a2 == b2) && true)) := by simp only [ruleD, PyData.eqv, PyData.eqvAll, eqv_case]
    rw [e]
    by_cases h1 : a1 = b1 <;> by_cases h2 : a2 = b2 <;> simp [h1, h2]
end Cr

namespace Cr
open PySem PySem.Spec PyProof.Rows L2
/-! ### tables of code objects, which the making of a lambda writes -/
class Tbl where
  T : List (Addr × Str)
variable [Tbl]
/-- no table -/
abbrev Fx (o : HO) : Prop := ∀ ps, o ≠ .tbl ps
abbrev TabsH (H : Hp) : Prop := LamX.Tabs Tbl.T H
theorem PT.onX {H H' : Hp} {a : Addr} {xs : List V} (h : PT H a xs) (k : ∀ u, H a = some u → Fx u → H' a = some u) : PT H' a xs := let ⟨o, e, d⟩ := h; ⟨o, k _ e (fun _ z => by cases z), d⟩
theorem tabs_keep {H H' : Hp} (h : TabsH H) (k : ∀ b o, H b = some o → ((∃ ps, o = .tbl ps) ∨ ∃ q, o = LamX.CodeO b q) → H' b = some o) : TabsH H' := fun p hp => by
  obtain ⟨ps, e, t, c⟩ := h p hp
  refine ⟨ps, k _ _ e (.inl ⟨_, rfl⟩), t, fun pos cv hc => ?_⟩
  obtain ⟨d, e1, e2⟩ := c pos cv hc
  exact ⟨d, e1, k _ _ e2 (.inr ⟨_, rfl⟩)⟩
/-- the tables stay tables, and right ones -/
structure TbS (H H' : Hp) : Prop where
  t : TabsH H → TabsH H'
  p : ∀ b ps, H b = some (.tbl ps) → ∃ ps', H' b = some (.tbl ps')
theorem TbS.keep {H H' : Hp} (k : ∀ b o, H b = some o → ((∃ ps, o = .tbl ps) ∨ ∃ q, o = LamX.CodeO b q) → H' b = some o) : TbS H H' := ⟨fun h => tabs_keep h k, fun b ps e => ⟨ps, k b _ e (.inl ⟨_, rfl⟩)⟩⟩
theorem TbS.same {H H' : Hp} (s : Same H H') : TbS H H' := .keep fun b o e _ => s b o e
theorem TbS.refl (H : Hp) : TbS H H := ⟨id, fun b ps e => ⟨ps, e⟩⟩
theorem TbS.trans {H H1 H2 : Hp} (a : TbS H H1) (b : TbS H1 H2) : TbS H H2 := ⟨fun h => b.t (a.t h), fun c ps e => let ⟨ps', e'⟩ := a.p c ps e; b.p c ps' e'⟩
/-- all but the list at l stays -/
theorem TbS.but {H H' : Hp} {l : Addr} {xs : List V} (e : H l = some (.lst xs)) (k : ∀ b u, b ≠ l → H b = some u → H' b = some u) : TbS H H' := .keep fun b o eb q => k b o (fun z => by
  rw [z, e] at eb
  cases eb
  rcases q with ⟨_, q⟩ | ⟨_, q⟩
  · cases q
  · unfold LamX.CodeO at q
    cases q) eb
theorem TbS.upd {H : Hp} {l : Addr} {xs : List V} {u : HO} (e : H l = some (.lst xs)) : TbS H (L2.upd H l u) := .but e fun b o n eb => by
  show L2.upd H l u b = _
  rw [upd_ne n]
  exact eb
/-- all but lists stays -/
theorem TbS.lists {H H' : Hp} {N : Addr → Prop} (l : ∀ b, N b → ∃ xs, H b = some (.lst xs)) (k : ∀ b u, ¬ N b → H b = some u → H' b = some u) : TbS H H' := .keep fun b o eb q => k b o (fun z => by
  obtain ⟨xs, e⟩ := l b z
  rw [e] at eb
  cases eb
  rcases q with ⟨_, q⟩ | ⟨_, q⟩
  · cases q
  · unfold LamX.CodeO at q
    cases q) eb

/-! ### data read off the heap, its lists outside N -/
mutual
inductive RD (N : Addr → Prop) (H : Hp) : V → PyData → Prop
  | non : RD N H .non .none
  | bl (b : Bool) : RD N H (.bl b) (.bool b)
  | int (i : Int) : RD N H (.int i) (.int i)
  | str (s : Str) : RD N H (.str s) (.str s)
  | tup {a : Addr} {xs : List V} {ds : List PyData} : PT H a xs → RDs N H xs ds → RD N H (.ref a) (.tuple ds)
  | lst {a : Addr} {xs : List V} {ds : List PyData} : ¬ N a → H a = some (.lst xs) → RDs N H xs ds → RD N H (.ref a) (.list ds)
inductive RDs (N : Addr → Prop) (H : Hp) : List V → List PyData → Prop
  | nil : RDs N H [] []
  | cons {v : V} {vs : List V} {d : PyData} {ds : List PyData} : RD N H v d → RDs N H vs ds → RDs N H (v :: vs) (d :: ds)
end
/-- what is outside N and known stays, and stays outside -/
structure KeepN (N : Addr → Prop) (H : Hp) (N' : Addr → Prop) (H' : Hp) : Prop where
  k : ∀ b o, ¬ N b → H b = some o → (t : Fx o := by intro _ z; cases z) → H' b = some o
  n : ∀ b, N' b → N b ∨ H b = none
  l : ∀ b, N b → ∃ xs, H b = some (.lst xs)
mutual
theorem RD.mono {N N' : Addr → Prop} {H H' : Hp} (k : KeepN N H N' H') : ∀ {v : V} {d : PyData}, RD N H v d → RD N' H' v d
  | _, _, .non => .non
  | _, _, .bl b => .bl b
  | _, _, .int i => .int i
  | _, _, .str s => .str s
  | _, _, .tup h r => .tup (h.onX fun u e t => k.k _ u (fun z => by obtain ⟨xs, e'⟩ := k.l _ z; exact h.no e') e t) (RDs.mono k r)
  | _, _, .lst n h r => .lst (fun z => (k.n _ z).elim n fun e => by rw [h] at e; cases e) (k.k _ _ n h) (RDs.mono k r)
theorem RDs.mono {N N' : Addr → Prop} {H H' : Hp} (k : KeepN N H N' H') : ∀ {vs : List V} {ds : List PyData}, RDs N H vs ds → RDs N' H' vs ds
  | _, _, .nil => .nil
  | _, _, .cons h r => .cons (RD.mono k h) (RDs.mono k r)
end
mutual
theorem RD.anti {N N' : Addr → Prop} {H : Hp} (k : ∀ b, N' b → N b) : ∀ {v : V} {d : PyData}, RD N H v d → RD N' H v d
  | _, _, .non => .non
  | _, _, .bl b => .bl b
  | _, _, .int i => .int i
  | _, _, .str s => .str s
  | _, _, .tup h r => .tup h (RDs.anti k r)
  | _, _, .lst n h r => .lst (fun z => n (k _ z)) h (RDs.anti k r)
theorem RDs.anti {N N' : Addr → Prop} {H : Hp} (k : ∀ b, N' b → N b) : ∀ {vs : List V} {ds : List PyData}, RDs N H vs ds → RDs N' H vs ds
  | _, _, .nil => .nil
  | _, _, .cons h r => .cons (RD.anti k h) (RDs.anti k r)
end
mutual
theorem RD.dp {N : Addr → Prop} {K : PySem.W.Frag} {H : Hp} : ∀ {v : V} {d : PyData}, RD N H v d → Dp K H v d
  | _, _, .non => .non
  | _, _, .bl b => .bl b
  | _, _, .int i => .int i
  | _, _, .str s => .str s
  | _, _, .tup h r => .tup h.sq (RDs.dp r)
  | _, _, .lst _ h r => .lst (SqL.of h) (RDs.dp r)
theorem RDs.dp {N : Addr → Prop} {K : PySem.W.Frag} {H : Hp} : ∀ {vs : List V} {ds : List PyData}, RDs N H vs ds → DpAll K H vs ds
  | _, _, .nil => .nil
  | _, _, .cons h r => .cons (RD.dp h) (RDs.dp r)
end
mutual
theorem TD.rd {N : Addr → Prop} {H : Hp} : ∀ {v : V} {d : PyData}, TD H v d → RD N H v d
  | _, _, .int i => .int i
  | _, _, .non => .non
  | _, _, .tup h r => .tup h (TDs.rd r)
theorem TDs.rd {N : Addr → Prop} {H : Hp} : ∀ {vs : List V} {ds : List PyData}, TDs H vs ds → RDs N H vs ds
  | _, _, .nil => .nil
  | _, _, .cons h r => .cons (TD.rd h) (TDs.rd r)
end
mutual
/-- no list in it -/
def noL : PyData → Bool
  | .list _ => false
  | .tuple ds => noLs ds
  | _ => true
def noLs : List PyData → Bool
  | [] => true
  | d :: ds => noL d && noLs ds
end
mutual
theorem RD.free {N N' : Addr → Prop} {H : Hp} : ∀ {v : V} {d : PyData}, noL d = true → RD N H v d → RD N' H v d
  | _, _, _, .non => .non
  | _, _, _, .bl b => .bl b
  | _, _, _, .int i => .int i
  | _, _, _, .str s => .str s
  | _, _, e, .tup h r => .tup h (RDs.free (by rw [noL] at e; exact e) r)
  | _, _, e, .lst n h r => by rw [noL] at e; cases e
theorem RDs.free {N N' : Addr → Prop} {H : Hp} : ∀ {vs : List V} {ds : List PyData}, noLs ds = true → RDs N H vs ds → RDs N' H vs ds
  | _, _, _, .nil => .nil
  | _, _, e, .cons h r => by
    rw [noLs, Bool.and_eq_true] at e
    exact .cons (RD.free e.1 h) (RDs.free e.2 r)
end
mutual
/-- ints, None and tuples of such -/
def plainD : PyData → Bool
  | .int _ => true
  | .none => true
  | .tuple ds => plainDs ds
  | _ => false
def plainDs : List PyData → Bool
  | [] => true
  | d :: ds => plainD d && plainDs ds
end
mutual
theorem RD.td {N : Addr → Prop} {H : Hp} : ∀ {v : V} {d : PyData}, plainD d = true → RD N H v d → TD H v d
  | .non, .none, _, .non => .non
  | .bl b, .bool _, e, .bl _ => by simp [plainD] at e
  | .int i, .int _, _, .int _ => .int i
  | .str s, .str _, e, .str _ => by simp [plainD] at e
  | .ref a, .tuple _, e, .tup h r => .tup h (RDs.td (by rw [plainD] at e; exact e) r)
  | .ref a, .list _, e, .lst n h r => by simp [plainD] at e
theorem RDs.td {N : Addr → Prop} {H : Hp} : ∀ {vs : List V} {ds : List PyData}, plainDs ds = true → RDs N H vs ds → TDs H vs ds
  | _, _, _, .nil => .nil
  | _, _, e, .cons h r => by
    rw [plainDs, Bool.and_eq_true] at e
    exact .cons (RD.td e.1 h) (RDs.td e.2 r)
end
theorem RDs.length {N : Addr → Prop} {H : Hp} : ∀ {vs : List V} {ds : List PyData}, RDs N H vs ds → vs.length = ds.length
  | _, _, .nil => rfl
  | _, _, .cons _ r => congrArg Nat.succ (RDs.length r)
theorem RDs.get {N : Addr → Prop} {H : Hp} : ∀ {vs : List V} {ds : List PyData} {i : Nat} {d : PyData}, RDs N H vs ds → ds[i]? = some d → ∃ v, vs[i]? = some v ∧ RD N H v d
  | _, _, _, _, .nil, e => by simp at e
  | _, _, 0, _, .cons h _, e => by simp at e; subst e; exact ⟨_, rfl, h⟩
  | _, _, i + 1, d, .cons _ r, e => by
    obtain ⟨v, h1, h2⟩ := RDs.get (i := i) (d := d) r (by simpa using e)
    exact ⟨v, by simpa using h1, h2⟩
theorem RDs.getV {N : Addr → Prop} {H : Hp} : ∀ {vs : List V} {ds : List PyData} {i : Nat} {v : V}, RDs N H vs ds → vs[i]? = some v → ∃ d, ds[i]? = some d ∧ RD N H v d
  | _, _, _, _, .nil, e => by simp at e
  | _, _, 0, _, .cons h _, e => by simp at e; subst e; exact ⟨_, rfl, h⟩
  | _, _, i + 1, d, .cons _ r, e => by
    obtain ⟨v, h1, h2⟩ := RDs.getV (i := i) (v := d) r (by simpa using e)
    exact ⟨v, by simpa using h1, h2⟩
theorem RDs.append {N : Addr → Prop} {H : Hp} : ∀ {vs ws : List V} {ds es : List PyData}, RDs N H vs ds → RDs N H ws es → RDs N H (vs ++ ws) (ds ++ es)
  | _, _, _, _, .nil, s => s
  | _, _, _, _, .cons h r, s => .cons h (RDs.append r s)
theorem RDs.of_get {N : Addr → Prop} {H : Hp} : ∀ {vs : List V} {ds : List PyData}, vs.length = ds.length → (∀ (i : Nat) (v : V) (d : PyData), vs[i]? = some v → ds[i]? = some d → RD N H v d) → RDs N H vs ds
  | [], [], _, _ => .nil
  | [], _ :: _, h, _ => by simp at h
  | _ :: _, [], h, _ => by simp at h
  | v :: vs, d :: ds, h, k => .cons (k 0 v d rfl rfl) (RDs.of_get (by simpa using h) fun i v d h1 h2 => k (i + 1) v d (by simpa using h1) (by simpa using h2))
theorem RDs.take {N : Addr → Prop} {H : Hp} {vs : List V} {ds : List PyData} (h : RDs N H vs ds) (n : Nat) : RDs N H (vs.take n) (ds.take n) := by
  have hl := h.length
  refine RDs.of_get (by rw [List.length_take, List.length_take, hl]) fun i v d h1 h2 => ?_
  rw [List.getElem?_take] at h1 h2
  split at h1
  · rename_i hi
    rw [if_pos hi] at h2
    obtain ⟨d', e, r⟩ := h.getV h1
    rw [h2] at e
    cases e
    exact r
  · cases h1
theorem RDs.drop {N : Addr → Prop} {H : Hp} {vs : List V} {ds : List PyData} (h : RDs N H vs ds) (n : Nat) : RDs N H (vs.drop n) (ds.drop n) := by
  have hl := h.length
  refine RDs.of_get (by rw [List.length_drop, List.length_drop, hl]) fun i v d h1 h2 => ?_
  rw [List.getElem?_drop] at h1 h2
  obtain ⟨d', e, r⟩ := h.getV h1
  rw [h2] at e
  cases e
  exact r
theorem RDs.reverse {N : Addr → Prop} {H : Hp} : ∀ {vs : List V} {ds : List PyData}, RDs N H vs ds → RDs N H vs.reverse ds.reverse
  | _, _, .nil => .nil
  | _, _, .cons h r => by
    rw [List.reverse_cons, List.reverse_cons]
    exact (RDs.reverse r).append (.cons h .nil)

/-! ### an instance that holds rules -/
/-- an instance of C that holds these rules -/
def Holds (H : Hp) (C x : Addr) (rs : List Rule) : Prop := ∃ (dx t : Addr) (xs : List V), H x = some (.ins C dx [("held", .ref t)]) ∧ PT H t xs ∧ TDs H xs (rs.map ruleD)

/-! ### states -/
structure Zs where
  S : Addr → Prop
  N : Addr → Prop
  H : Hp
structure Zs.Ok (z : Zs) : Prop where
  sn : ∀ b, z.S b → z.N b
  src : ∀ b, z.S b → Src z.H b
  lst : ∀ b, z.N b → ∃ xs, z.H b = some (.lst xs)
  tb : TabsH z.H
/-- later -/
structure Zs.Le (z z' : Zs) : Prop where
  k : ∀ b o, ¬ z.N b → z.H b = some o → (t : Fx o := by intro _ z; cases z) → z'.H b = some o
  n : ∀ b, z'.N b → z.N b ∨ z.H b = none
  s : ∀ b, z.S b → z'.S b
  l : ∀ b, z.N b → ∃ o, z'.H b = some o
  t : TbS z.H z'.H
/-- within an expression: only the sources turn -/
structure Ge (z : Zs) (H' : Hp) : Prop where
  k : ∀ b o, ¬ z.S b → z.H b = some o → (t : Fx o := by intro _ z; cases z) → H' b = some o
  s : ∀ b, z.S b → Src H' b
  t : TbS z.H H'
abbrev Zs.at (z : Zs) (H' : Hp) : Zs := ⟨z.S, z.N, H'⟩
theorem Ge.refl {z : Zs} (o : z.Ok) : Ge z z.H := ⟨fun _ _ _ h _ => h, o.src, .refl _⟩
theorem Ge.trans {z : Zs} {H1 H2 : Hp} (a : Ge z H1) (b : Ge (z.at H1) H2) : Ge z H2 := ⟨fun c o n h t => b.k c o n (a.k c o n h t) t, b.s, a.t.trans b.t⟩
theorem Ge.ok {z : Zs} {H1 : Hp} (o : z.Ok) (a : Ge z H1) : (z.at H1).Ok := ⟨o.sn, a.s, fun b n => by
  by_cases h : z.S b
  · obtain ⟨x, y, w, e⟩ := a.s b h
    exact ⟨_, e⟩
  · obtain ⟨xs, e⟩ := o.lst b n
    exact ⟨xs, a.k b _ h e⟩, a.t.t o.tb⟩
theorem Ge.same {z : Zs} {H' : Hp} (o : z.Ok) (h : Same z.H H') : Ge z H' := ⟨fun b u _ e _ => h b u e, fun b s => (o.src b s).same h, .same h⟩
theorem tbl_or (u : HO) : (∃ ps, u = .tbl ps) ∨ Fx u := by
  cases u with
  | tbl ps => exact .inl ⟨ps, rfl⟩
  | _ => exact .inr fun _ z => by cases z
theorem Ge.fresh {z : Zs} {H' : Hp} (a : Ge z H') {p : Addr} (h : H' p = none) : z.H p = none := by
  cases e : z.H p with
  | none => rfl
  | some u =>
    rcases tbl_or u with ⟨ps, rfl⟩ | t
    · obtain ⟨ps', q⟩ := a.t.p p ps e
      rw [h] at q; cases q
    · by_cases s : z.S p
      · obtain ⟨_, _, _, q⟩ := a.s p s
        rw [h] at q; cases q
      · rw [a.k p u s e t] at h; cases h
theorem Ge.keepN {z : Zs} {H' : Hp} (o : z.Ok) (a : Ge z H') : KeepN z.N z.H z.N H' := ⟨fun b u n e t => a.k b u (fun s => n (o.sn b s)) e t, fun _ n => .inl n, o.lst⟩
theorem Ge.le {z : Zs} {H' : Hp} (o : z.Ok) (a : Ge z H') : z.Le (z.at H') := ⟨fun b u n e t => (a.keepN o).k b u n e t, fun _ n => .inl n, fun _ s => s, fun b n => let ⟨xs, e⟩ := (a.ok o).lst b n; ⟨_, e⟩, a.t⟩
theorem Zs.Le.refl {z : Zs} (o : z.Ok) : z.Le z := ⟨fun _ _ _ h _ => h, fun _ n => .inl n, fun _ s => s, fun b n => let ⟨xs, e⟩ := o.lst b n; ⟨_, e⟩, .refl _⟩
theorem Zs.Le.fresh {z z' : Zs} (a : z.Le z') {p : Addr} (h : z'.H p = none) : z.H p = none := by
  cases e : z.H p with
  | none => rfl
  | some u =>
    rcases tbl_or u with ⟨ps, rfl⟩ | t
    · obtain ⟨ps', q⟩ := a.t.p p ps e
      rw [h] at q; cases q
    · by_cases n : z.N p
      · obtain ⟨_, q⟩ := a.l p n
        rw [h] at q; cases q
      · rw [a.k p u n e t] at h; cases h
theorem Zs.Le.trans {z z1 z2 : Zs} (a : z.Le z1) (b : z1.Le z2) : z.Le z2 := by
  have out : ∀ c u, ¬ z.N c → z.H c = some u → ¬ z1.N c := fun c u n e q => (a.n c q).elim n fun w => by rw [e] at w; cases w
  refine ⟨fun c u n e t => b.k c u (out c u n e) (a.k c u n e t) t, fun c q => ?_, fun c s => b.s c (a.s c s), fun c n => ?_, a.t.trans b.t⟩
  · rcases b.n c q with w | w
    · exact a.n c w
    · exact .inr (a.fresh w)
  · obtain ⟨u, e⟩ := a.l c n
    by_cases q : z1.N c
    · exact b.l c q
    · rcases tbl_or u with ⟨ps, rfl⟩ | t
      · obtain ⟨ps', q⟩ := b.t.p c ps e
        exact ⟨_, q⟩
      · exact ⟨u, b.k c u q e t⟩
theorem Zs.Le.keepN {z z' : Zs} (o : z.Ok) (a : z.Le z') : KeepN z.N z.H z'.N z'.H := ⟨fun b u n e t => a.k b u n e t, a.n, o.lst⟩
theorem Holds.keep {N N' : Addr → Prop} {H H' : Hp} {C x : Addr} {rs : List Rule} (h : Holds H C x rs) (k : KeepN N H N' H') : Holds H' C x rs := by
  obtain ⟨dx, t, xs, h1, h2, h3⟩ := h
  have no : ∀ {b : Addr} {u : HO}, H b = some u → (∀ ys, u ≠ .lst ys) → ¬ N b := fun e q n => by
    obtain ⟨ys, w⟩ := k.l _ n
    rw [e] at w
    exact q ys (Option.some.inj w)
  have pt : ∀ {b : Addr} {ys : List V}, PT H b ys → PT H' b ys := fun e => e.onX fun u w t => k.k _ u (fun n => by
    obtain ⟨zs, w'⟩ := k.l _ n
    exact e.no w') w t
  exact ⟨dx, t, xs, k.k _ _ (no h1 fun ys z => by cases z) h1, pt h2, h3.mono fun a ys e => pt e⟩

/-! ### values of names and of expressions -/
/-- the script: a list that nothing changes -/
@[irreducible] def Scr (K : PySem.W.Frag) (H : Hp) (a : Addr) (ns : List Int) : Prop := (∃ o, H a = some (.frz o (.lst (ns.map V.int)))) ∨
  ∃ (o : Obj) (its : Array Value) (n : Nat), K.lookup a = some o ∧ o.cls = .type "list" ∧ o.dict = none ∧ o.data = .seq its n ∧ its.size ≤ sizeLine ∧ Vals (ns.map V.int) its.toList
theorem Scr.sq {K : PySem.W.Frag} {H : Hp} {a : Addr} {ns : List Int} (h : Scr K H a ns) : SqL K H a (ns.map V.int) := by
  unfold Scr at h
  rcases h with ⟨o, h⟩ | h
  · exact .inl (.inr ⟨o, h⟩)
  · exact .inr h
/-- only frozen lists and tables -/
def OnlyT (H : Hp) : Prop := ∀ b, H b = none ∨ (∃ ps, H b = some (.tbl ps)) ∨ ∃ o xs, H b = some (.frz o (.lst xs))
theorem OnlyT.of {H : Hp} (O : Only H) : OnlyT H := fun b => (O b).imp id .inr
theorem Scr.of {K : PySem.W.Frag} {H : Hp} {a : Addr} {ns : List Int} (O : OnlyT H) (h : SqL K H a (ns.map V.int)) : Scr K H a ns := by
  unfold Scr
  rcases h with (h | h) | h
  · rcases O a with q | ⟨_, q⟩ | ⟨o, xs, q⟩ <;> (rw [h] at q; cases q)
  · exact .inl h
  · exact .inr h
theorem Scr.keep {K : PySem.W.Frag} {N N' : Addr → Prop} {H H' : Hp} {a : Addr} {ns : List Int} (k : KeepN N H N' H') (h : Scr K H a ns) : Scr K H' a ns := by
  unfold Scr at h ⊢
  rcases h with ⟨o, h⟩ | h
  · refine .inl ⟨o, k.k a _ (fun n => ?_) h⟩
    obtain ⟨xs, e⟩ := k.l a n
    rw [h] at e
    cases e
  · exact .inr h
inductive SV where
  | scr (K : PySem.W.Frag) (ns : List Int)
  | dat (d : PyData)
  | ins (C : Addr) (rs : List Rule)
  | src
  | own (ds : List PyData)
  | hob (u : HO)
abbrev DEnv := List (Option SV)
inductive R where
  | scr (K : PySem.W.Frag) (ns : List Int)
  | dat (d : PyData)
  | new (ds : List PyData)
  | cur (ds : List PyData)
  | ins (C : Addr) (rs : List Rule)
  | src
  | nsrc
  | hob (u : HO)
def SvR (z : Zs) (v : V) : SV → Prop
  | .scr K ns => ∃ a, v = .ref a ∧ Scr K z.H a ns
  | .dat d => RD z.N z.H v d
  | .ins C rs => ∃ x, v = .ref x ∧ Holds z.H C x rs
  | .src => ∃ a, v = .ref a ∧ z.S a
  | .own ds => ∃ l xs, v = .ref l ∧ z.N l ∧ ¬ z.S l ∧ z.H l = some (.lst xs) ∧ RDs z.N z.H xs ds
  | .hob u => ∃ a, v = .ref a ∧ z.H a = some u ∧ (∀ ys, u ≠ .lst ys) ∧ Fx u
def RR (z : Zs) (H' : Hp) (v : V) : R → Prop
  | .scr K ns => ∃ a, v = .ref a ∧ Scr K H' a ns
  | .dat d => RD z.N H' v d
  | .new ds => ∃ l xs, v = .ref l ∧ z.H l = none ∧ H' l = some (.lst xs) ∧ RDs (fun b => z.N b ∨ b = l) H' xs ds
  | .cur ds => ∃ l xs, v = .ref l ∧ z.N l ∧ ¬ z.S l ∧ H' l = some (.lst xs) ∧ RDs z.N H' xs ds
  | .ins C rs => ∃ x, v = .ref x ∧ Holds H' C x rs
  | .src => ∃ a, v = .ref a ∧ z.S a
  | .nsrc => ∃ a, v = .ref a ∧ z.H a = none ∧ Src H' a
  | .hob u => ∃ a, v = .ref a ∧ H' a = some u ∧ (∀ ys, u ≠ .lst ys) ∧ Fx u
def RRs (z : Zs) (H' : Hp) : List V → List R → Prop
  | [], [] => True
  | v :: vs, r :: rs => RR z H' v r ∧ RRs z H' vs rs
  | _, _ => False
/-- the data of it, as it stands now -/
def R.data : R → Option PyData
  | .dat d => some d
  | .new ds => some (.list ds)
  | .cur ds => some (.list ds)
  | _ => none
/-- .. that may be kept -/
def R.stay : R → Option PyData
  | .dat d => some d
  | .new ds => some (.list ds)
  | _ => none
def SV.r : SV → R
  | .scr K ns => .scr K ns
  | .dat d => .dat d
  | .ins C rs => .ins C rs
  | .src => .src
  | .own ds => .cur ds
  | .hob u => .hob u
theorem RR.on {z : Zs} {H1 H2 : Hp} {v : V} {r : R} (o : z.Ok) (a : Ge z H1) (b : Ge (z.at H1) H2) (h : RR z H1 v r) : RR z H2 v r := by
  have kn := b.keepN (a.ok o)
  cases r with
  | dat d => exact RD.mono kn h
  | new ds =>
    obtain ⟨l, xs, rfl, h0, h1, h2⟩ := h
    have hl := b.k _ _ (fun s => by obtain ⟨_, _, _, e⟩ := o.src _ s; rw [h0] at e; cases e) h1
    exact ⟨l, xs, rfl, h0, hl, RDs.mono ⟨fun c u n e t => kn.k c u (fun w => n (.inl w)) e t, fun c n => .inl n, fun c n => n.elim (fun w => kn.l c w) fun w => ⟨xs, by rw [w]; exact h1⟩⟩ h2⟩
  | cur ds =>
    obtain ⟨l, xs, rfl, h0, hs, h1, h2⟩ := h
    exact ⟨l, xs, rfl, h0, hs, b.k _ _ hs h1, RDs.mono kn h2⟩
  | ins C rs =>
    obtain ⟨x, rfl, h⟩ := h
    exact ⟨x, rfl, h.keep kn⟩
  | src => exact h
  | scr K ns => obtain ⟨a', rfl, q⟩ := h; exact ⟨a', rfl, q.keep kn⟩
  | hob u => obtain ⟨a', rfl, q, n⟩ := h; exact ⟨a', rfl, kn.k _ _ (fun w => by obtain ⟨ys, e⟩ := kn.l _ w; have e : H1 a' = _ := e; rw [q] at e; exact n.1 ys (Option.some.inj e)) q n.2, n⟩
  | nsrc =>
    obtain ⟨a', rfl, h0, x, y, w, h1⟩ := h
    exact ⟨a', rfl, h0, x, y, w, b.k _ _ (fun s => by obtain ⟨_, _, _, e⟩ := o.src _ s; rw [h0] at e; cases e) h1⟩
theorem RRs.on {z : Zs} {H1 H2 : Hp} (o : z.Ok) (a : Ge z H1) (b : Ge (z.at H1) H2) : ∀ {vs : List V} {rs : List R}, RRs z H1 vs rs → RRs z H2 vs rs
  | [], [], _ => trivial
  | v :: vs, r :: rs, ⟨h1, h2⟩ => ⟨h1.on o a b, RRs.on o a b h2⟩
  | [], _ :: _, h => h.elim
  | _ :: _, [], h => h.elim
/-- a later start -/
theorem RR.back {z : Zs} {H1 H2 : Hp} {v : V} {r : R} (a : Ge z H1) (h : RR (z.at H1) H2 v r) : RR z H2 v r := by
  cases r with
  | new ds =>
    obtain ⟨l, xs, rfl, h0, h⟩ := h
    exact ⟨l, xs, rfl, a.fresh h0, h⟩
  | dat d => exact h
  | cur ds => exact h
  | ins C rs => exact h
  | src => exact h
  | scr K ns => exact h
  | hob u => exact h
  | nsrc =>
    obtain ⟨a', rfl, h0, h⟩ := h
    exact ⟨a', rfl, a.fresh h0, h⟩
theorem RRs.back {z : Zs} {H1 H2 : Hp} (a : Ge z H1) : ∀ {vs : List V} {rs : List R}, RRs (z.at H1) H2 vs rs → RRs z H2 vs rs
  | [], [], _ => trivial
  | v :: vs, r :: rs, ⟨h1, h2⟩ => ⟨h1.back a, RRs.back a h2⟩
  | [], _ :: _, h => h.elim
  | _ :: _, [], h => h.elim
theorem SvR.rr {z : Zs} {v : V} {sv : SV} (h : SvR z v sv) : RR z z.H v sv.r := by
  cases sv with
  | dat d => exact h
  | ins C rs => exact h
  | src => exact h
  | scr K ns => exact h
  | own ds => exact h
  | hob u => exact h
/-- as data, now -/
theorem RR.rd {z : Zs} {H' : Hp} {v : V} {r : R} {d : PyData} (h : RR z H' v r) (e : r.data = some d) : RD (fun _ => False) H' v d := by
  cases r with
  | dat d' => cases e; exact RD.anti (fun _ z => z.elim) h
  | new ds =>
    cases e
    obtain ⟨l, xs, rfl, _, h1, h2⟩ := h
    exact .lst (fun z => z) h1 (RDs.anti (fun _ z => z.elim) h2)
  | cur ds =>
    cases e
    obtain ⟨l, xs, rfl, _, _, h1, h2⟩ := h
    exact .lst (fun z => z) h1 (RDs.anti (fun _ z => z.elim) h2)
  | ins C rs => cases e
  | src => cases e
  | scr K ns => cases e
  | nsrc => cases e
  | hob u => cases e
theorem RR.rdS {z : Zs} {H' : Hp} {v : V} {r : R} {d : PyData} (o : z.Ok) (h : RR z H' v r) (e : r.data = some d) : RD z.S H' v d := by
  cases r with
  | dat d' => cases e; exact RD.anti o.sn h
  | new ds =>
    cases e
    obtain ⟨l, xs, rfl, h0, h1, h2⟩ := h
    exact .lst (fun s => by obtain ⟨_, _, _, e⟩ := o.src _ s; rw [h0] at e; cases e) h1 (RDs.anti (fun b s => .inl (o.sn b s)) h2)
  | cur ds =>
    cases e
    obtain ⟨l, xs, rfl, _, hs, h1, h2⟩ := h
    exact .lst hs h1 (RDs.anti o.sn h2)
  | ins C rs => cases e
  | src => cases e
  | scr K ns => cases e
  | nsrc => cases e
  | hob u => cases e
theorem RR.keepD {z : Zs} {H' : Hp} {v : V} {r : R} {d : PyData} (o : z.Ok) (h : RR z H' v r) (e : r.stay = some d) : RD z.N H' v d := by
  cases r with
  | dat d' => cases e; exact h
  | new ds =>
    cases e
    obtain ⟨l, xs, rfl, h0, h1, h2⟩ := h
    exact .lst (fun n => by obtain ⟨_, e⟩ := o.lst _ n; rw [h0] at e; cases e) h1 (RDs.anti (fun b n => .inl n) h2)
  | cur ds => cases e
  | ins C rs => cases e
  | src => cases e
  | scr K ns => cases e
  | nsrc => cases e
  | hob u => cases e
/-- the items of a list or tuple -/
theorem RR.items {z : Zs} {H' : Hp} {v : V} {r : R} {ds : List PyData} (h : RR z H' v r) (e : r.data = some (.list ds)) : ∃ a xs, v = .ref a ∧ H' a = some (.lst xs) ∧ RDs z.N H' xs ds := by
  cases r with
  | dat d' =>
    cases e
    cases h with
    | lst n h1 h2 => exact ⟨_, _, rfl, h1, h2⟩
  | new ds =>
    cases e
    obtain ⟨l, xs, rfl, _, h1, h2⟩ := h
    exact ⟨l, xs, rfl, h1, RDs.anti (fun b n => .inl n) h2⟩
  | cur ds =>
    cases e
    obtain ⟨l, xs, rfl, _, _, h1, h2⟩ := h
    exact ⟨l, xs, rfl, h1, h2⟩
  | ins C rs => cases e
  | src => cases e
  | scr K ns => cases e
  | nsrc => cases e
  | hob u => cases e
theorem RR.tupl {z : Zs} {H' : Hp} {v : V} {r : R} {ds : List PyData} (h : RR z H' v r) (e : r.data = some (.tuple ds)) : ∃ a xs, v = .ref a ∧ PT H' a xs ∧ RDs z.N H' xs ds := by
  cases r with
  | dat d' =>
    cases e
    cases h with
    | tup h1 h2 => exact ⟨_, _, rfl, h1, h2⟩
  | new ds => cases e
  | cur ds => cases e
  | ins C rs => cases e
  | src => cases e
  | scr K ns => cases e
  | nsrc => cases e
  | hob u => cases e
theorem RR.intv {z : Zs} {H' : Hp} {v : V} {r : R} {i : Int} (h : RR z H' v r) (e : r.data = some (.int i)) : v = .int i := by
  cases r with
  | dat d' => cases e; cases h; rfl
  | new ds => cases e
  | cur ds => cases e
  | ins C rs => cases e
  | src => cases e
  | scr K ns => cases e
  | nsrc => cases e
  | hob u => cases e

structure EnvS (z : Zs) (σ : L2.St) (env : DEnv) : Prop where
  len : env.length = σ.length
  slot : ∀ (i : Nat) (sv : SV), env[i]? = some (some sv) → ∃ v, σ[i]? = some (some v) ∧ SvR z v sv
  inj : ∀ (i j : Nat) (ds es : List PyData), env[i]? = some (some (.own ds)) → env[j]? = some (some (.own es)) → σ[i]? = σ[j]? → i = j
theorem EnvS.on {z : Zs} {H1 : Hp} {σ : L2.St} {env : DEnv} (o : z.Ok) (a : Ge z H1) (h : EnvS z σ env) : EnvS (z.at H1) σ env := by
  refine ⟨h.len, fun i sv e => ?_, h.inj⟩
  obtain ⟨v, e1, e2⟩ := h.slot i sv e
  refine ⟨v, e1, ?_⟩
  have kn := a.keepN o
  cases sv with
  | dat d => exact RD.mono kn e2
  | ins C rs => obtain ⟨x, rfl, q⟩ := e2; exact ⟨x, rfl, q.keep kn⟩
  | src => exact e2
  | scr K ns => obtain ⟨x, rfl, q⟩ := e2; exact ⟨x, rfl, q.keep kn⟩
  | hob u => obtain ⟨x, rfl, q, n⟩ := e2; exact ⟨x, rfl, kn.k _ _ (fun w => by obtain ⟨ys, e⟩ := kn.l _ w; rw [q] at e; exact n.1 ys (Option.some.inj e)) q n.2, n⟩
  | own ds =>
    obtain ⟨l, xs, rfl, h0, hs, h1, h2⟩ := e2
    exact ⟨l, xs, rfl, h0, hs, a.k _ _ hs h1, RDs.mono kn h2⟩

/-! ### what a reading gives, as data -/
abbrev DTE := DEnv → (R → Prop) → Prop
class DL (t : TE) (T : outParam DTE) : Prop where
  run : ∀ (z : Zs) (σ : L2.St) (env : DEnv) (Q : VK) (Qd : R → Prop), z.Ok → EnvS z σ env → T env Qd → (∀ v H' r, Ge z H' → RR z H' v r → Qd r → Q v H') → t σ z.H Q
class DT (t : TT) (T : outParam (DEnv → (Bool → Prop) → Prop)) : Prop where
  run : ∀ (z : Zs) (σ : L2.St) (env : DEnv) (Q : Bool → Hp → Prop) (Qd : Bool → Prop), z.Ok → EnvS z σ env → T env Qd → (∀ b H', Ge z H' → Qd b → Q b H') → t σ z.H Q
class DA (t : TA) (T : outParam (DEnv → (List R → Prop) → Prop)) : Prop where
  run : ∀ (z : Zs) (σ : L2.St) (env : DEnv) (Q : List V → Hp → Prop) (Qd : List R → Prop), z.Ok → EnvS z σ env → T env Qd → (∀ vs H' rs, Ge z H' → RRs z H' vs rs → Qd rs → Q vs H') → t σ z.H Q
class OpD (r : R2) (T : outParam (R → R → (R → Prop) → Prop)) : Prop where
  run : ∀ (z : Zs) (H : Hp) (v u : V) (x y : R) (Q : VK) (Qd : R → Prop), z.Ok → Ge z H → RR z H v x → RR z H u y → T x y Qd → (∀ w H' c, Ge z H' → RR z H' w c → Qd c → Q w H') → r v u H Q
class UnD (r : V → Hp → VK → Prop) (T : outParam (R → (R → Prop) → Prop)) : Prop where
  run : ∀ (z : Zs) (H : Hp) (v : V) (x : R) (Q : VK) (Qd : R → Prop), z.Ok → Ge z H → RR z H v x → T x Qd → (∀ w H' c, Ge z H' → RR z H' w c → Qd c → Q w H') → r v H Q
class CbD (r : List V → Hp → VK → Prop) (T : outParam (List R → (R → Prop) → Prop)) : Prop where
  run : ∀ (z : Zs) (H : Hp) (vs : List V) (rs : List R) (Q : VK) (Qd : R → Prop), z.Ok → Ge z H → RRs z H vs rs → T rs Qd → (∀ w H' c, Ge z H' → RR z H' w c → Qd c → Q w H') → r vs H Q
class SpD (sp : Sp) (T : outParam (List R → (R → Prop) → Prop)) : Prop where
  run : ∀ (z : Zs) (H : Hp) (vs : List V) (rs : List R) (Q : VK) (Qd : R → Prop) (E : XK), z.Ok → Ge z H → RRs z H vs rs → T rs Qd → (∀ w H' c, Ge z H' → RR z H' w c → Qd c → Q w H') → sp vs H Q E

def dVar (i : Nat) : DTE := fun env Qd => match env[i]? with
  | some (some sv) => Qd sv.r
  | _ => False
instance (i : Nat) : DL (tVar i) (dVar i) := ⟨fun z σ env Q Qd o e h q => by
  unfold dVar at h
  split at h
  · rename_i sv hs
    obtain ⟨v, e1, e2⟩ := e.slot i sv hs
    exact ⟨v, e1, q v z.H _ (Ge.refl o) e2.rr h⟩
  · exact h.elim⟩
def vD : V → Option PyData
  | .non => some .none
  | .bl b => some (.bool b)
  | .int i => some (.int i)
  | .str s => some (.str s)
  | _ => none
theorem vD_rr {z : Zs} {H : Hp} {v : V} {d : PyData} (e : vD v = some d) : RR z H v (.dat d) := by
  cases v with
  | non => cases e; exact .non
  | bl b => cases e; exact .bl b
  | int i => cases e; exact .int i
  | str s => cases e; exact .str s
  | byt b => cases e
  | flt b => cases e
  | ref a => cases e
  | ty n => cases e
def dC (v : V) : DTE := fun _ Qd => match vD v with
  | some d => Qd (.dat d)
  | none => False
instance (v : V) : DL (tC v) (dC v) := ⟨fun z σ env Q Qd o e h q => by
  unfold dC at h
  split at h
  · rename_i d hd
    exact q v z.H _ (Ge.refl o) (vD_rr hd) h
  · exact h.elim⟩
def dOp (T : R → R → (R → Prop) → Prop) (Ta Tb : DTE) : DTE := fun env Qd => Ta env fun x => Tb env fun y => T x y Qd
instance {r : R2} {ta tb : TE} {T : R → R → (R → Prop) → Prop} {Ta Tb : DTE} [OpD r T] [DL ta Ta] [DL tb Tb] : DL (tOp r ta tb) (dOp T Ta Tb) := ⟨fun z σ env Q Qd o e h q =>
  DL.run (t := ta) z σ env _ _ o e h fun v H1 x g1 r1 h1 => DL.run (t := tb) (z.at H1) σ env _ _ (g1.ok o) (e.on o g1) h1 fun u H2 y g2 r2 h2 =>
    OpD.run (r := r) z H2 v u x y Q Qd o (g1.trans g2) (r1.on o g1 g2) (r2.back g1) h2 q⟩
def dUn (T : R → (R → Prop) → Prop) (Ta : DTE) : DTE := fun env Qd => Ta env fun x => T x Qd
instance {r : V → Hp → VK → Prop} {ta : TE} {T : R → (R → Prop) → Prop} {Ta : DTE} [UnD r T] [DL ta Ta] : DL (tUn r ta) (dUn T Ta) := ⟨fun z σ env Q Qd o e h q =>
  DL.run (t := ta) z σ env _ _ o e h fun v H1 x g1 r1 h1 => UnD.run (r := r) z H1 v x Q Qd o g1 r1 h1 q⟩
def dNil : DEnv → (List R → Prop) → Prop := fun _ Qd => Qd []
instance : DA tNil dNil := ⟨fun z σ env Q Qd o e h q => q [] z.H [] (Ge.refl o) trivial h⟩
def dCons (Ta : DTE) (Tr : DEnv → (List R → Prop) → Prop) : DEnv → (List R → Prop) → Prop := fun env Qd => Ta env fun x => Tr env fun xs => Qd (x :: xs)
instance {ta : TE} {tr : TA} {Ta : DTE} {Tr : DEnv → (List R → Prop) → Prop} [DL ta Ta] [DA tr Tr] : DA (tCons ta tr) (dCons Ta Tr) := ⟨fun z σ env Q Qd o e h q =>
  DL.run (t := ta) z σ env _ _ o e h fun v H1 x g1 r1 h1 => DA.run (t := tr) (z.at H1) σ env _ _ (g1.ok o) (e.on o g1) h1 fun vs H2 xs g2 r2 h2 =>
    q (v :: vs) H2 (x :: xs) (g1.trans g2) ⟨r1.on o g1 g2, RRs.back g1 r2⟩ h2⟩
/-- all of them may be kept -/
def stays : List R → Option (List PyData)
  | [] => some []
  | r :: rs => match r.stay, stays rs with
    | some d, some ds => some (d :: ds)
    | _, _ => none
theorem stays_rd {z : Zs} {H : Hp} (o : z.Ok) : ∀ {vs : List V} {rs : List R} {ds : List PyData}, RRs z H vs rs → stays rs = some ds → RDs z.N H vs ds
  | [], [], ds, _, e => by cases e; exact .nil
  | v :: vs, r :: rs, ds, ⟨h1, h2⟩, e => by
    unfold stays at e
    split at e
    · rename_i d ds' e1 e2
      cases e
      exact .cons (h1.keepD o e1) (stays_rd o h2 e2)
    · cases e
  | [], _ :: _, _, h, _ => h.elim
  | _ :: _, [], _, h, _ => h.elim
theorem RRs.length {z : Zs} {H : Hp} : ∀ {vs : List V} {rs : List R}, RRs z H vs rs → vs.length = rs.length
  | [], [], _ => rfl
  | _ :: _, _ :: _, ⟨_, h⟩ => congrArg Nat.succ (RRs.length h)
  | [], _ :: _, h => h.elim
  | _ :: _, [], h => h.elim
theorem new_ge {z : Zs} {H : Hp} {p : Addr} {u : HO} (o : z.Ok) (g : Ge z H) (hp : H p = none) : Ge z (upd H p u) := g.trans (Ge.same (g.ok o) (Same.new hp))
theorem small_line {n : Nat} (h : n ≤ 1000000) : n ≤ sizeLine := by rw [sizeLine_eq]; omega
theorem new_keep {z : Zs} {H : Hp} {p : Addr} {u : HO} (o : z.Ok) (g : Ge z H) (hp : H p = none) : KeepN z.N H z.N (upd H p u) := (Ge.same (g.ok o) (Same.new hp)).keepN (g.ok o)
theorem new_keepP {z : Zs} {H : Hp} {p : Addr} {u : HO} (o : z.Ok) (g : Ge z H) (hp : H p = none) : KeepN z.N H (fun b => z.N b ∨ b = p) (upd H p u) := ⟨fun b u n e t => (new_keep o g hp).k b u n e t, fun b n => n.imp id fun w => by rw [w]; exact hp, (g.ok o).lst⟩
def dTup (Ta : DEnv → (List R → Prop) → Prop) : DTE := fun env Qd => Ta env fun rs => match stays rs with
  | some ds => rs.length ≤ 1000000 ∧ Qd (.dat (.tuple ds))
  | none => False
instance {ta : TA} {Ta : DEnv → (List R → Prop) → Prop} [DA ta Ta] : DL (tTupF ta) (dTup Ta) := ⟨fun z σ env Q Qd o e h q =>
  DA.run (t := ta) z σ env _ _ o e h fun vs H1 rs g1 r1 h1 => by
    split at h1
    · rename_i ds hd
      refine ⟨small_line (by rw [r1.length]; exact h1.1), fun p ob hp hd0 => ?_⟩
      exact q _ _ (.dat (.tuple ds)) (new_ge o g1 hp) (RD.tup (PT.new hd0) (RDs.mono (new_keep o g1 hp) (stays_rd o r1 hd))) h1.2
    · exact h1.elim⟩
def dLst (Ta : DEnv → (List R → Prop) → Prop) : DTE := fun env Qd => Ta env fun rs => match stays rs with
  | some ds => rs.length ≤ 1000000 ∧ Qd (.new ds)
  | none => False
instance {ta : TA} {Ta : DEnv → (List R → Prop) → Prop} [DA ta Ta] : DL (tLst ta) (dLst Ta) := ⟨fun z σ env Q Qd o e h q =>
  DA.run (t := ta) z σ env _ _ o e h fun vs H1 rs g1 r1 h1 => by
    split at h1
    · rename_i ds hd
      refine ⟨small_line (by rw [r1.length]; exact h1.1), fun p hp => ?_⟩
      exact q _ _ (.new ds) (new_ge o g1 hp) ⟨p, vs, rfl, g1.fresh hp, upd_same, RDs.mono (new_keepP o g1 hp) (stays_rd o r1 hd)⟩ h1.2
    · exact h1.elim⟩
def dCB (T : List R → (R → Prop) → Prop) (Ta : DEnv → (List R → Prop) → Prop) : DTE := fun env Qd => Ta env fun rs => T rs Qd
instance {r : List V → Hp → VK → Prop} {ta : TA} {T : List R → (R → Prop) → Prop} {Ta : DEnv → (List R → Prop) → Prop} [CbD r T] [DA ta Ta] : DL (tCB r ta) (dCB T Ta) := ⟨fun z σ env Q Qd o e h q =>
  DA.run (t := ta) z σ env _ _ o e h fun vs H1 rs g1 r1 h1 => CbD.run (r := r) z H1 vs rs Q Qd o g1 r1 h1 q⟩
instance {sp : Sp} {E : XK} {ta : TA} {T : List R → (R → Prop) → Prop} {Ta : DEnv → (List R → Prop) → Prop} [SpD sp T] [DA ta Ta] : DL (tCall sp [] E ta) (dCB T Ta) := ⟨fun z σ env Q Qd o e h q =>
  DA.run (t := ta) z σ env _ _ o e h fun vs H1 rs g1 r1 h1 => by
    rw [List.append_nil]
    exact SpD.run (sp := sp) z H1 vs rs Q Qd E o g1 r1 h1 q⟩
/-! tests -/
def dTest (Ta : DTE) : DEnv → (Bool → Prop) → Prop := fun env Qd => Ta env fun r => match r with
  | .dat (.bool b) => Qd b
  | _ => False
theorem rr_bool {z : Zs} {H : Hp} {v : V} {b : Bool} (h : RR z H v (.dat (.bool b))) : v = .bl b := by
  have h : RD z.N H v (.bool b) := h
  cases h; rfl
instance {ta : TE} {Ta : DTE} [DL ta Ta] : DT (tTest ta) (dTest Ta) := ⟨fun z σ env Q Qd o e h q =>
  DL.run (t := ta) z σ env _ _ o e h fun v H1 r g1 r1 h1 => by
    split at h1
    · rename_i b
      exact ⟨b, rr_bool r1, q b H1 g1 h1⟩
    · exact h1.elim⟩
instance {ta : TE} {Ta : DTE} [DL ta Ta] : DT (tB ta) (dTest Ta) := ⟨fun z σ env Q Qd o e h q =>
  DL.run (t := ta) z σ env _ _ o e h fun v H1 r g1 r1 h1 => by
    split at h1
    · rename_i b
      exact ⟨b, rr_bool r1, q b H1 g1 h1⟩
    · exact h1.elim⟩
def dAnd (T U : DEnv → (Bool → Prop) → Prop) : DEnv → (Bool → Prop) → Prop := fun env Qd => T env fun c => if c = true then U env Qd else Qd false
instance {t u : TT} {T U : DEnv → (Bool → Prop) → Prop} [DT t T] [DT u U] : DT (tAnd t u) (dAnd T U) := ⟨fun z σ env Q Qd o e h q =>
  DT.run (t := t) z σ env _ _ o e h fun b H1 g1 h1 => by
    cases b with
    | true => exact DT.run (t := u) (z.at H1) σ env Q Qd (g1.ok o) (e.on o g1) h1 fun b H2 g2 h2 => q b H2 (g1.trans g2) h2
    | false => exact q false H1 g1 h1⟩
def dOr (T U : DEnv → (Bool → Prop) → Prop) : DEnv → (Bool → Prop) → Prop := fun env Qd => T env fun c => if c = true then Qd true else U env Qd
instance {t u : TT} {T U : DEnv → (Bool → Prop) → Prop} [DT t T] [DT u U] : DT (tOr t u) (dOr T U) := ⟨fun z σ env Q Qd o e h q =>
  DT.run (t := t) z σ env _ _ o e h fun b H1 g1 h1 => by
    cases b with
    | true => exact q true H1 g1 h1
    | false => exact DT.run (t := u) (z.at H1) σ env Q Qd (g1.ok o) (e.on o g1) h1 fun b H2 g2 h2 => q b H2 (g1.trans g2) h2⟩
def dNot (T : DEnv → (Bool → Prop) → Prop) : DEnv → (Bool → Prop) → Prop := fun env Qd => T env fun c => Qd (!c)
instance {t : TT} {T : DEnv → (Bool → Prop) → Prop} [DT t T] : DT (tNot t) (dNot T) := ⟨fun z σ env Q Qd o e h q =>
  DT.run (t := t) z σ env _ _ o e h fun b H1 g1 h1 => q (!b) H1 g1 h1⟩
def dYes : DEnv → (Bool → Prop) → Prop := fun _ Qd => Qd true
instance : DT tYes dYes := ⟨fun z σ env Q Qd o e h q => q true z.H (Ge.refl o) h⟩
def dIf (T : DEnv → (Bool → Prop) → Prop) (Ta Tb : DTE) : DTE := fun env Qd => T env fun c => if c = true then Ta env Qd else Tb env Qd
instance {t : TT} {ta tb : TE} {T : DEnv → (Bool → Prop) → Prop} {Ta Tb : DTE} [DT t T] [DL ta Ta] [DL tb Tb] : DL (tIf t ta tb) (dIf T Ta Tb) := ⟨fun z σ env Q Qd o e h q =>
  DT.run (t := t) z σ env _ _ o e h fun b H1 g1 h1 => by
    cases b with
    | true => exact DL.run (t := ta) (z.at H1) σ env Q Qd (g1.ok o) (e.on o g1) h1 fun v H2 r g2 r2 h2 => q v H2 r (g1.trans g2) (r2.back g1) h2
    | false => exact DL.run (t := tb) (z.at H1) σ env Q Qd (g1.ok o) (e.on o g1) h1 fun v H2 r g2 r2 h2 => q v H2 r (g1.trans g2) (r2.back g1) h2⟩
def dAndV (Ta Tb : DTE) : DTE := fun env Qd => dTest Ta env fun c => if c = true then Tb env Qd else Qd (.dat (.bool false))
instance {ta tb : TE} {Ta Tb : DTE} [DL ta Ta] [DL tb Tb] : DL (tAndV ta tb) (dAndV Ta Tb) := ⟨fun z σ env Q Qd o e h q =>
  DL.run (t := ta) z σ env _ _ o e h fun v H1 r g1 r1 h1 => by
    split at h1
    · rename_i b
      refine ⟨b, rr_bool r1, ?_⟩
      cases b with
      | true => exact DL.run (t := tb) (z.at H1) σ env Q Qd (g1.ok o) (e.on o g1) h1 fun v H2 r g2 r2 h2 => q v H2 r (g1.trans g2) (r2.back g1) h2
      | false => exact q (.bl false) H1 (.dat (.bool false)) g1 (.bl false) h1
    · exact h1.elim⟩
def dOrV (Ta Tb : DTE) : DTE := fun env Qd => dTest Ta env fun c => if c = true then Qd (.dat (.bool true)) else Tb env Qd
instance {ta tb : TE} {Ta Tb : DTE} [DL ta Ta] [DL tb Tb] : DL (tOrV ta tb) (dOrV Ta Tb) := ⟨fun z σ env Q Qd o e h q =>
  DL.run (t := ta) z σ env _ _ o e h fun v H1 r g1 r1 h1 => by
    split at h1
    · rename_i b
      refine ⟨b, rr_bool r1, ?_⟩
      cases b with
      | false => exact DL.run (t := tb) (z.at H1) σ env Q Qd (g1.ok o) (e.on o g1) h1 fun v H2 r g2 r2 h2 => q v H2 r (g1.trans g2) (r2.back g1) h2
      | true => exact q (.bl true) H1 (.dat (.bool true)) g1 (.bl true) h1
    · exact h1.elim⟩
def dNotV (Ta : DTE) : DTE := fun env Qd => dTest Ta env fun c => Qd (.dat (.bool (!c)))
instance {ta : TE} {Ta : DTE} [DL ta Ta] : DL (tNotV ta) (dNotV Ta) := ⟨fun z σ env Q Qd o e h q =>
  DL.run (t := ta) z σ env _ _ o e h fun v H1 r g1 r1 h1 => by
    split at h1
    · rename_i b
      exact ⟨b, rr_bool r1, q (.bl (!b)) H1 (.dat (.bool (!b))) g1 (.bl (!b)) h1⟩
    · exact h1.elim⟩
end Cr

namespace Cr
open PySem PySem.Spec PyProof.Rows L2
variable [Tbl]

/-! ### operators -/
theorem rr_int {z : Zs} {H : Hp} {v : V} {i : Int} (h : RR z H v (.dat (.int i))) : v = .int i := by
  have h : RD z.N H v (.int i) := h
  cases h; rfl
theorem rr_str {z : Zs} {H : Hp} {v : V} {i : Str} (h : RR z H v (.dat (.str i))) : v = .str i := by
  have h : RD z.N H v (.str i) := h
  cases h; rfl
def oInt (C : Int → Int → Prop) (g : Int → Int → V) : R → R → (R → Prop) → Prop := fun x y Qd => match x, y with
  | .dat (.int i), .dat (.int j) => C i j ∧ match vD (g i j) with
    | some d => Qd (.dat d)
    | none => False
  | _, _ => False
instance {C : Int → Int → Prop} {g : Int → Int → V} : OpD (rI C g) (oInt C g) := ⟨fun z H v u x y Q Qd o g1 r1 r2 h q => by
  unfold oInt at h
  split at h
  · rename_i i j
    obtain ⟨hc, h⟩ := h
    split at h
    · rename_i d hd
      exact ⟨i, j, rr_int r1, rr_int r2, hc, q _ H _ g1 (vD_rr hd) h⟩
    · exact h.elim
  · exact h.elim⟩
def oInt0 (g : Int → Int → V) : R → R → (R → Prop) → Prop := fun x y Qd => match x, y with
  | .dat (.int i), .dat (.int j) => match vD (g i j) with
    | some d => Qd (.dat d)
    | none => False
  | _, _ => False
instance {g : Int → Int → V} : OpD (rI0 g) (oInt0 g) := ⟨fun z H v u x y Q Qd o g1 r1 r2 h q => by
  unfold oInt0 at h
  split at h
  · rename_i i j
    split at h
    · rename_i d hd
      exact ⟨i, j, rr_int r1, rr_int r2, q _ H _ g1 (vD_rr hd) h⟩
    · exact h.elim
  · exact h.elim⟩
/-- == and != of data -/
def oEqD (neg : Bool) : R → R → (R → Prop) → Prop := fun x y Qd => match x.data, y.data with
  | some d, some e => SeqAt.shaped d = true ∧ SeqAt.shaped e = true ∧ Qd (.dat (.bool (if neg then !PyData.eqv d e else PyData.eqv d e)))
  | _, _ => False
instance {K : PySem.W.Frag} : OpD (rEqD K) (oEqD false) := ⟨fun z H v u x y Q Qd o g1 r1 r2 h q => by
  unfold oEqD at h
  split at h
  · rename_i d e hd he
    obtain ⟨s1, s2, h⟩ := h
    exact ⟨d, e, (r1.rd hd).dp, (r2.rd he).dp, s1, s2, q _ H (.dat (.bool _)) g1 (RD.bl _) h⟩
  · exact h.elim⟩
instance {K : PySem.W.Frag} : OpD (rNeD K) (oEqD true) := ⟨fun z H v u x y Q Qd o g1 r1 r2 h q => by
  unfold oEqD at h
  split at h
  · rename_i d e hd he
    obtain ⟨s1, s2, h⟩ := h
    exact ⟨d, e, (r1.rd hd).dp, (r2.rd he).dp, s1, s2, q _ H (.dat (.bool _)) g1 (RD.bl _) h⟩
  · exact h.elim⟩
/-- x in a tuple, in a list -/
def oIn (neg tup : Bool) : R → R → (R → Prop) → Prop := fun x y Qd => match x.data, y.data, tup with
  | some d, some (.tuple ds), true => SeqAt.shaped d = true ∧ SeqAt.shaped (.tuple ds) = true ∧ Qd (.dat (.bool (if neg then !(ds.any fun z => PyData.eqv z d) else ds.any fun z => PyData.eqv z d)))
  | some d, some (.list ds), false => SeqAt.shaped d = true ∧ SeqAt.shaped (.list ds) = true ∧ Qd (.dat (.bool (if neg then !(ds.any fun z => PyData.eqv z d) else ds.any fun z => PyData.eqv z d)))
  | _, _, _ => False
instance {K : PySem.W.Frag} : OpD (rInT K) (oIn false true) := ⟨fun z H v u x y Q Qd o g1 r1 r2 h q => by
  unfold oIn at h
  split at h
  · rename_i d ds hd he _
    obtain ⟨s1, s2, h⟩ := h
    exact ⟨d, ds, (r1.rd hd).dp, (r2.rd he).dp, s1, s2, q _ H (.dat (.bool _)) g1 (RD.bl _) h⟩
  · rename_i hb
    cases hb
  · exact h.elim⟩
instance {K : PySem.W.Frag} : OpD (rNotInT K) (oIn true true) := ⟨fun z H v u x y Q Qd o g1 r1 r2 h q => by
  unfold oIn at h
  split at h
  · rename_i d ds hd he _
    obtain ⟨s1, s2, h⟩ := h
    exact ⟨d, ds, (r1.rd hd).dp, (r2.rd he).dp, s1, s2, q _ H (.dat (.bool _)) g1 (RD.bl _) h⟩
  · rename_i hb
    cases hb
  · exact h.elim⟩
instance {K : PySem.W.Frag} : OpD (rInD K) (oIn false false) := ⟨fun z H v u x y Q Qd o g1 r1 r2 h q => by
  unfold oIn at h
  split at h
  · rename_i hb
    cases hb
  · rename_i d ds hd he _
    obtain ⟨s1, s2, h⟩ := h
    exact ⟨d, ds, (r1.rd hd).dp, (r2.rd he).dp, s1, s2, q _ H (.dat (.bool _)) g1 (RD.bl _) h⟩
  · exact h.elim⟩
instance {K : PySem.W.Frag} : OpD (rNotInD K) (oIn true false) := ⟨fun z H v u x y Q Qd o g1 r1 r2 h q => by
  unfold oIn at h
  split at h
  · rename_i hb
    cases hb
  · rename_i d ds hd he _
    obtain ⟨s1, s2, h⟩ := h
    exact ⟨d, ds, (r1.rd hd).dp, (r2.rd he).dp, s1, s2, q _ H (.dat (.bool _)) g1 (RD.bl _) h⟩
  · exact h.elim⟩
/-- a place in a tuple, a list -/
theorem atI_get {α β : Type} {xs : List α} {ys : List β} (hl : xs.length = ys.length) {i : Int} {y : β} (h : atI ys i = some y) : ∃ (k : Nat) (x : α), atI xs i = some x ∧ xs[k]? = some x ∧ ys[k]? = some y := by
  unfold atI at h ⊢
  rw [hl]
  cases e : ixN ys.length i with
  | none => rw [e] at h; cases h
  | some k =>
    rw [e] at h
    have h : ys[k]? = some y := h
    have hk : k < xs.length := by
      obtain ⟨w, _⟩ := List.getElem?_eq_some_iff.mp h
      omega
    exact ⟨k, xs[k], List.getElem?_eq_getElem hk, List.getElem?_eq_getElem hk, h⟩
def oIx (tup : Bool) : R → R → (R → Prop) → Prop := fun x y Qd => match x.data, y, tup with
  | some (.tuple ds), .dat (.int i), true => match atI ds i with
    | some d => Qd (.dat d)
    | none => False
  | some (.list ds), .dat (.int i), false => match atI ds i with
    | some d => Qd (.dat d)
    | none => False
  | _, _, _ => False
instance {K : PySem.W.Frag} : OpD (rIxT K) (oIx true) := ⟨fun z H v u x y Q Qd o g1 r1 r2 h q => by
  unfold oIx at h
  split at h
  · rename_i ds i hd _
    split at h
    · rename_i d he
      obtain ⟨a, xs, rfl, ha, rs⟩ := r1.tupl hd
      obtain ⟨k, w, e1, e2, e3⟩ := atI_get rs.length he
      obtain ⟨w', e4, e5⟩ := rs.get e3
      rw [e2] at e4; cases e4
      exact ⟨a, xs, i, w, rfl, rr_int r2, ha.sq, e1, q w H (.dat d) g1 e5 h⟩
    · exact h.elim
  · rename_i hb
    cases hb
  · exact h.elim⟩
instance {K : PySem.W.Frag} : OpD (rIxL K) (oIx false) := ⟨fun z H v u x y Q Qd o g1 r1 r2 h q => by
  unfold oIx at h
  split at h
  · rename_i hb
    cases hb
  · rename_i ds i hd _
    split at h
    · rename_i d he
      obtain ⟨a, xs, rfl, ha, rs⟩ := r1.items hd
      obtain ⟨k, w, e1, e2, e3⟩ := atI_get rs.length he
      obtain ⟨w', e4, e5⟩ := rs.get e3
      rw [e2] at e4; cases e4
      exact ⟨a, xs, i, w, rfl, rr_int r2, SqL.of ha, e1, q w H (.dat d) g1 e5 h⟩
    · exact h.elim
  · exact h.elim⟩
/-- lists put together -/
def oCat : R → R → (R → Prop) → Prop := fun x y Qd => match x.data, y.data with
  | some (.list ds), some (.list es) => ds.length + es.length ≤ 1000000 ∧ Qd (.new (ds ++ es))
  | _, _ => False
instance : OpD rCat oCat := ⟨fun z H v u x y Q Qd o g1 r1 r2 h q => by
  unfold oCat at h
  split at h
  · rename_i ds es hd he
    obtain ⟨hl, h⟩ := h
    obtain ⟨a, xs, rfl, ha, rs⟩ := r1.items hd
    obtain ⟨b, ys, rfl, hb, ss⟩ := r2.items he
    refine ⟨a, b, xs, ys, rfl, rfl, ha, hb, small_line (by rw [rs.length, ss.length]; exact hl), fun p hp => ?_⟩
    exact q _ _ (.new (ds ++ es)) (new_ge o g1 hp) ⟨p, _, rfl, g1.fresh hp, upd_same, RDs.mono (new_keepP o g1 hp) (rs.append ss)⟩ h
  · exact h.elim⟩
/-- tuples put together -/
def oCatT : R → R → (R → Prop) → Prop := fun x y Qd => match x.data, y.data with
  | some (.tuple ds), some (.tuple es) => ds.length + es.length ≤ 1000000 ∧ Qd (.dat (.tuple (ds ++ es)))
  | _, _ => False
instance {K : PySem.W.Frag} : OpD (rCatF K) oCatT := ⟨fun z H v u x y Q Qd o g1 r1 r2 h q => by
  unfold oCatT at h
  split at h
  · rename_i ds es hd he
    obtain ⟨hl, h⟩ := h
    obtain ⟨a, xs, rfl, ha, rs⟩ := r1.tupl hd
    obtain ⟨b, ys, rfl, hb, ss⟩ := r2.tupl he
    refine ⟨a, b, xs, ys, rfl, rfl, ha.sq, hb.sq, small_line (by rw [rs.length, ss.length]; exact hl), fun e => ?_, fun _ e => ?_, fun _ _ p ob hp hd0 => ?_⟩
    · subst e
      cases rs
      exact q _ H (.dat (.tuple es)) g1 (RD.tup hb ss) h
    · subst e
      cases ss
      rw [List.append_nil] at h
      exact q _ H (.dat (.tuple ds)) g1 (RD.tup ha rs) h
    · exact q _ _ (.dat (.tuple (ds ++ es))) (new_ge o g1 hp) (RD.tup (PT.new hd0) (RDs.mono (new_keep o g1 hp) (rs.append ss))) h
  · exact h.elim⟩
/-- texts put together -/
def oCatS : R → R → (R → Prop) → Prop := fun x y Qd => match x, y with
  | .dat (.str a), .dat (.str b) => a.length + b.length ≤ 1000000 ∧ Qd (.dat (.str (a ++ b)))
  | _, _ => False
instance : OpD (fun x y H Q => ∃ i j, x = .str i ∧ y = .str j ∧ i.length + j.length ≤ sizeLine ∧ Q (.str (i ++ j)) H) oCatS := ⟨fun z H v u x y Q Qd o g1 r1 r2 h q => by
  unfold oCatS at h
  split at h
  · rename_i a b
    exact ⟨a, b, rr_str r1, rr_str r2, small_line h.1, q _ H (.dat (.str (a ++ b))) g1 (RD.str _) h.2⟩
  · exact h.elim⟩
/-- is None, is not None -/
def isNoneR : R → Bool
  | .dat .none => true
  | _ => false
theorem isNone_rr {z : Zs} {H : Hp} {v : V} {r : R} (h : RR z H v r) : decide (v = V.non) = isNoneR r := by
  cases r with
  | dat d =>
    have h : RD z.N H v d := h
    cases h <;> first | rfl | (rw [isNoneR]; exact decide_eq_false (fun e => by cases e))
  | new ds => obtain ⟨l, xs, rfl, _⟩ := h; exact decide_eq_false (fun e => by cases e)
  | cur ds => obtain ⟨l, xs, rfl, _⟩ := h; exact decide_eq_false (fun e => by cases e)
  | ins C rs => obtain ⟨x, rfl, _⟩ := h; exact decide_eq_false (fun e => by cases e)
  | src => obtain ⟨x, rfl, _⟩ := h; exact decide_eq_false (fun e => by cases e)
  | scr K ns => obtain ⟨x, rfl, _⟩ := h; exact decide_eq_false (fun e => by cases e)
  | hob u => obtain ⟨x, rfl, _⟩ := h; exact decide_eq_false (fun e => by cases e)
  | nsrc => obtain ⟨x, rfl, _⟩ := h; exact decide_eq_false (fun e => by cases e)
def oIsN (neg : Bool) : R → R → (R → Prop) → Prop := fun x y Qd => match y with
  | .dat .none => Qd (.dat (.bool (if neg then !isNoneR x else isNoneR x)))
  | _ => False
instance : OpD (fun x y H Q => y = .non ∧ Q (.bl (decide (x = .non))) H) (oIsN false) := ⟨fun z H v u x y Q Qd o g1 r1 r2 h q => by
  unfold oIsN at h
  split at h
  · have e : u = .non := by have r2 : RD z.N H u .none := r2; cases r2; rfl
    subst e
    refine ⟨rfl, ?_⟩
    rw [isNone_rr r1]
    exact q _ H (.dat (.bool _)) g1 (RD.bl _) h
  · exact h.elim⟩
instance : OpD (fun x y H Q => y = .non ∧ Q (.bl (!decide (x = .non))) H) (oIsN true) := ⟨fun z H v u x y Q Qd o g1 r1 r2 h q => by
  unfold oIsN at h
  split at h
  · have e : u = .non := by have r2 : RD z.N H u .none := r2; cases r2; rfl
    subst e
    refine ⟨rfl, ?_⟩
    rw [isNone_rr r1]
    exact q _ H (.dat (.bool _)) g1 (RD.bl _) h
  · exact h.elim⟩
/-- == of plain values -/
def oEqS (neg : Bool) : R → R → (R → Prop) → Prop := fun x y Qd => match x, y with
  | .dat (.int i), .dat (.int j) => Qd (.dat (.bool (if neg then !decide (i = j) else decide (i = j))))
  | .dat (.str i), .dat (.str j) => Qd (.dat (.bool (if neg then !decide (i = j) else decide (i = j))))
  | _, _ => False
instance : OpD rEq (oEqS false) := ⟨fun z H v u x y Q Qd o g1 r1 r2 h q => by
  unfold oEqS at h
  split at h
  · rename_i i j
    rw [rr_int r1, rr_int r2]
    refine ⟨rfl, ?_⟩
    have e : decide (V.int i = V.int j) = decide (i = j) := by by_cases e : i = j <;> simp [e]
    rw [e]
    exact q _ H (.dat (.bool _)) g1 (RD.bl _) h
  · rename_i i j
    rw [rr_str r1, rr_str r2]
    refine ⟨rfl, ?_⟩
    have e : decide (V.str i = V.str j) = decide (i = j) := by by_cases e : i = j <;> simp [e]
    rw [e]
    exact q _ H (.dat (.bool _)) g1 (RD.bl _) h
  · exact h.elim⟩
instance : OpD rNe (oEqS true) := ⟨fun z H v u x y Q Qd o g1 r1 r2 h q => by
  unfold oEqS at h
  split at h
  · rename_i i j
    rw [rr_int r1, rr_int r2]
    refine ⟨rfl, ?_⟩
    have e : decide (V.int i = V.int j) = decide (i = j) := by by_cases e : i = j <;> simp [e]
    rw [e]
    exact q _ H (.dat (.bool _)) g1 (RD.bl _) h
  · rename_i i j
    rw [rr_str r1, rr_str r2]
    refine ⟨rfl, ?_⟩
    have e : decide (V.str i = V.str j) = decide (i = j) := by by_cases e : i = j <;> simp [e]
    rw [e]
    exact q _ H (.dat (.bool _)) g1 (RD.bl _) h
  · exact h.elim⟩
def uInt (g : Int → V) : R → (R → Prop) → Prop := fun x Qd => match x with
  | .dat (.int i) => match vD (g i) with
    | some d => Qd (.dat d)
    | none => False
  | _ => False
instance {g : Int → V} : UnD (rU g) (uInt g) := ⟨fun z H v x Q Qd o g1 r1 h q => by
  unfold uInt at h
  split at h
  · rename_i i
    split at h
    · rename_i d hd
      exact ⟨i, rr_int r1, q _ H _ g1 (vD_rr hd) h⟩
    · exact h.elim
  · exact h.elim⟩
/-! ### built-ins -/
def seqD : R → Option (List PyData) := fun r => match r.data with
  | some (.list ds) => some ds
  | some (.tuple ds) => some ds
  | _ => none
theorem seq_rr {z : Zs} {H : Hp} {v : V} {r : R} {ds : List PyData} (K : PySem.W.Frag) (h : RR z H v r) (e : seqD r = some ds) : ∃ a xs, v = .ref a ∧ (SqL K H a xs ∨ SqT K H a xs) ∧ RDs z.N H xs ds := by
  unfold seqD at e
  split at e
  · rename_i ds' e'
    cases e
    obtain ⟨a, xs, rfl, ha, rs⟩ := h.items e'
    exact ⟨a, xs, rfl, .inl (SqL.of ha), rs⟩
  · rename_i ds' e'
    cases e
    obtain ⟨a, xs, rfl, ha, rs⟩ := h.tupl e'
    exact ⟨a, xs, rfl, .inr ha.sq, rs⟩
  · cases e
def cLen : List R → (R → Prop) → Prop := fun rs Qd => match rs with
  | [r] => match seqD r with
    | some ds => Qd (.dat (.int (ds.length : Nat)))
    | none => False
  | _ => False
instance {K : PySem.W.Frag} : CbD (fun xs H Q => ∃ p ys, xs = [.ref p] ∧ (SqL K H p ys ∨ SqT K H p ys) ∧ Q (.int ys.length) H) cLen := ⟨fun z H vs rs Q Qd o g1 r1 h q => by
  unfold cLen at h
  split at h
  · rename_i r
    match vs, r1 with
    | [v], ⟨r1, _⟩ =>
      split at h
      · rename_i ds hd
        obtain ⟨a, xs, rfl, ha, rs⟩ := seq_rr K r1 hd
        refine ⟨a, xs, rfl, ha, ?_⟩
        rw [rs.length]
        exact q _ H (.dat (.int _)) g1 (RD.int _) h
      · exact h.elim
  · exact h.elim⟩
def cList : List R → (R → Prop) → Prop := fun rs Qd => match rs with
  | [r] => match seqD r with
    | some ds => Qd (.new ds)
    | none => False
  | _ => False
instance {K : PySem.W.Frag} : CbD (fun xs H Q => ∃ p ys, xs = [.ref p] ∧ (SqL K H p ys ∨ SqT K H p ys) ∧ ∀ l, H l = none → Q (.ref l) (upd H l (.lst ys))) cList := ⟨fun z H vs rs Q Qd o g1 r1 h q => by
  unfold cList at h
  split at h
  · rename_i r
    match vs, r1 with
    | [v], ⟨r1, _⟩ =>
      split at h
      · rename_i ds hd
        obtain ⟨a, xs, rfl, ha, rs⟩ := seq_rr K r1 hd
        exact ⟨a, xs, rfl, ha, fun p hp => q _ _ (.new ds) (new_ge o g1 hp) ⟨p, _, rfl, g1.fresh hp, upd_same, RDs.mono (new_keepP o g1 hp) rs⟩ h⟩
      · exact h.elim
  · exact h.elim⟩
def cTuple : List R → (R → Prop) → Prop := fun rs Qd => match rs with
  | [r] => match seqD r with
    | some ds => Qd (.dat (.tuple ds))
    | none => False
  | _ => False
instance {K : PySem.W.Frag} : CbD (rTupE K) cTuple := ⟨fun z H vs rs Q Qd o g1 r1 h q => by
  unfold cTuple at h
  split at h
  · rename_i r
    match vs, r1 with
    | [v], ⟨r1, _⟩ =>
      split at h
      · rename_i ds hd
        unfold seqD at hd
        split at hd
        · rename_i ds' e'
          cases hd
          obtain ⟨a, xs, rfl, ha, rs⟩ := r1.items e'
          exact ⟨a, xs, rfl, .inl ⟨SqL.of ha, fun p ob hp hd0 => q _ _ (.dat (.tuple ds)) (new_ge o g1 hp) (RD.tup (PT.new hd0) (RDs.mono (new_keep o g1 hp) rs)) h⟩⟩
        · rename_i ds' e'
          cases hd
          obtain ⟨a, xs, rfl, ha, rs⟩ := r1.tupl e'
          exact ⟨a, xs, rfl, .inr ⟨ha.sq, q _ H (.dat (.tuple ds)) g1 (RD.tup ha rs) h⟩⟩
        · cases hd
      · exact h.elim
  · exact h.elim⟩
def rLenE (K : PySem.W.Frag) : List V → Hp → VK → Prop := fun xs H Q => ∃ p ys, xs = [V.ref p] ∧ (SqL K H p ys ∨ SqT K H p ys) ∧ Q (V.int (ys.length : Nat)) H
def rListE (K : PySem.W.Frag) : List V → Hp → VK → Prop := fun xs H Q => ∃ p ys, xs = [V.ref p] ∧ (SqL K H p ys ∨ SqT K H p ys) ∧ ∀ l, H l = none → Q (.ref l) (upd H l (.lst ys))
instance {K : PySem.W.Frag} : CbD (rLenE K) cLen := ⟨fun z H vs rs Q Qd o g1 r1 h q => CbD.run (r := fun xs H Q => ∃ p ys, xs = [V.ref p] ∧ (SqL K H p ys ∨ SqT K H p ys) ∧ Q (.int ys.length) H) z H vs rs Q Qd o g1 r1 h q⟩
instance {K : PySem.W.Frag} : CbD (rListE K) cList := ⟨fun z H vs rs Q Qd o g1 r1 h q => CbD.run (r := fun xs H Q => ∃ p ys, xs = [V.ref p] ∧ (SqL K H p ys ∨ SqT K H p ys) ∧ ∀ l, H l = none → Q (.ref l) (upd H l (.lst ys))) z H vs rs Q Qd o g1 r1 h q⟩
/-- the truth values of a list -/
def boolsD : List PyData → Option (List Bool)
  | [] => some []
  | .bool b :: ds => (boolsD ds).map (b :: ·)
  | _ => none
theorem bools_rd {N : Addr → Prop} {H : Hp} : ∀ {vs : List V} {ds : List PyData} {bs : List Bool}, RDs N H vs ds → boolsD ds = some bs → vs = bs.map V.bl
  | _, _, bs, .nil, e => by cases e; rfl
  | _, _, bs, .cons h r, e => by
    cases h with
    | bl b =>
      rw [boolsD] at e
      cases q : boolsD _ with
      | none => rw [q] at e; cases e
      | some cs => rw [q] at e; cases e; rw [bools_rd r q]; rfl
    | non => simp [boolsD] at e
    | int i => simp [boolsD] at e
    | str s => simp [boolsD] at e
    | tup _ _ => simp [boolsD] at e
    | lst _ _ _ => simp [boolsD] at e
theorem boolsD_map {α : Type} (f : α → Bool) : ∀ l : List α, boolsD (l.map fun x => .bool (f x)) = some (l.map f)
  | [] => rfl
  | x :: l => by rw [List.map_cons, boolsD, boolsD_map f l]; rfl
def cAll (any : Bool) : List R → (R → Prop) → Prop := fun rs Qd => match rs with
  | [r] => match r.data with
    | some (.list ds) => ∃ bs, boolsD ds = some bs ∧ Qd (.dat (.bool (if any then bs.any id else bs.all id)))
    | _ => False
  | _ => False
instance {K : PySem.W.Frag} : CbD (rAll K) (cAll false) := ⟨fun z H vs rs Q Qd o g1 r1 h q => by
  unfold cAll at h
  split at h
  · rename_i r
    match vs, r1 with
    | [v], ⟨r1, _⟩ =>
      split at h
      · rename_i ds hd
        obtain ⟨bs, hb, h⟩ := h
        obtain ⟨a, xs, rfl, ha, rs⟩ := r1.items hd
        refine ⟨a, bs, rfl, SqL.of (by rw [← bools_rd rs hb]; exact ha), q _ H (.dat (.bool _)) g1 (RD.bl _) h⟩
      · exact h.elim
  · exact h.elim⟩
instance {K : PySem.W.Frag} : CbD (rAny K) (cAll true) := ⟨fun z H vs rs Q Qd o g1 r1 h q => by
  unfold cAll at h
  split at h
  · rename_i r
    match vs, r1 with
    | [v], ⟨r1, _⟩ =>
      split at h
      · rename_i ds hd
        obtain ⟨bs, hb, h⟩ := h
        obtain ⟨a, xs, rfl, ha, rs⟩ := r1.items hd
        refine ⟨a, bs, rfl, SqL.of (by rw [← bools_rd rs hb]; exact ha), q _ H (.dat (.bool _)) g1 (RD.bl _) h⟩
      · exact h.elim
  · exact h.elim⟩
def cMax2 (g : Int → Int → Int) : List R → (R → Prop) → Prop := fun rs Qd => match rs with
  | [.dat (.int i), .dat (.int j)] => Qd (.dat (.int (g i j)))
  | _ => False
theorem cMax2_run {g : Int → Int → Int} {z : Zs} {H : Hp} {vs : List V} {rs : List R} {Q : VK} {Qd : R → Prop} (g1 : Ge z H) (r1 : RRs z H vs rs) (h : cMax2 g rs Qd) (q : ∀ w H' c, Ge z H' → RR z H' w c → Qd c → Q w H') : ∃ i j, vs = [.int i, .int j] ∧ Q (.int (g i j)) H := by
  unfold cMax2 at h
  split at h
  · rename_i i j
    match vs, r1 with
    | [v, u], ⟨r1, r2, _⟩ =>
      rw [rr_int r1, rr_int r2]
      exact ⟨i, j, rfl, q _ H (.dat (.int _)) g1 (RD.int _) h⟩
  · exact h.elim
instance : CbD (fun xs H Q => ∃ i j, xs = [.int i, .int j] ∧ Q (.int (if j > i then j else i)) H) (cMax2 fun i j => if j > i then j else i) := ⟨fun z H vs rs Q Qd o g1 r1 h q => cMax2_run g1 r1 h q⟩
instance : CbD (fun xs H Q => ∃ i j, xs = [.int i, .int j] ∧ Q (.int (if j < i then j else i)) H) (cMax2 fun i j => if j < i then j else i) := ⟨fun z H vs rs Q Qd o g1 r1 h q => cMax2_run g1 r1 h q⟩
def cStrI : List R → (R → Prop) → Prop := fun rs Qd => match rs with
  | [.dat (.int i)] => i.natAbs.log2 < 1920 ∧ Qd (.dat (.str (toString i)))
  | _ => False
instance : CbD (fun xs H Q => ∃ i, xs = [.int i] ∧ i.natAbs.log2 < 1920 ∧ Q (.str (toString i)) H) cStrI := ⟨fun z H vs rs Q Qd o g1 r1 h q => by
  unfold cStrI at h
  split at h
  · rename_i i
    match vs, r1 with
    | [v], ⟨r1, _⟩ =>
      rw [rr_int r1]
      exact ⟨i, rfl, h.1, q _ H (.dat (.str _)) g1 (RD.str _) h.2⟩
  · exact h.elim⟩
/-! ### slices -/
class DO (t : TO) (T : outParam (DEnv → (Option Int → Prop) → Prop)) : Prop where
  run : ∀ (z : Zs) (σ : L2.St) (env : DEnv) (Q : Option Int → Hp → Prop) (Qd : Option Int → Prop), z.Ok → EnvS z σ env → T env Qd → (∀ i H', Ge z H' → Qd i → Q i H') → t σ z.H Q
def dNoPart : DEnv → (Option Int → Prop) → Prop := fun _ Qd => Qd none
instance : DO tNoPart dNoPart := ⟨fun z σ env Q Qd o e h q => q none z.H (Ge.refl o) h⟩
def dPart (Ta : DTE) : DEnv → (Option Int → Prop) → Prop := fun env Qd => Ta env fun r => match r with
  | .dat (.int i) => Qd (some i)
  | _ => False
instance {ta : TE} {Ta : DTE} [DL ta Ta] : DO (tPart ta) (dPart Ta) := ⟨fun z σ env Q Qd o e h q =>
  DL.run (t := ta) z σ env _ _ o e h fun v H1 r g1 r1 h1 => by
    split at h1
    · rename_i i
      exact ⟨i, rr_int r1, q (some i) H1 g1 h1⟩
    · exact h1.elim⟩
class SlD (r : V → Option Int → Option Int → Hp → VK → Prop) (T : outParam (R → Option Int → Option Int → (R → Prop) → Prop)) : Prop where
  run : ∀ (z : Zs) (H : Hp) (v : V) (x : R) (lo hi : Option Int) (Q : VK) (Qd : R → Prop), z.Ok → Ge z H → RR z H v x → T x lo hi Qd → (∀ w H' c, Ge z H' → RR z H' w c → Qd c → Q w H') → r v lo hi H Q
def dSl (T : R → Option Int → Option Int → (R → Prop) → Prop) (Ta : DTE) (Tl Th : DEnv → (Option Int → Prop) → Prop) : DTE := fun env Qd => Ta env fun x => Tl env fun lo => Th env fun hi => T x lo hi Qd
instance {r : V → Option Int → Option Int → Hp → VK → Prop} {ta : TE} {tl th : TO} {T : R → Option Int → Option Int → (R → Prop) → Prop} {Ta : DTE} {Tl Th : DEnv → (Option Int → Prop) → Prop} [SlD r T] [DL ta Ta] [DO tl Tl] [DO th Th] : DL (tSl r ta tl th) (dSl T Ta Tl Th) := ⟨fun z σ env Q Qd o e h q =>
  DL.run (t := ta) z σ env _ _ o e h fun v H1 x g1 r1 h1 => DO.run (t := tl) (z.at H1) σ env _ _ (g1.ok o) (e.on o g1) h1 fun lo H2 g2 h2 => DO.run (t := th) (z.at H2) σ env _ _ (Ge.ok (z := z.at H1) (g1.ok o) g2) (EnvS.on (z := z.at H1) (g1.ok o) g2 (e.on o g1)) h2 fun hi H3 g3 h3 =>
    SlD.run (r := r) z H3 v x lo hi Q Qd o ((g1.trans g2).trans g3) ((r1.on o g1 g2).on o (g1.trans g2) g3) h3 q⟩
def cutD {α : Type} (xs : List α) (lo hi : Option Int) : List α := (xs.drop (HT.sIx xs.length 0 lo)).take (HT.sIx xs.length xs.length hi - HT.sIx xs.length 0 lo)
theorem cut_eq (xs : List V) (lo hi : Option Int) : cutV xs lo hi = cutD xs lo hi := rfl
theorem RDs.cut {N : Addr → Prop} {H : Hp} {vs : List V} {ds : List PyData} (h : RDs N H vs ds) (lo hi : Option Int) : RDs N H (cutV vs lo hi) (cutD ds lo hi) := by
  rw [cut_eq]
  unfold cutD
  rw [h.length]
  exact (h.drop _).take _
def slL : R → Option Int → Option Int → (R → Prop) → Prop := fun x lo hi Qd => match x.data with
  | some (.list ds) => Qd (.new (cutD ds lo hi))
  | _ => False
instance {K : PySem.W.Frag} : SlD (rSlL K) slL := ⟨fun z H v x lo hi Q Qd o g1 r1 h q => by
  unfold slL at h
  split at h
  · rename_i ds hd
    obtain ⟨a, xs, rfl, ha, rs⟩ := r1.items hd
    exact ⟨a, xs, rfl, SqL.of ha, fun p hp => q _ _ (.new _) (new_ge o g1 hp) ⟨p, _, rfl, g1.fresh hp, upd_same, RDs.mono (new_keepP o g1 hp) (rs.cut lo hi)⟩ h⟩
  · exact h.elim⟩
def slT : R → Option Int → Option Int → (R → Prop) → Prop := fun x lo hi Qd => match x.data with
  | some (.tuple ds) => Qd (.dat (.tuple (cutD ds lo hi)))
  | _ => False
instance {K : PySem.W.Frag} : SlD (rSlF K) slT := ⟨fun z H v x lo hi Q Qd o g1 r1 h q => by
  unfold slT at h
  split at h
  · rename_i ds hd
    obtain ⟨a, xs, rfl, ha, rs⟩ := r1.tupl hd
    refine ⟨a, xs, rfl, ha.sq, fun hw => ?_, fun _ p ob hp hd0 => q _ _ (.dat (.tuple _)) (new_ge o g1 hp) (RD.tup (PT.new hd0) (RDs.mono (new_keep o g1 hp) (rs.cut lo hi))) h⟩
    have e : cutD ds lo hi = ds := by
      unfold cutD
      rw [← rs.length, hw.1, hw.2, List.drop_zero, Nat.sub_zero, rs.length]
      exact List.take_length
    rw [e] at h
    exact q _ H (.dat (.tuple ds)) g1 (RD.tup ha rs) h
  · exact h.elim⟩
/-- xs[::-1] of a list -/
def dRevL (Ta : DTE) : DTE := fun env Qd => Ta env fun x => match x.data with
  | some (.list ds) => Qd (.new ds.reverse)
  | _ => False
instance {K : PySem.W.Frag} {ta : TE} {Ta : DTE} [DL ta Ta] : DL (tRevL K ta) (dRevL Ta) := ⟨fun z σ env Q Qd o e h q =>
  DL.run (t := ta) z σ env _ _ o e h fun v H1 x g1 r1 h1 => by
    split at h1
    · rename_i ds hd
      obtain ⟨a, xs, rfl, ha, rs⟩ := r1.items hd
      exact ⟨a, xs, rfl, SqL.of ha, fun p hp => q _ _ (.new _) (new_ge o g1 hp) ⟨p, _, rfl, g1.fresh hp, upd_same, RDs.mono (new_keepP o g1 hp) rs.reverse⟩ h1⟩
    · exact h1.elim⟩
/-- a <= b <= c of ints -/
def dChain (g g' : Int → Int → V) (Ta Tb Tc : DTE) : DTE := fun env Qd => Ta env fun x => Tb env fun y => match x, y with
  | .dat (.int i), .dat (.int j) => match g i j with
    | .bl b => if b = true then Tc env fun w => match w with
        | .dat (.int k) => match vD (g' j k) with
          | some d => Qd (.dat d)
          | none => False
        | _ => False
      else Qd (.dat (.bool false))
    | _ => False
  | _, _ => False
instance {g g' : Int → Int → V} {ta tb tc : TE} {Ta Tb Tc : DTE} [DL ta Ta] [DL tb Tb] [DL tc Tc] : DL (tChain (rI0 g) (rI0 g') ta tb tc) (dChain g g' Ta Tb Tc) := ⟨fun z σ env Q Qd o e h q =>
  DL.run (t := ta) z σ env _ _ o e h fun v H1 x g1 r1 h1 => DL.run (t := tb) (z.at H1) σ env _ _ (g1.ok o) (e.on o g1) h1 fun u H2 y g2 r2 h2 => by
    split at h2
    · rename_i i j
      split at h2
      · rename_i b hb
        refine ⟨i, j, rr_int r1, rr_int r2, b, hb, ?_⟩
        cases b with
        | false => exact q (.bl false) H2 (.dat (.bool false)) (g1.trans g2) (RD.bl false) h2
        | true =>
          refine DL.run (t := tc) (z.at H2) σ env _ _ (Ge.ok (z := z.at H1) (g1.ok o) g2) (EnvS.on (z := z.at H1) (g1.ok o) g2 (e.on o g1)) h2 fun w H3 c g3 r3 h3 => ?_
          split at h3
          · rename_i k
            split at h3
            · rename_i d hd
              exact ⟨j, k, rr_int r2, rr_int r3, q _ H3 (.dat d) ((g1.trans g2).trans g3) (vD_rr hd) h3⟩
            · exact h3.elim
          · exact h3.elim
      · exact h2.elim
    · exact h2.elim⟩
end Cr

namespace Cr
open PySem PySem.Spec PyProof.Rows L2
variable [Tbl]

/-! ### slots -/
theorem SvR.grow {z z' : Zs} {v : V} {sv : SV} (kn : KeepN z.N z.H z'.N z'.H) (ho : ∀ b u, z.N b → ¬ z.S b → z.H b = some u → Fx u → z'.H b = some u) (hN : ∀ b, z.N b → z'.N b) (hS : ∀ b, z.S b → z'.S b) (hS' : ∀ b, z'.S b → z.S b ∨ z.H b = none) (h : SvR z v sv) : SvR z' v sv := by
  cases sv with
  | dat d => exact RD.mono kn h
  | ins C rs => obtain ⟨x, rfl, q⟩ := h; exact ⟨x, rfl, q.keep kn⟩
  | src => obtain ⟨x, rfl, q⟩ := h; exact ⟨x, rfl, hS _ q⟩
  | scr K ns => obtain ⟨x, rfl, q⟩ := h; exact ⟨x, rfl, q.keep kn⟩
  | hob u => obtain ⟨x, rfl, q, n⟩ := h; exact ⟨x, rfl, kn.k _ _ (fun w => by obtain ⟨ys, e⟩ := kn.l _ w; rw [q] at e; exact n.1 ys (Option.some.inj e)) q n.2, n⟩
  | own ds =>
    obtain ⟨l, xs, rfl, h0, hs, h1, h2⟩ := h
    exact ⟨l, xs, rfl, hN _ h0, fun q => (hS' _ q).elim hs (fun w => by rw [h1] at w; cases w), ho _ _ h0 hs h1 (fun _ z => by cases z), RDs.mono kn h2⟩
theorem EnvS.grow {z z' : Zs} {σ : L2.St} {env : DEnv} (kn : KeepN z.N z.H z'.N z'.H) (ho : ∀ b u, z.N b → ¬ z.S b → z.H b = some u → Fx u → z'.H b = some u) (hN : ∀ b, z.N b → z'.N b) (hS : ∀ b, z.S b → z'.S b) (hS' : ∀ b, z'.S b → z.S b ∨ z.H b = none) (h : EnvS z σ env) : EnvS z' σ env :=
  ⟨h.len, fun i sv e => let ⟨v, e1, e2⟩ := h.slot i sv e; ⟨v, e1, e2.grow kn ho hN hS hS'⟩, h.inj⟩
theorem EnvS.set {z : Zs} {σ : L2.St} {env : DEnv} {v : V} {sv : SV} (h : EnvS z σ env) (i : Nat) (hv : SvR z v sv) (fr : ∀ ds : List PyData, sv = SV.own ds → ∀ (j : Nat) (es : List PyData), env[j]? = some (some (SV.own es)) → σ[j]? ≠ some (some v)) : EnvS z (σ.set i (some v)) (env.set i (some sv)) := by
  refine ⟨by rw [List.length_set, List.length_set]; exact h.len, fun j sv' e => ?_, fun j k ds es e1 e2 e3 => ?_⟩
  · by_cases hij : i = j
    · subst hij
      have hl : i < env.length := by
        have := (List.getElem?_eq_some_iff.mp e).1
        rw [List.length_set] at this
        exact this
      rw [List.getElem?_set_self hl] at e
      cases e
      exact ⟨v, List.getElem?_set_self (by rw [← h.len]; exact hl), hv⟩
    · rw [List.getElem?_set_ne hij] at e
      obtain ⟨w, e1, e2⟩ := h.slot j sv' e
      exact ⟨w, by rw [List.getElem?_set_ne hij]; exact e1, e2⟩
  · by_cases h1 : i = j
    · subst h1
      by_cases h2 : i = k
      · exact h2
      · have hl : i < env.length := by
          have := (List.getElem?_eq_some_iff.mp e1).1
          rw [List.length_set] at this
          exact this
        rw [List.getElem?_set_self hl] at e1
        rw [List.getElem?_set_ne h2] at e2
        rw [List.getElem?_set_self (by rw [← h.len]; exact hl), List.getElem?_set_ne h2] at e3
        exact absurd e3.symm (fr ds (by injection e1 with e1; injection e1) k es e2)
    · by_cases h2 : i = k
      · subst h2
        have hl : i < env.length := by
          have := (List.getElem?_eq_some_iff.mp e2).1
          rw [List.length_set] at this
          exact this
        rw [List.getElem?_set_self hl] at e2
        rw [List.getElem?_set_ne h1] at e1
        rw [List.getElem?_set_self (by rw [← h.len]; exact hl), List.getElem?_set_ne h1] at e3
        exact absurd e3 (fr es (by injection e2 with e2; injection e2) j ds e1)
      · rw [List.getElem?_set_ne h1] at e1
        rw [List.getElem?_set_ne h2] at e2
        rw [List.getElem?_set_ne h1, List.getElem?_set_ne h2] at e3
        exact h.inj j k ds es e1 e2 e3
theorem EnvS.none {z : Zs} {σ : L2.St} {env : DEnv} (h : EnvS z σ env) (i : Nat) : EnvS z σ (env.set i Option.none) := by
  have sub : ∀ (j : Nat) (sv : SV), (env.set i Option.none)[j]? = some (some sv) → env[j]? = some (some sv) := fun j sv e => by
    by_cases hij : i = j
    · subst hij
      have hl : i < env.length := by
        have := (List.getElem?_eq_some_iff.mp e).1
        rw [List.length_set] at this
        exact this
      rw [List.getElem?_set_self hl] at e
      cases e
    · rwa [List.getElem?_set_ne hij] at e
  exact ⟨by rw [List.length_set]; exact h.len, fun j sv e => h.slot j sv (sub j sv e), fun j k ds es e1 e2 => h.inj j k ds es (sub _ _ e1) (sub _ _ e2)⟩
theorem EnvS.noneσ {z : Zs} {σ : L2.St} {env : DEnv} (h : EnvS z σ env) (i : Nat) : EnvS z (σ.set i Option.none) (env.set i Option.none) := by
  have sub : ∀ (j : Nat) (sv : SV), (env.set i Option.none)[j]? = some (some sv) → i ≠ j ∧ env[j]? = some (some sv) := fun j sv e => by
    by_cases hij : i = j
    · subst hij
      have hl : i < env.length := by
        have := (List.getElem?_eq_some_iff.mp e).1
        rw [List.length_set] at this
        exact this
      rw [List.getElem?_set_self hl] at e
      cases e
    · rw [List.getElem?_set_ne hij] at e
      exact ⟨hij, e⟩
  refine ⟨by rw [List.length_set, List.length_set]; exact h.len, fun j sv e => ?_, fun j k ds es e1 e2 e3 => ?_⟩
  · obtain ⟨n, e⟩ := sub j sv e
    obtain ⟨v, q1, q2⟩ := h.slot j sv e
    exact ⟨v, by rw [List.getElem?_set_ne n]; exact q1, q2⟩
  · obtain ⟨n1, e1⟩ := sub _ _ e1
    obtain ⟨n2, e2⟩ := sub _ _ e2
    rw [List.getElem?_set_ne n1, List.getElem?_set_ne n2] at e3
    exact h.inj j k ds es e1 e2 e3
def wipeE (env : DEnv) : List Nat → DEnv
  | [] => env
  | v :: vs => (wipeE env vs).set v none
theorem EnvS.wipe {z : Zs} {σ : L2.St} {env : DEnv} (h : EnvS z σ env) : ∀ vs : List Nat, EnvS z (L2.wipe σ vs) (wipeE env vs)
  | [] => h
  | v :: vs => (h.wipe vs).noneσ v

/-! ### targets of data -/
/-- a store makes no list of its own, and moves none -/
def Ow (σ : L2.St) (env : DEnv) (σ' : L2.St) (env' : DEnv) : Prop := ∀ (i : Nat) (ds : List PyData), env'[i]? = some (some (SV.own ds)) → env[i]? = some (some (SV.own ds)) ∧ σ'[i]? = σ[i]?
theorem Ow.trans {σ σ1 σ2 : L2.St} {env env1 env2 : DEnv} (a : Ow σ env σ1 env1) (b : Ow σ1 env1 σ2 env2) : Ow σ env σ2 env2 := fun i ds h => let ⟨h1, h2⟩ := b i ds h; let ⟨h3, h4⟩ := a i ds h1; ⟨h3, h2.trans h4⟩
class DG (g : TG) (T : outParam (PyData → DEnv → (DEnv → Prop) → Prop)) (ix : outParam (List Nat)) : Prop where
  run : ∀ (z : Zs) (σ : L2.St) (env : DEnv) (v : V) (d : PyData) (Q : L2.St → Hp → Prop) (Qe : DEnv → Prop), z.Ok → EnvS z σ env → RD z.N z.H v d → T d env Qe →
    (∀ (σ' : L2.St) (env' : DEnv), EnvS z σ' env' → σ'.length = σ.length → (∀ j : Nat, j ∉ ix → σ'[j]? = σ[j]?) → Ow σ env σ' env' → Qe env' → Q σ' z.H) → g v σ z.H Q
class DGs (g : TGs) (T : outParam (List PyData → DEnv → (DEnv → Prop) → Prop)) (ix : outParam (List Nat)) : Prop where
  run : ∀ (z : Zs) (σ : L2.St) (env : DEnv) (vs : List V) (ds : List PyData) (Q : L2.St → Hp → Prop) (Qe : DEnv → Prop), z.Ok → EnvS z σ env → RDs z.N z.H vs ds → T ds env Qe →
    (∀ (σ' : L2.St) (env' : DEnv), EnvS z σ' env' → σ'.length = σ.length → (∀ j : Nat, j ∉ ix → σ'[j]? = σ[j]?) → Ow σ env σ' env' → Qe env' → Q σ' z.H) → g vs σ z.H Q
def dgName (i : Nat) : PyData → DEnv → (DEnv → Prop) → Prop := fun d env Qe => Qe (env.set i (some (.dat d)))
instance (i : Nat) : DG (gName i) (dgName i) [i] := ⟨fun z σ env v d Q Qe o e hv h q =>
  q _ _ (e.set (sv := .dat d) i hv (fun ds z => by cases z)) List.length_set (fun j hj => List.getElem?_set_ne (fun w => hj (by rw [w]; exact List.mem_cons_self))) (fun j ds hj => by
    by_cases w : i = j
    · subst w
      have hl : i < env.length := by have := (List.getElem?_eq_some_iff.mp hj).1; rw [List.length_set] at this; exact this
      rw [List.getElem?_set_self hl] at hj
      cases hj
    · rw [List.getElem?_set_ne w] at hj
      exact ⟨hj, List.getElem?_set_ne w⟩) h⟩
def dgNil : List PyData → DEnv → (DEnv → Prop) → Prop := fun ds env Qe => match ds with
  | [] => Qe env
  | _ => False
instance : DGs gNil dgNil [] := ⟨fun z σ env vs ds Q Qe o e hv h q => by
  unfold dgNil at h
  split at h
  · cases hv
    exact ⟨rfl, q σ env e rfl (fun _ _ => rfl) (fun _ _ w => ⟨w, rfl⟩) h⟩
  · exact h.elim⟩
def dgCons (T : PyData → DEnv → (DEnv → Prop) → Prop) (U : List PyData → DEnv → (DEnv → Prop) → Prop) : List PyData → DEnv → (DEnv → Prop) → Prop := fun ds env Qe => match ds with
  | d :: ds => T d env fun env' => U ds env' Qe
  | [] => False
instance {g : TG} {gs : TGs} {T : PyData → DEnv → (DEnv → Prop) → Prop} {U : List PyData → DEnv → (DEnv → Prop) → Prop} {ix jx : List Nat} [DG g T ix] [DGs gs U jx] : DGs (gCons g gs) (dgCons T U) (ix ++ jx) := ⟨fun z σ env vs ds Q Qe o e hv h q => by
  unfold dgCons at h
  split at h
  · cases hv with
    | cons h1 h2 =>
      exact ⟨_, _, rfl, DG.run (g := g) z σ env _ _ _ _ o e h1 h fun σ' env' e' l' k' w' q' => DGs.run (g := gs) z σ' env' _ _ Q Qe o e' h2 q' fun σ2 env2 e2 l2 k2 w2 q2 =>
        q σ2 env2 e2 (l2.trans l') (fun j hj => (k2 j fun w => hj (List.mem_append_right _ w)).trans (k' j fun w => hj (List.mem_append_left _ w))) (w'.trans w2) q2⟩
  · exact h.elim⟩
def dgTup (n : Nat) (U : List PyData → DEnv → (DEnv → Prop) → Prop) : PyData → DEnv → (DEnv → Prop) → Prop := fun d env Qe => match d with
  | .tuple ds => ds.length = n ∧ U ds env Qe
  | _ => False
instance {K : PySem.W.Frag} {n : Nat} {gs : TGs} {U : List PyData → DEnv → (DEnv → Prop) → Prop} {jx : List Nat} [DGs gs U jx] : DG (gTup K n gs) (dgTup n U) jx := ⟨fun z σ env v d Q Qe o e hv h q => by
  unfold dgTup at h
  split at h
  · cases hv with
    | tup h1 h2 => exact ⟨_, _, rfl, h1.sq, by rw [h2.length]; exact h.1, DGs.run (g := gs) z σ env _ _ Q Qe o e h2 h.2 q⟩
  · exact h.elim⟩
theorem wipe_get {σ : L2.St} : ∀ {vs : List Nat} {j : Nat}, j ∉ vs → (L2.wipe σ vs)[j]? = σ[j]?
  | [], _, _ => rfl
  | v :: vs, j, h => by
    show ((L2.wipe σ vs).set v none)[j]? = _
    rw [List.getElem?_set_ne (fun w => h (by rw [w]; exact List.mem_cons_self))]
    exact wipe_get fun w => h (List.mem_cons_of_mem _ w)
theorem wipe_in {σ : L2.St} : ∀ {vs : List Nat} {j : Nat}, j ∈ vs → j < σ.length → (L2.wipe σ vs)[j]? = some none
  | v :: vs, j, h, hl => by
    show ((L2.wipe σ vs).set v none)[j]? = _
    by_cases w : v = j
    · subst w
      exact List.getElem?_set_self (by rw [wipe_length]; exact hl)
    · rw [List.getElem?_set_ne w]
      exact wipe_in ((List.mem_cons.mp h).resolve_left fun z => w z.symm) hl
theorem wipe_same {σ τ : L2.St} {vs : List Nat} (hl : τ.length = σ.length) (h : ∀ j, j ∉ vs → τ[j]? = σ[j]?) : L2.wipe τ vs = L2.wipe σ vs := by
  refine List.ext_getElem? fun j => ?_
  by_cases hj : j ∈ vs
  · by_cases hlt : j < σ.length
    · rw [wipe_in hj hlt, wipe_in hj (by omega)]
    · rw [List.getElem?_eq_none (by rw [wipe_length]; omega), List.getElem?_eq_none (by rw [wipe_length]; omega)]
  · rw [wipe_get hj, wipe_get hj, h j hj]

/-! ### what is walked -/
/-- what may move -/
def Mv (M : Addr → Prop) (H H' : Hp) : Prop := ∀ b o, ¬ M b → H b = some o → Fx o → H' b = some o
def WkD (M N : Addr → Prop) (J : It) (ds : List PyData) (H1 : Hp) : Prop := ∀ H', Mv M H1 H' → ∀ i : Nat, (∀ d, ds[i]? = some d → J.go i H' ∧ ∀ x H'', J.yld i H' x H'' → Same H' H'' ∧ ((∀ b, N b → ∃ xs, H1 b = some (.lst xs)) → ∀ N', (∀ b, N' b → N b ∨ H1 b = none) → RD N' H'' x d)) ∧ (ds.length ≤ i → J.stop i H')
class DI (wi : TI) (T : outParam (DEnv → (List PyData → Bool → Prop) → Prop)) : Prop where
  run : ∀ (z : Zs) (σ : L2.St) (env : DEnv) (R : It → Hp → Prop) (Qd : List PyData → Bool → Prop), z.Ok → EnvS z σ env → T env Qd →
    (∀ ds st J H' (av : Addr → Prop), Ge z H' → (∀ b, av b → ¬ z.S b ∧ ∃ o, H' b = some o) → (st = true → ∀ b, av b → ¬ z.N b) →
      (∀ M : Addr → Prop, (∀ b, M b → z.N b ∨ H' b = none) → (∀ b, av b → ¬ M b) → WkD M z.N J ds H') → Qd ds st → R J H') → wi σ z.H R
theorem rd_moved {M N N' : Addr → Prop} {H1 H2 : Hp} {v : V} {d : PyData} (hM : ∀ b, M b → N b ∨ H1 b = none) (mv : Mv M H1 H2) (hl : ∀ b, N b → ∃ xs, H1 b = some (.lst xs)) (hN : ∀ b, N' b → N b ∨ H1 b = none) (h : RD N H1 v d) : RD N' H2 v d :=
  RD.mono ⟨fun b u n e t => mv b u (fun m => (hM b m).elim n fun w => by rw [e] at w; cases w) e t, hN, hl⟩ h
def R.st : R → Bool
  | .cur _ => false
  | _ => true
def diList (Ta : DTE) : DEnv → (List PyData → Bool → Prop) → Prop := fun env Qd => Ta env fun r => match r.data with
  | some (.list ds) => Qd ds r.st
  | _ => False
theorem wk_list {M N : Addr → Prop} {K : PySem.W.Frag} {a : Addr} {xs : List V} {ds : List PyData} {H1 : Hp} (hM : ∀ b, M b → N b ∨ H1 b = none) (ha : ¬ M a) (h1 : H1 a = some (.lst xs)) (rs : RDs N H1 xs ds) : WkD M N (Itl K a) ds H1 := by
  intro H' mv i
  have h2 := mv a _ ha h1 (fun _ z => by cases z)
  refine ⟨fun d hd => ?_, fun hi => ⟨xs, SqL.of h2, by rw [rs.length]; exact hi⟩⟩
  obtain ⟨v, e1, e2⟩ := rs.get hd
  refine ⟨⟨xs, v, SqL.of h2, e1⟩, ?_⟩
  rintro x H'' ⟨rfl, hx⟩
  have ex := hx xs (SqL.of h2)
  rw [e1] at ex
  cases ex
  exact ⟨Same.refl _, fun hl N' hN => rd_moved hM mv hl hN e2⟩
instance {K : PySem.W.Frag} {ta : TE} {Ta : DTE} [DL ta Ta] : DI (iList K ta) (diList Ta) := ⟨fun z σ env R Qd o e h q =>
  DL.run (t := ta) z σ env _ _ o e h fun v H1 r g1 r1 h1 => by
    split at h1
    · rename_i ds hd
      obtain ⟨a, xs, rfl, ha, rs⟩ := r1.items hd
      refine ⟨a, rfl, ⟨xs, SqL.of ha⟩, q ds r.st _ H1 (fun b => b = a) g1 (fun b hb => ?_) (fun st b hb => ?_) (fun M hM hav => wk_list hM (hav a rfl) ha rs) h1⟩
      · subst hb
        refine ⟨fun s => ?_, _, ha⟩
        have := r1.rdS o hd
        cases this with
        | lst n _ _ => exact n s
      · subst hb
        intro n
        cases r with
        | cur ds' => cases st
        | dat d => cases hd; cases r1 with | lst w _ _ => exact w n
        | new ds' =>
          obtain ⟨l, ys, e1, e2, _⟩ := r1
          cases e1
          obtain ⟨_, w⟩ := o.lst _ n
          rw [e2] at w; cases w
        | ins C rs => cases hd
        | src => cases hd
        | scr K ns => cases hd
        | nsrc => cases hd
        | hob u => cases hd
    · exact h1.elim⟩
def diTup (Ta : DTE) : DEnv → (List PyData → Bool → Prop) → Prop := fun env Qd => Ta env fun r => match r.data with
  | some (.tuple ds) => Qd ds true
  | _ => False
theorem wk_tup {M N : Addr → Prop} {K : PySem.W.Frag} {a : Addr} {xs : List V} {ds : List PyData} {H1 : Hp} (hM : ∀ b, M b → N b ∨ H1 b = none) (ha : ¬ M a) (h1 : PT H1 a xs) (rs : RDs N H1 xs ds) : WkD M N (Itt K a) ds H1 := by
  intro H' mv i
  have h2 : PT H' a xs := h1.onX fun u w t => mv a u ha w t
  refine ⟨fun d hd => ?_, fun hi => ⟨xs, h2.sq, by rw [rs.length]; exact hi⟩⟩
  obtain ⟨v, e1, e2⟩ := rs.get hd
  refine ⟨⟨xs, v, h2.sq, e1⟩, ?_⟩
  rintro x H'' ⟨rfl, hx⟩
  have ex := hx xs h2.sq
  rw [e1] at ex
  cases ex
  exact ⟨Same.refl _, fun hl N' hN => rd_moved hM mv hl hN e2⟩
theorem tup_out {z : Zs} {H1 : Hp} {a : Addr} {xs : List V} (o : z.Ok) (g : Ge z H1) (ha : PT H1 a xs) : ¬ z.N a := fun n => by
  obtain ⟨ys, e⟩ := (g.ok o).lst a n
  exact ha.no e
instance {K : PySem.W.Frag} {ta : TE} {Ta : DTE} [DL ta Ta] : DI (iTup K ta) (diTup Ta) := ⟨fun z σ env R Qd o e h q =>
  DL.run (t := ta) z σ env _ _ o e h fun v H1 r g1 r1 h1 => by
    split at h1
    · rename_i ds hd
      obtain ⟨a, xs, rfl, ha, rs⟩ := r1.tupl hd
      refine ⟨a, rfl, ⟨xs, ha.sq⟩, q ds true _ H1 (fun b => b = a) g1 (fun b hb => ?_) (fun st b hb => ?_) (fun M hM hav => wk_tup hM (hav a rfl) ha rs) h1⟩
      · subst hb
        exact ⟨fun s => tup_out o g1 ha (o.sn _ s), ha.old⟩
      · subst hb
        exact tup_out o g1 ha
    · exact h1.elim⟩
def rangeD (lo : Int) (n : Nat) : List PyData := (List.range n).map fun (k : Nat) => PyData.int (lo + (k : Int))
theorem rangeD_get {lo : Int} {n i : Nat} {d : PyData} (h : (rangeD lo n)[i]? = some d) : i < n ∧ d = .int (lo + (i : Int)) := by
  unfold rangeD at h
  rw [List.getElem?_map] at h
  cases e : (List.range n)[i]? with
  | none => rw [e] at h; cases h
  | some k =>
    rw [e] at h
    obtain ⟨hk, ek⟩ := List.getElem?_eq_some_iff.mp e
    rw [List.getElem_range] at ek
    subst ek
    rw [List.length_range] at hk
    exact ⟨hk, (Option.some.inj h).symm⟩
theorem rangeD_len (lo : Int) (n : Nat) : (rangeD lo n).length = n := by unfold rangeD; rw [List.length_map, List.length_range]
theorem wk_rng {M N : Addr → Prop} {lo : Int} {n : Nat} {H1 : Hp} : WkD M N (Itr lo n) (rangeD lo n) H1 := by
  intro H' mv i
  refine ⟨fun d hd => ?_, fun hi => by rw [rangeD_len] at hi; exact hi⟩
  obtain ⟨hi, rfl⟩ := rangeD_get hd
  refine ⟨hi, ?_⟩
  rintro x H'' ⟨rfl, rfl⟩
  exact ⟨Same.refl _, fun _ _ _ => .int _⟩
def diRng1 (Ta : DEnv → (List R → Prop) → Prop) : DEnv → (List PyData → Bool → Prop) → Prop := fun env Qd => Ta env fun rs => match rs with
  | [.dat (.int j)] => (-(2 ^ 62) ≤ j ∧ j < 2 ^ 62) ∧ Qd (rangeD 0 j.toNat) true
  | _ => False
instance {ta : TA} {Ta : DEnv → (List R → Prop) → Prop} [DA ta Ta] : DI (iRng1 ta) (diRng1 Ta) := ⟨fun z σ env R Qd o e h q =>
  DA.run (t := ta) z σ env _ _ o e h fun vs H1 rs g1 r1 h1 => by
    split at h1
    · rename_i j
      match vs, r1 with
      | [v], ⟨r1, _⟩ =>
        rw [rr_int r1]
        exact ⟨j, rfl, h1.1.1, h1.1.2, q _ true _ H1 (fun _ => False) g1 (fun _ z => z.elim) (fun _ _ z => z.elim) (fun M _ _ => wk_rng) h1.2⟩
    · exact h1.elim⟩
def diRng2 (Ta : DEnv → (List R → Prop) → Prop) : DEnv → (List PyData → Bool → Prop) → Prop := fun env Qd => Ta env fun rs => match rs with
  | [.dat (.int i), .dat (.int j)] => (-(2 ^ 62) ≤ i ∧ i < 2 ^ 62 ∧ -(2 ^ 62) ≤ j ∧ j < 2 ^ 62) ∧ Qd (rangeD i (j - i).toNat) true
  | _ => False
instance {ta : TA} {Ta : DEnv → (List R → Prop) → Prop} [DA ta Ta] : DI (iRng2 ta) (diRng2 Ta) := ⟨fun z σ env R Qd o e h q =>
  DA.run (t := ta) z σ env _ _ o e h fun vs H1 rs g1 r1 h1 => by
    split at h1
    · rename_i i j
      match vs, r1 with
      | [v, u], ⟨r1, r2, _⟩ =>
        rw [rr_int r1, rr_int r2]
        exact ⟨i, j, rfl, h1.1, q _ true _ H1 (fun _ => False) g1 (fun _ z => z.elim) (fun _ _ z => z.elim) (fun M _ _ => wk_rng) h1.2⟩
    · exact h1.elim⟩
/-- (0, x), (1, y), .. -/
def enumD : Nat → List PyData → List PyData
  | _, [] => []
  | n, d :: ds => .tuple [.int (n : Nat), d] :: enumD (n + 1) ds
theorem enumD_get : ∀ {ds : List PyData} {n i : Nat} {d : PyData}, (enumD n ds)[i]? = some d → ∃ e, ds[i]? = some e ∧ d = .tuple [.int ((n + i : Nat) : Int), e]
  | [], _, _, _, h => by simp [enumD] at h
  | e :: ds, n, 0, d, h => by
    simp [enumD] at h
    exact ⟨e, rfl, by rw [← h]; rfl⟩
  | e :: ds, n, i + 1, d, h => by
    rw [enumD] at h
    obtain ⟨e', h1, h2⟩ := enumD_get (ds := ds) (n := n + 1) (i := i) (by simpa using h)
    exact ⟨e', by simpa using h1, by rw [h2]; congr 4; omega⟩
theorem enumD_len : ∀ (n : Nat) (ds : List PyData), (enumD n ds).length = ds.length
  | _, [] => rfl
  | n, _ :: ds => congrArg Nat.succ (enumD_len (n + 1) ds)
/-! ### comprehensions -/
@[irreducible] def dLc (Ti : DEnv → (List PyData → Bool → Prop) → Prop) (Tg : PyData → DEnv → (DEnv → Prop) → Prop) (Tt : DEnv → (Bool → Prop) → Prop) (Te : DTE) (vs : List Nat) : DTE := fun env Qd => Ti env fun ds _ => ds.length ≤ 1000000 ∧
  ∃ Inv : Nat → List PyData → Prop, Inv 0 [] ∧ (∀ (i : Nat) (d : PyData) (acc : List PyData), ds[i]? = some d → Inv i acc → Tg d (wipeE env vs) fun env2 => Tt env2 fun b =>
    if b = true then Te env2 fun r => match r.stay with | some e => Inv (i + 1) (acc ++ [e]) | none => False else Inv (i + 1) acc) ∧ ∀ acc, Inv ds.length acc → Qd (.new acc)
theorem dlc_run {wi : TI} {g : TG} {tt : TT} {te : TE} {vs ix : List Nat} {Ti : DEnv → (List PyData → Bool → Prop) → Prop} {Tg : PyData → DEnv → (DEnv → Prop) → Prop} {Tt : DEnv → (Bool → Prop) → Prop} {Te : DTE} [DI wi Ti] [DG g Tg ix] [DT tt Tt] [DL te Te] (hix : ∀ j ∈ ix, j ∈ vs) : DL (tLc wi g tt te vs) (dLc Ti Tg Tt Te vs) := ⟨fun z σ env Q Qd o e h q => by
  unfold dLc at h
  refine DI.run (wi := wi) z σ env _ _ o e h fun ds st J H1 av g1 hav _ wk h1 => ?_
  obtain ⟨hsz, Inv, i0, turn, fin⟩ := h1
  intro D hD
  have o1 := g1.ok o
  have e1 := e.on o g1
  have hDS : ¬ z.S D := fun s => by obtain ⟨_, _, _, w⟩ := g1.s D s; rw [hD] at w; cases w
  have wk' := wk (fun b => z.S b ∨ b = D) (fun b hb => hb.elim (fun s => .inl (o.sn b s)) fun w => .inr (by rw [w]; exact hD)) (fun b hb w => w.elim (hav b hb).1 fun w => by obtain ⟨u, hu⟩ := (hav b hb).2; rw [w, hD] at hu; cases hu)
  refine ⟨fun i m H => m = ds.length - i ∧ i ≤ ds.length ∧ ∃ acc xs, H D = some (.lst xs) ∧ RDs (fun b => z.N b ∨ b = D) H xs acc ∧ Inv i acc ∧ acc.length ≤ i ∧ Ge (z.at H1) H,
    ⟨_, rfl, Nat.zero_le _, [], [], upd_same, .nil, i0, Nat.le_refl _, ⟨fun b u _ w t => by rw [upd_ne (ne_of_none w hD)]; exact w, fun b s => (g1.s b s).same (Same.new hD), .same (Same.new hD)⟩⟩, ?_⟩
  rintro i m H ⟨rfl, hi, acc, xs, hL, ra, iv, hal, g2⟩
  have mv : Mv (fun b => z.S b ∨ b = D) H1 H := fun b u n w t => g2.k b u (fun s => n (.inl s)) w t
  obtain ⟨w1, w2⟩ := wk' H mv i
  by_cases hlt : i < ds.length
  · obtain ⟨hgo, hy⟩ := w1 ds[i] (List.getElem?_eq_getElem hlt)
    refine .inr ⟨hgo, fun H' => ∃ acc xs, H' D = some (.lst xs) ∧ RDs (fun b => z.N b ∨ b = D) H' xs acc ∧ Inv (i + 1) acc ∧ acc.length ≤ i + 1 ∧ Ge (z.at H1) H', fun H' ⟨acc', xs', a1, a2, a3, a4, a5⟩ => ⟨_, by omega, rfl, hlt, acc', xs', a1, a2, a3, a4, a5⟩, fun x H' hyl => ?_⟩
    obtain ⟨sm, rx⟩ := hy x H' hyl
    have rx := rx o1.lst (fun b => z.N b ∨ b = D) (fun b hb => hb.imp id fun w => by rw [w]; exact hD)
    have g2' : Ge (z.at H1) H' := ⟨fun b u n w t => sm b u (g2.k b u n w t), fun b s => (g2.s b s).same sm, g2.t.trans (.same sm)⟩
    -- the state with the new list as its own
    have zp : (⟨z.S, fun b => z.N b ∨ b = D, H'⟩ : Zs).Ok := ⟨fun b s => .inl (o.sn b s), g2'.s, fun b hb => hb.elim (fun n => (g2'.ok o1).lst b n) fun w => ⟨xs, by rw [w]; exact sm _ _ hL⟩, (g2'.ok o1).tb⟩
    have ep : EnvS ⟨z.S, fun b => z.N b ∨ b = D, H'⟩ (L2.wipe σ vs) (wipeE env vs) := EnvS.wipe (EnvS.grow (z := z.at H1) (z' := ⟨z.S, fun b => z.N b ∨ b = D, H'⟩) ⟨fun b u n w t => (g2'.keepN o1).k b u n w t, fun b hb => Or.imp id (fun w => by rw [w]; exact hD) hb, o1.lst⟩ (fun b u n s w t => g2'.k b u s w t) (fun b n => Or.inl n) (fun b s => s) (fun b s => Or.inl s) e1) vs
    have hturn := turn i ds[i] acc (List.getElem?_eq_getElem hlt) iv
    refine DG.run (g := g) ⟨z.S, fun b => z.N b ∨ b = D, H'⟩ _ _ x ds[i] _ _ zp ep rx hturn fun σ2 env2 e2 l2 k2 _ q2 => ?_
    rw [wipe_length] at l2
    refine ⟨?_, ?_⟩
    · rw [wipe_same (σ := σ) l2 fun j hj => (k2 j fun w => hj (hix j w)).trans (wipe_get hj)]
    · refine DT.run (t := tt) ⟨z.S, fun b => z.N b ∨ b = D, H'⟩ σ2 env2 _ _ zp e2 q2 fun b H3 g3 h3 => ?_
      have o3 := g3.ok zp
      have ra3 : RDs (fun b => z.N b ∨ b = D) H3 xs acc := RDs.mono (g3.keepN zp) (RDs.mono ⟨fun b u n w t => sm b u w, fun b n => .inl n, fun b hb => hb.elim (fun n => (g2.ok o1).lst b n) fun w => ⟨xs, by rw [w]; exact hL⟩⟩ ra)
      have hL3 : H3 D = some (.lst xs) := g3.k _ _ hDS (sm _ _ hL)
      have g23 : Ge (z.at H1) H3 := ⟨fun b u n w t => g3.k b u n (g2'.k b u n w t) t, g3.s, g2'.t.trans g3.t⟩
      cases b with
      | false => exact ⟨acc, xs, hL3, ra3, h3, Nat.le_succ_of_le hal, g23⟩
      | true =>
        refine DL.run (t := te) ⟨z.S, fun b => z.N b ∨ b = D, H3⟩ σ2 env2 _ _ o3 (e2.on zp g3) h3 fun y H4 r g4 r4 h4 => ?_
        split at h4
        · rename_i e' he
          have ry := r4.keepD o3 he
          have hL4 : H4 D = some (.lst xs) := g4.k _ _ hDS hL3
          have o4 := g4.ok o3
          have ra4 := RDs.mono (g4.keepN o3) ra3
          have kn5 : KeepN (fun b => z.N b ∨ b = D) H4 (fun b => z.N b ∨ b = D) (upd H4 D (.lst (xs ++ [y]))) := ⟨fun b u n w t => by rw [upd_ne (fun q => n (.inr q))]; exact w, fun b n => .inl n, o4.lst⟩
          have hxl : xs.length = acc.length := ra4.length
          refine ⟨xs, hL4, by rw [sizeLine_eq]; omega, acc ++ [e'], xs ++ [y], upd_same, (RDs.mono kn5 ra4).append (.cons (RD.mono kn5 ry) .nil), h4, by rw [List.length_append, List.length_singleton]; omega, ⟨fun b u n w t => ?_, fun b s => ?_, (g23.t.trans g4.t).trans (.upd hL4)⟩⟩
          · rw [upd_ne (ne_of_none w hD)]
            exact g4.k b u n (g23.k b u n w t) t
          · obtain ⟨a1, a2, a3, w⟩ := g4.s b s
            exact ⟨a1, a2, a3, by rw [upd_ne (fun q => hDS (by rw [← q]; exact s))]; exact w⟩
        · exact h4.elim
  · obtain rfl : i = ds.length := by omega
    refine .inl ⟨w2 (Nat.le_refl _), q _ H (.new acc) (g1.trans g2) ⟨D, xs, rfl, g1.fresh hD, hL, ra⟩ (fin acc iv)⟩⟩
class SubL (a b : List Nat) : Prop where
  h : ∀ j ∈ a, j ∈ b
instance {i : Nat} : SubL [i] [i] := ⟨fun _ h => h⟩
instance {i j : Nat} : SubL ([i] ++ ([j] ++ [])) [i, j] := ⟨fun _ h => h⟩
instance {i j k : Nat} : SubL ([i] ++ ([j] ++ ([k] ++ []))) [i, j, k] := ⟨fun _ h => h⟩
instance {s : Str} {i : Nat} : SubL [i] (List.map (fun x => x.snd) [(s, i)]) := ⟨fun _ h => h⟩
instance {s t : Str} {i j : Nat} : SubL ([i] ++ ([j] ++ [])) (List.map (fun x => x.snd) [(s, i), (t, j)]) := ⟨fun _ h => h⟩
instance {s t u : Str} {i j k : Nat} : SubL ([i] ++ ([j] ++ ([k] ++ []))) (List.map (fun x => x.snd) [(s, i), (t, j), (u, k)]) := ⟨fun _ h => h⟩
instance {wi : TI} {g : TG} {tt : TT} {te : TE} {vs ix : List Nat} {Ti : DEnv → (List PyData → Bool → Prop) → Prop} {Tg : PyData → DEnv → (DEnv → Prop) → Prop} {Tt : DEnv → (Bool → Prop) → Prop} {Te : DTE} [DI wi Ti] [DG g Tg ix] [SubL ix vs] [DT tt Tt] [DL te Te] : DL (tLc wi g tt te vs) (dLc Ti Tg Tt Te vs) := dlc_run (ix := ix) SubL.h
end Cr

namespace Cr
open PySem PySem.Spec PyProof.Rows L2
variable [Tbl]

/-! ### statements -/
structure DEnds where
  nx : DEnv → Prop
  rt : R → Prop
  bk : DEnv → Prop := fun _ => False
  ct : DEnv → Prop := fun _ => False
abbrev DTS := DEnds → DEnv → Prop
structure Lk (z : Zs) (D : Ends) (Dd : DEnds) : Prop where
  nx : ∀ z' σ' env', z.Le z' → z'.Ok → EnvS z' σ' env' → Dd.nx env' → D.nx σ' z'.H
  rt : ∀ z' H' v r, z.Le z' → z'.Ok → Ge z' H' → RR z' H' v r → Dd.rt r → D.rt v H'
  bk : ∀ z' σ' env', z.Le z' → z'.Ok → EnvS z' σ' env' → Dd.bk env' → D.bk σ' z'.H
  ct : ∀ z' σ' env', z.Le z' → z'.Ok → EnvS z' σ' env' → Dd.ct env' → D.ct σ' z'.H
theorem Lk.le {z z1 : Zs} {D : Ends} {Dd : DEnds} (a : z.Le z1) (k : Lk z D Dd) : Lk z1 D Dd :=
  ⟨fun z' σ' env' l => k.nx z' σ' env' (a.trans l), fun z' H' v r l => k.rt z' H' v r (a.trans l), fun z' σ' env' l => k.bk z' σ' env' (a.trans l), fun z' σ' env' l => k.ct z' σ' env' (a.trans l)⟩
class DS (t : TS) (T : outParam DTS) : Prop where
  run : ∀ (z : Zs) (σ : L2.St) (env : DEnv) (D : Ends) (Dd : DEnds), z.Ok → EnvS z σ env → T Dd env → Lk z D Dd → t D σ z.H
def sSeq (T U : DTS) : DTS := fun Dd env => T { Dd with nx := U Dd } env
instance {t u : TS} {T U : DTS} [DS t T] [DS u U] : DS (tSeq t u) (sSeq T U) := ⟨fun z σ env D Dd o e h k =>
  DS.run (t := t) z σ env _ _ o e h ⟨fun z' σ' env' l o' e' h' => DS.run (t := u) z' σ' env' D Dd o' e' h' (k.le l), k.rt, k.bk, k.ct⟩⟩
@[irreducible] def sCut (T U : DTS) : DTS := fun Dd env => ∃ Mid : DEnv → Prop, T { Dd with nx := Mid } env ∧ ∀ env', Mid env' → U Dd env'
instance {t u : TS} {T U : DTS} [DS t T] [DS u U] : DS (C8.tCut t u) (sCut T U) := ⟨fun z σ env D Dd o e h k => by
  unfold sCut at h
  obtain ⟨Mid, h1, h2⟩ := h
  refine ⟨fun σ' H' => ∃ z' env', z.Le z' ∧ z'.Ok ∧ EnvS z' σ' env' ∧ Mid env' ∧ H' = z'.H, DS.run (t := t) z σ env _ { Dd with nx := Mid } o e h1 ⟨fun z' σ' env' l o' e' h' => ⟨z', env', l, o', e', h', rfl⟩, k.rt, k.bk, k.ct⟩, ?_⟩
  rintro σ' H' ⟨z', env', l, o', e', h', rfl⟩
  exact DS.run (t := u) z' σ' env' D Dd o' e' (h2 env' h') (k.le l)⟩
theorem cut_by {T U : DTS} {Dd : DEnds} {env : DEnv} (Mid : DEnv → Prop) (h1 : T { Dd with nx := Mid } env) (h2 : ∀ env', Mid env' → U Dd env') : sCut T U Dd env := by
  unfold sCut
  exact ⟨Mid, h1, h2⟩
def sNext : DTS := fun Dd env => Dd.nx env
instance : DS tNext sNext := ⟨fun z σ env D Dd o e h k => k.nx z σ env (Zs.Le.refl o) o e h⟩
def sBreak : DTS := fun Dd env => Dd.bk env
instance : DS tBreak sBreak := ⟨fun z σ env D Dd o e h k => k.bk z σ env (Zs.Le.refl o) o e h⟩
def sCont : DTS := fun Dd env => Dd.ct env
instance : DS tCont sCont := ⟨fun z σ env D Dd o e h k => k.ct z σ env (Zs.Le.refl o) o e h⟩
def sNever : DTS := fun _ _ => False
instance : DS tNever sNever := ⟨fun z σ env D Dd o e h k => h.elim⟩
def sDrop (Ta : DTE) : DTS := fun Dd env => Ta env fun _ => Dd.nx env
instance (priority := 500) {ta : TE} {Ta : DTE} [DL ta Ta] : DS (tDrop ta) (sDrop Ta) := ⟨fun z σ env D Dd o e h k =>
  DL.run (t := ta) z σ env _ _ o e h fun v H1 r g1 r1 h1 => k.nx (z.at H1) σ env (g1.le o) (g1.ok o) (e.on o g1) h1⟩
def sRet (Ta : DTE) : DTS := fun Dd env => Ta env Dd.rt
instance {ta : TE} {Ta : DTE} [DL ta Ta] : DS (tRet ta) (sRet Ta) := ⟨fun z σ env D Dd o e h k =>
  DL.run (t := ta) z σ env _ _ o e h fun v H1 r g1 r1 h1 => k.rt z H1 v r (Zs.Le.refl o) o g1 r1 h1⟩
def sRetN : DTS := fun Dd _ => Dd.rt (.dat .none)
instance : DS tRetN sRetN := ⟨fun z σ env D Dd o e h k => k.rt z z.H .non (.dat .none) (Zs.Le.refl o) o (Ge.refl o) .non h⟩
def sIf (T : DEnv → (Bool → Prop) → Prop) (U W : DTS) : DTS := fun Dd env => T env fun b => if b = true then U Dd env else W Dd env
instance {c : TT} {t u : TS} {T : DEnv → (Bool → Prop) → Prop} {U W : DTS} [DT c T] [DS t U] [DS u W] : DS (tIfS c t u) (sIf T U W) := ⟨fun z σ env D Dd o e h k =>
  DT.run (t := c) z σ env _ _ o e h fun b H1 g1 h1 => by
    cases b with
    | true => exact DS.run (t := t) (z.at H1) σ env D Dd (g1.ok o) (e.on o g1) h1 (k.le (g1.le o))
    | false => exact DS.run (t := u) (z.at H1) σ env D Dd (g1.ok o) (e.on o g1) h1 (k.le (g1.le o))⟩
/-- what a name may hold of a result -/
def asSV : R → SV → Prop
  | .dat d, sv => sv = .dat d
  | .new ds, sv => sv = .own ds ∨ sv = .dat (.list ds)
  | .ins C rs, sv => sv = .ins C rs
  | .src, sv => sv = .src
  | .scr K ns, sv => sv = .scr K ns
  | .hob u, sv => sv = .hob u
  | .nsrc, sv => sv = .src
  | .cur _, _ => False
theorem EnvS.map {z z' : Zs} {σ : L2.St} {env : DEnv} (k : ∀ w s', SvR z w s' → SvR z' w s') (h : EnvS z σ env) : EnvS z' σ env := ⟨h.len, fun i sv e => let ⟨v, e1, e2⟩ := h.slot i sv e; ⟨v, e1, k v sv e2⟩, h.inj⟩
/-- held by the frame from now on -/
structure Held (z z1 : Zs) (H1 : Hp) (v : V) (sv : SV) : Prop where
  eq : z1.H = H1
  le : z.Le z1
  ok : z1.Ok
  hv : SvR z1 v sv
  old : ∀ w s', SvR z w s' → SvR z1 w s'
  fr : ∀ ds : List PyData, sv = SV.own ds → ∀ (w : V) (es : List PyData), SvR z w (SV.own es) → w ≠ v
theorem hold {z : Zs} {H1 : Hp} {v : V} {r : R} {sv : SV} (o : z.Ok) (g : Ge z H1) (h : RR z H1 v r) (a : asSV r sv) : ∃ z1 : Zs, Held z z1 H1 v sv := by
  have o1 := g.ok o
  have base : ∀ sv : SV, SvR (z.at H1) v sv → (∀ ds : List PyData, sv ≠ SV.own ds) → ∃ z1 : Zs, Held z z1 H1 v sv := fun sv hs hn =>
    ⟨z.at H1, rfl, g.le o, o1, hs, fun w s' q => SvR.grow (z := z) (z' := z.at H1) (g.keepN o) (fun b u n s e t => g.k b u s e t) (fun b n => n) (fun b s => s) (fun b s => .inl s) q, fun ds e => absurd e (hn ds)⟩
  cases r with
  | dat d => cases a; exact base (.dat d) h (fun ds e => by cases e)
  | ins C rs => cases a; exact base (.ins C rs) h (fun ds e => by cases e)
  | src => cases a; exact base .src h (fun ds e => by cases e)
  | scr K ns => cases a; exact base (.scr K ns) h (fun ds e => by cases e)
  | hob u => cases a; exact base (.hob u) h (fun ds e => by cases e)
  | cur ds => exact a.elim
  | new ds =>
    rcases a with rfl | rfl
    · obtain ⟨l, xs, rfl, h0, h1, h2⟩ := h
      have nS : ¬ z.S l := fun s => by obtain ⟨_, _, _, w⟩ := o.src _ s; rw [h0] at w; cases w
      have nN : ¬ z.N l := fun n => by obtain ⟨_, w⟩ := o.lst _ n; rw [h0] at w; cases w
      have kn : KeepN z.N z.H (fun b => z.N b ∨ b = l) H1 := ⟨fun b u n w t => (g.keepN o).k b u n w t, fun b hb => Or.imp id (fun w => by rw [w]; exact h0) hb, o.lst⟩
      refine ⟨⟨z.S, fun b => z.N b ∨ b = l, H1⟩, rfl, ⟨fun b u n w t => kn.k b u n w t, kn.n, fun b s => s, fun b n => let ⟨xs, w⟩ := o1.lst b n; ⟨_, w⟩, g.t⟩, ⟨fun b s => .inl (o.sn b s), g.s, fun b hb => hb.elim (fun n => o1.lst b n) fun w => ⟨xs, by rw [w]; exact h1⟩, o1.tb⟩, ⟨l, xs, rfl, .inr rfl, nS, h1, h2⟩,
        fun w s' q => q.grow (z' := ⟨z.S, fun b => z.N b ∨ b = l, H1⟩) kn (fun b u n s e t => g.k b u s e t) (fun b n => .inl n) (fun b s => s) (fun b s => .inl s), fun ds' _ w es q e => ?_⟩
      obtain ⟨l', xs', e3, q0, _⟩ := q
      rw [e3] at e
      cases e
      exact nN q0
    · exact base (.dat (.list ds)) (RR.keepD (z := z) (r := .new ds) o h rfl) (fun ds e => by cases e)
  | nsrc =>
    cases a
    obtain ⟨l, rfl, h0, hs⟩ := h
    have kn : KeepN z.N z.H (fun b => z.N b ∨ b = l) H1 := ⟨fun b u n w t => (g.keepN o).k b u n w t, fun b hb => Or.imp id (fun w => by rw [w]; exact h0) hb, o.lst⟩
    refine ⟨⟨fun b => z.S b ∨ b = l, fun b => z.N b ∨ b = l, H1⟩, rfl, ⟨fun b u n w t => kn.k b u n w t, kn.n, fun b s => .inl s, fun b n => let ⟨xs, w⟩ := o1.lst b n; ⟨_, w⟩, g.t⟩, ⟨fun b s => s.imp (o.sn b) id, fun b s => s.elim (g.s b) fun w => by rw [w]; exact hs, fun b hb => hb.elim (fun n => o1.lst b n) fun w => by
      obtain ⟨x, y, u, e⟩ := hs
      exact ⟨_, by rw [w]; exact e⟩, o1.tb⟩, ⟨l, rfl, .inr rfl⟩,
      fun w s' q => q.grow (z' := ⟨fun b => z.S b ∨ b = l, fun b => z.N b ∨ b = l, H1⟩) kn (fun b u n s e t => g.k b u s e t) (fun b n => .inl n) (fun b s => .inl s) (fun b s => s.imp id fun w => by rw [w]; exact h0), fun ds' e => by cases e⟩
theorem EnvS.hold {z z1 : Zs} {H1 : Hp} {σ : L2.St} {env : DEnv} {v : V} {sv : SV} (e : EnvS z σ env) (k : Held z z1 H1 v sv) (i : Nat) : EnvS z1 (σ.set i (some v)) (env.set i (some sv)) :=
  (e.map k.old).set i k.hv fun ds hd j es ej hσ => by
    obtain ⟨w, e1, e2⟩ := e.slot j _ ej
    rw [e1] at hσ
    injection hσ with hσ
    injection hσ with hσ
    exact k.fr ds hd w es e2 hσ
def sSet (Ta : DTE) (i : Nat) : DTS := fun Dd env => Ta env fun r => ∃ sv, asSV r sv ∧ Dd.nx (env.set i (some sv))
instance (priority := 500) {ta : TE} {Ta : DTE} {i : Nat} [DL ta Ta] : DS (tAsg ta (gName i)) (sSet Ta i) := ⟨fun z σ env D Dd o e h k =>
  DL.run (t := ta) z σ env _ _ o e h fun v H1 r g1 r1 h1 => by
    obtain ⟨sv, a, h1⟩ := h1
    obtain ⟨z1, hd⟩ := Cr.hold o g1 r1 a
    have := k.nx z1 _ _ hd.le hd.ok (e.hold hd i) h1
    rw [hd.eq] at this
    exact this⟩
/-- a name given over to another -/
def sMove (j i : Nat) : DTS := fun Dd env => match env[j]? with
  | some (some (.own ds)) => i ≠ j ∧ Dd.nx ((env.set j none).set i (some (.own ds)))
  | some (some sv) => Dd.nx (env.set i (some sv))
  | _ => False
instance (priority := 2000) {i j : Nat} : DS (tAsg (tVar j) (gName i)) (sMove j i) := ⟨fun z σ env D Dd o e h k => by
  unfold sMove at h
  split at h
  · rename_i ds hs
    obtain ⟨v, e1, e2⟩ := e.slot j _ hs
    refine ⟨v, e1, ?_⟩
    refine k.nx z _ _ (Zs.Le.refl o) o ((e.none j).set i e2 fun ds' hd m es em hσ => ?_) h.2
    by_cases hjm : j = m
    · subst hjm
      have hl : j < env.length := (List.getElem?_eq_some_iff.mp hs).1
      rw [List.getElem?_set_self hl] at em
      cases em
    · rw [List.getElem?_set_ne hjm] at em
      exact hjm (e.inj j m _ _ hs em (e1.trans hσ.symm))
  · rename_i sv hn hs
    obtain ⟨v, e1, e2⟩ := e.slot j _ hs
    refine ⟨v, e1, ?_⟩
    exact k.nx z _ _ (Zs.Le.refl o) o (e.set i e2 fun ds' hd => absurd hd (hn ds')) h
  · exact h.elim⟩
/-- data to targets -/
def sAsg (Ta : DTE) (Tg : PyData → DEnv → (DEnv → Prop) → Prop) : DTS := fun Dd env => Ta env fun r => match r.stay with
  | some d => Tg d env Dd.nx
  | none => False
instance {K : PySem.W.Frag} {ta : TE} {n : Nat} {gs : TGs} {Ta : DTE} {Tg : PyData → DEnv → (DEnv → Prop) → Prop} {ix : List Nat} [DL ta Ta] [DG (gTup K n gs) Tg ix] : DS (tAsg ta (gTup K n gs)) (sAsg Ta Tg) := ⟨fun z σ env D Dd o e h k =>
  DL.run (t := ta) z σ env _ _ o e h fun v H1 r g1 r1 h1 => by
    split at h1
    · rename_i d hd
      exact DG.run (g := gTup K n gs) (z.at H1) σ env v d _ _ (g1.ok o) (e.on o g1) (RR.keepD (z := z) o r1 hd) h1 fun σ' env' e' _ _ _ q' => k.nx (z.at H1) σ' env' (g1.le o) (g1.ok o) e' q'
    · exact h1.elim⟩
/-- a, b = x, y -/
def sPar (i j : Nat) (Ta Tb : DTE) : DTS := fun Dd env => Ta env fun r => ∃ sv, asSV r sv ∧ Tb env fun r2 => ∃ sv2, asSV r2 sv2 ∧ Dd.nx ((env.set i (some sv)).set j (some sv2))
instance {ta tb : TE} {Ta Tb : DTE} {i j : Nat} [DL ta Ta] [DL tb Tb] : DS (tPar i j (tCons ta (tCons tb tNil))) (sPar i j Ta Tb) := ⟨fun z σ env D Dd o e h k =>
  DL.run (t := ta) z σ env _ _ o e h fun v H1 r g1 r1 h1 => by
    obtain ⟨sv, a, h1⟩ := h1
    obtain ⟨z1, hd⟩ := Cr.hold o g1 r1 a
    have := DL.run (t := tb) z1 σ env (fun x H => tNil σ H fun xs H2 => ∃ v' w, v :: x :: xs = [v', w] ∧ D.nx ((σ.set i (some v')).set j (some w)) H2) _ hd.ok (e.map hd.old) h1 fun u H2 r2 g2 r2' h2 => by
      obtain ⟨sv2, a2, h2⟩ := h2
      obtain ⟨z2, hd2⟩ := Cr.hold hd.ok g2 r2' a2
      have := k.nx z2 _ _ (hd.le.trans hd2.le) hd2.ok ((e.hold hd i).hold hd2 j) h2
      rw [hd2.eq] at this
      exact ⟨v, u, rfl, this⟩
    rw [hd.eq] at this
    exact this⟩
def sPar3 (i j l : Nat) (Ta Tb Tc : DTE) : DTS := fun Dd env => Ta env fun r => ∃ sv, asSV r sv ∧ Tb env fun r2 => ∃ sv2, asSV r2 sv2 ∧ Tc env fun r3 => ∃ sv3, asSV r3 sv3 ∧ Dd.nx (((env.set i (some sv)).set j (some sv2)).set l (some sv3))
instance {ta tb tc : TE} {Ta Tb Tc : DTE} {i j l : Nat} [DL ta Ta] [DL tb Tb] [DL tc Tc] : DS (tPar3 i j l (tCons ta (tCons tb (tCons tc tNil)))) (sPar3 i j l Ta Tb Tc) := ⟨fun z σ env D Dd o e h k =>
  DL.run (t := ta) z σ env _ _ o e h fun v H1 r g1 r1 h1 => by
    obtain ⟨sv, a, h1⟩ := h1
    obtain ⟨z1, hd⟩ := Cr.hold o g1 r1 a
    have := DL.run (t := tb) z1 σ env (fun x H => tc σ H fun y H1 => tNil σ H1 fun xs H2 => ∃ u' v' w, v :: x :: y :: xs = [u', v', w] ∧ D.nx (((σ.set i (some u')).set j (some v')).set l (some w)) H2) _ hd.ok (e.map hd.old) h1 fun u H2 r2 g2 r2' h2 => by
      obtain ⟨sv2, a2, h2⟩ := h2
      obtain ⟨z2, hd2⟩ := Cr.hold hd.ok g2 r2' a2
      have := DL.run (t := tc) z2 σ env (fun y H1 => tNil σ H1 fun xs H2 => ∃ u' v' w, v :: u :: y :: xs = [u', v', w] ∧ D.nx (((σ.set i (some u')).set j (some v')).set l (some w)) H2) _ hd2.ok ((e.map hd.old).map hd2.old) h2 fun w H3 r3 g3 r3' h3 => by
        obtain ⟨sv3, a3, h3⟩ := h3
        obtain ⟨z3, hd3⟩ := Cr.hold hd2.ok g3 r3' a3
        have := k.nx z3 _ _ ((hd.le.trans hd2.le).trans hd3.le) hd3.ok (((e.hold hd i).hold hd2 j).hold hd3 l) h3
        rw [hd3.eq] at this
        exact ⟨v, u, w, rfl, this⟩
      rw [hd2.eq] at this
      exact this
    rw [hd.eq] at this
    exact this⟩
/-- xs.append(e) of a list of its own -/
theorem own_put {z : Zs} {H : Hp} {σ : L2.St} {env : DEnv} {i : Nat} {ds es : List PyData} {l : Addr} {ys : List V} (o : z.Ok) (e : EnvS z σ env) (g : Ge z H) (hi : env[i]? = some (some (.own ds))) (hv : σ[i]? = some (some (.ref l))) (hl : z.N l) (hs : ¬ z.S l) (rs : RDs z.N H ys es) :
    z.Le ⟨z.S, z.N, upd H l (.lst ys)⟩ ∧ (⟨z.S, z.N, upd H l (.lst ys)⟩ : Zs).Ok ∧ EnvS ⟨z.S, z.N, upd H l (.lst ys)⟩ σ (env.set i (some (.own es))) := by
  have o1 := g.ok o
  have kn1 : KeepN z.N H z.N (upd H l (.lst ys)) := ⟨fun b u n w t => by rw [upd_ne (fun q => n (by rw [q]; exact hl))]; exact w, fun b n => .inl n, o1.lst⟩
  have tu : TbS H (upd H l (.lst ys)) := by
    obtain ⟨xs0, w0⟩ := o1.lst l hl
    exact .upd w0
  have kn : KeepN z.N z.H z.N (upd H l (.lst ys)) := ⟨fun b u n w t => kn1.k b u n ((g.keepN o).k b u n w t) t, fun b n => .inl n, o.lst⟩
  have lst : ∀ b, z.N b → ∃ xs, upd H l (.lst ys) b = some (.lst xs) := fun b n => by
    by_cases q : b = l
    · rw [q]; exact ⟨ys, upd_same⟩
    · rw [upd_ne q]; exact o1.lst b n
  refine ⟨⟨fun b u n w t => kn.k b u n w t, kn.n, fun b s => s, fun b n => let ⟨xs, w⟩ := lst b n; ⟨_, w⟩, g.t.trans tu⟩, ⟨o.sn, fun b s => ?_, lst, tu.t o1.tb⟩, ?_⟩
  · obtain ⟨a1, a2, a3, w⟩ := g.s b s
    exact ⟨a1, a2, a3, by
      show upd H l (.lst ys) b = _
      rw [upd_ne (fun q => hs (by rw [← q]; exact s))]
      exact w⟩
  · have il : i < env.length := (List.getElem?_eq_some_iff.mp hi).1
    refine ⟨by rw [List.length_set]; exact e.len, fun j sv ej => ?_, fun j k d1 d2 e1 e2 e3 => ?_⟩
    · by_cases hij : i = j
      · subst hij
        rw [List.getElem?_set_self il] at ej
        cases ej
        exact ⟨.ref l, hv, l, ys, rfl, hl, hs, upd_same, RDs.mono kn1 rs⟩
      · rw [List.getElem?_set_ne hij] at ej
        obtain ⟨w, q1, q2⟩ := e.slot j sv ej
        refine ⟨w, q1, ?_⟩
        cases sv with
        | dat d => exact RD.mono kn q2
        | ins C rs => obtain ⟨x, rfl, q⟩ := q2; exact ⟨x, rfl, q.keep kn⟩
        | src => exact q2
        | scr K ns => obtain ⟨x, rfl, q⟩ := q2; exact ⟨x, rfl, q.keep kn⟩
        | hob u => obtain ⟨x, rfl, q, n⟩ := q2; exact ⟨x, rfl, kn.k _ _ (fun w => by obtain ⟨ys, e⟩ := kn.l _ w; rw [q] at e; exact n.1 ys (Option.some.inj e)) q n.2, n⟩
        | own d2 =>
          obtain ⟨l', xs', rfl, n0, s0, h1, h2⟩ := q2
          have ne : l' ≠ l := fun q => hij (e.inj i j _ _ hi ej (by rw [hv, q1, q]))
          exact ⟨l', xs', rfl, n0, s0, by
            show upd H l (.lst ys) l' = _
            rw [upd_ne ne]
            exact g.k _ _ s0 h1, RDs.mono kn h2⟩
    · have own : ∀ (j : Nat) (d : List PyData), (env.set i (some (.own es)))[j]? = some (some (SV.own d)) → ∃ d', env[j]? = some (some (SV.own d')) := fun j d ej => by
        by_cases hij : i = j
        · subst hij; exact ⟨ds, hi⟩
        · rw [List.getElem?_set_ne hij] at ej; exact ⟨d, ej⟩
      obtain ⟨d1', e1⟩ := own j d1 e1
      obtain ⟨d2', e2⟩ := own k d2 e2
      exact e.inj j k _ _ e1 e2 e3
def sAppend (i : Nat) (Te : DTE) : DTS := fun Dd env => match env[i]? with
  | some (some (.own ds)) => Te env fun r => match r.stay with
    | some d => ds.length < 1000000 ∧ Dd.nx (env.set i (some (.own (ds ++ [d]))))
    | none => False
  | _ => False
instance (priority := 2000) {K : PySem.W.Frag} {i : Nat} {te : TE} {Te : DTE} [DL te Te] : DS (tDrop (tBM K "list" rAppend (tVar i) (tCons te tNil))) (sAppend i Te) := ⟨fun z σ env D Dd o e h k => by
  unfold sAppend at h
  split at h
  · rename_i ds hi
    obtain ⟨v, e1, l, xs, rfl, hl, hs, h1, rs⟩ := e.slot i _ hi
    refine ⟨_, e1, .inl ⟨rfl, _, SqL.of h1⟩, ?_⟩
    refine DL.run (t := te) z σ env _ _ o e h fun y H1 r g1 r1 h2 => ?_
    split at h2
    · rename_i d hd
      have rs1 := RDs.mono (g1.keepN o) rs
      refine ⟨l, xs, y, rfl, rfl, g1.k _ _ hs h1, by rw [rs.length, sizeLine_eq]; omega, ?_⟩
      obtain ⟨a1, a2, a3⟩ := own_put o e g1 hi e1 hl hs (rs1.append (.cons (r1.keepD o hd) .nil))
      exact k.nx _ _ _ a1 a2 a3 h2.2
    · exact h2.elim
  · exact h.elim⟩
def sExtend (i : Nat) (Te : DTE) : DTS := fun Dd env => match env[i]? with
  | some (some (.own ds)) => Te env fun r => match r.data with
    | some (.list es) => ds.length + es.length ≤ 1000000 ∧ Dd.nx (env.set i (some (.own (ds ++ es))))
    | _ => False
  | _ => False
instance (priority := 2000) {K : PySem.W.Frag} {i : Nat} {te : TE} {Te : DTE} [DL te Te] : DS (tDrop (tBM K "list" rExtend (tVar i) (tCons te tNil))) (sExtend i Te) := ⟨fun z σ env D Dd o e h k => by
  unfold sExtend at h
  split at h
  · rename_i ds hi
    obtain ⟨v, e1, l, xs, rfl, hl, hs, h1, rs⟩ := e.slot i _ hi
    refine ⟨_, e1, .inl ⟨rfl, _, SqL.of h1⟩, ?_⟩
    refine DL.run (t := te) z σ env _ _ o e h fun y H1 r g1 r1 h2 => ?_
    split at h2
    · rename_i es hd
      have rs1 := RDs.mono (g1.keepN o) rs
      obtain ⟨b, ys, rfl, hb, ss⟩ := r1.items hd
      refine ⟨l, b, xs, ys, rfl, rfl, g1.k _ _ hs h1, hb, small_line (by rw [rs.length, ss.length]; exact h2.1), ?_⟩
      obtain ⟨a1, a2, a3⟩ := own_put o e g1 hi e1 hl hs (rs1.append ss)
      exact k.nx _ _ _ a1 a2 a3 h2.2
    · exact h2.elim
  · exact h.elim⟩
/-! ### for -/
@[irreducible] def sLoop (Tg : PyData → DEnv → (DEnv → Prop) → Prop) (Tb : DTS) (ds : List PyData) : DTS := fun Dd env => ∃ Inv : Nat → DEnv → Prop, Inv 0 env ∧ (∀ (i : Nat) (d : PyData) env', ds[i]? = some d → Inv i env' → Tg d env' fun env2 => Tb { Dd with nx := Inv (i + 1), ct := Inv (i + 1), bk := Dd.nx } env2) ∧ ∀ env', Inv ds.length env' → Dd.nx env'
theorem loop_run {g : TG} {tb : TS} {Tg : PyData → DEnv → (DEnv → Prop) → Prop} {Tb : DTS} {ix : List Nat} [DG g Tg ix] [DS tb Tb] {z : Zs} {σ : L2.St} {env : DEnv} {D : Ends} {Dd : DEnds} {ds : List PyData} {J : It} {av : Addr → Prop} (o : z.Ok) (e : EnvS z σ env) (hav : ∀ b, av b → ¬ z.N b ∧ ∃ u, z.H b = some u)
    (wk : ∀ M : Addr → Prop, (∀ b, M b → z.N b ∨ z.H b = none) → (∀ b, av b → ¬ M b) → WkD M z.N J ds z.H) (h : sLoop Tg Tb ds Dd env) (k : Lk z D Dd) :
    ∃ W : Nat → Nat → L2.St → Hp → Prop, (∃ m, W 0 m σ z.H) ∧ ∀ i m σ H, W i m σ H →
      (J.stop i H ∧ D.nx σ H) ∨ (J.go i H ∧ ∃ N : L2.St → Hp → Prop, (∀ σ' H', N σ' H' → ∃ m', m' < m ∧ W (i + 1) m' σ' H') ∧ ∀ x H', J.yld i H x H' → g x σ H' fun σ2 H2 => tb { D with nx := N, ct := N, bk := D.nx } σ2 H2) := by
  unfold sLoop at h
  obtain ⟨Inv, i0, turn, fin⟩ := h
  have wk' := wk (fun b => z.N b ∨ z.H b = none) (fun b hb => hb) (fun b hb w => w.elim (hav b hb).1 fun w => by obtain ⟨u, hu⟩ := (hav b hb).2; rw [w] at hu; cases hu)
  refine ⟨fun i m σ H => m = ds.length - i ∧ i ≤ ds.length ∧ ∃ z' env', z.Le z' ∧ z'.Ok ∧ EnvS z' σ env' ∧ Inv i env' ∧ z'.H = H, ⟨_, rfl, Nat.zero_le _, z, env, Zs.Le.refl o, o, e, i0, rfl⟩, ?_⟩
  rintro i m σ1 H ⟨rfl, hi, z', env', le, o', e', iv, rfl⟩
  have mv : Mv (fun b => z.N b ∨ z.H b = none) z.H z'.H := fun b u n w t => le.k b u (fun q => n (.inl q)) w t
  obtain ⟨w1, w2⟩ := wk' z'.H mv i
  by_cases hlt : i < ds.length
  · obtain ⟨hgo, hy⟩ := w1 ds[i] (List.getElem?_eq_getElem hlt)
    refine .inr ⟨hgo, fun σ' H' => ∃ z'' env'', z.Le z'' ∧ z''.Ok ∧ EnvS z'' σ' env'' ∧ Inv (i + 1) env'' ∧ z''.H = H', fun σ' H' ⟨z'', env'', a1, a2, a3, a4, a5⟩ => ⟨_, by omega, rfl, hlt, z'', env'', a1, a2, a3, a4, a5⟩, fun x H' hyl => ?_⟩
    obtain ⟨sm, rx⟩ := hy x H' hyl
    have rx := rx o.lst z'.N le.n
    have g2 : Ge z' H' := Ge.same o' sm
    have hturn := turn i ds[i] env' (List.getElem?_eq_getElem hlt) iv
    refine DG.run (g := g) (z'.at H') σ1 env' x ds[i] _ _ (g2.ok o') (e'.on o' g2) rx hturn fun σ2 env2 e2 _ _ _ q2 => ?_
    have le2 : z.Le (z'.at H') := le.trans (g2.le o')
    refine DS.run (t := tb) (z'.at H') σ2 env2 _ _ (g2.ok o') e2 q2 ⟨fun z3 σ3 env3 l3 o3 e3 h3 => ⟨z3, env3, le2.trans l3, o3, e3, h3, rfl⟩, fun z3 H3 v r l3 => k.rt z3 H3 v r (le2.trans l3), fun z3 σ3 env3 l3 => k.nx z3 σ3 env3 (le2.trans l3), fun z3 σ3 env3 l3 o3 e3 h3 => ⟨z3, env3, le2.trans l3, o3, e3, h3, rfl⟩⟩
  · obtain rfl : i = ds.length := by omega
    exact .inl ⟨w2 (Nat.le_refl _), k.nx z' σ1 env' le o' e' (fin env' iv)⟩
def sFor (Ti : DEnv → (List PyData → Bool → Prop) → Prop) (Tg : PyData → DEnv → (DEnv → Prop) → Prop) (Tb : DTS) : DTS := fun Dd env => Ti env fun ds st => st = true ∧ sLoop Tg Tb ds Dd env
instance (priority := 500) {wi : TI} {g : TG} {tb : TS} {Ti : DEnv → (List PyData → Bool → Prop) → Prop} {Tg : PyData → DEnv → (DEnv → Prop) → Prop} {Tb : DTS} {ix : List Nat} [DI wi Ti] [DG g Tg ix] [DS tb Tb] : DS (tFor wi g tb) (sFor Ti Tg Tb) := ⟨fun z σ env D Dd o e h k =>
  DI.run (wi := wi) z σ env _ _ o e h fun ds st J H1 av g1 hav hst wk h1 => by
    obtain ⟨rfl, h1⟩ := h1
    exact loop_run (z := z.at H1) (g1.ok o) (e.on o g1) (fun b hb => ⟨hst rfl b hb, (hav b hb).2⟩) wk h1 (k.le (g1.le o))⟩
/-- for x in a list of its own: it stays as it is from then on -/
def sForOwn (j : Nat) (Tg : PyData → DEnv → (DEnv → Prop) → Prop) (Tb : DTS) : DTS := fun Dd env => match env[j]? with
  | some (some (.own ds)) => sLoop Tg Tb ds Dd (env.set j (some (.dat (.list ds))))
  | some (some (.dat (.list ds))) => sLoop Tg Tb ds Dd env
  | _ => False
instance (priority := 2000) {K : PySem.W.Frag} {j : Nat} {g : TG} {tb : TS} {Tg : PyData → DEnv → (DEnv → Prop) → Prop} {Tb : DTS} {ix : List Nat} [DG g Tg ix] [DS tb Tb] : DS (tFor (iList K (tVar j)) g tb) (sForOwn j Tg Tb) := ⟨fun z σ env D Dd o e h k => by
  unfold sForOwn at h
  split at h
  · rename_i ds hj
    obtain ⟨v, e1, l, xs, rfl, hl, hs, h1, rs⟩ := e.slot j _ hj
    refine ⟨_, e1, l, rfl, ⟨xs, SqL.of h1⟩, ?_⟩
    -- no longer its own
    have o2 : (⟨z.S, fun b => z.N b ∧ b ≠ l, z.H⟩ : Zs).Ok := ⟨fun b s => ⟨o.sn b s, fun q => hs (by rw [← q]; exact s)⟩, o.src, fun b n => o.lst b n.1, o.tb⟩
    have le : z.Le ⟨z.S, fun b => z.N b ∧ b ≠ l, z.H⟩ := ⟨fun b u n w t => w, fun b n => .inl n.1, fun b s => s, fun b n => let ⟨xs, w⟩ := o.lst b n; ⟨_, w⟩, .refl _⟩
    have il : j < env.length := (List.getElem?_eq_some_iff.mp hj).1
    have e2 : EnvS ⟨z.S, fun b => z.N b ∧ b ≠ l, z.H⟩ σ (env.set j (some (.dat (.list ds)))) := by
      refine ⟨by rw [List.length_set]; exact e.len, fun m sv em => ?_, fun m n d1 d2 em en => ?_⟩
      · by_cases hjm : j = m
        · subst hjm
          rw [List.getElem?_set_self il] at em
          cases em
          exact ⟨_, e1, .lst (fun q => q.2 rfl) h1 (RDs.anti (fun b q => q.1) rs)⟩
        · rw [List.getElem?_set_ne hjm] at em
          obtain ⟨w, q1, q2⟩ := e.slot m sv em
          refine ⟨w, q1, ?_⟩
          cases sv with
          | dat d => exact RD.anti (fun b q => q.1) q2
          | ins C rs => exact q2
          | src => exact q2
          | scr K ns => exact q2
          | hob u => exact q2
          | own d2 =>
            obtain ⟨l', xs', rfl, n0, s0, h1', h2⟩ := q2
            exact ⟨l', xs', rfl, ⟨n0, fun q => hjm (e.inj j m _ _ hj em (by rw [e1, q1, q]))⟩, s0, h1', RDs.anti (fun b q => q.1) h2⟩
      · have back : ∀ (m : Nat) (d : List PyData), (env.set j (some (.dat (.list ds))))[m]? = some (some (SV.own d)) → env[m]? = some (some (SV.own d)) := fun m d em => by
          by_cases hjm : j = m
          · subst hjm
            rw [List.getElem?_set_self il] at em
            cases em
          · rwa [List.getElem?_set_ne hjm] at em
        exact e.inj m n _ _ (back _ _ em) (back _ _ en)
    exact loop_run (z := ⟨z.S, fun b => z.N b ∧ b ≠ l, z.H⟩) (av := fun b => b = l) o2 e2 (fun b hb => ⟨fun q => q.2 hb, by rw [hb]; exact ⟨_, h1⟩⟩) (fun M hM hav => wk_list hM (hav l rfl) h1 (RDs.anti (fun b q => q.1) rs)) h (k.le le)
  · rename_i ds hj
    obtain ⟨v, e1, hv⟩ := e.slot j _ hj
    cases hv with
    | lst n h1 rs =>
      exact ⟨_, e1, _, rfl, ⟨_, SqL.of h1⟩, loop_run (z := z) (av := fun b => b = _) o e (fun b hb => by subst hb; exact ⟨n, _, h1⟩) (fun M hM hav => wk_list hM (hav _ rfl) h1 rs) h k⟩
  · exact h.elim⟩
end Cr

namespace Cr
open PySem PySem.Spec PyProof.Rows L2
variable [Tbl]

/-! ### promises over data -/
def SvRs (z : Zs) : List V → List SV → Prop
  | [], [] => True
  | v :: vs, s :: ss => SvR z v s ∧ SvRs z vs ss
  | _, _ => False
/-- the sources and the tables, as a def finds them -/
structure Srcs (S : Addr → Prop) (H : Hp) : Prop where
  s : ∀ b, S b → Src H b
  tb : TabsH H
/-- what a def hands back: new, or without lists -/
def ResR (H H' : Hp) (v : V) : R → Prop
  | .dat d => RD (fun _ => True) H' v d
  | .new ds => ∃ l xs, v = .ref l ∧ H l = none ∧ H' l = some (.lst xs) ∧ RDs (fun _ => True) H' xs ds
  | .ins C rs => ∃ x, v = .ref x ∧ Holds H' C x rs
  | .nsrc => ∃ a, v = .ref a ∧ H a = none ∧ Src H' a
  | .hob u => ∃ a, v = .ref a ∧ H' a = some u ∧ (∀ ys, u ≠ .lst ys) ∧ Fx u
  | _ => False
def spD {α : Type} (dom : α → Prop) (pre : α → List SV) (post : α → R → Prop) : Sp := fun vs H Q _ => ∃ (a : α) (S : Addr → Prop), dom a ∧ Srcs S H ∧ SvRs ⟨S, S, H⟩ vs (pre a) ∧ ∀ v H' r, Ge ⟨S, S, H⟩ H' → ResR H H' v r → post a r → Q v H'
def rMatch : R → SV → Prop
  | r, .dat d => r.data = some d
  | .ins C rs, .ins C' rs' => C = C' ∧ rs = rs'
  | .src, .src => True
  | .scr K ns, .scr K' ns' => K = K' ∧ ns = ns'
  | .hob u, .hob u' => u = u'
  | _, _ => False
def rMatchs : List R → List SV → Prop
  | [], [] => True
  | r :: rs, s :: ss => rMatch r s ∧ rMatchs rs ss
  | _, _ => False
theorem match_rr {z : Zs} {H : Hp} {v : V} {r : R} {s : SV} (o : z.Ok) (h : RR z H v r) (m : rMatch r s) : SvR ⟨z.S, z.S, H⟩ v s := by
  cases s with
  | dat d => exact h.rdS o m
  | ins C rs =>
    cases r with
    | ins C' rs' => obtain ⟨rfl, rfl⟩ := m; exact h
    | dat d => exact m.elim
    | new ds => exact m.elim
    | cur ds => exact m.elim
    | src => exact m.elim
    | nsrc => exact m.elim
    | scr K ns => exact m.elim
    | hob u => exact m.elim
  | src =>
    cases r with
    | src => exact h
    | ins C' rs' => exact m.elim
    | dat d => exact m.elim
    | new ds => exact m.elim
    | cur ds => exact m.elim
    | nsrc => exact m.elim
    | scr K ns => exact m.elim
    | hob u => exact m.elim
  | scr K ns =>
    cases r with
    | scr K' ns' => obtain ⟨rfl, rfl⟩ := m; exact h
    | hob u => exact m.elim
    | src => exact m.elim
    | ins C' rs' => exact m.elim
    | dat d => exact m.elim
    | new ds => exact m.elim
    | cur ds => exact m.elim
    | nsrc => exact m.elim
  | own ds => cases r <;> exact m.elim
  | hob u =>
    cases r with
    | hob u' => cases m; exact h
    | scr K ns => exact m.elim
    | src => exact m.elim
    | ins C' rs' => exact m.elim
    | dat d => exact m.elim
    | new ds => exact m.elim
    | cur ds => exact m.elim
    | nsrc => exact m.elim
theorem matchs_rr {z : Zs} {H : Hp} (o : z.Ok) : ∀ {vs : List V} {rs : List R} {ss : List SV}, RRs z H vs rs → rMatchs rs ss → SvRs ⟨z.S, z.S, H⟩ vs ss
  | [], [], [], _, _ => trivial
  | v :: vs, r :: rs, s :: ss, ⟨h1, h2⟩, ⟨m1, m2⟩ => ⟨match_rr o h1 m1, matchs_rr o h2 m2⟩
  | [], _ :: _, _, h, _ => h.elim
  | _ :: _, [], _, h, _ => h.elim
  | [], [], _ :: _, _, m => m.elim
  | _ :: _, _ :: _, [], _, m => m.elim
theorem res_rr {z : Zs} {H H' : Hp} {v : V} {r : R} (g : Ge z H) (h : ResR H H' v r) : RR z H' v r := by
  cases r with
  | dat d => exact RD.anti (fun _ _ => trivial) h
  | new ds =>
    obtain ⟨l, xs, rfl, h0, h1, h2⟩ := h
    exact ⟨l, xs, rfl, g.fresh h0, h1, RDs.anti (fun _ _ => trivial) h2⟩
  | ins C rs => exact h
  | nsrc => obtain ⟨l, rfl, h0, h1⟩ := h; exact ⟨l, rfl, g.fresh h0, h1⟩
  | cur ds => exact h.elim
  | src => exact h.elim
  | hob u => exact h
  | scr K ns => exact h.elim
def dSp {α : Type} (dom : α → Prop) (pre : α → List SV) (post : α → R → Prop) : List R → (R → Prop) → Prop := fun rs Qd => ∃ a, dom a ∧ rMatchs rs (pre a) ∧ ∀ r, post a r → Qd r
instance {α : Type} {dom : α → Prop} {pre : α → List SV} {post : α → R → Prop} : SpD (spD dom pre post) (dSp dom pre post) := ⟨fun z H vs rs Q Qd E o g r h q => by
  obtain ⟨a, ha, m, k⟩ := h
  exact ⟨a, z.S, ha, ⟨g.s, g.t.t o.tb⟩, matchs_rr o r m, fun v H' c g' r' p => q v H' c (g.trans ⟨fun b u n w t => g'.k b u n w t, g'.s, g'.t⟩) (res_rr g r') (k c p)⟩⟩
/-! ### a def by its body -/
def fin : R → R → Prop
  | .dat d, r' => noL d = true ∧ r' = .dat d
  | .new ds, r' => noLs ds = true ∧ r' = .new ds
  | .cur ds, r' => noLs ds = true ∧ r' = .new ds
  | .ins C rs, r' => r' = .ins C rs
  | .nsrc, r' => r' = .nsrc
  | .hob u, r' => r' = .hob u
  | .src, _ => False
  | .scr _ _, _ => False
def env0 (N : List Str) (svs : List SV) : DEnv := svs.map some ++ List.replicate (N.length - svs.length) none
abbrev endsD (post : R → Prop) : DEnds := { nx := fun _ => post (.dat .none), rt := fun r => ∃ r', fin r r' ∧ post r' }
theorem SvRs.cons {z : Zs} {vs : List V} {s : SV} {ss : List SV} (h : SvRs z vs (s :: ss)) : ∃ v ws, vs = v :: ws ∧ SvR z v s ∧ SvRs z ws ss := by
  cases vs with
  | nil => exact h.elim
  | cons v ws => exact ⟨v, ws, rfl, h.1, h.2⟩
theorem SvRs.one {z : Zs} {vs : List V} {a : SV} (h : SvRs z vs [a]) : ∃ v, vs = [v] ∧ SvR z v a := by
  obtain ⟨v, ws, e, h1, h2⟩ := h.cons
  cases ws with
  | nil => exact ⟨v, e, h1⟩
  | cons _ _ => exact h2.elim
theorem SvRs.two {z : Zs} {vs : List V} {a b : SV} (h : SvRs z vs [a, b]) : ∃ v u, vs = [v, u] ∧ SvR z v a ∧ SvR z u b := by
  obtain ⟨v, ws, e, h1, h2⟩ := h.cons
  obtain ⟨u, rfl, h3⟩ := h2.one
  exact ⟨v, u, e, h1, h3⟩
theorem SvRs.three {z : Zs} {vs : List V} {a b c : SV} (h : SvRs z vs [a, b, c]) : ∃ v u w, vs = [v, u, w] ∧ SvR z v a ∧ SvR z u b ∧ SvR z w c := by
  obtain ⟨v, ws, e, h1, h2⟩ := h.cons
  obtain ⟨u, w, rfl, h3, h4⟩ := h2.two
  exact ⟨v, u, w, e, h1, h3, h4⟩
theorem SvRs.length {z : Zs} : ∀ {vs : List V} {ss : List SV}, SvRs z vs ss → vs.length = ss.length
  | [], [], _ => rfl
  | _ :: _, _ :: _, ⟨_, h⟩ => congrArg Nat.succ (SvRs.length h)
  | [], _ :: _, h => h.elim
  | _ :: _, [], h => h.elim
theorem SvRs.get {z : Zs} : ∀ {vs : List V} {ss : List SV} {i : Nat} {s : SV}, SvRs z vs ss → ss[i]? = some s → ∃ v, vs[i]? = some v ∧ SvR z v s
  | [], [], _, _, _, e => by simp at e
  | v :: _, s' :: _, 0, s, ⟨h, _⟩, e => by simp at e; subst e; exact ⟨v, rfl, h⟩
  | _ :: vs, _ :: ss, i + 1, s, ⟨_, h⟩, e => by
    obtain ⟨v, h1, h2⟩ := SvRs.get (vs := vs) (ss := ss) (i := i) h (by simpa using e)
    exact ⟨v, by simpa using h1, h2⟩
  | [], _ :: _, _, _, h, _ => h.elim
  | _ :: _, [], _, _, h, _ => h.elim
theorem env0_ok {N : List Str} {S : Addr → Prop} {H : Hp} {vs : List V} {ss : List SV} (h : SvRs ⟨S, S, H⟩ vs ss) : EnvS ⟨S, S, H⟩ (L2.start N vs) (env0 N ss) := by
  have hl := h.length
  have key : ∀ (i : Nat) (sv : SV), (env0 N ss)[i]? = some (some sv) → ss[i]? = some sv := fun i sv e => by
    unfold env0 at e
    by_cases hi : i < (ss.map some).length
    · rw [List.getElem?_append_left hi, List.getElem?_map] at e
      cases q : ss[i]? with
      | none => rw [q] at e; cases e
      | some s => rw [q] at e; exact Option.some.inj e
    · rw [List.getElem?_append_right (by omega)] at e
      have := List.mem_of_getElem? e
      rw [List.mem_replicate] at this
      cases this.2
  have slot : ∀ (i : Nat) (sv : SV), (env0 N ss)[i]? = some (some sv) → ∃ v, (L2.start N vs)[i]? = some (some v) ∧ SvR ⟨S, S, H⟩ v sv := fun i sv e => by
    obtain ⟨v, e1, e2⟩ := h.get (key i sv e)
    refine ⟨v, ?_, e2⟩
    have hi : i < (vs.map some).length := by rw [List.length_map]; exact (List.getElem?_eq_some_iff.mp e1).1
    unfold L2.start
    rw [List.getElem?_append_left hi, List.getElem?_map, e1]
    rfl
  refine ⟨?_, slot, fun i j ds es e1 _ _ => ?_⟩
  · unfold env0 L2.start
    simp only [List.length_append, List.length_map, List.length_replicate, hl]
  · obtain ⟨v, _, l, xs, _, n, s, _⟩ := slot i _ e1
    exact absurd n s
theorem body_run {t : TS} {T : DTS} [DS t T] {N : List Str} {α : Type} {dom : α → Prop} {pre : α → List SV} {post : α → R → Prop} {vs : List V} {H : Hp} {Q : VK} {E : XK} (h : spD dom pre post vs H Q E) (hT : ∀ a, dom a → T (endsD (post a)) (env0 N (pre a))) : t { nx := fun _ H' => Q .non H', rt := Q } (L2.start N vs) H := by
  obtain ⟨a, S, ha, hS, hv, q⟩ := h
  have o : (⟨S, S, H⟩ : Zs).Ok := ⟨fun _ s => s, hS.s, fun b s => let ⟨x, y, w, e⟩ := hS.s b s; ⟨_, e⟩, hS.tb⟩
  have ge : ∀ z' : Zs, (⟨S, S, H⟩ : Zs).Le z' → z'.Ok → Ge ⟨S, S, H⟩ z'.H := fun z' le o' => ⟨fun b u n w t => le.k b u n w t, fun b s => o'.src b (le.s b s), le.t⟩
  refine DS.run (t := t) ⟨S, S, H⟩ _ _ _ _ o (env0_ok hv) (hT a ha) ⟨fun z' σ' env' le o' _ p => q .non z'.H (.dat .none) (ge z' le o') .non p, fun z' H' v r le o' g rr p => ?_, fun _ _ _ _ _ _ p => p.elim, fun _ _ _ _ _ _ p => p.elim⟩
  obtain ⟨r', hf, p⟩ := p
  have g0 : Ge ⟨S, S, H⟩ H' := ⟨fun b u n e t => g.k b u (fun s => (le.n b (o'.sn b s)).elim n fun w => by
    have w : H b = none := w
    rw [show H b = some u from e] at w
    cases w) (le.k b u n e t) t, fun b s => g.s b (le.s b s), le.t.trans g.t⟩
  refine q v H' r' g0 ?_ p
  cases r with
  | dat d => obtain ⟨hn, rfl⟩ := hf; exact RD.free hn rr
  | new ds =>
    obtain ⟨hn, rfl⟩ := hf
    obtain ⟨l, xs, rfl, h0, h1, h2⟩ := rr
    exact ⟨l, xs, rfl, le.fresh h0, h1, RDs.free hn h2⟩
  | cur ds =>
    obtain ⟨hn, rfl⟩ := hf
    obtain ⟨l, xs, rfl, n0, s0, h1, h2⟩ := rr
    exact ⟨l, xs, rfl, (le.n l n0).resolve_left fun s => s0 (le.s l s), h1, RDs.free hn h2⟩
  | ins C rs => cases hf; exact rr
  | nsrc =>
    cases hf
    obtain ⟨l, rfl, h0, h1⟩ := rr
    exact ⟨l, rfl, le.fresh h0, h1⟩
  | src => exact hf.elim
  | hob u => cases hf; exact rr
  | scr K ns => exact hf.elim
section
variable {P : Program} {w : World} {K : PySem.W.Frag} {mg : Str → Option Value} {base : Heap}
theorem fnD {x qual : Str} {st : Stmt} {f : Addr} {fd : FuncData} {N ps : List Str} {k : Nat} {α : Type} {dom : α → Prop} {pre : α → List SV} {post : α → R → Prop} (F : Fun K x qual st f fd) (S : FnScope N ps (defScope st)) (hl : ∀ a, (pre a).length = ps.length)
    (hb : ∀ (cdv : Value) (A : Around) (outer : List Env) (s : Shared) (H : Hp) (E : XK), Room k (A.deeper (envOfC qual (defScope st) s.heap.objs.size f cdv)) → ∃ t T, PSs (cxOf CX0 P w K mg base N qual (defScope st) f cdv A outer s H E).nox (defBody st) t ∧ DS t T ∧ ∀ a, dom a → T (endsD (post a)) (env0 N (pre a))) :
    FnOk P w K mg base CX0 (k + 1) f fd ps (spD dom pre post) := by
  refine F.ok S (fun vs H Q E h => ?_) (fun cdv A outer s H vs Q E hr h => ?_)
  · obtain ⟨a, S, _, _, hv, _⟩ := h
    rw [hv.length]
    exact hl a
  · obtain ⟨t, T, ht, hd, hT⟩ := hb cdv A outer s H E hr
    exact ⟨t, ht, body_run (t := t) h hT⟩
theorem fnGD {x qual : Str} {st : Stmt} {f : Addr} {fd : FuncData} {N ps : List Str} {k : Nat} {α : Type} {dom : α → Prop} {pre : α → List SV} {post : α → R → Prop} (F : Fun K x qual st f fd) (S : FnScope N ps (defScope st)) (b : Binds K fd ps []) (hl : ∀ a, (pre a).length = ps.length)
    (hb : ∀ (cdv : Value) (A : Around) (outer : List Env) (s : Shared) (H : Hp) (E : XK), A.guards = some [] → Room k (A.deeper (envOfC qual (defScope st) s.heap.objs.size f cdv)) → ∃ t T, PSs (cxOf CX0 P w K mg base N qual (defScope st) f cdv A outer s H E) (defBody st) t ∧ DS t T ∧ ∀ a, dom a → T (endsD (post a)) (env0 N (pre a))) :
    FnG P w K mg base CX0 (k + 1) f (spD dom pre post) := by
  refine okG F S b (fun vs H Q E h => ?_) (fun cdv A outer s H vs Q E hg hr h => ?_)
  · obtain ⟨a, S, _, _, hv, _⟩ := h
    rw [hv.length]
    exact hl a
  · obtain ⟨t, T, ht, hd, hT⟩ := hb cdv A outer s H E hg hr
    exact ⟨t, ht, body_run (t := t) h hT⟩
end
section
variable {X : Cx} {CX : CXT} {k : Nat} {f : Addr} {sp : Sp} {E : XK} {x : Str} {p pos : Pos} {e : Expr} {es : List Expr} {t : TA}
/-- f(e, ..) of a def that shows values -/
theorem pe_callGD (F : FnG X.prog X.w X.K X.mg X.base CX k f sp) (hgd : X.A.guards = some []) (hr : Room k X.A) (hg : Gl X x) (hm : X.mg x = some (.ref f)) (hk : PySem.W.keepIn X.K (.ref f) = true) (hx : Passes CX X E)
    (ha : PA X (e :: es) t) (hdb : (x == ("__debug__" : Str)) = false := by decide) (he : starEach (e :: es) X.env = (false, eval e X.env) :: starEach es X.env := by rfl) (hpl : (backTo pos (starEach es X.env)).any (·.1) = false := by rfl) :
    PE X (.Call (.Name x p) (e :: es) [] pos) (tCall sp [] E t) := by
  have h := pe_callG (p := p) (pos := pos) F hgd hr hg hm hk hx ha hdb he hpl
  refine ⟨fun pins s σ H Q I q => h.run pins s σ H Q I ?_⟩
  unfold tCall at q
  simp only [List.append_nil] at q
  exact q
end
/-! ### instances -/
def dProp (C : Addr) (Ta : DTE) : DTE := fun env Qd => Ta env fun r => match r with
  | .ins C' rs => C' = C ∧ Qd (.dat (.tuple (rs.map ruleD)))
  | _ => False
instance {C : Addr} {E : XK} {ta : TE} {Ta : DTE} [DL ta Ta] : DL (tProp C (getSp C "held") [] E ta) (dProp C Ta) := ⟨fun z σ env Q Qd o e h q =>
  DL.run (t := ta) z σ env _ _ o e h fun v H1 r g1 r1 h1 => by
    split at h1
    · rename_i C' rs
      obtain ⟨rfl, h1⟩ := h1
      obtain ⟨x, rfl, dx, t, xs, q1, q2, q3⟩ := r1
      exact ⟨x, dx, _, rfl, q1, x, dx, _, _, rfl, q1, rfl, q _ H1 (.dat (.tuple (rs.map ruleD))) g1 (RD.tup q2 q3.rd) h1⟩
    · exact h1.elim⟩
def dFld (K : PySem.W.Frag) (Ta : DTE) (f : Str) : DTE := fun env Qd => Ta env fun r => match r with
  | .ins C rs => Cls K C ∧ NoAttr K C f ∧ f = "held" ∧ Qd (.dat (.tuple (rs.map ruleD)))
  | _ => False
instance {K : PySem.W.Frag} {f : Str} {ta : TE} {Ta : DTE} [DL ta Ta] : DL (tFld K ta f) (dFld K Ta f) := ⟨fun z σ env Q Qd o e h q =>
  DL.run (t := ta) z σ env _ _ o e h fun v H1 r g1 r1 h1 => by
    split at h1
    · rename_i C rs
      obtain ⟨c, n, rfl, h1⟩ := h1
      obtain ⟨x, rfl, dx, t, xs, q1, q2, q3⟩ := r1
      exact ⟨x, C, dx, _, _, rfl, q1, c, n, rfl, q _ H1 (.dat (.tuple (rs.map ruleD))) g1 (RD.tup q2 q3.rd) h1⟩
    · exact h1.elim⟩
/-- an instance called -/
def dCallO (C : Addr) (T : List R → (R → Prop) → Prop) (Tf : DTE) (Ta : DEnv → (List R → Prop) → Prop) : DTE := fun env Qd => Tf env fun r => match r with
  | .ins C' rs => C' = C ∧ Ta env fun as => T (.ins C rs :: as) Qd
  | _ => False
instance {X : Cx} {C : Addr} {sp : Sp} {E : XK} {tf : TE} {ta : TA} {T : List R → (R → Prop) → Prop} {Tf : DTE} {Ta : DEnv → (List R → Prop) → Prop} [SpD sp T] [DL tf Tf] [DA ta Ta] : DL (StX.tCallO X C sp E tf ta) (dCallO C T Tf Ta) := ⟨fun z σ env Q Qd o e h q =>
  DL.run (t := tf) z σ env _ _ o e h fun v H1 r g1 r1 h1 => by
    split at h1
    · rename_i C' rs
      obtain ⟨rfl, h1⟩ := h1
      obtain ⟨x, rfl, hx⟩ := id r1
      refine ⟨x, rfl, ?_⟩
      refine DA.run (t := ta) (z.at H1) σ env _ _ (g1.ok o) (e.on o g1) h1 fun vs H2 as g2 r2 h2 => ?_
      have r1' := r1.on o g1 g2
      obtain ⟨x', e', dx, t, xs, q1, q2, q3⟩ := id r1'
      cases e'
      exact ⟨.inr ⟨dx, _, q1⟩, SpD.run (sp := sp) z H2 (.ref x :: vs) (.ins _ rs :: as) Q Qd E o (g1.trans g2) ⟨r1', RRs.back g1 r2⟩ h2 q⟩
    · exact h1.elim⟩
end Cr

namespace Cr
open PySem PySem.Spec PyProof.Rows L2
variable [Tbl]

/-! ### defs by their names -/
/-- the module's x is a def that keeps sp -/
def Has (P : Program) (w : World) (K : PySem.W.Frag) (mg : Str → Option Value) (base : Heap) (n : Nat) (x : Str) (ps : List Str) (sp : Sp) : Prop :=
  ∃ f fd, mg x = some (.ref f) ∧ PySem.W.keepIn K (.ref f) = true ∧ Binds K fd ps [] ∧ FnOk P w K mg base CX0 n f fd ps sp
/-- .. that shows values -/
def HasG (P : Program) (w : World) (K : PySem.W.Frag) (mg : Str → Option Value) (base : Heap) (n : Nat) (x : Str) (sp : Sp) : Prop :=
  ∃ f, mg x = some (.ref f) ∧ PySem.W.keepIn K (.ref f) = true ∧ FnG P w K mg base CX0 n f sp
theorem Has.imp {P : Program} {w : World} {K : PySem.W.Frag} {mg : Str → Option Value} {base : Heap} {n : Nat} {x : Str} {ps : List Str} {sp sp' : Sp} (h : Has P w K mg base n x ps sp) (k : ∀ vs H Q E, sp' vs H Q E → sp vs H Q E) : Has P w K mg base n x ps sp' :=
  let ⟨f, fd, a, b, c, d⟩ := h; ⟨f, fd, a, b, c, d.imp k⟩
theorem pe_callH {X : Cx} {n : Nat} {x : Str} {ps : List Str} {sp : Sp} {p pos : Pos} {e : Expr} {es : List Expr} {t : TA} (h : Has X.prog X.w X.K X.mg X.base n x ps sp) (hr : Room n X.A) (hg : Gl X x) (ha : PA X (e :: es) t)
    (hdb : (x == ("__debug__" : Str)) = false := by decide) (he : starEach (e :: es) X.env = (false, eval e X.env) :: starEach es X.env := by rfl) (hpl : (backTo pos (starEach es X.env)).any (·.1) = false := by rfl) :
    PE X (.Call (.Name x p) (e :: es) [] pos) (tCall sp [] E0 t) := by
  obtain ⟨f, fd, hm, hk, hb, F⟩ := h
  exact pe_call F hr hg hm hk hb .nil pass0 ha hdb he hpl
theorem pe_callHG {X : Cx} {n : Nat} {x : Str} {sp : Sp} {p pos : Pos} {e : Expr} {es : List Expr} {t : TA} (h : HasG X.prog X.w X.K X.mg X.base n x sp) (hgd : X.A.guards = some []) (hr : Room n X.A) (hg : Gl X x) (ha : PA X (e :: es) t)
    (hdb : (x == ("__debug__" : Str)) = false := by decide) (he : starEach (e :: es) X.env = (false, eval e X.env) :: starEach es X.env := by rfl) (hpl : (backTo pos (starEach es X.env)).any (·.1) = false := by rfl) :
    PE X (.Call (.Name x p) (e :: es) [] pos) (tCall sp [] E0 t) := by
  obtain ⟨f, hm, hk, F⟩ := h
  exact pe_callGD F hgd hr hg hm hk (fun _ _ _ _ _ _ _ h => h.elim) ha hdb he hpl

/-! ### lists by their codes -/
theorem map_get {α β : Type} {as : List α} {f : α → β} {i : Nat} {d : β} (h : (as.map f)[i]? = some d) : ∃ a, as[i]? = some a ∧ d = f a := by
  rw [List.getElem?_map] at h
  cases e : as[i]? with
  | none => rw [e] at h; cases h
  | some a => rw [e] at h; exact ⟨a, rfl, (Option.some.inj h).symm⟩
theorem take_snoc {α : Type} {as : List α} {i : Nat} {a : α} (h : as[i]? = some a) : as.take (i + 1) = as.take i ++ [a] := by rw [List.take_succ, h]; rfl
/-- a comprehension whose parts are functions -/
theorem lc_pure {α : Type} {as : List α} {enc : α → PyData} (p : α → Bool) (f : α → PyData) {Body : PyData → (Option PyData → Prop) → Prop} {Qd : R → Prop} (hl : as.length ≤ 1000000)
    (step : ∀ a ∈ as, ∀ k : Option PyData → Prop, k (if p a = true then some (f a) else none) → Body (enc a) k) (q : Qd (.new ((as.filter p).map f))) :
    (as.map enc).length ≤ 1000000 ∧ ∃ Inv : Nat → List PyData → Prop, Inv 0 [] ∧ (∀ (i : Nat) (d : PyData) (acc : List PyData), (as.map enc)[i]? = some d → Inv i acc → Body d fun o => match o with | some e => Inv (i + 1) (acc ++ [e]) | none => Inv (i + 1) acc) ∧ ∀ acc, Inv (as.map enc).length acc → Qd (.new acc) := by
  refine ⟨by rw [List.length_map]; exact hl, fun i acc => acc = ((as.take i).filter p).map f, rfl, fun i d acc hd hi => ?_, fun acc hi => ?_⟩
  · obtain ⟨a, ha, rfl⟩ := map_get hd
    refine step a (List.mem_of_getElem? ha) _ ?_
    by_cases hp : p a = true
    · rw [if_pos hp]
      show acc ++ [f a] = _
      rw [take_snoc ha, List.filter_append, List.map_append, hi, List.filter_cons, if_pos hp]
      rfl
    · rw [if_neg hp]
      show acc = _
      rw [take_snoc ha, List.filter_append, List.map_append, hi, List.filter_cons, if_neg hp]
      simp
  · rw [List.length_map, List.take_length] at hi
    rw [hi]
    exact q
/-- .. as a reading says it -/
theorem dLc_pure {α : Type} {as : List α} {enc : α → PyData} (p : α → Bool) (f : α → PyData) {Ti : DEnv → (List PyData → Bool → Prop) → Prop} {Tg : PyData → DEnv → (DEnv → Prop) → Prop} {Tt : DEnv → (Bool → Prop) → Prop} {Te : DTE} {vs : List Nat} {env : DEnv} {Qd : R → Prop}
    {st : Bool} (hi : ∀ q : List PyData → Bool → Prop, q (as.map enc) st → Ti env q) (hl : as.length ≤ 1000000)
    (step : ∀ a ∈ as, ∀ k : Option PyData → Prop, k (if p a = true then some (f a) else none) → Tg (enc a) (wipeE env vs) fun env2 => Tt env2 fun b => if b = true then Te env2 fun r => match r.stay with | some e => k (some e) | none => False else k none)
    (q : Qd (.new ((as.filter p).map f))) : dLc Ti Tg Tt Te vs env Qd := by
  unfold dLc
  exact hi _ (lc_pure (Body := fun d k => Tg d (wipeE env vs) fun env2 => Tt env2 fun b => if b = true then Te env2 fun r => match r.stay with | some e => k (some e) | none => False else k none) p f hl step q)
/-- a loop over coded things -/
theorem loop_typed {α : Type} {as : List α} {enc : α → PyData} {Tg : PyData → DEnv → (DEnv → Prop) → Prop} {Tb : DTS} {Dd : DEnds} {env : DEnv} (Inv : Nat → DEnv → Prop) (h0 : Inv 0 env)
    (step : ∀ (i : Nat) (a : α) env', as[i]? = some a → Inv i env' → Tg (enc a) env' fun env2 => Tb { Dd with nx := Inv (i + 1), ct := Inv (i + 1), bk := Dd.nx } env2) (q : ∀ env', Inv as.length env' → Dd.nx env') : sLoop Tg Tb (as.map enc) Dd env := by
  unfold sLoop
  refine ⟨Inv, h0, fun i d env' hd hi => ?_, fun env' h => q env' (by rw [List.length_map] at h; exact h)⟩
  obtain ⟨a, ha, rfl⟩ := map_get hd
  exact step i a env' ha hi
theorem loop_range {lo : Int} {n : Nat} {Tg : PyData → DEnv → (DEnv → Prop) → Prop} {Tb : DTS} {Dd : DEnds} {env : DEnv} (Inv : Nat → DEnv → Prop) (h0 : Inv 0 env)
    (step : ∀ (i : Nat) env', i < n → Inv i env' → Tg (.int (lo + (i : Int))) env' fun env2 => Tb { Dd with nx := Inv (i + 1), ct := Inv (i + 1), bk := Dd.nx } env2) (q : ∀ env', Inv n env' → Dd.nx env') : sLoop Tg Tb (rangeD lo n) Dd env := by
  unfold sLoop
  refine ⟨Inv, h0, fun i d env' hd hi => ?_, fun env' h => q env' (by rw [rangeD_len] at h; exact h)⟩
  obtain ⟨hlt, rfl⟩ := rangeD_get hd
  exact step i env' hlt hi
/-- a comprehension by an invariant -/
theorem dLc_by {Ti : DEnv → (List PyData → Bool → Prop) → Prop} {Tg : PyData → DEnv → (DEnv → Prop) → Prop} {Tt : DEnv → (Bool → Prop) → Prop} {Te : DTE} {vs : List Nat} {env : DEnv} {Qd : R → Prop} {ds : List PyData} {st : Bool} (Inv : Nat → List PyData → Prop) (hi : ∀ q : List PyData → Bool → Prop, q ds st → Ti env q) (hl : ds.length ≤ 1000000) (h0 : Inv 0 [])
    (step : ∀ (i : Nat) (d : PyData) (acc : List PyData), ds[i]? = some d → Inv i acc → Tg d (wipeE env vs) fun env2 => Tt env2 fun b => if b = true then Te env2 fun r => match r.stay with | some e => Inv (i + 1) (acc ++ [e]) | none => False else Inv (i + 1) acc) (q : ∀ acc, Inv ds.length acc → Qd (.new acc)) : dLc Ti Tg Tt Te vs env Qd := by
  unfold dLc
  exact hi _ ⟨hl, Inv, h0, step, q⟩
/-! ### shapes -/
theorem noLs_map {α : Type} {f : α → PyData} (h : ∀ a, noL (f a) = true) : ∀ l : List α, noLs (l.map f) = true
  | [] => rfl
  | a :: l => by rw [List.map_cons, noLs, h a, noLs_map h l]; rfl
theorem cond_noL (c : Cond) : noL (condD c) = true := rfl
theorem case_noL (c : Case) : noL (caseD c) = true := by show noLs (c.map condD) = true; exact noLs_map cond_noL c
theorem rule_noL (r : Rule) : noL (ruleD r) = true := by
  show (noL (caseD r.1) && (noL (.int r.2) && true)) = true
  rw [case_noL]; rfl
theorem plainDs_map {α : Type} {f : α → PyData} (h : ∀ a, plainD (f a) = true) : ∀ l : List α, plainDs (l.map f) = true
  | [] => rfl
  | a :: l => by rw [List.map_cons, plainDs, h a, plainDs_map h l]; rfl
theorem cond_plain (c : Cond) : plainD (condD c) = true := rfl
theorem case_plain (c : Case) : plainD (caseD c) = true := by show plainDs (c.map condD) = true; exact plainDs_map cond_plain c
theorem rule_plain (r : Rule) : plainD (ruleD r) = true := by
  show (plainD (caseD r.1) && (plainD (.int r.2) && true)) = true
  rw [case_plain]; rfl
theorem rules_plain (rs : List Rule) : plainD (.tuple (rs.map ruleD)) = true := by show plainDs (rs.map ruleD) = true; exact plainDs_map rule_plain rs
end Cr

namespace Cr
open PySem PySem.Spec PyProof.Rows L2
variable [Tbl]

theorem _root_.L2.Room.u65 {k : Nat} {A : Around} (r : Room k A) : A.units + 65 < cLine := by have := r.un; omega
theorem _root_.L2.Room.u66 {k : Nat} {A : Around} (r : Room k A) : A.units + 66 < cLine := by have := r.un; omega
/-! ### sorted of data, from a list or a tuple -/
section
variable {prog : Program} {w : World} {A : Around} {E : Value → Shared → Prop} {s : Shared}
theorem collect_tup {l : Addr} {vs : List Value} {Q : List Value → Shared → Prop} (hl : s.heap.IsTuple l vs.toArray)
    (h : Q vs { s with heap := (s.heap.push (seqObj "list" #[] 0)).update s.heap.objs.size (Obj.mapSeq (· ++ vs.toArray)) }) (hsz : vs.length ≤ sizeLine) :
    wpAny (model prog w) A (collect (.ref l)) Q E s := by
  obtain ⟨o, ho, hc, n, hd⟩ := id hl
  unfold collect
  refine wpAny_bind (wpAny_runValue (codeAny_builtin entry_proto_collect' ?_))
  show wpAny _ _ (do again (.builtin "list.__iadd__" ⟨[← newList [], .ref l], []⟩)) _ _ s
  refine wpAny_bind (wpAny_newList (wpAny_pure ⟨Code.quiet_builtin _ (by decide +kernel), codeAny_builtin entry_list_iadd' ?_⟩) (Nat.zero_le _))
  show wpAny _ _ (Builtin.List.listExtendWith (.ref s.heap.objs.size) (.ref l) (.ref s.heap.objs.size)) _ _ { s with heap := s.heap.push (seqObj "list" #[] 0) }
  unfold Builtin.List.listExtendWith
  have ho' : (s.heap.push (seqObj "list" #[] 0)).get? l = some o := Heap.get?_push_of_some _ ho
  refine wpAny_bind (wpAny_typeOf (T := "tuple") ⟨o, ho', hc⟩ ?_)
  have ht : (Value.type "tuple" == Value.type "tuple") = true := by rfl
  rw [if_pos (by rw [ht]; simp)]
  refine wpAny_bind (listItems_at ho' hd ?_)
  refine wpAny_bind (listItems_at (xs := #[]) (n := 0) (Heap.get?_push_size _ rfl) rfl ?_)
  rw [if_neg (by simp)]
  refine wpAny_bind (listUpdate_at (xs := #[]) (n := 0) (Heap.get?_push_size _ rfl) rfl ?_ (Nat.zero_le _) (by show (#[] ++ vs.toArray).size ≤ sizeLine + 1; simp only [Array.size_append, List.size_toArray, List.length_nil]; omega))
  refine wpAny_pure ?_
  show wpAny (model prog w) A (do
      let o ← load s.heap.objs.size
      match o.data with
      | .seq xs _ => pure xs.toList
      | _ => unsupported "internal:collect") Q E { s with heap := (s.heap.push (seqObj "list" #[] 0)).update s.heap.objs.size (Obj.mapSeq (· ++ vs.toArray)) }
  refine wpAny_bind (wpAny_load (get?_update_seq (Heap.get?_push_size _ rfl) _) ?_)
  show wpAny _ _ (pure ((#[] : Array Value) ++ vs.toArray).toList) Q E _
  rw [show ((#[] : Array Value) ++ vs.toArray).toList = vs by simp]
  exact wpAny_pure h
theorem sorted_of_sortT {l : Addr} {vs : List Value} {kw : List (Str × Value)} {Q : Value → Shared → Prop} (hl : s.heap.IsTuple l vs.toArray) (hL : vs.length ≤ sizeLine) (ha1 : argsOk "sorted" ⟨[.ref l], kw⟩) (ha2 : ∀ x, argsOk "list.sort" ⟨[.ref x], kw⟩)
    (body : ∀ E' : Value → Shared → Prop, wpAny (model prog w) A.in1.in1 (Builtin.«list.sort» ⟨[.ref (s.heap.objs.size + 1)], kw⟩) (fun f s' => f = .done (.ret .none) ∧ Q (.ref (s.heap.objs.size + 1)) s') E' { s with heap := PySem.W.copyHeap s.heap vs }) :
    wpAny (model prog w) A (call (.builtin "sorted") [.ref l] kw) Q E s := by
  refine call_function_entry_kw kind_sorted plain_sorted entry_sorted ha1 ?_
  unfold Builtin.«sorted»
  refine wpAny_bind (m := checkCount "sorted" 1 1 _) (wpAny_pure ?_)
  refine wpAny_bind (collect_tup hl ?_ hL)
  refine wpAny_bind (wpAny_newList ?_ hL)
  have hsz : ((s.heap.push (seqObj "list" #[] 0)).update s.heap.objs.size (Obj.mapSeq (· ++ vs.toArray))).objs.size = s.heap.objs.size + 1 := by
    rw [Heap.size_update, size_push']
  show wpAny _ _ _ _ _ { s with heap := PySem.W.copyHeap s.heap vs }
  rw [hsz]
  refine wpAny_bind (wpAny_holding (wpAny_call_entry_kw slot_list_sort ⟨_, PySem.W.copyHeap_at s.heap vs, rfl⟩ entry_list_sort ?body (ha2 _)))
  case body =>
    show wpAny (model prog w) A.in1.in1 (Builtin.«list.sort» ⟨[.ref (s.heap.objs.size + 1)], kw⟩) _ _ _
    refine wpAny_mono (body _) (fun f s' hf => ?_) fun _ _ e => e
    obtain ⟨rfl, hq⟩ := hf
    exact ⟨_, rfl, wpAny_pure ⟨_, rfl, hq⟩⟩
open PySem.W in
theorem sorted_dataT {β : Type} {vs : List Value} {bs : List β} {enc : β → PyData} {R : Value → β → Prop} {l : Addr} {Q : Value → Shared → Prop} (hl : s.heap.IsTuple l vs.toArray) (e : EachIs R vs bs) (er : EachIs (fun v b => ∃ as, Reads s.heap v (enc b) as) vs bs) (hal : AllAlike (bs.map enc)) (hk : Sortable (bs.map enc)) (hL : bs.length ≤ sizeLine)
    (hu : ∀ b, b ∈ bs → A.units + 2 + (enc b).depth < cLine) (h : ∀ out, out.length = bs.length → EachIs R out (bs.mergeSort (dataLe false enc)) → Q (.ref (s.heap.objs.size + 1)) { s with heap := sortedAll s.heap vs (List.toArray out) }) :
    wpAny (model prog w) A (call (.builtin "sorted") [.ref l]) Q E s := by
  have er' : EachIs (fun v b => ∃ as, Reads (sortingHeap (copyHeap s.heap vs) (s.heap.objs.size + 1) vs) v (enc b) as) vs bs := er.mono fun _ _ ⟨as, r⟩ => ⟨as, PyProof.Rows.Reads.keeps (fun _ _ => sorting_copy_old) r⟩
  have hL' : vs.length ≤ sizeLine := by rw [e.length]; exact hL
  exact sorted_of_sortT hl hL' (args_sorted1 _) (fun _ => args_list_sort _) fun _ => list_sort_vals (κ := dataKind (sortingHeap (copyHeap s.heap vs) (s.heap.objs.size + 1) vs) (bs.map enc)) (s := { s with heap := copyHeap s.heap vs }) (copyHeap_at s.heap vs)
    (SortsAt.data (s := { s with heap := sortingHeap (copyHeap s.heap vs) (s.heap.objs.size + 1) vs }) (each_map (R := fun v d => ∃ as, Reads (sortingHeap (copyHeap s.heap vs) (s.heap.objs.size + 1) vs) v d as) enc er') hal hk (bound_map (A := A.in1.in1) hu)) hL' ⟨rfl, h _ (by rw [sortVals_length false rfl]; exact e.length) (sortVals_data false e er' hal)⟩
end
/-- sorted(xs): the items read as enc b for the bs; the new list holds them in order -/
def rSortE {β : Type} (K : PySem.W.Frag) (enc : β → PyData) : List V → Hp → VK → Prop := fun vs H Q => ∃ (N : Addr → Prop) (a : Addr) (xs : List V) (bs : List β), vs = [V.ref a] ∧ (SqL K H a xs ∨ SqT K H a xs) ∧ RDs N H xs (bs.map enc) ∧ PySem.W.AllAlike (bs.map enc) ∧ PySem.W.Sortable (bs.map enc) ∧ (∀ b ∈ bs, (enc b).depth ≤ 60) ∧
  ∀ ys p, H p = none → RDs N H ys ((bs.mergeSort (PySem.W.dataLe false enc)).map enc) → Q (.ref p) (upd H p (.lst ys))
section
variable {X : Cx} {β : Type} {enc : β → PyData}
theorem each_rd {N : Addr → Prop} {pins : List (Addr × Obj)} {s : Shared} {σ : L2.St} {H : Hp} (I : Inv X pins σ H s) : ∀ {xs : List V} {us : List Value} {bs : List β}, Vals xs us → RDs N H xs (bs.map enc) → PySem.W.EachIs (fun (u : Value) b => ∃ x, RelV x u ∧ RD N H x (enc b)) us bs
  | _, _, [], .nil, _ => .nil
  | _, _, b :: bs, .nil, h => (nomatch h)
  | _, _, [], .cons _ _, h => (nomatch h)
  | _, _, b :: bs, .cons r rr, h => by
    cases h with
    | cons h1 h2 => exact .cons ⟨_, r, h1⟩ (each_rd I rr h2)
theorem rd_each {N : Addr → Prop} {H : Hp} : ∀ {us : List Value} {bs : List β}, PySem.W.EachIs (fun (u : Value) b => ∃ x, RelV x u ∧ RD N H x (enc b)) us bs → ∃ xs, Vals xs us ∧ RDs N H xs (bs.map enc)
  | _, _, .nil => ⟨[], .nil, .nil⟩
  | _, _, .cons ⟨x, r, h⟩ t => by
    obtain ⟨xs, rr, hh⟩ := rd_each t
    exact ⟨x :: xs, .cons r rr, .cons h hh⟩
theorem cr_sortedE (hu : X.A.units + 66 < cLine) : CallR X (.builtin "sorted") (rSortE X.K enc) := by
  intro pins s σ H vs us Q I r h
  obtain ⟨N, a, xs, bs, rfl, hs, rs, hal, hk, hdep, q⟩ := h
  obtain ⟨u, rfl, ru⟩ := vals1 r
  obtain rfl : u = Value.ref a := ru
  have key : ∀ (its : List Value), Vals xs its → xs.length ≤ sizeLine → ∀ out : List Value, out.length = bs.length → PySem.W.EachIs (fun (u : Value) b => ∃ x, RelV x u ∧ RD N H x (enc b)) out (bs.mergeSort (PySem.W.dataLe false enc)) →
      EP X pins σ Q (.ref (s.heap.objs.size + 1)) { s with heap := sortedAll s.heap its (List.toArray out) } := fun its rv hz out hlen he => by
    obtain ⟨ys, ry, hy⟩ := rd_each he
    obtain ⟨ep, he'⟩ := PyProof.Rows.sortedAll_at s.heap its (List.toArray out)
    have hyl : ys.length ≤ sizeLine := by rw [ry.length, hlen]; have := rs.length; rw [List.length_map] at this; omega
    exact ⟨.ref _, upd H (s.heap.objs.size + 1) (.lst ys), I.laid (t' := s.toks) (fun _ _ => PyProof.Rows.sortedAll_old) (Nat.le_succ _) ⟨hyl, out, ep, ry, he'⟩, rfl, q ys _ (I.hok.fresh (Nat.le_succ _)) hy⟩
  have hbl : xs.length = bs.length := by have := rs.length; rw [List.length_map] at this; exact this
  have er : ∀ its, Vals xs its → PySem.W.EachIs (fun v b => ∃ as, Reads s.heap v (enc b) as) its bs := fun its rv => (each_rd I rv rs).mono fun u b ⟨x, rx, hx⟩ => Dp.reads I _ x u hx.dp rx
  have hu2 : ∀ b, b ∈ bs → X.A.units + 2 + (enc b).depth < cLine := fun b hb => by have := hdep b hb; omega
  rcases hs with hs | hs
  · obtain ⟨its, rv, hl, hz⟩ := I.list hs
    exact PySem.W.sorted_data hl.isList (each_rd I rv rs) (er its rv) hal hk (by omega) hu2 (key its rv hz)
  · obtain ⟨its, rv, hl, hz⟩ := I.tuple hs
    exact sorted_dataT (show s.heap.IsTuple a its.toArray from hl) (each_rd I rv rs) (er its rv) hal hk (by omega) hu2 (key its rv hz)
end
def cSort {β : Type} (enc : β → PyData) : List R → (R → Prop) → Prop := fun rs Qd => match rs with
  | [r] => ∃ bs : List β, seqD r = some (bs.map enc) ∧ PySem.W.AllAlike (bs.map enc) ∧ PySem.W.Sortable (bs.map enc) ∧ (∀ b ∈ bs, (enc b).depth ≤ 60) ∧ Qd (.new ((bs.mergeSort (PySem.W.dataLe false enc)).map enc))
  | _ => False
instance {β : Type} {K : PySem.W.Frag} {enc : β → PyData} : CbD (rSortE K enc) (cSort enc) := ⟨fun z H vs rs Q Qd o g1 r1 h q => by
  unfold cSort at h
  split at h
  · rename_i r
    match vs, r1 with
    | [v], ⟨r1, _⟩ =>
      obtain ⟨bs, hd, hal, hk, hdep, h⟩ := h
      obtain ⟨a, xs, rfl, ha, rs⟩ := seq_rr K r1 hd
      refine ⟨z.N, a, xs, bs, rfl, ha, rs, hal, hk, hdep, fun ys p hp hy => ?_⟩
      exact q _ _ (.new _) (new_ge o g1 hp) ⟨p, ys, rfl, g1.fresh hp, upd_same, RDs.mono (new_keepP o g1 hp) hy⟩ h
  · exact h.elim⟩
/-- rules, conditions, ints can be sorted -/
theorem alikeAll_conds : ∀ a b : Case, PySem.W.alikeAll (a.map condD) (b.map condD) = true
  | [], _ => by simp [PySem.W.alikeAll]
  | _ :: _, [] => by simp [PySem.W.alikeAll]
  | x :: a, y :: b => by
    rw [List.map_cons, List.map_cons, PySem.W.alikeAll, alikeAll_conds a b]
    simp [condD, PySem.W.alike, PySem.W.alikeAll]
theorem alike_case (a b : Case) : PySem.W.alike (caseD a) (caseD b) = true := by simp only [caseD, PySem.W.alike]; exact alikeAll_conds a b
theorem alike_cond (a b : Cond) : PySem.W.alike (condD a) (condD b) = true := by simp [condD, PySem.W.alike, PySem.W.alikeAll]
theorem alike_rule (a b : Rule) : PySem.W.alike (ruleD a) (ruleD b) = true := by
  have h := alike_case a.1 b.1
  simp only [ruleD, PySem.W.alike, PySem.W.alikeAll, h]
  rfl

/-! ### operators of own classes -/
/-- C's m is a def that keeps sp -/
def HasM (P : Program) (w : World) (K : PySem.W.Frag) (mg : Str → Option Value) (base : Heap) (n : Nat) (C : Addr) (m : Str) (ps : List Str) (sp : Sp) : Prop :=
  ∃ f fd, PySem.W.findIn K (.ref C) m = some (some (.ref f)) ∧ PySem.W.isFn K (.ref f) = true ∧ Binds K fd ps [] ∧ FnOk P w K mg base CX0 n f fd ps sp
def rInOwn (C : Addr) (sp : Sp) (neg : Bool) : R2 := fun x y H Q => ∃ a dx fs, y = .ref a ∧ H a = some (.ins C dx fs) ∧ sp [.ref a, x] H (fun v H' => ∃ b, v = .bl b ∧ Q (.bl (if neg then !b else b)) H') E0
def rAddOwn (C : Addr) (sp : Sp) : R2 := fun x y H Q => ∃ a b dx fs dy gs, x = .ref a ∧ y = .ref b ∧ H a = some (.ins C dx fs) ∧ H b = some (.ins C dy gs) ∧ sp [.ref a, .ref b] H Q E0
section
variable {X : Cx} {n : Nat} {C : Addr} {ps : List Str} {sp : Sp}
theorem op_inOwn (h : HasM X.prog X.w X.K X.mg X.base n C "__contains__" ps sp) (hr : Room n X.A) : OpR X (compareOp .In) (rInOwn C sp false) := by
  obtain ⟨f, fd, hs, hf, hb, F⟩ := h
  intro pins s σ H x y v u Q I rx ry hq
  obtain ⟨a, dx, fs, rfl, ha, q⟩ := hq
  cases ry
  obtain ⟨mA, J, _⟩ := ins_get I.hok ha
  obtain ⟨od, J, _⟩ := J.look
  obtain ⟨m, hF⟩ := I.fr
  refine PySem.W.in_K hF I.ok.mod.kin J hs hf ?_
  refine thn (run_fn (Q := fun v H' => ∃ b, v = .bl b ∧ Q (.bl b) H') (us := [.ref a, v]) (vs := [.ref a, x]) F hr hb .nil pass0 I (.cons rfl (.cons rx .nil)) (by rw [List.append_nil]; exact q)) fun r s' z => ?_
  obtain ⟨w, H', I', rw', b, e, q'⟩ := z
  subst e
  obtain rfl : r = Value.bool b := rw'
  exact wpAny_truthy_bool ⟨.bl b, H', I', rfl, q'⟩
theorem op_notInOwn (h : HasM X.prog X.w X.K X.mg X.base n C "__contains__" ps sp) (hr : Room n X.A) : OpR X (compareOp .NotIn) (rInOwn C sp true) := by
  obtain ⟨f, fd, hs, hf, hb, F⟩ := h
  intro pins s σ H x y v u Q I rx ry hq
  obtain ⟨a, dx, fs, rfl, ha, q⟩ := hq
  cases ry
  obtain ⟨mA, J, _⟩ := ins_get I.hok ha
  obtain ⟨od, J, _⟩ := J.look
  obtain ⟨m, hF⟩ := I.fr
  refine PySem.W.notIn_K hF I.ok.mod.kin J hs hf ?_
  refine thn (run_fn (Q := fun v H' => ∃ b, v = .bl b ∧ Q (.bl (!b)) H') (us := [.ref a, v]) (vs := [.ref a, x]) F hr hb .nil pass0 I (.cons rfl (.cons rx .nil)) (by rw [List.append_nil]; exact q)) fun r s' z => ?_
  obtain ⟨w, H', I', rw', b, e, q'⟩ := z
  subst e
  obtain rfl : r = Value.bool b := rw'
  exact wpAny_truthy_bool ⟨.bl (!b), H', I', rfl, q'⟩
theorem back_of {pins : List (Addr × Obj)} {σ : L2.St} {Q : VK} {u : Value} {s' : Shared} (h : EP X pins σ Q u s') : PySem.W.CmpBack (EP X pins σ Q) u s' := by
  obtain ⟨v, H', I', r, q⟩ := id h
  cases u with
  | notImplemented => cases v <;> first | (obtain ⟨t, e⟩ := r; cases e) | cases r
  | _ => exact h
theorem op_addOwn (h : HasM X.prog X.w X.K X.mg X.base n C "__add__" ps sp) (hc : PySem.W.selfFirst X.K C = true) (hr : Room n X.A) : OpR X (binaryOp .Add) (rAddOwn C sp) := by
  obtain ⟨f, fd, hs, hf, hb, F⟩ := h
  intro pins s σ H x y v u Q I rx ry hq
  obtain ⟨a, b, dx, fs, dy, gs, rfl, rfl, ha, hb', q⟩ := hq
  cases rx
  cases ry
  obtain ⟨mA, J, _⟩ := ins_get I.hok ha
  obtain ⟨od, J, _⟩ := J.look
  obtain ⟨mB, J', _⟩ := ins_get I.hok hb'
  obtain ⟨od', J', _⟩ := J'.look
  obtain ⟨m, hF⟩ := I.fr
  refine PySem.W.binop_K (op := .Add) hF I.ok.mod.kin J J'.type hc hs hf ?_
  exact thn (run_fn (us := [.ref a, .ref b]) (vs := [.ref a, .ref b]) F hr hb .nil pass0 I (.cons rfl (.cons rfl .nil)) (by rw [List.append_nil]; exact q)) fun r s' z => back_of z
theorem op_eqOwn (h : HasM X.prog X.w X.K X.mg X.base n C "__eq__" ps sp) (hr : Room n X.A) : OpR X (compareOp .Eq) (rAddOwn C sp) := by
  obtain ⟨f, fd, hs, hf, hb, F⟩ := h
  intro pins s σ H x y v u Q I rx ry hq
  obtain ⟨a, b, dx, fs, dy, gs, rfl, rfl, ha, hb', q⟩ := hq
  cases rx
  cases ry
  obtain ⟨mA, J, _⟩ := ins_get I.hok ha
  obtain ⟨od, J, _⟩ := J.look
  obtain ⟨mB, J', _⟩ := ins_get I.hok hb'
  obtain ⟨od', J', _⟩ := J'.look
  obtain ⟨m, hF⟩ := I.fr
  refine PySem.W.cmp_K (op := .Eq) (tb := .ref C) hr.units0 hF I.ok.mod.kin J J'.type (by simp [PySem.W.notFirst]) hs hf ?_
  exact thn (run_fn (us := [.ref a, .ref b]) (vs := [.ref a, .ref b]) F hr hb .nil pass0 I (.cons rfl (.cons rfl .nil)) (by rw [List.append_nil]; exact q)) fun r s' z => back_of z
end
def oInOwn (C : Addr) (neg : Bool) (T : List R → (R → Prop) → Prop) : R → R → (R → Prop) → Prop := fun x y Qd => match y with
  | .ins C' rs => C' = C ∧ T [.ins C rs, x] fun r => match r with
    | .dat (.bool b) => Qd (.dat (.bool (if neg then !b else b)))
    | _ => False
  | _ => False
instance {C : Addr} {sp : Sp} {neg : Bool} {T : List R → (R → Prop) → Prop} [SpD sp T] : OpD (rInOwn C sp neg) (oInOwn C neg T) := ⟨fun z H v u x y Q Qd o g1 r1 r2 h q => by
  unfold oInOwn at h
  split at h
  · rename_i C' rs
    obtain ⟨rfl, h⟩ := h
    obtain ⟨a, rfl, dx, t, xs, q1, q2, q3⟩ := id r2
    refine ⟨a, dx, _, rfl, q1, SpD.run (sp := sp) z H [.ref a, v] [.ins _ rs, x] _ _ E0 o g1 ⟨r2, r1, trivial⟩ h fun w H' c g' r' h' => ?_⟩
    split at h'
    · rename_i b
      exact ⟨b, rr_bool r', q _ H' (.dat (.bool _)) g' (RD.bl _) h'⟩
    · exact h'.elim
  · exact h.elim⟩
def oTwoOwn (C : Addr) (T : List R → (R → Prop) → Prop) : R → R → (R → Prop) → Prop := fun x y Qd => match x, y with
  | .ins C1 rs, .ins C2 ss => C1 = C ∧ C2 = C ∧ T [.ins C rs, .ins C ss] Qd
  | _, _ => False
instance {C : Addr} {sp : Sp} {T : List R → (R → Prop) → Prop} [SpD sp T] : OpD (rAddOwn C sp) (oTwoOwn C T) := ⟨fun z H v u x y Q Qd o g1 r1 r2 h q => by
  unfold oTwoOwn at h
  split at h
  · rename_i C1 rs C2 ss
    obtain ⟨rfl, rfl, h⟩ := h
    obtain ⟨a, rfl, dx, t, xs, q1, q2, q3⟩ := id r1
    obtain ⟨b, rfl, dy, t', ys, q1', q2', q3'⟩ := id r2
    exact ⟨a, b, dx, _, dy, _, rfl, rfl, q1, q1', SpD.run (sp := sp) z H [.ref a, .ref b] [.ins _ rs, .ins _ ss] Q Qd E0 o g1 ⟨r1, r2, trivial⟩ h q⟩
  · exact h.elim⟩
/-! ### making lists of rules -/
/-- what Listing.__init__ asks behind its binding -/
def spInit0 (C : Addr) : Sp := fun vs H Q _ => ∃ (x dx p : Addr) (xs : List V) (rs : List Rule), vs = [.ref x, .ref p] ∧ H x = some (.ins C dx []) ∧ PT H p xs ∧ TDs H xs (rs.map ruleD) ∧ RulesOk 12 rs ∧
  ∀ H', SB x H H' → H' x = some (.ins C dx [("held", .ref p)]) → Q .non H'
def spMk (C : Addr) : Sp := fun vs H Q E => ∃ x dx fs rest, vs = V.ref x :: rest ∧ rest.length ≤ sizeLine ∧ H x = some (.ins C dx fs) ∧ ∀ p, H p = none →
  (fun vs H Q E => ∃ ws rest, vs = ws ++ rest ∧ ws.length = (["self"] : List Str).length ∧ rest.length ≤ sizeLine ∧ ∀ (p : Addr) (o : Obj), H p = none → o.dict = none → spInit0 C (ws ++ [V.ref p]) (upd H p (ptO o rest)) Q E) (V.ref x :: rest) (upd H p (.tup rest)) (fun _ H' => Q .non H') E
theorem mk_run {C : Addr} {E : XK} {z : Zs} {H1 : Hp} {xs : List V} {rs : List Rule} {Q : VK} {Qd : R → Prop} (o : z.Ok) (g : Ge z H1) (tx : TDs H1 xs (rs.map ruleD)) (ok : RulesOk 12 rs) (hq : Qd (.ins C rs)) (q : ∀ v H' r, Ge z H' → RR z H' v r → Qd r → Q v H')
    (y dx : Addr) (hy : H1 y = none) (hdx : H1 dx = none) (hne : dx ≠ y) : spMk C (V.ref y :: xs) (upd (upd H1 dx (.own y)) y (.ins C dx [])) (fun r H3 => r = .non ∧ Q (.ref y) H3) E := by
  have s1 : Same H1 (upd H1 dx (.own y)) := Same.new hdx
  have hy1 : upd H1 dx (.own y) y = none := by rw [upd_ne hne.symm]; exact hy
  have s2 : Same H1 (upd (upd H1 dx (.own y)) y (.ins C dx [])) := s1.trans (Same.new hy1)
  have hlen : xs.length ≤ sizeLine := by have := tx.length; rw [List.length_map] at this; have := ok.few; rw [sizeLine_eq]; omega
  refine ⟨y, dx, [], xs, rfl, hlen, upd_same, fun p hp => ⟨[.ref y], xs, rfl, rfl, hlen, fun p2 o2 hp2 hd2 => ?_⟩⟩
  generalize hHa : upd (upd (upd H1 dx (.own y)) y (.ins C dx [])) p (.tup xs) = Ha at *
  have s3 : Same H1 Ha := by rw [← hHa]; exact s2.trans (Same.new hp)
  have ya : Ha y = some (.ins C dx []) := by rw [← hHa, upd_ne (ne_of_none upd_same hp)]; exact upd_same
  have s4 : Same Ha (upd Ha p2 (ptO o2 xs)) := Same.new hp2
  refine ⟨y, dx, p2, xs, rs, rfl, s4 _ _ ya, PT.new hd2, tx.mono (TK.same (s3.trans s4)), ok, fun H2 sb e2 => ⟨rfl, ?_⟩⟩
  have ne2 : p2 ≠ y := fun z => by rw [z, ya] at hp2; cases hp2
  have tk : TK (upd Ha p2 (ptO o2 xs)) H2 := fun a ys e => e.on fun u w => sb a u (e.neq (s4 _ _ ya) (fun _ _ z => by cases z)) w
  refine q (.ref y) H2 (.ins C rs) (g.trans (Ge.same (g.ok o) fun b u eb => sb b u (ne_of_none eb hy) (s4 _ _ (s3 _ _ eb)))) ⟨y, rfl, dx, p2, xs, e2, tk _ _ (PT.new hd2), tx.mono ((TK.same (s3.trans s4)).trans tk)⟩ hq
/-- C(*e) -/
def dMakeS (C : Addr) (Te : DTE) : DTE := fun env Qd => Te env fun r => ∃ rs : List Rule, seqD r = some (rs.map ruleD) ∧ RulesOk 12 rs ∧ Qd (.ins C rs)
instance {X : Cx} {C : Addr} {E : XK} {te : TE} {Te : DTE} [DL te Te] : DL (tMakeLS X C (spMk C) E (tC (.ref C)) te) (dMakeS C Te) := ⟨fun z σ env Q Qd o e h q => by
  refine ⟨rfl, DL.run (t := te) z σ env _ _ o e h fun v H1 r g1 r1 h1 => ?_⟩
  obtain ⟨rs, hd, ok, hq⟩ := h1
  obtain ⟨a, xs, rfl, ha, rr⟩ := seq_rr X.K r1 hd
  have tx : TDs H1 xs (rs.map ruleD) := RDs.td (plainDs_map rule_plain rs) rr
  exact ⟨a, xs, rfl, ha.symm, fun y dx hy hdx hne => mk_run o g1 tx ok hq q y dx hy hdx hne⟩⟩
/-- C(e, ..) -/
def dMakeR (C : Addr) (Ta : DEnv → (List R → Prop) → Prop) : DTE := fun env Qd => Ta env fun as => ∃ rs : List Rule, stays as = some (rs.map ruleD) ∧ RulesOk 12 rs ∧ Qd (.ins C rs)
instance {C : Addr} {E : XK} {ta : TA} {Ta : DEnv → (List R → Prop) → Prop} [DA ta Ta] : DL (StX.tMakeR C (spMk C) E ta) (dMakeR C Ta) := ⟨fun z σ env Q Qd o e h q => by
  refine DA.run (t := ta) z σ env _ _ o e h fun vs H1 as g1 r1 h1 => ?_
  obtain ⟨rs, hd, ok, hq⟩ := h1
  have tx : TDs H1 vs (rs.map ruleD) := RDs.td (plainDs_map rule_plain rs) (stays_rd o r1 hd)
  exact fun y dx hy hdx hne => mk_run o g1 tx ok hq q y dx hy hdx hne⟩
end Cr

namespace Cr
open PySem PySem.Spec PyProof.Rows L2
/-! ### the text by places -/
def top (i : Nat) : Stmt := PySem.Challenge.pw_closestrule_k69_whole_cases_say_all.main.body.getD i (.Pass ⟨0, 0, 0, 0⟩)
abbrev s_wall : Stmt := top 0
abbrev s_is_number : Stmt := top 13
abbrev s_is_condition : Stmt := top 14
abbrev s_is_case : Stmt := top 15
abbrev s_is_rule : Stmt := top 16
abbrev s_are_rules : Stmt := top 17
abbrev s_need_case : Stmt := top 18
abbrev s_lies_within : Stmt := top 20
abbrev s_lies_strictly_within : Stmt := top 21
abbrev s_meet : Stmt := top 22
abbrev s_together : Stmt := top 23
abbrev s_matching_rules : Stmt := top 24
abbrev s_is_beaten : Stmt := top 25
abbrev s_deciding_rules : Stmt := top 26
abbrev s_results_for : Stmt := top 27
abbrev s_by_size : Stmt := top 28
abbrev s_cases_that_matter : Stmt := top 29
abbrev s_write_rule : Stmt := top 31
abbrev s_write_rules : Stmt := top 32
abbrev s_read_number : Stmt := top 33
abbrev s_read_condition : Stmt := top 34
abbrev s_read_rule : Stmt := top 35
abbrev s_read_rules : Stmt := top 36
abbrev s_joined : Stmt := top 38
abbrev s_has_rule : Stmt := top 39
abbrev s_Listing_init : Stmt := inClass (top 40) 0
abbrev s_Listing_rules : Stmt := inClass (top 40) 1
abbrev s_Listing_len : Stmt := inClass (top 40) 2
abbrev s_Listing_contains : Stmt := inClass (top 40) 3
abbrev s_Listing_eq : Stmt := inClass (top 40) 4
abbrev s_Listing_repr : Stmt := inClass (top 40) 5
abbrev s_Listing_add : Stmt := inClass (top 40) 6
abbrev s_Listing_text : Stmt := inClass (top 40) 7
abbrev s_Listing_read : Stmt := inClass (top 40) 8
abbrev s_Rules_init : Stmt := inClass (top 41) 0
abbrev s_Rules_rules : Stmt := inClass (top 41) 1
abbrev s_Rules_settled : Stmt := inClass (top 41) 2
abbrev s_Rules_len : Stmt := inClass (top 41) 3
abbrev s_Rules_contains : Stmt := inClass (top 41) 4
abbrev s_Rules_call : Stmt := inClass (top 41) 5
abbrev s_Rules_eq : Stmt := inClass (top 41) 6
abbrev s_Rules_repr : Stmt := inClass (top 41) 7
abbrev s_Rules_add : Stmt := inClass (top 41) 8
abbrev s_Rules_text : Stmt := inClass (top 41) 9
abbrev s_Rules_read : Stmt := inClass (top 41) 10
abbrev s_need_rules : Stmt := top 42
abbrev s_deciding : Stmt := top 44
abbrev s_cases : Stmt := top 45
abbrev s_law_cell : Stmt := top 47
abbrev s_law_source : Stmt := top 48
abbrev s_law_draw : Stmt := top 49
abbrev s_law_choose : Stmt := top 50
abbrev s_law_is_equal : Stmt := top 51
abbrev s_law_case : Stmt := top 52
abbrev s_law_given : Stmt := top 53
abbrev s_law_text : Stmt := top 54
abbrev s_law_rules : Stmt := top 55
abbrev s_law_has : Stmt := top 56
abbrev s_law_union : Stmt := top 57
abbrev s_law_is_opposed : Stmt := top 58
abbrev s_law_settlers : Stmt := top 59
abbrev s_law_pairs : Stmt := top 60
abbrev s_law_torn : Stmt := top 61
abbrev s_law_are_closed : Stmt := top 62
abbrev s_law : Stmt := top 63
abbrev s_K_init : Stmt := s_Rules_init
abbrev s_K_rules : Stmt := s_Rules_rules
abbrev s_K_call : Stmt := s_Rules_call
abbrev s_K_read : Stmt := s_Rules_read
abbrev s_K_contains : Stmt := s_Rules_contains
abbrev s_K_add : Stmt := s_Rules_add
abbrev s_K_eq : Stmt := s_Rules_eq
abbrev s_K_len : Stmt := s_Rules_len
abbrev s_K_text : Stmt := s_Rules_text
abbrev s_K_settled : Stmt := s_Rules_settled
end Cr

namespace Cr
open PySem PySem.Spec PyProof.Rows L2

/-! ### the law's source of numbers -/
def spDraw : Sp := fun vs H Q _ => ∃ (S : Addr) (n : Int), vs = [.ref S, .int n] ∧ Src H S ∧ 0 < n ∧ n < 1073741824 ∧ ∀ H' r, SB S H H' → Src H' S → 0 ≤ r → r < n → Q (.int r) H'
def spChoose : Sp := fun vs H Q _ => ∃ (S l : Addr) (xs : List V), vs = [.ref S, .ref l] ∧ Src H S ∧ l ≠ S ∧ H l = some (.lst xs) ∧ 0 < xs.length ∧ xs.length < 1000 ∧ ∀ H' v, SB S H H' → Src H' S → v ∈ xs → Q v H'
def spSource : Sp := fun vs H Q _ => ∃ c : Int, vs = [.int c] ∧ ∀ H' S, H S = none → Same H H' → Src H' S → Q (.ref S) H'
def spCell (K : PySem.W.Frag) : Sp := fun vs H Q _ => ∃ (a : Addr) (ns : List Int) (i : Nat), vs = [.ref a, .int i] ∧ SqL K H a (ns.map V.int) ∧ ∀ c : Int, Q (.int c) H
/-- builtins are the builtins -/
structure Blt (mg : Str → Option Value) : Prop where
  len : mg "len" = none
  max : mg "max" = none
  min : mg "min" = none
  range : mg "range" = none
  tuple : mg "tuple" = none
  sorted : mg "sorted" = none
  list : mg "list" = none
  str : mg "str" = none
  repr : mg "repr" = none
  isinstance : mg "isinstance" = none
  set : mg "set" = none
  all : mg "all" = none
  zip : mg "zip" = none
  int : mg "int" = none
  bool : mg "bool" = none
section
variable {P : Program} {w : World} {K : PySem.W.Frag} {mg : Str → Option Value} {base : Heap}
theorem emod_small (a : Int) {c : Int} (h : 0 < c) (h2 : c < 2 ^ 64) : -(2 ^ 64) < a % c ∧ a % c < 2 ^ 64 :=
  ⟨Int.lt_of_lt_of_le (by decide) (Int.emod_nonneg _ (by omega)), Int.lt_trans (Int.emod_lt_of_pos _ h) h2⟩
theorem sc_draw : FnScope ["_law_source_here", "_law_many", "_law_found", "_law_mixed"] ["_law_source_here", "_law_many"] (defScope s_law_draw) := ⟨rfl, rfl, rfl, by decide +kernel, rfl, by decide +kernel, by decide +kernel⟩
theorem ok_draw {f : Addr} {fd : FuncData} (F : Fun K "_law_draw" "_law_draw" s_law_draw f fd) : FnOk P w K mg base CX0 1 f fd ["_law_source_here", "_law_many"] spDraw := by
  refine F.ok sc_draw (fun vs H Q E h => ?_) (fun cdv A outer s H vs Q E hr h => ?_)
  · obtain ⟨S, n, rfl, _⟩ := h
    rfl
  · obtain ⟨S, n, rfl, ⟨g0, g1, g2, hS⟩, hn, hn2, q⟩ := h
    refine ⟨_, pss_cons (ps_if (pt_cmpR op_gt (pe_ix ix_list (pv 0) pe_int (fun _ _ => rfl)) pe_int (nomark _))
        (pss_cons (ps_set (i := 2) sc_draw.nd rfl (.inl rfl) (pe_op op_mod (pe_ix ix_list (pv 0) pe_int (fun _ _ => rfl)) (pv 1)))
          (pss_cons (ps_asg (pe_op op_fdiv (pe_ix ix_list (pv 0) pe_int (fun _ _ => rfl)) (pv 1)) (pg_sub (pv 0) pe_int set_list))
            (pss_one (ps_ret (pv 2))))) pss_nil)
      (pss_cons (ps_asg (pe_op op_add (pe_ix ix_list (pv 0) pe_int (fun _ _ => rfl)) pe_int) (pg_sub (pv 0) pe_int set_list))
      (pss_cons (ps_asg (pe_op op_mod (pe_op op_add (pe_op op_add (pe_op op_mul (pe_ix ix_list (pv 0) pe_int (fun _ _ => rfl)) pe_int) (pe_op op_mul pe_int (pe_ix ix_list (pv 0) pe_int (fun _ _ => rfl)))) pe_int) pe_int) (pg_sub (pv 0) pe_int set_list))
      (pss_cons (ps_set (i := 3) sc_draw.nd rfl (.inl rfl) (pe_op op_mod (pe_op op_add (pe_op op_add (pe_op op_mul (pe_ix ix_list (pv 0) pe_int (fun _ _ => rfl)) (pe_ix ix_list (pv 0) pe_int (fun _ _ => rfl))) (pe_op op_mul pe_int (pe_ix ix_list (pv 0) pe_int (fun _ _ => rfl)))) pe_int) pe_int))
      (pss_cons (ps_set (i := 3) sc_draw.nd rfl (.inl rfl) (pe_op op_mod (pe_op op_add (pe_op op_mul (pv 3) (pv 3)) (pe_op op_mul pe_int (pv 3))) pe_int))
      (pss_one (ps_ret (pe_op op_mod (pe_op op_fdiv (pv 3) pe_int) (pv 1)))))))), ?_⟩
    refine ⟨_, rfl, S, _, _, _, rfl, rfl, SqL.of hS, rfl, _, _, rfl, rfl, _, rfl, ?_⟩
    refine ite2 (fun _ => ?_) (fun _ => ?_)
    · refine ⟨_, rfl, S, _, _, _, rfl, rfl, SqL.of hS, rfl, _, rfl, _, _, rfl, rfl, hn, ?_⟩
      refine ⟨_, rfl, S, _, _, _, rfl, rfl, SqL.of hS, rfl, _, rfl, _, _, rfl, rfl, ⟨hn, hn2⟩, _, rfl, S, _, _, _, rfl, rfl, hS, rfl, ?_⟩
      exact ⟨_, rfl, q _ _ SB.at ⟨_, _, _, upd_same⟩ (Int.emod_nonneg _ (by omega)) (Int.emod_lt_of_pos _ hn)⟩
    · -- source[2] = source[2] + 1
      refine ⟨_, rfl, S, _, _, _, rfl, rfl, SqL.of hS, rfl, _, _, rfl, rfl, _, rfl, S, _, _, _, rfl, rfl, hS, rfl, ?_⟩
      -- source[1] = ..
      refine ⟨_, rfl, S, _, _, _, rfl, rfl, SqL.of upd_same, rfl, _, _, rfl, rfl, .inr ⟨by decide, by decide⟩, _, rfl, S, _, _, _, rfl, rfl, SqL.of upd_same, rfl, _, _, rfl, rfl, .inl ⟨by decide, by decide⟩, _, _, rfl, rfl, _, _, rfl, rfl, _, _, rfl, rfl,
        (by show (0 : Int) < 2147483647; decide), _, rfl, S, _, _, _, rfl, rfl, upd_same, rfl, ?_⟩
      rw [upd_upd]
      -- mixed = ..
      refine ⟨_, rfl, S, _, _, _, rfl, rfl, SqL.of upd_same, rfl, _, rfl, S, _, _, _, rfl, rfl, SqL.of upd_same, rfl, _, _, rfl, rfl, .inl (emod_small _ (by decide) (by decide)), _, rfl, S, _, _, _, rfl, rfl, SqL.of upd_same, rfl, _, _, rfl, rfl, .inl ⟨by decide, by decide⟩,
        _, _, rfl, rfl, _, _, rfl, rfl, _, _, rfl, rfl, (by show (0 : Int) < 2147483629; decide), ?_⟩
      refine ⟨_, rfl, _, rfl, _, _, rfl, rfl, .inl (emod_small _ (by decide) (by decide)), _, rfl, _, _, rfl, rfl, .inl ⟨by decide, by decide⟩, _, _, rfl, rfl, _, _, rfl, rfl, (by show (0 : Int) < 2147483587; decide), ?_⟩
      refine ⟨_, rfl, _, _, rfl, rfl, ⟨by decide, by decide⟩, _, rfl, _, _, rfl, rfl, hn, ?_⟩
      exact q _ _ SB.at ⟨_, _, _, upd_same⟩ (Int.emod_nonneg _ (by omega)) (Int.emod_lt_of_pos _ hn)
theorem sc_choose : FnScope ["_law_source_here", "_law_values"] ["_law_source_here", "_law_values"] (defScope s_law_choose) := ⟨rfl, rfl, rfl, by decide +kernel, rfl, by decide +kernel, by decide +kernel⟩
theorem ok_choose {f fD : Addr} {fd fdD : FuncData} (F : Fun K "_law_choose" "_law_choose" s_law_choose f fd) (B : Blt mg) (mD : mg "_law_draw" = some (.ref fD)) (FD : Fun K "_law_draw" "_law_draw" s_law_draw fD fdD) (bD : Binds K fdD ["_law_source_here", "_law_many"] []) :
    FnOk P w K mg base CX0 2 f fd ["_law_source_here", "_law_values"] spChoose := by
  have GD : FnOk P w K mg base CX0 1 fD fdD ["_law_source_here", "_law_many"] spDraw := ok_draw FD
  refine F.ok sc_choose (fun vs H Q E h => ?_) (fun cdv A outer s H vs Q E hr h => ?_)
  · obtain ⟨S, l, xs, rfl, _⟩ := h
    rfl
  · obtain ⟨S, l, xs, rfl, hS, hl, hx, h0, h1, q⟩ := h
    refine ⟨_, pss_one (ps_ret (pe_ix ix_list (pv 1) (pe_call GD hr rfl mD FD.kp bD .nil pass0 (pa_cons (pv 0) (pa_cons (pe_callB call_len_seq (by rfl) B.len PySem.boot_len (pa_cons (pv 1) pa_nil)) pa_nil))) (fun _ _ => rfl))), ?_⟩
    refine ⟨_, rfl, _, rfl, _, rfl, l, _, rfl, .inl (SqL.of hx), S, _, rfl, hS, by omega, by omega, fun H' r sb hS' r0 r1 => ?_⟩
    have hr2 : r.toNat < xs.length := by omega
    refine ⟨l, xs, r, xs[r.toNat], rfl, rfl, SqL.of (sb _ _ hl hx), at_of (by omega) (List.getElem?_eq_getElem hr2), ?_⟩
    exact q _ _ sb hS' (List.getElem_mem hr2)
theorem sc_source : FnScope ["_law_cell_here"] ["_law_cell_here"] (defScope s_law_source) := ⟨rfl, rfl, rfl, by decide +kernel, rfl, by decide +kernel, by decide +kernel⟩
theorem ok_source {f : Addr} {fd : FuncData} (F : Fun K "_law_source" "_law_source" s_law_source f fd) (B : Blt mg) : FnOk P w K mg base CX0 1 f fd ["_law_cell_here"] spSource := by
  refine F.ok sc_source (fun vs H Q E h => ?_) (fun cdv A outer s H vs Q E hr h => ?_)
  · obtain ⟨c, rfl, _⟩ := h
    rfl
  · obtain ⟨c, rfl, q⟩ := h
    refine ⟨_, pss_one (ps_ret (pe_lst (pa_cons (pe_callB (call_max2 rfl) (by rfl) B.max (by decide +kernel) (pa_cons pe_int (pa_cons (pe_op op_sub (pv 0) (pe_op op_pow pe_int pe_int)) pa_nil)))
      (pa_cons (pe_op op_add (pe_op op_mod (pv 0) pe_int) pe_int) (pa_cons pe_int pa_nil))))), ?_⟩
    refine ⟨_, rfl, _, _, rfl, rfl, ⟨by decide, by decide, by decide⟩, _, _, rfl, rfl, _, _, rfl, _, rfl, _, _, rfl, rfl, (by show (0 : Int) < 2147483629; decide), _, _, rfl, rfl, (by show 3 ≤ sizeLine; decide), fun p hp => ?_⟩
    exact q _ p hp (Same.new hp) ⟨_, _, _, upd_same⟩
theorem sc_cell : FnScope ["_law_script", "_law_index"] ["_law_script", "_law_index"] (defScope s_law_cell) := ⟨rfl, rfl, rfl, by decide +kernel, rfl, by decide +kernel, by decide +kernel⟩
theorem ok_cell {f : Addr} {fd : FuncData} (F : Fun K "_law_cell" "_law_cell" s_law_cell f fd) (B : Blt mg) : FnOk P w K mg base CX0 1 f fd ["_law_script", "_law_index"] (spCell K) := by
  refine F.ok sc_cell (fun vs H Q E h => ?_) (fun cdv A outer s H vs Q E hr h => ?_)
  · obtain ⟨a, ns, i, rfl, _⟩ := h
    rfl
  · obtain ⟨a, ns, i, rfl, hS, q⟩ := h
    refine ⟨_, pss_cons (ps_if (pt_cmpR op_lt (pv 1) (pe_callB call_len_seq (by rfl) B.len PySem.boot_len (pa_cons (pv 0) pa_nil)) (nomark _)) (pss_one (ps_ret (pe_ix ix_list (pv 0) (pv 1) (fun _ _ => rfl)))) pss_nil) (pss_one (ps_ret pe_int)), ?_⟩
    refine ⟨_, rfl, _, rfl, a, _, rfl, .inl hS, _, _, rfl, rfl, _, rfl, ?_⟩
    refine ite2 (fun hlt => ?_) (fun _ => ?_)
    · have hlt : (i : Int) < ((ns.map V.int).length : Int) := of_decide_eq_true hlt
      have hi : i < ns.length := by rw [List.length_map] at hlt; omega
      exact ⟨_, rfl, _, rfl, a, _, _, .int ns[i], rfl, rfl, hS, atI_nat (by rw [List.getElem?_map, List.getElem?_eq_getElem hi]; rfl), q _⟩
    · exact q _
end
end Cr

namespace Cr
open PySem PySem.Spec PyProof.Rows L2

/-- a case from the source: many conditions, values below q -/
def spCase : Sp := fun vs H Q _ => ∃ (S : Addr) (m q : Int), vs = [.ref S, .int m, .int q] ∧ Src H S ∧ 0 < q ∧ q ≤ 10 ∧ ∀ H' t cs, SB S H H' → Src H' S → TD H' (.ref t) (caseD cs) → CaseOk cs → Q (.ref t) H'
def spPart : Sp := fun vs H Q _ => ∃ (S t : Addr) (cs : Case), vs = [.ref S, .ref t] ∧ Src H S ∧ TD H (.ref t) (caseD cs) ∧ CaseOk cs ∧ ∀ H' t cs, SB S H H' → Src H' S → TD H' (.ref t) (caseD cs) → CaseOk cs → Q (.ref t) H'
/-- two values of the same data look the same -/
def spSame (K : PySem.W.Frag) : Sp := fun vs H Q _ => ∃ (a b : V) (d : PyData), vs = [a, b] ∧ Dp K H a d ∧ Dp K H b d ∧ d.showable = true ∧ d.hasDict = false ∧ d.depth ≤ 60 ∧ d.shown.length ≤ sizeLine ∧ Q (.bl true) H
theorem condD_td {H : Hp} {p : Addr} {a v : Int} (h : PT H p [.int a, .int v]) : TD H (.ref p) (condD (a, v)) := .tup h (.cons (.int a) (.cons (.int v) .nil))
theorem CaseOk.snoc {c : Case} {a v : Int} (h : CaseOk c) (ha : ∀ x ∈ c, x.1 < a) (h0 : 0 ≤ a) (h4 : a ≤ 4) (v0 : 0 ≤ v) (v9 : v ≤ 9) : CaseOk (c ++ [(a, v)]) := by
  refine ⟨fun x hx => ?_, ?_⟩
  · rcases List.mem_append.mp hx with z | z
    · exact h.each x z
    · rw [List.mem_singleton.mp z]; exact ⟨h0, h4, v0, v9⟩
  · rw [List.pairwise_append]
    refine ⟨h.asc, by simp, fun x hx y hy => ?_⟩
    rw [List.mem_singleton.mp hy]
    exact ha x hx
section
variable {P : Program} {w : World} {K : PySem.W.Frag} {mg : Str → Option Value} {base : Heap}
theorem sc_same : FnScope ["_law_actual", "_law_expected"] ["_law_actual", "_law_expected"] (defScope s_law_is_equal) := ⟨rfl, rfl, rfl, by decide +kernel, rfl, by decide +kernel, by decide +kernel⟩
theorem boot_repr : bootBuiltins "repr" = some (.builtin "repr") := by decide +kernel
theorem ok_same {f : Addr} {fd : FuncData} (F : Fun K "_law_is_equal" "_law_is_equal" s_law_is_equal f fd) (b : Binds K fd ["_law_actual", "_law_expected"] []) (B : Blt mg) : FnG P w K mg base CX0 1 f (spSame K) := by
  refine okG F sc_same b (fun vs H Q E h => ?_) (fun cdv A outer s H vs Q E hg hr h => ?_)
  · obtain ⟨a, b, d, rfl, _⟩ := h
    rfl
  · obtain ⟨a, b, d, rfl, ha, hb, h1, h2, h3, h4, q⟩ := h
    have hg' : (A.deeper (envOfC "_law_is_equal" (defScope s_law_is_equal) s.heap.objs.size f cdv)).guards = some [] := hg
    refine ⟨_, pss_one (ps_ret (pe_cmpR op_eq (pe_callB (call_reprD hg' hr.units) (by rfl) B.repr boot_repr (pa_cons (pv 0) pa_nil)) (pe_callB (call_reprD hg' hr.units) (by rfl) B.repr boot_repr (pa_cons (pv 1) pa_nil)) (nomark _))), ?_⟩
    refine ⟨_, rfl, a, d, rfl, ha, h1, h2, h3, h4, _, rfl, b, d, rfl, hb, h1, h2, h3, h4, rfl, ?_⟩
    show Q (V.bl (decide (V.str d.shown = V.str d.shown))) H
    rw [decide_eq_true rfl]
    exact q
end
end Cr

namespace Cr
open PySem PySem.Spec PyProof.Rows L2

/-! ### shapes -/
theorem shaped_of {d : PyData} (h1 : d.canLay0 = true) (h2 : d.depth ≤ 64) : SeqAt.shaped d = true := by
  show (d.canLay0 && decide (d.depth ≤ 64)) = true
  rw [h1, decide_eq_true h2]
  rfl
theorem lay_all {α : Type} {f : α → PyData} (h : ∀ x, (f x).canLay0 = true) : ∀ xs : List α, PyData.canLayAll0 (xs.map f) = true
  | [] => by simp [PyData.canLayAll0]
  | x :: xs => by simp [PyData.canLayAll0, h x, lay_all h xs]
theorem dep_all {α : Type} {f : α → PyData} {n : Nat} (h : ∀ x, (f x).depth ≤ n) : ∀ xs : List α, PyData.depthAll (xs.map f) ≤ n
  | [] => by simp [PyData.depthAll]
  | x :: xs => by
    have h1 := h x
    have h2 := dep_all h xs
    simp only [List.map_cons, PyData.depthAll]
    omega
theorem cond_lay (c : Cond) : (condD c).canLay0 = true := by simp [condD, PyData.canLay0, PyData.canLayAll0]
theorem cond_dep (c : Cond) : (condD c).depth ≤ 1 := by simp [condD, PyData.depth, PyData.depthAll]
theorem case_lay (c : Case) : (caseD c).canLay0 = true := by simp only [caseD, PyData.canLay0]; exact lay_all cond_lay c
theorem case_dep (c : Case) : (caseD c).depth ≤ 2 := by
  have h := dep_all cond_dep c
  simp only [caseD, PyData.depth]
  omega
theorem rule_lay (r : Rule) : (ruleD r).canLay0 = true := by
  have h := case_lay r.1
  simp [ruleD, PyData.canLay0, PyData.canLayAll0, h]
theorem rule_dep (r : Rule) : (ruleD r).depth ≤ 3 := by
  have h := case_dep r.1
  simp only [ruleD, PyData.depth, PyData.depthAll]
  omega
theorem shaped_cond (c : Cond) : SeqAt.shaped (condD c) = true := shaped_of (cond_lay c) (Nat.le_trans (cond_dep c) (by decide))
theorem shaped_case (c : Case) : SeqAt.shaped (caseD c) = true := shaped_of (case_lay c) (Nat.le_trans (case_dep c) (by decide))
theorem shaped_rule (r : Rule) : SeqAt.shaped (ruleD r) = true := shaped_of (rule_lay r) (Nat.le_trans (rule_dep r) (by decide))
theorem shaped_rulesL (rs : List Rule) : SeqAt.shaped (.list (rs.map ruleD)) = true := shaped_of (by simp only [PyData.canLay0]; exact lay_all rule_lay rs) (by have h := dep_all rule_dep rs; simp only [PyData.depth]; omega)
theorem shaped_rulesT (rs : List Rule) : SeqAt.shaped (.tuple (rs.map ruleD)) = true := shaped_of (by simp only [PyData.canLay0]; exact lay_all rule_lay rs) (by have h := dep_all rule_dep rs; simp only [PyData.depth]; omega)
theorem shaped_nilL : SeqAt.shaped (.list []) = true := shaped_of (by simp [PyData.canLay0, PyData.canLayAll0]) (by simp [PyData.depth, PyData.depthAll])
theorem eqv_nilL (rs : List Rule) : PyData.eqv (.list (rs.map ruleD)) (.list []) = decide (rs = []) := by
  cases rs with
  | nil => simp [PyData.eqv, PyData.eqvAll]
  | cons r rs => simp [PyData.eqv, PyData.eqvAll]
theorem any_rule (rs : List Rule) (r : Rule) : ((rs.map ruleD).any fun z => PyData.eqv z (ruleD r)) = decide (r ∈ rs) := by
  rw [List.any_map]
  have e : ((fun z => PyData.eqv z (ruleD r)) ∘ ruleD) = fun a => decide (a = r) := by funext a; exact eqv_rule a r
  rw [e]
  by_cases h : r ∈ rs
  · rw [decide_eq_true h, List.any_eq_true]
    exact ⟨r, h, decide_eq_true rfl⟩
  · rw [decide_eq_false h, List.any_eq_false]
    intro x hx
    have : x ≠ r := fun e => h (e ▸ hx)
    simp [this]
/-- new rules in a list -/
def NewRules (H : Hp) (l : Addr) (refs : List V) (rs : List Rule) : Prop := H l = some (.lst refs) ∧ TDs H refs (rs.map ruleD)
theorem NewRules.pick {H : Hp} {l : Addr} {refs : List V} {rs : List Rule} (h : NewRules H l refs rs) {v : V} (hv : v ∈ refs) : ∃ a c r, v = .ref a ∧ PT H a [.ref c, .int r.2] ∧ TD H (.ref c) (caseD r.1) ∧ r ∈ rs := by
  obtain ⟨i, hi⟩ := List.mem_iff_getElem?.mp hv
  obtain ⟨d, hd, td⟩ := h.2.get hi
  rw [List.getElem?_map] at hd
  cases e : rs[i]? with
  | none => rw [e] at hd; cases hd
  | some r =>
    rw [e] at hd
    obtain rfl := Option.some.inj hd
    obtain ⟨a, xs, rfl, hx, ts⟩ := td.tupv
    cases ts with
    | cons t1 t2 =>
      cases t2 with
      | cons t3 t4 =>
        cases t4
        obtain ⟨c, ys, rfl, hc, tc⟩ := t1.tupv
        rw [t3.intv] at hx
        exact ⟨a, c, r, rfl, hx, .tup hc tc, List.mem_of_getElem? e⟩
theorem NewRules.mono {S : Addr} {H H' : Hp} {l : Addr} {refs : List V} {rs : List Rule} (h : NewRules H l refs rs) (sb : SB S H H') (hS : Src H S) (n : l ≠ S) : NewRules H' l refs rs := ⟨sb _ _ n h.1, h.2.mono (sb.tk hS)⟩
theorem NewRules.same {H H' : Hp} {l : Addr} {refs : List V} {rs : List Rule} (h : NewRules H l refs rs) (sb : Same H H') : NewRules H' l refs rs := ⟨sb _ _ h.1, h.2.mono (TK.same sb)⟩
theorem NewRules.dp {K : PySem.W.Frag} {H : Hp} {l : Addr} {refs : List V} {rs : List Rule} (h : NewRules H l refs rs) : Dp K H (.ref l) (.list (rs.map ruleD)) := .lst (SqL.of h.1) h.2.dp
theorem NewRules.len {H : Hp} {l : Addr} {refs : List V} {rs : List Rule} (h : NewRules H l refs rs) : refs.length = rs.length := by rw [h.2.length, List.length_map]
/-- the pair of ints at a value -/
def pairAt (H : Hp) : V → Int × Int
  | .ref a => match H a with
    | some (.frz _ (.tup [.int i, .int j])) => (i, j)
    | _ => (0, 0)
  | _ => (0, 0)
theorem pairAt_of {H : Hp} {a : Addr} {i j : Int} (h : PT H a [.int i, .int j]) : pairAt H (.ref a) = (i, j) := by
  obtain ⟨o, h, _⟩ := h
  show (match H a with | some (.frz _ (.tup [.int i, .int j])) => (i, j) | _ => (0, 0)) = (i, j)
  rw [h]
theorem cond_at {H : Hp} {v : V} {c : Cond} (h : TD H v (condD c)) : ∃ a, v = .ref a ∧ PT H a [.int c.1, .int c.2] := by
  obtain ⟨a, xs, rfl, hx, ts⟩ := h.tupv
  cases ts with
  | cons t1 t2 =>
    cases t2 with
    | cons t3 t4 =>
      cases t4
      rw [t1.intv, t3.intv] at hx
      exact ⟨a, rfl, hx⟩
theorem conds_pairs {H : Hp} : ∀ {vs : List V} {cs : Case}, TDs H vs (cs.map condD) → vs.map (pairAt H) = cs ∧ ∀ x ∈ vs, ∃ a, x = .ref a ∧ PT H a [.int (pairAt H x).1, .int (pairAt H x).2]
  | [], [], _ => ⟨rfl, fun x h => (nomatch h)⟩
  | [], c :: cs, h => (nomatch h)
  | v :: vs, [], h => (nomatch h)
  | v :: vs, c :: cs, .cons h1 h2 => by
    obtain ⟨e1, e2⟩ := conds_pairs h2
    obtain ⟨a, rfl, ha⟩ := cond_at h1
    have ep := pairAt_of ha
    refine ⟨by rw [List.map_cons, e1, ep], fun x hx => ?_⟩
    rcases List.mem_cons.mp hx with rfl | hx
    · exact ⟨a, rfl, by rw [ep]; exact ha⟩
    · exact e2 x hx
theorem pairs_conds {H : Hp} : ∀ (vs : List V), (∀ x ∈ vs, ∃ a, x = .ref a ∧ PT H a [.int (pairAt H x).1, .int (pairAt H x).2]) → TDs H vs ((vs.map (pairAt H)).map condD)
  | [], _ => .nil
  | v :: vs, h => by
    obtain ⟨a, rfl, ha⟩ := h v List.mem_cons_self
    exact .cons (condD_td ha) (pairs_conds vs fun x hx => h x (List.mem_cons_of_mem _ hx))
theorem flat_ints : ∀ (cs : Case), (cs.map fun x => V.int x.1).all flatV = true
  | [] => rfl
  | c :: cs => by rw [List.map_cons, List.all_cons, flat_ints cs]; rfl
theorem inV_ints (a : Int) : ∀ (cs : Case), inV (.int a) (cs.map fun x => V.int x.1) = decide (a ∈ cs.map (·.1))
  | [] => rfl
  | c :: cs => by
    have ih := inV_ints a cs
    unfold inV at ih ⊢
    rw [List.map_cons, List.any_cons, ih, List.map_cons]
    have e : eqV (.int c.1) (.int a) = decide (c.1 = a) := by first | rfl | simp [eqV]
    rw [e]
    by_cases h : c.1 = a
    · simp [h]
    · have h2 : ¬ a = c.1 := fun z => h z.symm
      simp [h, h2]
/-- a condition of an attribute that the case does not name -/
def notNamed (oc : Case) (x : Cond) : Bool := decide (x.1 ∉ oc.map (·.1))
/-- conditions put together, sorted -/
theorem merged_ok {oc cs zs : Case} (h1 : CaseOk oc) (h2 : CaseOk cs) (pm : zs.Perm (oc ++ cs.filter (notNamed oc))) (so : zs.Pairwise fun x y => SrtO.lexB y x = false) : CaseOk zs := by
  have mem : ∀ x ∈ zs, x ∈ oc ∨ x ∈ cs := fun x hx => by
    rcases List.mem_append.mp (pm.mem_iff.mp hx) with z | z
    · exact .inl z
    · exact .inr (List.mem_filter.mp z).1
  refine ⟨fun x hx => (mem x hx).elim (h1.each x) (h2.each x), ?_⟩
  have nd : ((oc ++ cs.filter (notNamed oc)).map (·.1)).Nodup := by
    rw [List.map_append, List.nodup_append]
    refine ⟨?_, ?_, ?_⟩
    · exact List.pairwise_map.mpr (h1.asc.imp fun h => Int.ne_of_lt h)
    · exact List.pairwise_map.mpr ((h2.asc.imp fun {x y : Cond} (h : x.1 < y.1) => Int.ne_of_lt h).sublist List.filter_sublist)
    · intro a ha b hb e
      obtain ⟨y, hy, rfl⟩ := List.mem_map.mp hb
      have z : decide (y.1 ∉ oc.map (·.1)) = true := (List.mem_filter.mp hy).2
      rw [decide_eq_true_eq] at z
      exact z (e ▸ ha)
  have nz : (zs.map (·.1)).Nodup := (pm.map (·.1)).nodup_iff.mpr nd
  have nz2 : zs.Pairwise fun x y => x.1 ≠ y.1 := List.pairwise_map.mp nz
  refine (so.and nz2).imp fun {x y} h => ?_
  obtain ⟨a, b⟩ := h
  have := SrtO.lexB_no.mp a
  omega
end Cr

namespace Cr
open PySem PySem.Spec PyProof.Rows L2

/-! ### texts -/
abbrev numS (i : Int) : Str := toString i
def condS (c : Cond) : Str := numS c.1 ++ "=" ++ numS c.2
def lineS (r : Rule) : Str := Txt.join " " (r.1.map condS ++ [("gives" : Str), numS r.2])
def textS (rs : List Rule) : Str := Txt.join "" (rs.map fun r => lineS r ++ "\n")
theorem num_small : ∀ i : Nat, i < 100 → (TL.tl (numS (i : Int))).length ≤ 2 ∧ ∀ c ∈ TL.tl (numS (i : Int)), 48 ≤ c ∧ c ≤ 57 := by decide +kernel
theorem num_len {i : Int} (h0 : 0 ≤ i) (h1 : i ≤ 99) : (numS i).length ≤ 2 ∧ ∀ c ∈ TL.tl (numS i), 48 ≤ c ∧ c ≤ 57 := by
  obtain ⟨n, rfl⟩ := Int.eq_ofNat_of_zero_le h0
  have h := num_small n (by omega)
  rw [TL.len_tl]
  exact h
theorem eq_tl : TL.tl ("=" : Str) = [61] := by decide +kernel
theorem sp_tl : TL.tl (" " : Str) = [32] := by decide +kernel
theorem nl_tl : TL.tl ("\n" : Str) = [10] := by decide +kernel
theorem gives_tl : TL.tl ("gives" : Str) = [103, 105, 118, 101, 115] := by decide +kernel
theorem cond_signs {c : Cond} (h : 0 ≤ c.1 ∧ c.1 ≤ 4 ∧ 0 ≤ c.2 ∧ c.2 ≤ 9) : (condS c).length ≤ 5 ∧ ∀ x ∈ TL.tl (condS c), 48 ≤ x ∧ x ≤ 61 := by
  obtain ⟨a1, a2⟩ := num_len h.1 (by omega : c.1 ≤ 99)
  obtain ⟨b1, b2⟩ := num_len h.2.2.1 (by omega : c.2 ≤ 99)
  rw [TL.len_tl] at a1 b1 ⊢
  have e : TL.tl (condS c) = TL.tl (numS c.1) ++ [61] ++ TL.tl (numS c.2) := by
    unfold condS
    rw [TL.tl_append, TL.tl_append, eq_tl]
  rw [e]
  refine ⟨by rw [List.length_append, List.length_append, List.length_singleton]; omega, fun x hx => ?_⟩
  rcases List.mem_append.mp hx with hx | hx
  · rcases List.mem_append.mp hx with hx | hx
    · have := a2 x hx; omega
    · rw [List.mem_singleton.mp hx]; decide
  · have := b2 x hx; omega
/-- the words of a line -/
def wordsS (r : Rule) : List Str := r.1.map condS ++ [("gives" : Str), numS r.2]
theorem words_signs {r : Rule} (h : RuleOk r) : ∀ y ∈ wordsS r, y.length ≤ 5 ∧ ∀ x ∈ TL.tl y, 48 ≤ x ∧ x ≤ 122 := by
  intro y hy
  unfold wordsS at hy
  rcases List.mem_append.mp hy with hy | hy
  · obtain ⟨c, hc, rfl⟩ := List.mem_map.mp hy
    obtain ⟨a, b⟩ := cond_signs (h.case.each c hc)
    exact ⟨a, fun x hx => by have := b x hx; omega⟩
  · rcases List.mem_cons.mp hy with rfl | hy
    · refine ⟨by rw [TL.len_tl, gives_tl]; decide, fun x hx => ?_⟩
      rw [gives_tl] at hx
      revert x
      decide
    · rw [List.mem_singleton.mp hy]
      obtain ⟨a, b⟩ := num_len h.lo h.hi
      exact ⟨by omega, fun x hx => by have := b x hx; omega⟩
theorem sum_le {α : Type} {f : α → Nat} {k : Nat} : ∀ {l : List α}, (∀ x ∈ l, f x ≤ k) → (l.map f).sum ≤ l.length * k
  | [], _ => by simp
  | x :: l, h => by
    have h1 := h x List.mem_cons_self
    have h2 := sum_le (l := l) fun y hy => h y (List.mem_cons_of_mem _ hy)
    rw [List.map_cons, List.sum_cons, List.length_cons, Nat.succ_mul]
    omega
theorem joinL_len (S : List Nat) : ∀ l : List (List Nat), (TL.joinL S l).length ≤ (l.map List.length).sum + l.length * S.length
  | [] => by simp [TL.joinL]
  | [p] => by simp [TL.joinL]
  | p :: q :: r => by
    have h := joinL_len S (q :: r)
    show (p ++ (S ++ TL.joinL S (q :: r))).length ≤ _
    rw [List.length_append, List.length_append, List.map_cons, List.sum_cons, List.length_cons, Nat.succ_mul]
    omega
theorem joinL_mem {S : List Nat} {x : Nat} : ∀ {l : List (List Nat)}, x ∈ TL.joinL S l → x ∈ S ∨ ∃ p ∈ l, x ∈ p
  | [], h => (nomatch h)
  | [p], h => .inr ⟨p, List.mem_cons_self, h⟩
  | p :: q :: r, h => by
    have h : x ∈ p ++ (S ++ TL.joinL S (q :: r)) := h
    rcases List.mem_append.mp h with h | h
    · exact .inr ⟨p, List.mem_cons_self, h⟩
    · rcases List.mem_append.mp h with h | h
      · exact .inl h
      · rcases joinL_mem (l := q :: r) h with h | ⟨z, hz, h⟩
        · exact .inl h
        · exact .inr ⟨z, List.mem_cons_of_mem _ hz, h⟩
theorem words_len {r : Rule} (h : RuleOk r) : (wordsS r).length ≤ 7 := by
  unfold wordsS
  rw [List.length_append, List.length_map]
  have := h.case.len
  show r.1.length + 2 ≤ 7
  omega
theorem line_tl (r : Rule) : TL.tl (lineS r) = TL.joinL [32] ((wordsS r).map TL.tl) := by
  unfold lineS
  rw [TL.join_eq, TL.tl_join, sp_tl]
  rfl
theorem line_signs {r : Rule} (h : RuleOk r) : (lineS r).length ≤ 42 ∧ 10 ∉ TL.tl (lineS r) := by
  have hw := words_signs h
  have hl := words_len h
  rw [TL.len_tl, line_tl]
  constructor
  · have a := joinL_len [32] ((wordsS r).map TL.tl)
    have b : (((wordsS r).map TL.tl).map List.length).sum ≤ ((wordsS r).map TL.tl).length * 5 := sum_le fun x hx => by
      obtain ⟨y, hy, rfl⟩ := List.mem_map.mp hx
      have := (hw y hy).1
      rw [TL.len_tl] at this
      exact this
    rw [List.length_map] at a b
    simp only [List.length_singleton] at a
    omega
  · intro hx
    rcases joinL_mem hx with hx | ⟨p, hp, hx⟩
    · exact absurd (List.mem_singleton.mp hx) (by decide)
    · obtain ⟨y, hy, rfl⟩ := List.mem_map.mp hp
      have := (hw y hy).2 10 hx
      omega
/-- the lines of a text -/
theorem text_join (rs : List Rule) : textS rs = Txt.join "\n" (rs.map lineS ++ [Str.empty]) := by
  refine TL.ext_tl ?_
  unfold textS
  rw [TL.join_eq, TL.tl_join, TL.join_eq, TL.tl_join, nl_tl]
  have e0 : TL.tl ("" : Str) = [] := by decide +kernel
  rw [e0]
  induction rs with
  | nil => rfl
  | cons r rs ih =>
    cases rs with
    | nil =>
      show TL.tl (lineS r ++ "\n") = TL.tl (lineS r) ++ ([10] ++ TL.tl Str.empty)
      rw [TL.tl_append, nl_tl]
      rfl
    | cons r2 rs =>
      show TL.tl (lineS r ++ "\n") ++ ([] ++ TL.joinL [] (((r2 :: rs).map fun r => lineS r ++ "\n").map TL.tl)) = TL.tl (lineS r) ++ ([10] ++ TL.joinL [10] (((r2 :: rs).map lineS ++ [Str.empty]).map TL.tl))
      rw [TL.tl_append, nl_tl, List.nil_append, ih, List.append_assoc]
theorem text_split {rs : List Rule} (h : ∀ r ∈ rs, RuleOk r) : Txt.split (textS rs) "\n" = rs.map lineS ++ [Str.empty] := by
  rw [text_join]
  refine TL.split_join nl_tl (by decide +kernel) (by simp) fun p hp => ?_
  rcases List.mem_append.mp hp with hp | hp
  · obtain ⟨r, hr, rfl⟩ := List.mem_map.mp hp
    exact (line_signs (h r hr)).2
  · rw [List.mem_singleton.mp hp]
    exact fun z => (nomatch z)
theorem line_split {r : Rule} (h : RuleOk r) : Txt.split (lineS r) " " = wordsS r := by
  show Txt.split (Txt.join " " (wordsS r)) " " = wordsS r
  refine TL.split_join sp_tl (by decide +kernel) (by unfold wordsS; simp) fun p hp hx => ?_
  have := (words_signs h p hp).2 32 hx
  omega
theorem cond_cut {c : Cond} (h : 0 ≤ c.1 ∧ c.1 ≤ 4 ∧ 0 ≤ c.2 ∧ c.2 ≤ 9) : Txt.partition (condS c) "=" = (numS c.1, ("=" : Str), numS c.2) := by
  refine TL.partition_app eq_tl fun hx => ?_
  have := (num_len h.1 (by omega : c.1 ≤ 99)).2 61 hx
  omega
theorem text_len {rs : List Rule} (h : ∀ r ∈ rs, RuleOk r) : (textS rs).length ≤ rs.length * 43 := by
  rw [TL.len_tl]
  unfold textS
  rw [TL.join_eq, TL.tl_join]
  have e0 : TL.tl ("" : Str) = [] := by decide +kernel
  rw [e0]
  have a := joinL_len [] ((rs.map fun r => lineS r ++ "\n").map TL.tl)
  have b : (((rs.map fun r => lineS r ++ "\n").map TL.tl).map List.length).sum ≤ ((rs.map fun r => lineS r ++ "\n").map TL.tl).length * 43 := sum_le fun x hx => by
    obtain ⟨y, hy, rfl⟩ := List.mem_map.mp hx
    obtain ⟨r, hr, rfl⟩ := List.mem_map.mp hy
    rw [TL.tl_append, nl_tl, List.length_append, ← TL.len_tl]
    have := (line_signs (h r hr)).1
    show (lineS r).length + 1 ≤ 43
    omega
  simp only [List.length_map, List.length_nil, Nat.mul_zero, Nat.add_zero] at a b
  omega
end Cr

namespace Cr
open PySem PySem.Spec PyProof.Rows L2

/-- all conditions of cs are among those of ds -/
def inB (cs ds : Case) : Bool := cs.all fun c => decide (c ∈ ds)
def spInside : Sp := fun vs H Q _ => ∃ (a b : Addr) (cs ds : Case), vs = [.ref a, .ref b] ∧ TD H (.ref a) (caseD cs) ∧ TD H (.ref b) (caseD ds) ∧ cs.length ≤ 1000 ∧ ∀ H', Same H H' → Q (.bl (inB cs ds)) H'
def firstV (rs : List Rule) (cs : Case) : V := match rs.find? fun r => inB r.1 cs with
  | some r => .int r.2
  | none => .non
def spFirst : Sp := fun vs H Q _ => ∃ (l t : Addr) (refs : List V) (rs : List Rule) (cs : Case), vs = [.ref l, .ref t] ∧ NewRules H l refs rs ∧ (∀ r ∈ rs, RuleOk r) ∧ TD H (.ref t) (caseD cs) ∧ ∀ H', Same H H' → Q (firstV rs cs) H'
def spText : Sp := fun vs H Q _ => ∃ (l : Addr) (refs : List V) (rs : List Rule), vs = [.ref l] ∧ NewRules H l refs rs ∧ RulesOk 100 rs ∧ ∀ H', Same H H' → Q (.str (textS rs)) H'
theorem any_cond (ds : Case) (c : Cond) : ((ds.map condD).any fun z => PyData.eqv z (condD c)) = decide (c ∈ ds) := by
  rw [List.any_map]
  have e : ((fun z => PyData.eqv z (condD c)) ∘ condD) = fun a => decide (a = c) := by funext a; exact eqv_cond a c
  rw [e]
  by_cases h : c ∈ ds
  · rw [decide_eq_true h, List.any_eq_true]
    exact ⟨c, h, decide_eq_true rfl⟩
  · rw [decide_eq_false h, List.any_eq_false]
    intro x hx
    have : x ≠ c := fun e => h (e ▸ hx)
    simp [this]
theorem eqv_condsL (cs : Case) : PyData.eqv (.list (cs.map condD)) (.list []) = decide (cs = []) := by
  cases cs with
  | nil => simp [PyData.eqv, PyData.eqvAll]
  | cons r rs => simp [PyData.eqv, PyData.eqvAll]
theorem shaped_condsL (cs : Case) : SeqAt.shaped (.list (cs.map condD)) = true := shaped_of (by simp only [PyData.canLay0]; exact lay_all cond_lay cs) (by have h := dep_all cond_dep cs; simp only [PyData.depth]; omega)
theorem inB_filter (cs ds : Case) : decide ((cs.filter fun c => decide (c ∉ ds)) = []) = inB cs ds := by
  unfold inB
  by_cases h : (cs.filter fun c => decide (c ∉ ds)) = []
  · rw [decide_eq_true h]
    symm
    rw [List.all_eq_true]
    intro c hc
    rw [List.filter_eq_nil_iff] at h
    have := h c hc
    simpa using this
  · rw [decide_eq_false h]
    symm
    rw [← Bool.not_eq_true, List.all_eq_true]
    intro z
    refine h (List.filter_eq_nil_iff.mpr fun c hc => ?_)
    have := z c hc
    simpa using this
/-- a condition of the case at a place -/
theorem cond_get {H : Hp} {xs : List V} {cs : Case} (h : TDs H xs (cs.map condD)) {i : Nat} {x : V} (hx : xs[i]? = some x) : ∃ c, cs[i]? = some c ∧ TD H x (condD c) ∧ cs.take (i + 1) = cs.take i ++ [c] := by
  obtain ⟨d, hd, tx⟩ := h.get hx
  rw [List.getElem?_map] at hd
  cases e : cs[i]? with
  | none => rw [e] at hd; cases hd
  | some c =>
    rw [e] at hd
    obtain rfl := Option.some.inj hd
    exact ⟨c, rfl, tx, by rw [List.take_succ, e]; rfl⟩
theorem rule_get {H : Hp} {xs : List V} {rs : List Rule} (h : TDs H xs (rs.map ruleD)) {i : Nat} {x : V} (hx : xs[i]? = some x) :
    ∃ r a c, rs[i]? = some r ∧ x = .ref a ∧ PT H a [.ref c, .int r.2] ∧ TD H (.ref c) (caseD r.1) ∧ rs.take (i + 1) = rs.take i ++ [r] := by
  obtain ⟨d, hd, tx⟩ := h.get hx
  rw [List.getElem?_map] at hd
  cases e : rs[i]? with
  | none => rw [e] at hd; cases hd
  | some r =>
    rw [e] at hd
    obtain rfl := Option.some.inj hd
    obtain ⟨a, xs, rfl, hx, ts⟩ := tx.tupv
    cases ts with
    | cons t1 t2 =>
      cases t2 with
      | cons t3 t4 =>
        cases t4
        obtain ⟨c, ys, rfl, hc, tc⟩ := t1.tupv
        rw [t3.intv] at hx
        exact ⟨r, a, c, rfl, rfl, hx, .tup hc tc, by rw [List.take_succ, e]; rfl⟩
theorem log_small {i : Int} (h0 : 0 ≤ i) (h1 : i ≤ 99) : i.natAbs.log2 < 1920 := by
  obtain ⟨n, rfl⟩ := Int.eq_ofNat_of_zero_le h0
  have h : n < 128 := by omega
  show (n : Int).natAbs.log2 < 1920
  rw [Int.natAbs_natCast]
  by_cases hz : n = 0
  · subst hz; decide
  · have := (Nat.log2_lt hz).mpr (show n < 2 ^ 7 by omega)
    omega
end Cr

namespace Cr
open PySem PySem.Spec PyProof.Rows L2

/-- a comprehension over zip of two tuples, of any lengths -/
theorem lc_zipT {K : PySem.W.Frag} {a b : Addr} {xs ys : List V} {g : TG} {tt : TT} {te : TE} {vs : List Nat} {σ : L2.St} {H1 : Hp} {D : Addr} {Qd : Hp → Prop} (Pv : Nat → Hp → Prop) (h0 : Pv 0 (upd H1 D (.lst []))) (hq : ∀ i H, Pv i H → SqT K H a xs ∧ SqT K H b ys)
    (hs : ∀ i x y T H, xs[i]? = some x → ys[i]? = some y → Pv i H → H T = none → g (.ref T) (wipe σ vs) (upd H T (.tup [x, y])) fun σ2 H2 => wipe σ2 vs = wipe σ vs ∧ tt σ2 H2 fun b H3 =>
      if b = true then te σ2 H3 fun y H4 => ∃ acc, H4 D = some (.lst acc) ∧ acc.length < sizeLine ∧ Pv (i + 1) (upd H4 D (.lst (acc ++ [y]))) else Pv (i + 1) H3) (hd : ∀ H, Pv (min xs.length ys.length) H → Qd H) :
    ∃ W : Nat → Nat → Hp → Prop, (∃ m, W 0 m (upd H1 D (.lst []))) ∧ ∀ i m H, W i m H →
      ((RZ.ItzT K a b).stop i H ∧ Qd H) ∨ ((RZ.ItzT K a b).go i H ∧ ∃ Nx : Hp → Prop, (∀ H', Nx H' → ∃ m', m' < m ∧ W (i + 1) m' H') ∧ ∀ x H', (RZ.ItzT K a b).yld i H x H' → g x (wipe σ vs) H' fun σ2 H2 => wipe σ2 vs = wipe σ vs ∧ tt σ2 H2 fun b H3 =>
        if b = true then te σ2 H3 fun y H4 => ∃ acc, H4 D = some (.lst acc) ∧ acc.length < sizeLine ∧ Nx (upd H4 D (.lst (acc ++ [y]))) else Nx H3) := by
  refine ⟨fun i m H => m = min xs.length ys.length - i ∧ i ≤ min xs.length ys.length ∧ Pv i H, ⟨_, rfl, Nat.zero_le _, h0⟩, ?_⟩
  rintro i m H ⟨rfl, hi, p⟩
  obtain ⟨qx, qy⟩ := hq i H p
  by_cases lt : i < min xs.length ys.length
  · have hx : xs[i]? = some xs[i] := List.getElem?_eq_getElem (by omega)
    have hy : ys[i]? = some ys[i] := List.getElem?_eq_getElem (by omega)
    refine .inr ⟨⟨xs, ys, _, _, qx, qy, hx, hy⟩, Pv (i + 1), fun H' p' => ⟨min xs.length ys.length - (i + 1), by omega, rfl, lt, p'⟩, ?_⟩
    rintro v H' ⟨T, x, y, rfl, hT, rfl, e1, e2⟩
    exact hs i x y T H (e1 xs qx) (e2 ys qy) p hT
  · obtain rfl : i = min xs.length ys.length := by omega
    exact .inl ⟨⟨xs, ys, qx, qy, by omega⟩, hd H p⟩

/-! ### the program's forms -/
/-- the module's numbers -/
structure Nums (mg : Str → Option Value) : Prop where
  attr : ∃ t, mg "MOST_ATTRIBUTE" = some (.int 4 t)
  val : ∃ t, mg "MOST_VALUE" = some (.int 9 t)
  res : ∃ t, mg "MOST_RESULT" = some (.int 99 t)
  rules : ∃ t, mg "MOST_RULES" = some (.int 12 t)
def spIsNumber : Sp := fun vs H Q _ => ∃ (i m : Int), vs = [.int i, .int m] ∧ 0 ≤ i ∧ i ≤ m ∧ Q (.bl true) H
def spIsCond : Sp := fun vs H Q _ => ∃ (a : Addr) (c : Cond), vs = [.ref a] ∧ TD H (.ref a) (condD c) ∧ (0 ≤ c.1 ∧ c.1 ≤ 4 ∧ 0 ≤ c.2 ∧ c.2 ≤ 9) ∧ Q (.bl true) H
def spIsCase : Sp := fun vs H Q _ => ∃ (a : Addr) (cs : Case), vs = [.ref a] ∧ TD H (.ref a) (caseD cs) ∧ CaseOk cs ∧ ∀ H', Same H H' → Q (.bl true) H'
def spIsRule : Sp := fun vs H Q _ => ∃ (a : Addr) (r : Rule), vs = [.ref a] ∧ TD H (.ref a) (ruleD r) ∧ RuleOk r ∧ ∀ H', Same H H' → Q (.bl true) H'
def spAreRules : Sp := fun vs H Q _ => ∃ (a : Addr) (xs : List V) (rs : List Rule), vs = [.ref a] ∧ PT H a xs ∧ TDs H xs (rs.map ruleD) ∧ RulesOk 12 rs ∧ ∀ H', Same H H' → Q (.bl true) H'
section
variable {P : Program} {w : World} {K : PySem.W.Frag} {mg : Str → Option Value} {base : Heap}
theorem boot_isinstance' : bootBuiltins "isinstance" = some (.builtin "isinstance") := by decide +kernel
theorem sc_isNumber : FnScope ["thing", "most"] ["thing", "most"] (defScope s_is_number) := ⟨rfl, rfl, rfl, by decide +kernel, rfl, by decide +kernel, by decide +kernel⟩
theorem ok_isNumber {f : Addr} {fd : FuncData} (F : Fun K "is_number" "is_number" s_is_number f fd) (B : Blt mg) : FnOk P w K mg base CX0 1 f fd ["thing", "most"] spIsNumber := by
  refine F.ok sc_isNumber (fun vs H Q E h => ?_) (fun cdv A outer s H vs Q E hr h => ?_)
  · obtain ⟨i, m, rfl, _⟩ := h
    rfl
  · obtain ⟨i, m, rfl, h0, h1, q⟩ := h
    refine ⟨_, pss_one (ps_ret (pe_and (pe_callB call_isi (by rfl) B.isinstance boot_isinstance' (pa_cons (pv 0) (pa_cons (pe_bltn (v := .ty "int") (u := .type "int") (by rfl) B.int (by decide +kernel) rfl) pa_nil)))
      (pe_and (pe_not (pe_callB call_isi (by rfl) B.isinstance boot_isinstance' (pa_cons (pv 0) (pa_cons (pe_bltn (v := .ty "bool") (u := .type "bool") (by rfl) B.bool (by decide +kernel) rfl) pa_nil))))
        (pe_one (pe_chain op_le op_le pe_int (pv 0) (pv 1)))))), ?_⟩
    refine ⟨_, rfl, _, _, _, _, true, rfl, .ty "int", .base (.int i), kit_ty (by decide +kernel), true, rfl, ?_⟩
    refine iteT ⟨_, rfl, _, _, _, _, false, rfl, .ty "bool", .base (.int i), kit_ty (by decide +kernel), false, rfl, true, rfl, ?_⟩
    refine iteT ⟨_, rfl, _, _, rfl, rfl, true, ?_, ?_⟩
    · show V.bl (decide (0 ≤ i)) = V.bl true
      rw [decide_eq_true h0]
    · refine iteT ⟨_, rfl, _, _, rfl, rfl, ?_⟩
      show Q (V.bl (decide (i ≤ m))) H
      rw [decide_eq_true h1]
      exact q
theorem sc_isCond : FnScope ["thing", "attribute", "value"] ["thing"] (defScope s_is_condition) := ⟨rfl, rfl, rfl, by decide +kernel, rfl, by decide +kernel, by decide +kernel⟩
theorem ok_isCond {f fN : Addr} {fd dN : FuncData} (F : Fun K "is_condition" "is_condition" s_is_condition f fd) (B : Blt mg) (N : Nums mg) (mN : mg "is_number" = some (.ref fN)) (FN : Fun K "is_number" "is_number" s_is_number fN dN) (bN : Binds K dN ["thing", "most"] []) :
    FnOk P w K mg base CX0 2 f fd ["thing"] spIsCond := by
  have GN : FnOk P w K mg base CX0 1 fN dN ["thing", "most"] spIsNumber := ok_isNumber FN B
  obtain ⟨t4, n4⟩ := N.attr
  obtain ⟨t9, n9⟩ := N.val
  refine F.ok sc_isCond (fun vs H Q E h => ?_) (fun cdv A outer s H vs Q E hr h => ?_)
  · obtain ⟨a, c, rfl, _⟩ := h
    rfl
  · obtain ⟨a, c, rfl, ht, ok, q⟩ := h
    obtain ⟨_, e, ha⟩ := cond_at ht
    cases e
    refine ⟨_, pss_cons (ps_if (PW.pt (pw_or (pt_not (pt_val (pe_callB call_isi (by rfl) B.isinstance boot_isinstance' (pa_cons (pv 0) (pa_cons (pe_bltn (v := .ty "tuple") (u := .type "tuple") (by rfl) B.tuple (by decide +kernel) rfl) pa_nil)))))
        (pw_or1 (pt_cmpR op_ne (pe_callB call_len_seq (by rfl) B.len PySem.boot_len (pa_cons (pv 0) pa_nil)) pe_int (nomark _))))) (pss_one (ps_ret pe_bl)) pss_nil)
      (pss_cons (ps_asg (pv 0) (pg_tup rfl (pgs_cons (pg_name (i := 1) sc_isCond.nd rfl (.inl rfl)) (pgs_cons (pg_name (i := 2) sc_isCond.nd rfl (.inl rfl)) pgs_nil))))
      (pss_one (ps_ret (pe_and (pe_call GN hr rfl mN FN.kp bN .nil pass0 (pa_cons (pv 1) (pa_cons (pe_glob (v := .int 4) rfl n4 ⟨_, rfl⟩) pa_nil)))
        (pe_one (pe_call GN hr rfl mN FN.kp bN .nil pass0 (pa_cons (pv 2) (pa_cons (pe_glob (v := .int 9) rfl n9 ⟨_, rfl⟩) pa_nil)))))))), ?_⟩
    refine ⟨_, rfl, _, _, _, _, true, rfl, .ty "tuple", ha.ty, kit_ty (by decide +kernel), true, rfl, ?_⟩
    refine iteF ⟨_, rfl, a, _, rfl, .inr (PT.sq ha), rfl, _, rfl, ?_⟩
    refine iteF ⟨_, rfl, a, _, rfl, PT.sq ha, rfl, _, _, rfl, _, _, rfl, rfl, ?_⟩
    refine ⟨_, rfl, _, _, rfl, ok.1, ok.2.1, true, rfl, ?_⟩
    exact iteT ⟨_, rfl, _, _, rfl, ok.2.2.1, ok.2.2.2, q⟩
theorem sc_isCase : FnScope ["thing", "part", "one", "following"] ["thing"] (defScope s_is_case) := ⟨rfl, rfl, rfl, by decide +kernel, rfl, by decide +kernel, by decide +kernel⟩
theorem all_true (n : Nat) : (List.replicate n true).all id = true := by
  rw [List.all_eq_true]
  intro b hb
  exact List.eq_of_mem_replicate hb
theorem reps (n : Nat) : (List.replicate n (V.bl true)) = (List.replicate n true).map V.bl := by rw [List.map_replicate]
theorem reps_snoc (n : Nat) : List.replicate n (V.bl true) ++ [V.bl true] = List.replicate (n + 1) (V.bl true) := by rw [List.replicate_succ']
theorem ok_isCase {f fC fN : Addr} {fd dC dN : FuncData} (F : Fun K "is_case" "is_case" s_is_case f fd) (B : Blt mg) (N : Nums mg) (mN : mg "is_number" = some (.ref fN)) (FN : Fun K "is_number" "is_number" s_is_number fN dN) (bN : Binds K dN ["thing", "most"] [])
    (mC : mg "is_condition" = some (.ref fC)) (FC : Fun K "is_condition" "is_condition" s_is_condition fC dC) (bC : Binds K dC ["thing"] []) : FnOk P w K mg base CX0 3 f fd ["thing"] spIsCase := by
  have GC : FnOk P w K mg base CX0 2 fC dC ["thing"] spIsCond := ok_isCond FC B N mN FN bN
  refine F.ok sc_isCase (fun vs H Q E h => ?_) (fun cdv A outer s H vs Q E hr h => ?_)
  · obtain ⟨a, c, rfl, _⟩ := h
    rfl
  · obtain ⟨a, cs, rfl, ht, ok, q⟩ := h
    obtain ⟨_, xs, e, ha, tds⟩ := ht.tupv
    cases e
    have hlen : xs.length = cs.length := by rw [tds.length, List.length_map]
    have c5 := ok.len
    refine ⟨_, pss_cons (ps_if (PW.pt (pw_or (pt_not (pt_val (pe_callB call_isi (by rfl) B.isinstance boot_isinstance' (pa_cons (pv 0) (pa_cons (pe_bltn (v := .ty "tuple") (u := .type "tuple") (by rfl) B.tuple (by decide +kernel) rfl) pa_nil)))))
        (pw_or1 (pt_not (pt_val (pe_callB (cr_all rfl) (by rfl) B.all (by decide +kernel) (pa_cons (pe_lc (own := [("part", 1)]) (g := gName 1) (tt := tYes) rfl sc_isCase.nd (pi_tup (pv 0)) (blkOk_by (own := [("part", 1)]) (N := ["thing", "part", "one", "following"]) (sc := defScope s_is_case) (by decide +kernel))
          (fun _ _ _ _ _ => pg_name (i := 1) sc_isCase.nd rfl (Or.inl rfl)) (fun _ _ _ _ _ => pts_nil) (fun _ _ _ _ _ => pe_call GC hr rfl mC FC.kp bC .nil pass0 (pa_cons (pv 1) pa_nil))) pa_nil))))))) (pss_one (ps_ret pe_bl)) pss_nil)
      (pss_one (ps_ret (pe_callB (cr_all rfl) (by rfl) B.all (by decide +kernel) (pa_cons (pe_lc (own := [("one", 2), ("following", 3)]) (g := gTup K 2 (gCons (gName 2) (gCons (gName 3) gNil))) (tt := tYes) rfl sc_isCase.nd
          (RZ.pi_zipA (by rfl) B.zip (pa_cons (pv 0) (pa_cons (pe_slice sl_tupF (pv 0) (po_some pe_int) po_none) pa_nil))) (blkOk_by (own := [("one", 2), ("following", 3)]) (N := ["thing", "part", "one", "following"]) (sc := defScope s_is_case) (by decide +kernel))
          (fun _ _ _ _ _ => pg_tup rfl (pgs_cons (pg_name (i := 2) sc_isCase.nd rfl (Or.inl rfl)) (pgs_cons (pg_name (i := 3) sc_isCase.nd rfl (Or.inl rfl)) pgs_nil))) (fun _ _ _ _ _ => pts_nil)
          (fun _ _ _ _ _ => pe_cmpR op_lt (pe_ix (show IxR _ (rIxT K) from ix_tup) (pv 2) pe_int (fun _ _ => rfl)) (pe_ix (show IxR _ (rIxT K) from ix_tup) (pv 3) pe_int (fun _ _ => rfl)) (nomark _))) pa_nil)))), ?_⟩
    refine ⟨_, rfl, _, _, _, _, true, rfl, .ty "tuple", ha.ty, kit_ty (by decide +kernel), true, rfl, ?_⟩
    refine iteF ⟨_, rfl, a, rfl, ⟨_, PT.sq ha⟩, fun D hD => ?_⟩
    refine lc_tup (K := K) (a := a) (xs := xs) (fun i H' => Same H H' ∧ H' D = some (.lst (List.replicate i (.bl true)))) ⟨Same.new hD, upd_same⟩ (fun i H' _ h => PT.sq (Same.pt h.1 ha)) ?_ ?_
    · rintro i x H1 hx ⟨sm, hL⟩
      obtain ⟨c, hc, tx, _⟩ := cond_get tds hx
      have tx1 := tx.mono (TK.same sm)
      obtain ⟨ac, rfl, hac⟩ := cond_at tx1
      have hi : i < cs.length := (List.getElem?_eq_some_iff.mp hc).1
      refine ⟨rfl, _, rfl, ac, c, rfl, tx1, ok.each c (List.mem_of_getElem? hc), _, hL, by rw [List.length_replicate, sizeLine_eq]; omega, ?_, ?_⟩
      · exact fun b o eb => by rw [upd_ne (ne_of_none eb hD)]; exact sm b o eb
      · rw [reps_snoc]; exact upd_same
    rintro H1 ⟨sm, hL⟩
    refine ⟨D, List.replicate xs.length true, rfl, SqL.of (by rw [← reps]; exact hL), true, by rw [all_true], ?_⟩
    refine iteF ?_
    -- zip(thing, thing[1:])
    have ha1 := Same.pt sm ha
    have key : ∀ (b : Addr) (H2 : Hp), Same H H2 → PT H2 b (xs.drop 1) → ∀ D2, H2 D2 = none → _ := fun b H2 sm2 hb D2 hD2 =>
      lc_zipT (K := K) (a := a) (b := b) (xs := xs) (ys := xs.drop 1) (g := gTup K 2 (gCons (gName 2) (gCons (gName 3) gNil))) (tt := tYes)
        (te := tOp (rI0 fun i j => V.bl (decide (i < j))) (tOp (rIxT K) (tVar 2) (tC (.int 0))) (tOp (rIxT K) (tVar 3) (tC (.int 0)))) (vs := [2, 3]) (σ := [some (.ref a), none, none, none]) (H1 := H2) (D := D2)
        (Qd := fun H' => rAll K [.ref D2] H' Q) (fun i H' => Same H H' ∧ PT H' b (xs.drop 1) ∧ H' D2 = some (.lst (List.replicate i (.bl true))))
        ⟨sm2.trans (Same.new hD2), Same.pt (Same.new hD2) hb, upd_same⟩ (fun i H' ⟨h1, h2, _⟩ => ⟨PT.sq (Same.pt h1 ha), PT.sq h2⟩)
        (by
          rintro i x y T H3 hx hy ⟨sm3, hb3, hL3⟩ hT
          have hy' : xs[i + 1]? = some y := by rw [List.getElem?_drop, Nat.add_comm] at hy; exact hy
          obtain ⟨c, hc, tx, _⟩ := cond_get tds hx
          obtain ⟨d, hd, ty, _⟩ := cond_get tds hy'
          have smT : Same H3 (upd H3 T (.tup [x, y])) := Same.new hT
          obtain ⟨ac, rfl, hac⟩ := cond_at (tx.mono (TK.same (sm3.trans smT)))
          obtain ⟨ad, rfl, had⟩ := cond_at (ty.mono (TK.same (sm3.trans smT)))
          have lt : c.1 < d.1 := by
            obtain ⟨hi, ei⟩ := List.getElem?_eq_some_iff.mp hc
            obtain ⟨hj, ej⟩ := List.getElem?_eq_some_iff.mp hd
            have := List.pairwise_iff_getElem.mp ok.asc i (i + 1) hi hj (Nat.lt_succ_self _)
            rw [ei, ej] at this
            exact this
          have hi : i < cs.length := (List.getElem?_eq_some_iff.mp hc).1
          have n1 : D2 ≠ T := ne_of_none hL3 hT
          refine ⟨T, _, rfl, SqT.of upd_same, rfl, _, _, rfl, _, _, rfl, rfl, rfl, ?_⟩
          refine ⟨_, rfl, ac, _, 0, .int c.1, rfl, rfl, PT.sq hac, rfl, _, rfl, ad, _, 0, .int d.1, rfl, rfl, PT.sq had, rfl, _, _, rfl, rfl, _, smT _ _ hL3, by rw [List.length_replicate, sizeLine_eq]; omega, ?_, ?_, ?_⟩
          · exact fun b o eb => by
              have z := smT _ _ (sm3 b o eb)
              by_cases nb : b = D2
              · subst nb
                have z2 := sm2 b o eb
                rw [hD2] at z2
                cases z2
              · rw [upd_ne nb]; exact z
          · have nb : b ≠ D2 := hb.ne hD2
            exact (Same.pt smT hb3).on fun u w => by rw [upd_ne nb]; exact w
          · show upd _ D2 (.lst (List.replicate i (V.bl true) ++ [V.bl (decide (c.1 < d.1))])) D2 = _
            rw [decide_eq_true lt, reps_snoc]
            exact upd_same)
        (by
          rintro H3 ⟨sm3, _, hL3⟩
          exact ⟨D2, List.replicate _ true, rfl, SqL.of (by rw [← reps]; exact hL3), by rw [all_true]; exact q _ sm3⟩)
    refine ⟨_, rfl, _, rfl, 1, rfl, a, xs, rfl, PT.sq ha1, fun hw => ?_, fun hw p ob hp hd0 => ?_⟩
    · have hx0 : xs = [] := by
        cases xs with
        | nil => rfl
        | cons x xs => exact absurd hw.1 (by simp [HT.sIx])
      subst hx0
      exact ⟨a, a, _, _, rfl, .inr ⟨PT.sq ha1, PT.sq ha1, key a H1 sm ha1⟩⟩
    · have smp : Same H1 (upd H1 p (ptO ob (cutV xs (some 1) none))) := Same.new hp
      have ec : cutV xs (some 1) none = xs.drop 1 := by
        cases xs with
        | nil => rfl
        | cons x xs => simp [cutV, HT.sIx]
      exact ⟨a, p, _, _, rfl, .inr ⟨PT.sq (Same.pt smp ha1), PT.sq (PT.new hd0), key p _ (sm.trans smp) (by rw [← ec]; exact PT.new hd0)⟩⟩
end
end Cr

namespace Cr
open PySem PySem.Spec PyProof.Rows L2

/-- a def of the module, by its name -/
structure Df (K : PySem.W.Frag) (mg : Str → Option Value) (x : Str) (st : Stmt) (ps : List Str) (f : Addr) (fd : FuncData) : Prop where
  m : mg x = some (.ref f)
  F : Fun K x x st f fd
  b : Binds K fd ps []
/-- the forms' defs -/
structure Forms (K : PySem.W.Frag) (mg : Str → Option Value) (fN fC fK fR : Addr) (dN dC dK dR : FuncData) : Prop where
  N : Df K mg "is_number" s_is_number ["thing", "most"] fN dN
  C : Df K mg "is_condition" s_is_condition ["thing"] fC dC
  Kc : Df K mg "is_case" s_is_case ["thing"] fK dK
  R : Df K mg "is_rule" s_is_rule ["thing"] fR dR
def spNeedCase : Sp := fun vs H Q _ => ∃ (a : Addr) (cs : Case), vs = [.ref a] ∧ TD H (.ref a) (caseD cs) ∧ CaseOk cs ∧ ∀ H', Same H H' → Q .non H'
def spMatching : Sp := fun vs H Q _ => ∃ (a t : Addr) (xs : List V) (rs : List Rule) (cs : Case), vs = [.ref a, .ref t] ∧ PT H a xs ∧ TDs H xs (rs.map ruleD) ∧ RulesOk 12 rs ∧ TD H (.ref t) (caseD cs) ∧
  ∀ H' D refs, Same H H' → H D = none → NewRules H' D refs (rs.filter fun r => inB r.1 cs) → Q (.ref D) H'
def spFirstResult : Sp := fun vs H Q _ => ∃ (a t : Addr) (xs : List V) (rs : List Rule) (cs : Case), vs = [.ref a, .ref t] ∧ PT H a xs ∧ TDs H xs (rs.map ruleD) ∧ RulesOk 12 rs ∧ TD H (.ref t) (caseD cs) ∧ ∀ H', Same H H' → Q (firstV rs cs) H'
theorem rule_at {H : Hp} {v : V} {r : Rule} (h : TD H v (ruleD r)) : ∃ a c, v = .ref a ∧ PT H a [.ref c, .int r.2] ∧ TD H (.ref c) (caseD r.1) := by
  obtain ⟨a, xs, rfl, hx, ts⟩ := h.tupv
  cases ts with
  | cons t1 t2 =>
    cases t2 with
    | cons t3 t4 =>
      cases t4
      obtain ⟨c, ys, rfl, hc, tc⟩ := t1.tupv
      rw [t3.intv] at hx
      exact ⟨a, c, rfl, hx, .tup hc tc⟩
theorem keyD_cond (c : Cond) : KeyD 6 (condD c) := .inr ⟨_, rfl, fun e he => by
  rcases List.mem_cons.mp he with rfl | he
  · exact .inl ⟨_, rfl⟩
  · rw [List.mem_singleton.mp he]; exact .inl ⟨_, rfl⟩⟩
theorem keyD_case (c : Case) : KeyD 7 (caseD c) := .inr ⟨_, rfl, fun e he => by
  obtain ⟨x, _, rfl⟩ := List.mem_map.mp he
  exact keyD_cond x⟩
theorem keyD_rule (r : Rule) : KeyD 8 (ruleD r) := .inr ⟨_, rfl, fun e he => by
  rcases List.mem_cons.mp he with rfl | he
  · exact keyD_case _
  · rw [List.mem_singleton.mp he]; exact .inl ⟨_, rfl⟩⟩
theorem key_conds : ∀ {a b : Case}, toKeys (a.map condD) = toKeys (b.map condD) → a = b
  | [], [], _ => rfl
  | [], _ :: _, h => by simp [toKeys] at h
  | _ :: _, [], h => by simp [toKeys] at h
  | x :: a, y :: b, h => by
    rw [List.map_cons, List.map_cons, toKeys, toKeys] at h
    injection h with h1 h2
    have e1 : x = y := by
      obtain ⟨x1, x2⟩ := x
      obtain ⟨y1, y2⟩ := y
      simp only [condD, toKey, toKeys] at h1
      injection h1 with h1
      injection h1 with h3 h4
      injection h3 with h3
      injection h4 with h4
      injection h4 with h4
      rw [h3, h4]
    rw [e1, key_conds h2]
theorem key_rule {a b : Rule} (h : toKey (ruleD a) = toKey (ruleD b)) : a = b := by
  obtain ⟨a1, a2⟩ := a
  obtain ⟨b1, b2⟩ := b
  simp only [ruleD, caseD, toKey, toKeys] at h
  injection h with h
  injection h with h1 h2
  injection h1 with h1
  injection h2 with h2
  injection h2 with h2
  rw [key_conds h1, h2]
theorem keys_nodup {rs : List Rule} (h : rs.Nodup) : ((rs.map ruleD).map toKey).Nodup := by
  rw [List.map_map]
  exact List.pairwise_map.mpr (h.imp fun {a b} hne e => hne (key_rule e))
section
variable {P : Program} {w : World} {K : PySem.W.Frag} {mg : Str → Option Value} {base : Heap}
theorem sc_isRule : FnScope ["thing", "conditions", "result"] ["thing"] (defScope s_is_rule) := ⟨rfl, rfl, rfl, by decide +kernel, rfl, by decide +kernel, by decide +kernel⟩
theorem ok_isRule {fN fC fK fR : Addr} {dN dC dK dR : FuncData} (B : Blt mg) (N : Nums mg) (T : Forms K mg fN fC fK fR dN dC dK dR) : FnOk P w K mg base CX0 4 fR dR ["thing"] spIsRule := by
  have GN : FnOk P w K mg base CX0 3 fN dN ["thing", "most"] spIsNumber := (ok_isNumber T.N.F B).mono (by decide)
  have GK : FnOk P w K mg base CX0 3 fK dK ["thing"] spIsCase := ok_isCase T.Kc.F B N T.N.m T.N.F T.N.b T.C.m T.C.F T.C.b
  obtain ⟨t99, n99⟩ := N.res
  refine T.R.F.ok sc_isRule (fun vs H Q E h => ?_) (fun cdv A outer s H vs Q E hr h => ?_)
  · obtain ⟨a, c, rfl, _⟩ := h
    rfl
  · obtain ⟨a, r, rfl, ht, ok, q⟩ := h
    obtain ⟨_, c, e, ha, tc⟩ := rule_at ht
    cases e
    refine ⟨_, pss_cons (ps_if (PW.pt (pw_or (pt_not (pt_val (pe_callB call_isi (by rfl) B.isinstance boot_isinstance' (pa_cons (pv 0) (pa_cons (pe_bltn (v := .ty "tuple") (u := .type "tuple") (by rfl) B.tuple (by decide +kernel) rfl) pa_nil)))))
        (pw_or1 (pt_cmpR op_ne (pe_callB call_len_seq (by rfl) B.len PySem.boot_len (pa_cons (pv 0) pa_nil)) pe_int (nomark _))))) (pss_one (ps_ret pe_bl)) pss_nil)
      (pss_cons (ps_asg (pv 0) (pg_tup rfl (pgs_cons (pg_name (i := 1) sc_isRule.nd rfl (.inl rfl)) (pgs_cons (pg_name (i := 2) sc_isRule.nd rfl (.inl rfl)) pgs_nil))))
      (pss_one (ps_ret (pe_and (pe_call GK hr rfl T.Kc.m T.Kc.F.kp T.Kc.b .nil pass0 (pa_cons (pv 1) pa_nil))
        (pe_one (pe_call GN hr rfl T.N.m T.N.F.kp T.N.b .nil pass0 (pa_cons (pv 2) (pa_cons (pe_glob (v := .int 99) rfl n99 ⟨_, rfl⟩) pa_nil)))))))), ?_⟩
    refine ⟨_, rfl, _, _, _, _, true, rfl, .ty "tuple", ha.ty, kit_ty (by decide +kernel), true, rfl, ?_⟩
    refine iteF ⟨_, rfl, a, _, rfl, .inr (PT.sq ha), rfl, _, rfl, ?_⟩
    refine iteF ⟨_, rfl, a, _, rfl, PT.sq ha, rfl, _, _, rfl, _, _, rfl, rfl, ?_⟩
    refine ⟨_, rfl, c, r.1, rfl, tc, ok.case, fun H1 sm => ⟨true, rfl, ?_⟩⟩
    exact iteT ⟨_, rfl, _, _, rfl, ok.lo, ok.hi, q _ sm⟩
theorem sc_areRules : FnScope ["things", "thing"] ["things"] (defScope s_are_rules) := ⟨rfl, rfl, rfl, by decide +kernel, rfl, by decide +kernel, by decide +kernel⟩
theorem ok_areRules {f fN fC fK fR : Addr} {fd dN dC dK dR : FuncData} (F : Fun K "are_rules" "are_rules" s_are_rules f fd) (B : Blt mg) (N : Nums mg) (T : Forms K mg fN fC fK fR dN dC dK dR) : FnOk P w K mg base CX0 5 f fd ["things"] spAreRules := by
  have GR : FnOk P w K mg base CX0 4 fR dR ["thing"] spIsRule := ok_isRule B N T
  obtain ⟨t12, n12⟩ := N.rules
  refine F.ok sc_areRules (fun vs H Q E h => ?_) (fun cdv A outer s H vs Q E hr h => ?_)
  · obtain ⟨a, xs, rs, rfl, _⟩ := h
    rfl
  · obtain ⟨a, xs, rs, rfl, ha, tds, ok, q⟩ := h
    have hlen : xs.length = rs.length := by rw [tds.length, List.length_map]
    have few := ok.few
    refine ⟨_, pss_cons (ps_if (PW.pt (pw_or (pt_cmpR op_gt (pe_callB call_len_seq (by rfl) B.len PySem.boot_len (pa_cons (pv 0) pa_nil)) (pe_glob (v := .int 12) rfl n12 ⟨_, rfl⟩) (nomark _))
        (pw_or1 (pt_not (pt_val (pe_callB (cr_all rfl) (by rfl) B.all (by decide +kernel) (pa_cons (pe_lc (own := [("thing", 1)]) (g := gName 1) (tt := tYes) rfl sc_areRules.nd (pi_tup (pv 0)) (blkOk_by (own := [("thing", 1)]) (N := ["things", "thing"]) (sc := defScope s_are_rules) (by decide +kernel))
          (fun _ _ _ _ _ => pg_name (i := 1) sc_areRules.nd rfl (Or.inl rfl)) (fun _ _ _ _ _ => pts_nil) (fun _ _ _ _ _ => pe_call GR hr rfl T.R.m T.R.F.kp T.R.b .nil pass0 (pa_cons (pv 1) pa_nil))) pa_nil))))))) (pss_one (ps_ret pe_bl)) pss_nil)
      (pss_one (ps_ret (pe_cmpR op_eq (pe_lenSetD (by rfl) B.len (by rfl) B.set (pv 0) hr.units) (pe_callB call_len_seq (by rfl) B.len PySem.boot_len (pa_cons (pv 0) pa_nil)) (nomark _)))), ?_⟩
    refine ⟨_, rfl, a, _, rfl, .inr (PT.sq ha), _, _, rfl, rfl, _, rfl, ?_⟩
    refine ite2 (fun hb => ?_) (fun _ => ?_)
    · have hb : (12 : Int) < (xs.length : Int) := of_decide_eq_true hb
      exact absurd hb (by omega)
    refine ⟨_, rfl, a, rfl, ⟨_, PT.sq ha⟩, fun D hD => ?_⟩
    refine lc_tup (K := K) (a := a) (xs := xs) (fun i H' => Same H H' ∧ H' D = some (.lst (List.replicate i (.bl true)))) ⟨Same.new hD, upd_same⟩ (fun i H' _ h => PT.sq (Same.pt h.1 ha)) ?_ ?_
    · rintro i x H1 hx ⟨sm, hL⟩
      obtain ⟨r, ar, c, hr', rfl, har, tc, _⟩ := rule_get tds hx
      have tr : TD H1 (.ref ar) (ruleD r) := .tup (Same.pt sm har) (.cons (tc.mono (TK.same sm)) (.cons (.int _) .nil))
      have hi : i < rs.length := (List.getElem?_eq_some_iff.mp hr').1
      refine ⟨rfl, _, rfl, ar, r, rfl, tr, ok.each r (List.mem_of_getElem? hr'), fun H2 sm2 => ⟨_, sm2 _ _ hL, by rw [List.length_replicate, sizeLine_eq]; omega, ?_, ?_⟩⟩
      · exact fun b o eb => by rw [upd_ne (ne_of_none eb hD)]; exact sm2 _ _ (sm b o eb)
      · rw [reps_snoc]; exact upd_same
    rintro H1 ⟨sm, hL⟩
    refine ⟨D, List.replicate xs.length true, rfl, SqL.of (by rw [← reps]; exact hL), true, by rw [all_true], ?_⟩
    refine iteF ?_
    have ha1 := Same.pt sm ha
    refine ⟨_, rfl, a, xs, rs.map ruleD, rfl, PT.sq ha1, (tds.mono (TK.same sm)).dp, fun d hd => ?_, keys_nodup ok.nd, by rw [List.length_map]; omega, _, rfl, a, _, rfl, .inr (PT.sq ha1), rfl, ?_⟩
    · obtain ⟨r, _, rfl⟩ := List.mem_map.mp hd
      exact ⟨keyD_rule r, _, rfl⟩
    · show Q (V.bl (decide (V.int (((rs.map ruleD).length : Nat) : Int) = V.int ((xs.length : Nat) : Int)))) H1
      rw [List.length_map, hlen, decide_eq_true rfl]
      exact q _ sm
theorem sc_needCase : FnScope ["thing"] ["thing"] (defScope s_need_case) := ⟨rfl, rfl, rfl, by decide +kernel, rfl, by decide +kernel, by decide +kernel⟩
theorem ok_needCase {f fN fC fK fR : Addr} {fd dN dC dK dR : FuncData} (F : Fun K "need_case" "need_case" s_need_case f fd) (B : Blt mg) (N : Nums mg) (T : Forms K mg fN fC fK fR dN dC dK dR) : FnOk P w K mg base CX0 4 f fd ["thing"] spNeedCase := by
  have GK : FnOk P w K mg base CX0 3 fK dK ["thing"] spIsCase := ok_isCase T.Kc.F B N T.N.m T.N.F T.N.b T.C.m T.C.F T.C.b
  refine F.ok sc_needCase (fun vs H Q E h => ?_) (fun cdv A outer s H vs Q E hr h => ?_)
  · obtain ⟨a, cs, rfl, _⟩ := h
    rfl
  · obtain ⟨a, cs, rfl, ht, ok, q⟩ := h
    refine ⟨_, pss_one (ps_if (pt_not (pt_val (pe_call GK hr rfl T.Kc.m T.Kc.F.kp T.Kc.b .nil pass0 (pa_cons (pv 0) pa_nil)))) (pss_one ps_never) pss_nil), ?_⟩
    exact ⟨_, rfl, a, cs, rfl, ht, ok, fun H1 sm => ⟨true, rfl, iteF (q _ sm)⟩⟩
theorem sc_within : FnScope ["inner", "outer", "condition"] ["inner", "outer"] (defScope s_lies_within) := ⟨rfl, rfl, rfl, by decide +kernel, rfl, by decide +kernel, by decide +kernel⟩
theorem all_map {α : Type} (l : List α) (p : α → Bool) : (l.map p).all id = l.all p := by rw [List.all_map]; rfl
theorem ok_within {f : Addr} {fd : FuncData} (F : Fun K "lies_within" "lies_within" s_lies_within f fd) (B : Blt mg) : FnOk P w K mg base CX0 1 f fd ["inner", "outer"] spInside := by
  refine F.ok sc_within (fun vs H Q E h => ?_) (fun cdv A outer s H vs Q E hr h => ?_)
  · obtain ⟨a, b, cs, ds, rfl, _⟩ := h
    rfl
  · obtain ⟨a, b, cs, ds, rfl, ha, hb, hlen, q⟩ := h
    obtain ⟨_, xs, e, hA, tA⟩ := ha.tupv
    cases e
    have hu : A.units + 3 + 65 < cLine := by have := hr.un; have e : (A.deeper (envOfC "lies_within" (defScope s_lies_within) s.heap.objs.size f cdv)).units = A.units + 3 := rfl; omega
    refine ⟨_, pss_one (ps_ret (pe_callB (cr_all rfl) (by rfl) B.all (by decide +kernel) (pa_cons (pe_lc (own := [("condition", 2)]) (g := gName 2) (tt := tYes) rfl sc_within.nd (pi_tup (pv 0)) (blkOk_by (own := [("condition", 2)]) (N := ["inner", "outer", "condition"]) (sc := defScope s_lies_within) (by decide +kernel))
        (fun _ _ _ _ _ => pg_name (i := 2) sc_within.nd rfl (Or.inl rfl)) (fun _ _ _ _ _ => pts_nil)
        (fun _ _ _ _ _ => pe_cmpR (show OpR _ (compareOp .In) (rInT K) from op_inT hu) (pv 2) (pv 1) (by rfl))) pa_nil))), ?_⟩
    refine ⟨_, rfl, a, rfl, ⟨_, PT.sq hA⟩, fun D hD => ?_⟩
    refine lc_tup (K := K) (a := a) (xs := xs) (fun i H' => Same H H' ∧ H' D = some (.lst ((cs.take i).map fun c => V.bl (decide (c ∈ ds))))) ⟨Same.new hD, upd_same⟩ (fun i H' _ h => PT.sq (Same.pt h.1 hA)) ?_ ?_
    · rintro i x H1 hx ⟨sm, hL⟩
      obtain ⟨c, hc, tx, hts⟩ := cond_get tA hx
      refine ⟨rfl, _, rfl, _, rfl, _, _, (tx.mono (TK.same sm)).dp, (hb.mono (TK.same sm)).dp, shaped_cond c, shaped_case ds, _, hL, ?_, ?_, ?_⟩
      · rw [List.length_map, List.length_take, sizeLine_eq]; omega
      · exact fun b o eb => by rw [upd_ne (ne_of_none eb hD)]; exact sm b o eb
      · rw [hts, List.map_append, any_cond]; exact upd_same
    · rintro H1 ⟨sm, hL⟩
      have xlen : xs.length = cs.length := by rw [tA.length, List.length_map]
      rw [xlen, List.take_length] at hL
      refine ⟨D, cs.map fun c => decide (c ∈ ds), rfl, SqL.of (by rw [hL, List.map_map]; rfl), ?_⟩
      rw [all_map]
      exact q _ sm
theorem sc_matching : FnScope ["rules", "case", "rule"] ["rules", "case"] (defScope s_matching_rules) := ⟨rfl, rfl, rfl, by decide +kernel, rfl, by decide +kernel, by decide +kernel⟩
theorem ok_matching {f fW : Addr} {fd dW : FuncData} (F : Fun K "matching_rules" "matching_rules" s_matching_rules f fd) (B : Blt mg) (W : Df K mg "lies_within" s_lies_within ["inner", "outer"] fW dW) : FnOk P w K mg base CX0 2 f fd ["rules", "case"] spMatching := by
  have GW : FnOk P w K mg base CX0 1 fW dW ["inner", "outer"] spInside := ok_within W.F B
  refine F.ok sc_matching (fun vs H Q E h => ?_) (fun cdv A outer s H vs Q E hr h => ?_)
  · obtain ⟨a, t, xs, rs, cs, rfl, _⟩ := h
    rfl
  · obtain ⟨a, t, xs, rs, cs, rfl, hA, tds, ok, ht, q⟩ := h
    refine ⟨_, pss_one (ps_ret (pe_lc (own := [("rule", 2)]) (g := gName 2) rfl sc_matching.nd (pi_tup (pv 0)) (blkOk_by (own := [("rule", 2)]) (N := ["rules", "case", "rule"]) (sc := defScope s_matching_rules) (by decide +kernel))
        (fun _ _ _ _ _ => pg_name (i := 2) sc_matching.nd rfl (Or.inl rfl))
        (fun _ _ _ _ _ => pts_one (pt_val (pe_call GW hr rfl W.m W.F.kp W.b .nil pass0 (pa_cons (pe_ix (show IxR _ (rIxT K) from ix_tup) (pv 2) pe_int (fun _ _ => rfl)) (pa_cons (pv 1) pa_nil)))))
        (fun _ _ _ _ _ => pv 2))), ?_⟩
    refine ⟨_, rfl, a, rfl, ⟨_, PT.sq hA⟩, fun D hD => ?_⟩
    refine lc_tup (K := K) (a := a) (xs := xs) (fun i H' => ∃ refs, Same H H' ∧ NewRules H' D refs ((rs.take i).filter fun r => inB r.1 cs)) ⟨[], Same.new hD, ⟨upd_same, .nil⟩⟩ (fun i H' _ ⟨_, h, _⟩ => PT.sq (Same.pt h hA)) ?_ ?_
    · rintro i x H1 hx ⟨refs, sm, nr⟩
      obtain ⟨r, ar, c, hr', rfl, har, tc, hts⟩ := rule_get tds hx
      have okr := ok.each r (List.mem_of_getElem? hr')
      refine ⟨rfl, _, rfl, ar, _, 0, .ref c, rfl, rfl, PT.sq (Same.pt sm har), rfl, _, rfl, c, t, r.1, cs, rfl, tc.mono (TK.same sm), ht.mono (TK.same sm), Nat.le_trans okr.case.len (by decide), fun H2 sm2 => ⟨_, rfl, ite2 (fun hb => ?_) (fun hb => ?_)⟩⟩
      · have nr2 := nr.same sm2
        refine ⟨_, rfl, refs, nr2.1, ?_, refs ++ [.ref ar], ?_, ⟨upd_same, ?_⟩⟩
        · have z1 := nr.len
          have z2 := List.length_filter_le (fun r : Rule => inB r.1 cs) (rs.take i)
          rw [List.length_take] at z2
          have := ok.few
          rw [sizeLine_eq]; omega
        · exact fun b o eb => by rw [upd_ne (ne_of_none eb hD)]; exact sm2 _ _ (sm b o eb)
        · have ef : ([r].filter fun r => inB r.1 cs) = [r] := by rw [List.filter_cons, hb]; rfl
          rw [hts, List.filter_append, List.map_append, ef]
          have tr : TD H2 (.ref ar) (ruleD r) := .tup (Same.pt sm2 (Same.pt sm har)) (.cons (tc.mono (TK.same (sm.trans sm2))) (.cons (.int _) .nil))
          exact (nr2.2.append (.cons tr .nil)).mono (TK.lst nr2.1)
      · refine ⟨refs, sm.trans sm2, ?_⟩
        have ef : ([r].filter fun r => inB r.1 cs) = [] := by rw [List.filter_cons, if_neg hb]; rfl
        rw [hts, List.filter_append, ef, List.append_nil]
        exact nr.same sm2
    · rintro H1 ⟨refs, sm, nr⟩
      have xlen : xs.length = rs.length := by rw [tds.length, List.length_map]
      rw [xlen, List.take_length] at nr
      exact q _ D refs sm hD nr
end
end Cr

namespace Cr
open PySem PySem.Spec PyProof.Rows L2

def spReadNum : Sp := fun vs H Q _ => ∃ n : Int, vs = [.str (numS n)] ∧ 0 ≤ n ∧ n ≤ 99 ∧ ∀ H', Same H H' → Q (.int n) H'
def spReadCond : Sp := fun vs H Q _ => ∃ c : Cond, vs = [.str (condS c)] ∧ (0 ≤ c.1 ∧ c.1 ≤ 4 ∧ 0 ≤ c.2 ∧ c.2 ≤ 9) ∧ ∀ H' t, Same H H' → TD H' (.ref t) (condD c) → Q (.ref t) H'
def spReadRule : Sp := fun vs H Q _ => ∃ r : Rule, vs = [.str (lineS r)] ∧ RuleOk r ∧ ∀ H' t, Same H H' → TD H' (.ref t) (ruleD r) → Q (.ref t) H'
def spReadRules : Sp := fun vs H Q _ => ∃ rs : List Rule, vs = [.str (textS rs)] ∧ RulesOk 12 rs ∧ ∀ H' t xs, Same H H' → PT H' t xs → TDs H' xs (rs.map ruleD) → Q (.ref t) H'
theorem num_facts : ∀ i : Nat, i < 100 → Txt.isdigit (numS (i : Int)) = true ∧ Txt.isascii (numS (i : Int)) = true ∧ 0 < (numS (i : Int)).length ∧ (numS (i : Int)).length ≤ 2 ∧ PySem.intText? (numS (i : Int)) = some (i : Int) ∧
    ((numS (i : Int)).length = 1 ∨ (numS (i : Int)).cps[0]? ≠ some 48) := by decide +kernel
section
variable {P : Program} {w : World} {K : PySem.W.Frag} {mg : Str → Option Value} {base : Heap}
theorem sc_readNum : FnScope ["word"] ["word"] (defScope s_read_number) := ⟨rfl, rfl, rfl, by decide +kernel, rfl, by decide +kernel, by decide +kernel⟩
theorem ok_readNum {f : Addr} {fd : FuncData} (F : Fun K "read_number" "read_number" s_read_number f fd) (B : Blt mg) (N : Nums mg) : FnOk P w K mg base CX0 1 f fd ["word"] spReadNum := by
  refine F.ok sc_readNum (fun vs H Q E h => ?_) (fun cdv A outer s H vs Q E hr h => ?_)
  · obtain ⟨n, rfl, _⟩ := h
    rfl
  · obtain ⟨n, rfl, h0, h1, q⟩ := h
    obtain ⟨k, rfl⟩ := Int.eq_ofNat_of_zero_le h0
    obtain ⟨f1, f2, f3, f4, f5, f6⟩ := num_facts k (by omega)
    refine ⟨_, pss_cons (ps_if (PW.pt (pw_or (pt_not (pt_val (pe_m0 PySem.F.slot_str_isdigit PySem.F.type_str_isdigit mt_isdigit (pv 0))))
        (pw_or (pt_not (pt_val (pe_m0 PySem.F.slot_str_isascii PySem.F.type_str_isascii mt_isascii (pv 0))))
        (pw_or1 (pt_cmpR op_gt (pe_callB call_len_str (by rfl) B.len PySem.boot_len (pa_cons (pv 0) pa_nil)) pe_int (nomark _)))))) (pss_one (ps_ret pe_non)) pss_nil)
      (pss_one (ps_ret (pe_ifExp (PW.pt (pw_or (pt_cmpR op_eq (pe_callB call_len_str (by rfl) B.len PySem.boot_len (pa_cons (pv 0) pa_nil)) pe_int (nomark _))
        (pw_or1 (pt_cmpR op_ne (pe_item_str (pv 0) pe_int (fun _ _ => rfl)) pe_str (nomark _))))) (pe_callTy call_int_str (by rfl) B.int (by decide +kernel) (pa_cons (pv 0) pa_nil)) pe_non))), ?_⟩
    have hsz : (numS (k : Int)).length ≤ sizeLine := by rw [sizeLine_eq]; omega
    refine ⟨_, rfl, ⟨_, rfl⟩, _, rfl, rfl, trivial, true, by rw [f1], iteF ?_⟩
    refine ⟨_, rfl, ⟨_, rfl⟩, _, rfl, rfl, trivial, true, by rw [f2], iteF ?_⟩
    refine ⟨_, rfl, _, rfl, hsz, _, _, rfl, rfl, _, rfl, ?_⟩
    refine ite2 (fun hb => ?_) (fun _ => ?_)
    · have hb : (2 : Int) < ((numS (k : Int)).length : Int) := of_decide_eq_true hb
      exact absurd hb (by omega)
    have fin : (fun Q : VK => Q (.int (k : Int)) H) Q := q _ (Same.refl _)
    refine ⟨_, rfl, _, rfl, hsz, rfl, _, rfl, ?_⟩
    refine ite2 (fun _ => iteT ⟨_, rfl, _, _, rfl, f5, by omega, fin⟩) (fun hb => ?_)
    have hb : (numS (k : Int)).length ≠ 1 := fun e => hb (by rw [e]; rfl)
    have n48 := f6.resolve_left hb
    obtain ⟨c, hc⟩ : ∃ c, (numS (k : Int)).cps[0]? = some c := ⟨_, Array.getElem?_eq_getElem (show 0 < (numS (k : Int)).cps.size from f3)⟩
    refine ⟨_, rfl, _, _, c, rfl, rfl, by decide, by decide, by omega, hc, rfl, _, rfl, ?_⟩
    refine ite2 (fun _ => ⟨_, rfl, _, _, rfl, f5, by omega, fin⟩) (fun hb => ?_)
    have ne : V.str (⟨#[c]⟩ : Str) ≠ V.str ("0" : Str) := fun e => n48 (by
      have e : (⟨#[c]⟩ : Str) = ("0" : Str) := V.str.inj e
      have e2 : (⟨#[c]⟩ : Str).cps[0]? = ("0" : Str).cps[0]? := by rw [e]
      rw [hc]
      exact e2.trans (by decide +kernel))
    exact absurd (show (!decide (V.str (⟨#[c]⟩ : Str) = V.str ("0" : Str))) = true by rw [decide_eq_false ne]; rfl) hb
theorem sc_readCond : FnScope ["word", "attribute", "sign", "value"] ["word"] (defScope s_read_condition) := ⟨rfl, rfl, rfl, by decide +kernel, rfl, by decide +kernel, by decide +kernel⟩
theorem ok_readCond {f fN : Addr} {fd dN : FuncData} (F : Fun K "read_condition" "read_condition" s_read_condition f fd) (B : Blt mg) (N : Nums mg) (R : Df K mg "read_number" s_read_number ["word"] fN dN) : FnOk P w K mg base CX0 2 f fd ["word"] spReadCond := by
  have GN : FnOk P w K mg base CX0 1 fN dN ["word"] spReadNum := ok_readNum R.F B N
  refine F.ok sc_readCond (fun vs H Q E h => ?_) (fun cdv A outer s H vs Q E hr h => ?_)
  · obtain ⟨n, rfl, _⟩ := h
    rfl
  · obtain ⟨c, rfl, ok, q⟩ := h
    refine ⟨_, pss_cons (ps_asg (pe_partition (pv 0) pe_str) (pg_tup rfl (pgs_cons (pg_name (i := 1) sc_readCond.nd rfl (.inl rfl)) (pgs_cons (pg_name (i := 2) sc_readCond.nd rfl (.inl rfl)) (pgs_cons (pg_name (i := 3) sc_readCond.nd rfl (.inl rfl)) pgs_nil)))))
      (pss_one (ps_ret (pe_tupF (pa_cons (pe_call GN hr rfl R.m R.F.kp R.b .nil pass0 (pa_cons (pv 1) pa_nil)) (pa_cons (pe_call GN hr rfl R.m R.F.kp R.b .nil pass0 (pa_cons (pv 3) pa_nil)) pa_nil))))), ?_⟩
    refine ⟨_, rfl, ⟨_, rfl⟩, _, _, rfl, rfl, by decide +kernel, by have := (cond_signs ok).1; rw [sizeLine_eq]; omega, fun p hp => ?_⟩
    refine ⟨p, _, rfl, SqT.of upd_same, rfl, _, _, rfl, _, _, rfl, _, _, rfl, rfl, ?_⟩
    rw [cond_cut ok]
    have smp : Same H (upd H p (.tup [.str (numS c.1), .str "=", .str (numS c.2)])) := Same.new hp
    refine ⟨_, rfl, c.1, rfl, ok.1, by omega, fun H1 sm1 => ⟨_, rfl, c.2, rfl, ok.2.2.1, by omega, fun H2 sm2 => ⟨by show 2 ≤ sizeLine; decide, fun t ob ht hd0 => ?_⟩⟩⟩
    exact q _ t (smp.trans (sm1.trans (sm2.trans (Same.new ht)))) (condD_td (PT.new hd0))
theorem sc_readRule : FnScope ["line", "words", "word"] ["line"] (defScope s_read_rule) := ⟨rfl, rfl, rfl, by decide +kernel, rfl, by decide +kernel, by decide +kernel⟩
theorem ok_readRule {f fN fC : Addr} {fd dN dC : FuncData} (F : Fun K "read_rule" "read_rule" s_read_rule f fd) (B : Blt mg) (N : Nums mg) (R : Df K mg "read_number" s_read_number ["word"] fN dN) (C : Df K mg "read_condition" s_read_condition ["word"] fC dC) :
    FnOk P w K mg base CX0 3 f fd ["line"] spReadRule := by
  have GN : FnOk P w K mg base CX0 2 fN dN ["word"] spReadNum := (ok_readNum R.F B N).mono (by decide)
  have GC : FnOk P w K mg base CX0 2 fC dC ["word"] spReadCond := ok_readCond C.F B N R
  obtain ⟨t4, n4⟩ := N.attr
  refine F.ok sc_readRule (fun vs H Q E h => ?_) (fun cdv A outer s H vs Q E hr h => ?_)
  · obtain ⟨n, rfl, _⟩ := h
    rfl
  · obtain ⟨r, rfl, ok, q⟩ := h
    refine ⟨_, pss_cons (ps_set (i := 1) sc_readRule.nd rfl (.inl rfl) (pe_split (pv 0) pe_str))
      (pss_cons (ps_if (PW.pt (pw_or (pt_cmpR op_lt (pe_callB call_len_seq (by rfl) B.len PySem.boot_len (pa_cons (pv 1) pa_nil)) pe_int (nomark _))
          (pw_or1 (pt_cmpR op_ne (pe_ix ix_list (pv 1) (pe_un un_neg pe_int) (fun _ _ => rfl)) pe_str (nomark _))))) (pss_one (ps_ret pe_non)) pss_nil)
      (pss_cons (ps_if (pt_cmpR op_gt (pe_op op_sub (pe_callB call_len_seq (by rfl) B.len PySem.boot_len (pa_cons (pv 1) pa_nil)) pe_int) (pe_op op_add (pe_glob (v := .int 4) rfl n4 ⟨_, rfl⟩) pe_int) (nomark _)) (pss_one (ps_ret pe_non)) pss_nil)
      (pss_one (ps_ret (pe_tupF (pa_cons (pe_callTy call_tupF (by rfl) B.tuple (by decide +kernel) (pa_cons
          (pe_lc (own := [("word", 2)]) (g := gName 2) (tt := tYes) rfl sc_readRule.nd (pi_list (pe_slice sl_list (pv 1) po_none (po_some (pe_un un_neg pe_int)))) (blkOk_by (own := [("word", 2)]) (N := ["line", "words", "word"]) (sc := defScope s_read_rule) (by decide +kernel))
            (fun _ _ _ _ _ => pg_name (i := 2) sc_readRule.nd rfl (Or.inl rfl)) (fun _ _ _ _ _ => pts_nil) (fun _ _ _ _ _ => pe_call GC hr rfl C.m C.F.kp C.b .nil pass0 (pa_cons (pv 2) pa_nil))) pa_nil))
        (pa_cons (pe_call GN hr rfl R.m R.F.kp R.b .nil pass0 (pa_cons (pe_ix ix_list (pv 1) (pe_un un_neg pe_int) (fun _ _ => rfl)) pa_nil)) pa_nil))))))), ?_⟩
    refine ⟨_, rfl, ⟨_, rfl⟩, _, _, rfl, rfl, by decide +kernel, by have := (line_signs ok).1; rw [sizeLine_eq]; omega, fun p hp => ?_⟩
    rw [line_split ok]
    have ew : (wordsS r).map V.str = (r.1.map fun c => V.str (condS c)) ++ [.str "gives", .str (numS r.2)] := by
      unfold wordsS
      rw [List.map_append, List.map_map]
      rfl
    rw [ew]
    have wl : ((r.1.map fun c => V.str (condS c)) ++ [V.str "gives", V.str (numS r.2)]).length = r.1.length + 2 := by rw [List.length_append, List.length_map]; rfl
    have c5 := ok.case.len
    generalize hws : (r.1.map fun c => V.str (condS c)) ++ [V.str "gives", V.str (numS r.2)] = ws at *
    have smp : Same H (upd H p (.lst ws)) := Same.new hp
    have a2 : atI ws (-2) = some (.str "gives") := by
      unfold atI ixN
      rw [if_neg (by decide), if_pos (by omega)]
      show ws[((-2 : Int) + (ws.length : Int)).toNat]? = _
      rw [wl, ← hws, show ((-2 : Int) + ((r.1.length + 2 : Nat) : Int)).toNat = r.1.length by omega, List.getElem?_append_right (by rw [List.length_map]; omega), List.length_map, Nat.sub_self]
      rfl
    have a1 : atI ws (-1) = some (.str (numS r.2)) := by
      unfold atI ixN
      rw [if_neg (by decide), if_pos (by omega)]
      show ws[((-1 : Int) + (ws.length : Int)).toNat]? = _
      rw [wl, ← hws, show ((-1 : Int) + ((r.1.length + 2 : Nat) : Int)).toNat = r.1.length + 1 by omega, List.getElem?_append_right (by rw [List.length_map]; omega), List.length_map, show r.1.length + 1 - r.1.length = 1 by omega]
      rfl
    refine ⟨_, rfl, p, _, rfl, .inl (SqL.of upd_same), _, _, rfl, rfl, _, rfl, ?_⟩
    refine ite2 (fun hb => ?_) (fun _ => ?_)
    · have hb : ((ws.length : Nat) : Int) < 2 := of_decide_eq_true hb
      exact absurd hb (by omega)
    refine ⟨_, rfl, _, rfl, p, ws, _, _, rfl, rfl, SqL.of upd_same, a2, rfl, _, rfl, ?_⟩
    refine iteNS rfl ?_
    refine ⟨_, rfl, p, _, rfl, .inl (SqL.of upd_same), _, _, rfl, rfl, _, _, rfl, rfl, _, _, rfl, rfl, _, rfl, ?_⟩
    refine ite2 (fun hb => ?_) (fun _ => ?_)
    · have hb : (4 : Int) + 1 < ((ws.length : Nat) : Int) - 2 := of_decide_eq_true hb
      exact absurd hb (by omega)
    -- words[:-2]
    refine ⟨_, rfl, _, rfl, _, rfl, p, ws, rfl, SqL.of upd_same, fun p2 hp2 => ?_⟩
    have ec : cutV ws none (some (-2)) = r.1.map fun c => V.str (condS c) := by
      unfold cutV
      have s2 : HT.sIx ws.length ws.length (some (-2)) = r.1.length := by
        show (if (-2 : Int) < 0 then ((-2 : Int) + (ws.length : Int)).toNat else min (-2 : Int).toNat ws.length) = _
        rw [if_pos (by decide), wl]
        omega
      have s1 : HT.sIx ws.length 0 none = 0 := rfl
      rw [s1, s2, List.drop_zero, Nat.sub_zero, ← hws]
      exact List.take_left' (by rw [List.length_map])
    rw [ec]
    have sm2 : Same H (upd (upd H p (.lst ws)) p2 (.lst (r.1.map fun c => V.str (condS c)))) := smp.trans (Same.new hp2)
    refine ⟨p2, rfl, ⟨_, SqL.of upd_same⟩, fun D hD => ?_⟩
    refine lc_list (K := K) (a := p2) (xs := r.1.map fun c => V.str (condS c)) (fun i H' => ∃ rf, Same (upd (upd H p (.lst ws)) p2 (.lst (r.1.map fun c => V.str (condS c)))) H' ∧ H' D = some (.lst rf) ∧ TDs H' rf ((r.1.take i).map condD))
      ⟨[], Same.new hD, upd_same, .nil⟩ (fun i H' _ ⟨_, h, _⟩ => SqL.of (h _ _ upd_same)) ?_ ?_
    · rintro i x H3 hx ⟨rf, sm3, hL, td⟩
      rw [List.getElem?_map] at hx
      cases e : r.1[i]? with
      | none => rw [e] at hx; cases hx
      | some c =>
        rw [e] at hx
        obtain rfl := Option.some.inj hx
        have hts : r.1.take (i + 1) = r.1.take i ++ [c] := by rw [List.take_succ, e]; rfl
        refine ⟨rfl, _, rfl, c, rfl, ok.case.each c (List.mem_of_getElem? e), fun H4 t sm4 tt => ⟨rf, sm4 _ _ hL, ?_, rf ++ [.ref t], ?_, upd_same, ?_⟩⟩
        · have := td.length
          rw [List.length_map, List.length_take] at this
          rw [sizeLine_eq]; omega
        · exact fun b o eb => by rw [upd_ne (ne_of_none eb hD)]; exact sm4 _ _ (sm3 b o eb)
        · rw [hts, List.map_append]
          exact ((td.mono (TK.same sm4)).append (.cons tt .nil)).mono (TK.lst (sm4 _ _ hL))
    rintro H3 ⟨rf, sm3, hL, td⟩
    rw [List.length_map, List.take_length] at td
    refine ⟨D, rf, rfl, .inl ⟨SqL.of hL, fun t1 o1 ht1 hd1 => ?_⟩⟩
    have sm5 : Same H3 (upd H3 t1 (ptO o1 rf)) := Same.new ht1
    have hp3 := sm5 _ _ (sm3 _ _ (Same.new hp2 _ _ upd_same))
    refine ⟨_, rfl, _, rfl, p, ws, _, _, rfl, rfl, SqL.of hp3, a1, r.2, rfl, ok.lo, ok.hi, fun H4 sm4 => ⟨by show 2 ≤ sizeLine; decide, fun t ob ht hd0 => ?_⟩⟩
    have sm6 : Same H4 (upd H4 t (ptO ob [.ref t1, .int r.2])) := Same.new ht
    exact q _ t (sm2.trans (sm3.trans (sm5.trans (sm4.trans sm6)))) (.tup (PT.new hd0) (.cons (.tup (Same.pt sm6 (Same.pt sm4 (PT.new hd1))) (td.mono (TK.same (sm5.trans (sm4.trans sm6))))) (.cons (.int _) .nil)))
end
end Cr

namespace Cr
open PySem PySem.Spec PyProof.Rows L2

theorem Holds.same {H H' : Hp} {C x : Addr} {rs : List Rule} (h : Holds H C x rs) (s : Same H H') : Holds H' C x rs := let ⟨dx, t, xs, h1, h2, h3⟩ := h; ⟨dx, t, xs, s _ _ h1, Same.pt s h2, h3.mono (TK.same s)⟩
def spRead (C : Addr) : Sp := fun vs H Q _ => ∃ rs : List Rule, vs = [.ref C, .str (textS rs)] ∧ RulesOk 12 rs ∧ ∀ H' x, Same H H' → H x = none → Holds H' C x rs → Q (.ref x) H'
def spCallO (C : Addr) : Sp := fun vs H Q _ => ∃ (x t : Addr) (rs : List Rule) (cs : Case), vs = [.ref x, .ref t] ∧ Holds H C x rs ∧ RulesOk 12 rs ∧ TD H (.ref t) (caseD cs) ∧ CaseOk cs ∧ ∀ H', Same H H' → Q (firstV rs cs) H'
section
variable {P : Program} {w : World} {K : PySem.W.Frag} {mg : Str → Option Value} {base : Heap}
theorem sc_readRules : FnScope ["text", "lines", "rest", "rules", "line"] ["text"] (defScope s_read_rules) := ⟨rfl, rfl, rfl, by decide +kernel, rfl, by decide +kernel, by decide +kernel⟩
structure ReadsF (K : PySem.W.Frag) (mg : Str → Option Value) (fN fC fR fA : Addr) (dN dC dR dA : FuncData) : Prop where
  N : Df K mg "read_number" s_read_number ["word"] fN dN
  C : Df K mg "read_condition" s_read_condition ["word"] fC dC
  R : Df K mg "read_rule" s_read_rule ["line"] fR dR
  A : Df K mg "are_rules" s_are_rules ["things"] fA dA
theorem ok_readRules {f fN fC fK fR rN rC rR rA : Addr} {fd dN dC dK dR eN eC eR eA : FuncData} (F : Fun K "read_rules" "read_rules" s_read_rules f fd) (B : Blt mg) (N : Nums mg) (T : Forms K mg fN fC fK fR dN dC dK dR) (R : ReadsF K mg rN rC rR rA eN eC eR eA) :
    FnOk P w K mg base CX0 6 f fd ["text"] spReadRules := by
  have GA : FnOk P w K mg base CX0 5 rA eA ["things"] spAreRules := ok_areRules R.A.F B N T
  obtain ⟨t12, n12⟩ := N.rules
  have GR : FnOk P w K mg base CX0 5 rR eR ["line"] spReadRule := (ok_readRule R.R.F B N R.N R.C).mono (by decide)
  refine F.ok sc_readRules (fun vs H Q E h => ?_) (fun cdv A outer s H vs Q E hr h => ?_)
  · obtain ⟨rs, rfl, _⟩ := h
    rfl
  · obtain ⟨rs, rfl, ok, q⟩ := h
    refine ⟨_, pss_cons (ps_if (pt_not (pt_val (pe_callB call_isi (by rfl) B.isinstance boot_isinstance' (pa_cons (pv 0) (pa_cons (pe_bltn (v := .ty "str") (u := .type "str") (by rfl) B.str (by decide +kernel) rfl) pa_nil))))) (pss_one ps_never) pss_nil)
      (pss_cons (ps_asg (pe_split (pv 0) pe_str) (pg_star1 rfl (pgs_star (pg_name (i := 1) sc_readRules.nd rfl (.inl rfl)) (pgs_cons (pg_name (i := 2) sc_readRules.nd rfl (.inl rfl)) pgs_nil))))
      (pss_cons (ps_if (PW.pt (pw_or (pt_cmpR op_ne (pv 2) pe_str (nomark _)) (pw_or1 (pt_cmpR op_gt (pe_callB call_len_seq (by rfl) B.len PySem.boot_len (pa_cons (pv 1) pa_nil)) (pe_glob (v := .int 12) rfl n12 ⟨_, rfl⟩) (nomark _))))) (pss_one ps_never) pss_nil)
      (pss_cons (ps_set (i := 3) sc_readRules.nd rfl (.inl rfl) (pe_callTy call_tupF (by rfl) B.tuple (by decide +kernel) (pa_cons
          (pe_lc (own := [("line", 4)]) (g := gName 4) (tt := tYes) rfl sc_readRules.nd (pi_list (pv 1)) (blkOk_by (own := [("line", 4)]) (N := ["text", "lines", "rest", "rules", "line"]) (sc := defScope s_read_rules) (by decide +kernel))
            (fun _ _ _ _ _ => pg_name (i := 4) sc_readRules.nd rfl (Or.inl rfl)) (fun _ _ _ _ _ => pts_nil) (fun _ _ _ _ _ => pe_call GR hr rfl R.R.m R.R.F.kp R.R.b .nil pass0 (pa_cons (pv 4) pa_nil))) pa_nil)))
      (pss_cons (ps_if (pt_not (pt_val (pe_call GA hr rfl R.A.m R.A.F.kp R.A.b .nil pass0 (pa_cons (pv 3) pa_nil)))) (pss_one ps_never) pss_nil)
      (pss_one (ps_ret (pv 3))))))), ?_⟩
    refine ⟨_, rfl, _, _, _, _, true, rfl, .ty "str", .base (.str _), kit_ty (by decide +kernel), true, rfl, ?_⟩
    have few := ok.few
    refine iteF ⟨_, rfl, ⟨_, rfl⟩, _, _, rfl, rfl, by decide +kernel, by have := text_len ok.each; rw [sizeLine_eq]; omega, fun p hp => ?_⟩
    rw [text_split ok.each]
    have smp : Same H (upd H p (.lst ((rs.map lineS ++ [Str.empty]).map V.str))) := Same.new hp
    refine ⟨p, rs.map fun r => V.str (lineS r), .str Str.empty, rfl, SqL.of (by rw [upd_same, List.map_append, List.map_map]; rfl), by rw [List.length_map]; omega, fun l hl => ?_⟩
    have sml : Same H (upd (upd H p (.lst ((rs.map lineS ++ [Str.empty]).map V.str))) l (.lst (rs.map fun r => V.str (lineS r)))) := smp.trans (Same.new hl)
    generalize hH2 : upd (upd H p (.lst ((rs.map lineS ++ [Str.empty]).map V.str))) l (.lst (rs.map fun r => V.str (lineS r))) = H2 at *
    have hl2 : H2 l = some (.lst (rs.map fun r => V.str (lineS r))) := by rw [← hH2]; exact upd_same
    have e0 : (Str.empty : Str) = "" := by decide +kernel
    refine ⟨_, _, rfl, _, _, rfl, rfl, ?_⟩
    refine ⟨_, rfl, rfl, _, rfl, iteNS (by rw [e0]) ?_⟩
    refine ⟨_, rfl, l, _, rfl, .inl (SqL.of hl2), _, _, rfl, rfl, _, rfl, ?_⟩
    refine ite2 (fun hb => ?_) (fun _ => ?_)
    · have hb : (12 : Int) < (((rs.map fun r => V.str (lineS r)).length : Nat) : Int) := of_decide_eq_true hb
      rw [List.length_map] at hb
      exact absurd hb (by omega)
    -- rules = tuple([..])
    refine ⟨_, rfl, l, rfl, ⟨_, SqL.of hl2⟩, fun D hD => ?_⟩
    refine lc_list (K := K) (a := l) (xs := rs.map fun r => V.str (lineS r)) (fun i H' => ∃ rf, Same H2 H' ∧ H' D = some (.lst rf) ∧ TDs H' rf ((rs.take i).map ruleD))
      ⟨[], Same.new hD, upd_same, .nil⟩ (fun i H' _ ⟨_, h, _⟩ => SqL.of (h _ _ hl2)) ?_ ?_
    · rintro i x H3 hx ⟨rf, sm3, hL, td⟩
      rw [List.getElem?_map] at hx
      cases e : rs[i]? with
      | none => rw [e] at hx; cases hx
      | some r =>
        rw [e] at hx
        obtain rfl := Option.some.inj hx
        have hts : rs.take (i + 1) = rs.take i ++ [r] := by rw [List.take_succ, e]; rfl
        refine ⟨rfl, _, rfl, r, rfl, ok.each r (List.mem_of_getElem? e), fun H4 t sm4 tt => ⟨rf, sm4 _ _ hL, ?_, rf ++ [.ref t], ?_, upd_same, ?_⟩⟩
        · have := td.length
          rw [List.length_map, List.length_take] at this
          rw [sizeLine_eq]; omega
        · exact fun b o eb => by rw [upd_ne (ne_of_none eb hD)]; exact sm4 _ _ (sm3 b o eb)
        · rw [hts, List.map_append]
          exact ((td.mono (TK.same sm4)).append (.cons tt .nil)).mono (TK.lst (sm4 _ _ hL))
    rintro H3 ⟨rf, sm3, hL, td⟩
    rw [List.length_map, List.take_length] at td
    refine ⟨D, rf, rfl, .inl ⟨SqL.of hL, fun t ob ht hd0 => ?_⟩⟩
    have smt : Same H3 (upd H3 t (ptO ob rf)) := Same.new ht
    refine ⟨_, rfl, t, rf, rs, rfl, PT.new hd0, td.mono (TK.same smt), ok, fun H4 sm4 => ⟨true, rfl, iteF ⟨_, rfl, ?_⟩⟩⟩
    exact q _ t rf (sml.trans (sm3.trans (smt.trans sm4))) (Same.pt sm4 (PT.new hd0)) (td.mono (TK.same (smt.trans sm4)))
/-- Listing.__init__ -/
theorem sc_init : FnScope ["self", "rules"] ["self", "rules"] (defScope s_Listing_init) := ⟨rfl, rfl, rfl, by decide +kernel, rfl, by decide +kernel, by decide +kernel⟩
theorem fn_init {f C fN fC fK fR rA : Addr} {dN dC dK dR eA : FuncData} {x qual : Str} {oc kV doc pm cdv ct : Value} {od an : Option Addr} {osl : Array (Option Value)}
    (lk : K.lookup f = some ⟨oc, od, .func (PySem.W.fnOf x qual (defArgs s_Listing_init) (defBody s_Listing_init) (defScope s_Listing_init) .none kV doc pm an cdv ct), osl⟩) (hcd : PySem.W.codeIn K cdv qual = true)
    (B : Blt mg) (N : Nums mg) (T : Forms K mg fN fC fK fR dN dC dK dR) (A : Df K mg "are_rules" s_are_rules ["things"] rA eA) (c : Cls K C) (nh : NoAttr K C "held") :
    FnR P w K mg base CX0 6 f (fun vs H Q E => ∃ ws rest, vs = ws ++ rest ∧ ws.length = ["self"].length ∧ rest.length ≤ sizeLine ∧ ∀ (p : Addr) (o : Obj), H p = none → o.dict = none → spInit0 C (ws ++ [V.ref p]) (upd H p (ptO o rest)) Q E) := by
  have GA : FnOk P w K mg base CX0 5 rA eA ["things"] spAreRules := ok_areRules A.F B N T
  refine fn_starF (ps := ["self"]) (pv := "rules") lk hcd sc_init StX.cxUp_none (StX.bind_star1 (B := fun us => bindArgs (PySem.W.fnOf x qual (defArgs s_Listing_init) (defBody s_Listing_init) (defScope s_Listing_init) .none kV doc pm an cdv ct) ⟨us, []⟩) (p1 := "self") (pv := "rules") (fun a => rfl) (fun a r rs => rfl)) (fun Ar outer s H vs Q E hr h => ?_)
  obtain ⟨y, dx, p, xs, rs, rfl, hy, hp, td, ok, q⟩ := h
  refine ⟨_, PSs.nox (pss_cons (ps_if (pt_not (pt_val (pe_call GA hr rfl A.m A.F.kp A.b .nil pass0 (pa_cons (pv 1) pa_nil)))) (pss_one ps_never) pss_nil) (pss_one (ps_fld (pv 0) (pv 1) rfl))), ?_⟩
  refine ⟨_, rfl, p, xs, rs, rfl, hp, td, ok, fun H1 sm => ⟨true, rfl, iteF ⟨_, rfl, _, rfl, y, C, dx, [], rfl, sm _ _ hy, c, nh, by decide, ?_⟩⟩⟩
  exact q _ ((SB.same sm).trans SB.at) upd_same
end
end Cr

namespace Cr
open PySem PySem.Spec PyProof.Rows L2

/-! ### what repr shows of rules -/
theorem strcat_len (x y : Str) : (x ++ y).length = x.length + y.length := by rw [TL.len_tl, TL.tl_append, List.length_append, ← TL.len_tl, ← TL.len_tl]
theorem tupleText_le (ts : List Str) : (tupleText ts).length ≤ (ts.map (·.length)).sum + 2 * ts.length + 4 := by
  have h : (Str.join ", " ts).length ≤ (ts.map (·.length)).sum + 2 * ts.length := by
    rw [TL.len_tl, TL.tl_join]
    have e : TL.tl (", " : Str) = [44, 32] := by decide +kernel
    rw [e]
    have := joinL_len [44, 32] (ts.map TL.tl)
    rw [List.map_map, List.length_map] at this
    have e2 : (ts.map (List.length ∘ TL.tl)).sum = (ts.map (·.length)).sum := by
      exact congrArg List.sum (List.map_congr_left fun x _ => (TL.len_tl x).symm)
    rw [e2] at this
    simp only [List.length_cons, List.length_nil] at this
    omega
  unfold tupleText
  rw [strcat_len, strcat_len]
  have e3 : ("(" : Str).length = 1 := by decide +kernel
  have e4 : (((if (ts.length == 1) = true then ",)" else ")" : String)) : Str).length ≤ 2 := by split <;> decide +kernel
  rw [e3]
  omega
theorem shownAll_map {α : Type} (f : α → PyData) : ∀ l : List α, PyData.shownAll (l.map f) = l.map fun x => (f x).shown
  | [] => by simp [PyData.shownAll]
  | x :: l => by rw [List.map_cons, PyData.shownAll, shownAll_map f l, List.map_cons]
theorem showableAll_map {α : Type} (f : α → PyData) : ∀ l : List α, (∀ x ∈ l, (f x).showable = true) → PyData.showableAll (l.map f) = true
  | [], _ => by simp [PyData.showableAll]
  | x :: l, h => by rw [List.map_cons, PyData.showableAll, h x List.mem_cons_self, showableAll_map f l fun y hy => h y (List.mem_cons_of_mem _ hy)]; rfl
theorem int_shown {i : Int} (h0 : 0 ≤ i) (h1 : i ≤ 99) : (PyData.int i).shown.length ≤ 2 ∧ (PyData.int i).showable = true := by
  refine ⟨?_, ?_⟩
  · have := (num_len h0 h1).1
    simp only [PyData.shown]
    exact this
  · simp only [PyData.showable]
    exact decide_eq_true (log_small h0 h1)
theorem cond_shown {c : Cond} (h : 0 ≤ c.1 ∧ c.1 ≤ 4 ∧ 0 ≤ c.2 ∧ c.2 ≤ 9) : (condD c).shown.length ≤ 12 ∧ (condD c).showable = true := by
  obtain ⟨a1, a2⟩ := int_shown h.1 (by omega : c.1 ≤ 99)
  obtain ⟨b1, b2⟩ := int_shown h.2.2.1 (by omega : c.2 ≤ 99)
  refine ⟨?_, ?_⟩
  · have := tupleText_le [(PyData.int c.1).shown, (PyData.int c.2).shown]
    simp only [condD, PyData.shown, PyData.shownAll] at *
    simp only [List.map_cons, List.map_nil, List.sum_cons, List.sum_nil, List.length_cons, List.length_nil] at this
    omega
  · simp only [condD, PyData.showable, PyData.showableAll] at *
    rw [a2, b2]
    rfl
theorem case_shown {c : Case} (h : CaseOk c) : (caseD c).shown.length ≤ 74 ∧ (caseD c).showable = true := by
  refine ⟨?_, ?_⟩
  · have e : (caseD c).shown = tupleText (c.map fun x => (condD x).shown) := by simp only [caseD, PyData.shown]; rw [shownAll_map]
    rw [e]
    have a := tupleText_le (c.map fun x => (condD x).shown)
    have b : ((c.map fun x => (condD x).shown).map (·.length)).sum ≤ (c.map fun x => (condD x).shown).length * 12 := sum_le fun x hx => by
      obtain ⟨y, hy, rfl⟩ := List.mem_map.mp hx
      exact (cond_shown (h.each y hy)).1
    rw [List.length_map] at a b
    have := h.len
    omega
  · simp only [caseD, PyData.showable]
    exact showableAll_map _ _ fun x hx => (cond_shown (h.each x hx)).2
theorem rule_shown {r : Rule} (h : RuleOk r) : (ruleD r).shown.length ≤ 84 ∧ (ruleD r).showable = true := by
  obtain ⟨a1, a2⟩ := case_shown h.case
  obtain ⟨b1, b2⟩ := int_shown h.lo h.hi
  refine ⟨?_, ?_⟩
  · have := tupleText_le [(caseD r.1).shown, (PyData.int r.2).shown]
    have e : (ruleD r).shown = tupleText [(caseD r.1).shown, (PyData.int r.2).shown] := by simp only [ruleD, PyData.shown, PyData.shownAll]
    rw [e]
    simp only [List.map_cons, List.map_nil, List.sum_cons, List.sum_nil, List.length_cons, List.length_nil] at this
    omega
  · simp only [ruleD, PyData.showable, PyData.showableAll] at *
    rw [a2, b2]
    rfl
theorem rules_shown {n : Nat} {rs : List Rule} (h : RulesOk n rs) (hn : n ≤ 1000) : (PyData.tuple (rs.map ruleD)).shown.length ≤ sizeLine ∧ (PyData.tuple (rs.map ruleD)).showable = true := by
  refine ⟨?_, ?_⟩
  · have e : (PyData.tuple (rs.map ruleD)).shown = tupleText (rs.map fun x => (ruleD x).shown) := by simp only [PyData.shown]; rw [shownAll_map]
    rw [e]
    have a := tupleText_le (rs.map fun x => (ruleD x).shown)
    have b : ((rs.map fun x => (ruleD x).shown).map (·.length)).sum ≤ (rs.map fun x => (ruleD x).shown).length * 84 := sum_le fun x hx => by
      obtain ⟨y, hy, rfl⟩ := List.mem_map.mp hx
      exact (rule_shown (h.each y hy)).1
    rw [List.length_map] at a b
    have := h.few
    rw [sizeLine_eq]
    omega
  · simp only [PyData.showable]
    exact showableAll_map _ _ fun x hx => (rule_shown (h.each x hx)).2
/-! ### Ordered -/
section
variable {P : Program} {w : World} {K : PySem.W.Frag} {mg : Str → Option Value} {base : Heap}
theorem passAny {X : Cx} {E : XK} : Passes CX0 X E := fun _ _ _ _ _ _ _ h => h.elim
theorem sc_read : FnScope ["cls", "text", "rules"] ["cls", "text"] (defScope s_K_read) := ⟨rfl, rfl, rfl, by decide +kernel, rfl, by decide +kernel, by decide +kernel⟩
/-- the class and its makers -/
structure OrdC (P : Program) (K : PySem.W.Frag) (C D fO fL : Addr) : Prop where
  cl : Cls K C
  nh : NoAttr K C "held"
  mak : Mk K C fO
  su : SupDef P K fO C D fL "rules"
theorem SB.tkI {x C dx : Addr} {fs : List (Str × V)} {H H' : Hp} (h : SB x H H') (e : H x = some (.ins C dx fs)) : TK H H' := fun a xs q => q.on fun u w => h a u (q.neq e (fun _ _ z => by cases z)) w
theorem ok_read {f g C D fO fL fN fC fK fR rN rC rR rA : Addr} {fd gd dN dC dK dR eN eC eR eA : FuncData} {x qual qr : Str} {oc kV doc pm cdv ct : Value} {od an : Option Addr} {osl : Array (Option Value)}
    (F : Fun K "read" qr s_K_read f fd) (O : OrdC P K C D fO fL)
    (lk : K.lookup fL = some ⟨oc, od, .func (PySem.W.fnOf x qual (defArgs s_Listing_init) (defBody s_Listing_init) (defScope s_Listing_init) .none kV doc pm an cdv ct), osl⟩) (hcd : PySem.W.codeIn K cdv qual = true)
    (B : Blt mg) (N : Nums mg) (T : Forms K mg fN fC fK fR dN dC dK dR) (R : ReadsF K mg rN rC rR rA eN eC eR eA) (G : Df K mg "read_rules" s_read_rules ["text"] g gd) :
    FnOk P w K mg base CX0 9 f fd ["cls", "text"] (spRead C) := by
  have GG : FnOk P w K mg base CX0 8 g gd ["text"] spReadRules := (ok_readRules G.F B N T R).mono (by decide)
  have GI := fn_super (P := P) (w := w) (mg := mg) (base := base) (CX := CX0) O.su StX.cxUp_none (by decide) (by decide) (fn_init (P := P) (w := w) (base := base) lk hcd B N T R.A O.cl O.nh) (fun _ _ _ _ _ _ => passAny)
  refine F.ok sc_read (fun vs H Q E h => ?_) (fun cdv A outer s H vs Q E hr h => ?_)
  · obtain ⟨rs, rfl, _⟩ := h
    rfl
  · obtain ⟨rs, rfl, ok, q⟩ := h
    refine ⟨_, pss_cons (ps_set (i := 2) sc_read.nd rfl (.inl rfl) (pe_call GG hr rfl G.m G.F.kp G.b .nil pass0 (pa_cons (pv 1) pa_nil))) (pss_one (ps_ret (pe_makeLS (E := E0) (pv 0) O.mak GI hr passAny (pv 2)))), ?_⟩
    refine ⟨_, rfl, rs, rfl, ok, fun H1 t xs sm1 ht tx => ?_⟩
    refine ⟨_, rfl, rfl, _, rfl, t, xs, rfl, .inl (PT.sq ht), fun y dx hy hdx hne => ?_⟩
    have s1 : Same H1 (upd H1 dx (.own y)) := Same.new hdx
    have hy1 : upd H1 dx (.own y) y = none := by rw [upd_ne hne.symm]; exact hy
    have s2 : Same H1 (upd (upd H1 dx (.own y)) y (.ins C dx [])) := s1.trans (Same.new hy1)
    have hlen : xs.length ≤ sizeLine := by have := tx.length; rw [List.length_map] at this; have := ok.few; rw [sizeLine_eq]; omega
    refine ⟨y, dx, [], xs, rfl, hlen, upd_same, fun p hp => ⟨[.ref y], xs, rfl, rfl, hlen, fun p2 o2 hp2 hd2 => ?_⟩⟩
    generalize hHa : upd (upd (upd H1 dx (.own y)) y (.ins C dx [])) p (.tup xs) = Ha at *
    have s3 : Same H1 Ha := by rw [← hHa]; exact s2.trans (Same.new hp)
    have ya : Ha y = some (.ins C dx []) := by rw [← hHa, upd_ne (ne_of_none upd_same hp)]; exact upd_same
    have s4 : Same Ha (upd Ha p2 (ptO o2 xs)) := Same.new hp2
    refine ⟨y, dx, p2, xs, rs, rfl, s4 _ _ ya, PT.new hd2, tx.mono (TK.same (s3.trans s4)), ok, fun H2 sb e2 => ⟨rfl, ?_⟩⟩
    have ne2 : p2 ≠ y := fun z => by rw [z, ya] at hp2; cases hp2
    refine q _ y (fun b o eb => sb b o (ne_of_none (sm1 _ _ eb) hy) (s4 _ _ (s3 _ _ (sm1 _ _ eb)))) (sm1.free hy) ⟨dx, p2, xs, e2, SB.tkI sb (s4 _ _ ya) _ _ (PT.new hd2), tx.mono ((TK.same (s3.trans s4)).trans (SB.tkI sb (s4 _ _ ya)))⟩
end
end Cr

namespace Cr
open PySem PySem.Spec PyProof.Rows L2
variable [Tbl]

/-! ### instances called, properties, class methods, isinstance -/
theorem passE0 {X : Cx} {E : XK} : Passes CX0 X E := fun _ _ _ _ _ _ _ h => h.elim
theorem FnOk.raw0 {P : Program} {w : World} {K : PySem.W.Frag} {mg : Str → Option Value} {base : Heap} {k : Nat} {f : Addr} {fd : FuncData} {ps : List Str} {sp : Sp} (F : FnOk P w K mg base CX0 k f fd ps sp) (hb : Binds K fd ps []) : FnR P w K mg base CX0 k f sp :=
  (F.raw hb .nil).imp fun vs H Q E h => by rw [List.append_nil]; exact h
def tCallI (C : Addr) (sp : Sp) (E : XK) (tf : TE) (t : TA) : TE := fun σ H Q => tf σ H fun y H1 => ∃ a, y = V.ref a ∧ t σ H1 fun vs H2 => (∃ dx fs, H2 a = some (.ins C dx fs)) ∧ sp (V.ref a :: vs) H2 Q E
/-- an instance of C called keeps sp -/
def HasI (P : Program) (w : World) (K : PySem.W.Frag) (mg : Str → Option Value) (base : Heap) (n : Nat) (C : Addr) (sp : Sp) : Prop := ∃ g, StX.CallO K C g ∧ FnR P w K mg base CX0 n g sp
theorem pe_callI {X : Cx} {n : Nat} {C : Addr} {sp : Sp} {fe e : Expr} {es : List Expr} {tf : TE} {t : TA} {pos : Pos} (h : HasI X.prog X.w X.K X.mg X.base n C sp) (hr : Room n X.A) (hf : PE X fe tf) (ha : PA X (e :: es) t)
    (ht : eval (.Call fe (e :: es) [] pos) X.env = (do callWith pos (← eval fe X.env) [] (backTo pos (starEach (e :: es) X.env)) (backToKw pos (keywordEach [] X.env))) := by rfl)
    (he : starEach (e :: es) X.env = (false, eval e X.env) :: starEach es X.env := by rfl) (hpl : (backTo pos (starEach es X.env)).any (·.1) = false := by rfl) : PE X (.Call fe (e :: es) [] pos) (tCallI C sp E0 tf t) := by
  obtain ⟨g, c, F⟩ := h
  refine ⟨fun pins s σ H Q I h => ?_⟩
  refine Call_ (thn (hf.run pins s σ H _ I h) fun u s1 ⟨y, H1, I1, ry, a, ey, q⟩ => ?_) ht
  subst ey
  obtain rfl : u = Value.ref a := ry
  refine StX.callO_with (thn (ha.run pos pins s1 σ H1 _ I1 q) fun us s2 ⟨vs, H2, I2, r, ⟨dx, fs, hi⟩, q2⟩ => ?_) he hpl
  have hi : StX.InsC X H2 a C := .inr ⟨dx, fs, hi⟩
  obtain ⟨ox, od, J, hd⟩ := StX.insC_at I2 hi
  exact ⟨⟨C, ox, od, J, hd⟩, StX.run_callO c F hr passE0 I2 hi r q2⟩
instance {C : Addr} {sp : Sp} {E : XK} {tf : TE} {ta : TA} {T : List R → (R → Prop) → Prop} {Tf : DTE} {Ta : DEnv → (List R → Prop) → Prop} [SpD sp T] [DL tf Tf] [DA ta Ta] : DL (tCallI C sp E tf ta) (dCallO C T Tf Ta) := ⟨fun z σ env Q Qd o e h q =>
  DL.run (t := tf) z σ env _ _ o e h fun v H1 r g1 r1 h1 => by
    split at h1
    · rename_i C' rs
      obtain ⟨rfl, h1⟩ := h1
      obtain ⟨x, rfl, hx⟩ := id r1
      refine ⟨x, rfl, ?_⟩
      refine DA.run (t := ta) (z.at H1) σ env _ _ (g1.ok o) (e.on o g1) h1 fun vs H2 as g2 r2 h2 => ?_
      have r1' := r1.on o g1 g2
      obtain ⟨x', e', dx, t, xs, q1, q2, q3⟩ := id r1'
      cases e'
      exact ⟨⟨dx, _, q1⟩, SpD.run (sp := sp) z H2 (.ref x :: vs) (.ins _ rs :: as) Q Qd E o (g1.trans g2) ⟨r1', RRs.back g1 r2⟩ h2 q⟩
    · exact h1.elim⟩
/-- a property that tells the held rules -/
def HasP (P : Program) (w : World) (K : PySem.W.Frag) (mg : Str → Option Value) (base : Heap) (C : Addr) (x : Str) : Prop := Cls K C ∧ ∃ p g fd, PropOf K C x p g ∧ FnOk P w K mg base CX0 1 g fd ["self"] (getSp C "held") ∧ Binds K fd ["self"] []
theorem pe_propH {X : Cx} {C : Addr} {x : Str} {e : Expr} {ta : TE} {pos : Pos} (h : HasP X.prog X.w X.K X.mg X.base C x) (hr : Room 2 X.A) (he : PE X e ta) (hab : attributeBase e x X.env (eval e X.env) = eval e X.env := by rfl) : PE X (.Attribute e x pos) (tProp C (getSp C "held") [] E0 ta) := by
  obtain ⟨c, p, g, fd, hp, F, hb⟩ := h
  exact pe_prop he c hp F hr hb .nil passE0 hab
/-- a class method -/
def HasC (P : Program) (w : World) (K : PySem.W.Frag) (mg : Str → Option Value) (base : Heap) (n : Nat) (x : Str) (C : Addr) (m : Str) (sp : Sp) : Prop := mg x = some (.ref C) ∧ ∃ mc p g, ClX.CRead K C mc ∧ ClX.CMet K C mc m p g ∧ FnR P w K mg base CX0 n g sp
theorem pe_cmethH {X : Cx} {n : Nat} {x : Str} {C : Addr} {m : Str} {sp : Sp} {e : Expr} {es : List Expr} {t : TA} {p apos pos : Pos} {pl : Sem Bool} (h : HasC X.prog X.w X.K X.mg X.base n x C m sp) (hr : Room n X.A) (hg : Gl X x) (ha : PA X (e :: es) t) (hdb : (x == ("__debug__" : Str)) = false := by decide)
    (hst : starEach (e :: es) X.env = (false, eval e X.env) :: starEach es X.env := by rfl) (hpl : (backTo pos (starEach es X.env)).any (·.1) = false := by rfl)
    (ht : eval (.Call (.Attribute (.Name x p) m apos) (e :: es) [] pos) X.env = (do
      let ov ← eval (.Name x p) X.env
      standAt apos.atName
      let (f, first) ← holding [ov] (getMethod ov m pl)
      callWith pos f first (backTo pos (starEach (e :: es) X.env)) (backToKw pos (keywordEach [] X.env))) := by rfl) : PE X (.Call (.Attribute (.Name x p) m apos) (e :: es) [] pos) (ClX.tCMeth C sp E0 (tC (.ref C)) t) := by
  obtain ⟨hm, mc, q, g, r, c, F⟩ := h
  exact ClX.pe_cmeth (E := E0) (pe_glob (v := .ref C) hg hm rfl hdb) r c F hr passE0 ha hst hpl ht
/-- isinstance against an own class -/
def rIsiO (K : PySem.W.Frag) (C : Addr) : V → Hp → VK → Prop := fun x H Q => ∃ (t : Value) (b : Bool), TyX K H x t ∧ PySem.W.kitOne K t (.ref C) = some b ∧ Q (.bl b) H
structure InsT (K : PySem.W.Frag) (C : Addr) : Prop where
  cl : Cls K C
  ha : PySem.W.findIn K (.ref C) "__class__" = some (some (.builtin "object.__class__"))
  hn : PySem.W.specialIn K (.builtin "object.__class__") "__get__" = some (some (.builtin "getset_descriptor.__get__"))
  htk : PySem.W.takesIn K (.builtin "object.__class__") = some true
  hm : PySem.W.mroIn K C (.type "object") = some true
/-- isinstance(e, C) for instances -/
def dIsi (K : PySem.W.Frag) (C : Addr) (Ta : DTE) : DTE := fun env Qd => Ta env fun r => match r with
  | .ins C' rs => InsT K C' ∧ ∃ b, PySem.W.kitOne K (.ref C') (.ref C) = some b ∧ Qd (.dat (.bool b))
  | _ => False
instance {K : PySem.W.Frag} {C : Addr} {ta : TE} {Ta : DTE} [DL ta Ta] : DL (tCB (rIsi K) (tCons ta (tCons (tC (.ref C)) tNil))) (dIsi K C Ta) := ⟨fun z σ env Q Qd o e h q =>
  DL.run (t := ta) z σ env _ _ o e h fun v H1 r g1 r1 h1 => by
    split at h1
    · rename_i C' rs
      obtain ⟨T, b, hk, h1⟩ := h1
      obtain ⟨x, rfl, dx, t, xs, q1, q2, q3⟩ := r1
      exact ⟨.ref x, .ref C, .ref C', .ref C, b, rfl, .own C, .base (.ins q1 T.cl T.ha T.hn T.htk T.hm), hk, q _ H1 (.dat (.bool b)) g1 (RD.bl b) h1⟩
    · exact h1.elim⟩
/-! ### bridges -/
theorem sv_int {z : Zs} {v : V} {i : Int} (h : SvR z v (.dat (.int i))) : v = .int i := by
  have h : RD z.N z.H v (.int i) := h
  cases h; rfl
theorem sv_str {z : Zs} {v : V} {i : Str} (h : SvR z v (.dat (.str i))) : v = .str i := by
  have h : RD z.N z.H v (.str i) := h
  cases h; rfl
theorem sv_td {z : Zs} {v : V} {d : PyData} (h : SvR z v (.dat d)) (p : plainD d = true) : TD z.H v d := RD.td p h
theorem sbGe {S : Addr → Prop} {H H' : Hp} {a : Addr} (hS : Srcs S H) (ha : S a) (sb : SB a H H') (src : Src H' a) : Ge ⟨S, S, H⟩ H' := by
  obtain ⟨x0, y0, w0, e0⟩ := hS.s a ha
  refine ⟨fun b u n e _ => sb b u (fun q => n (by rw [q]; exact ha)) e, fun b s => ?_, .but e0 fun b u n e => sb b u n e⟩
  by_cases q : b = a
  · rw [q]; exact src
  · obtain ⟨x, y, w, e⟩ := hS.s b s
    exact ⟨x, y, w, sb b _ q e⟩
theorem sameGe {S : Addr → Prop} {H H' : Hp} (hS : Srcs S H) (h : Same H H') : Ge ⟨S, S, H⟩ H' := ⟨fun b u _ e _ => h b u e, fun b s => (hS.s b s).same h, .same h⟩
/-! ### the script -/
def dLenV (K : PySem.W.Frag) (i : Nat) : DTE := fun env Qd => match env[i]? with
  | some (some (.scr K' ns)) => K' = K ∧ Qd (.dat (.int (ns.length : Nat)))
  | _ => dCB cLen (dCons (dVar i) dNil) env Qd
instance (priority := 2000) {K : PySem.W.Frag} {i : Nat} : DL (tCB (rLenE K) (tCons (tVar i) tNil)) (dLenV K i) := ⟨fun z σ env Q Qd o e h q => by
  unfold dLenV at h
  split at h
  · rename_i K' ns hi
    obtain ⟨rfl, h⟩ := h
    obtain ⟨v, e1, a, rfl, r1⟩ := e.slot i _ hi
    refine ⟨_, e1, a, _, rfl, .inl r1.sq, ?_⟩
    have w := q (.int (ns.length : Nat)) z.H (.dat (.int (ns.length : Nat))) (Ge.refl o) (RD.int _) h
    rw [show (ns.map V.int).length = ns.length from List.length_map ..]
    exact w
  · exact DL.run (t := tCB (rLenE K) (tCons (tVar i) tNil)) (T := dCB cLen (dCons (dVar i) dNil)) (self := inferInstance) z σ env Q Qd o e h q⟩
end Cr

namespace Cr
open PySem PySem.Spec PyProof.Rows L2
variable [Tbl]

/-! ### texts joined -/
def rJoin (K : PySem.W.Frag) : V → List V → Hp → VK → Prop := fun x xs H Q => ∃ a p, ∃ ys : List Str, x = .str a ∧ xs = [.ref p] ∧ (SqL K H p (ys.map V.str) ∨ SqT K H p (ys.map V.str)) ∧
  (ys.map (·.length)).sum + ys.length * a.length ≤ 16777216 ∧ Q (.str (Txt.join a ys)) H
theorem pe_joinE {X : Cx} {o e : Expr} {to te : TE} {apos pos : Pos} (ho : PE X o to) (he : PE X e te) (hs : starEach [e] X.env = [(false, eval e X.env)] := by rfl) (hbase : attributeBase o "join" X.env (eval o X.env) = eval o X.env := by rfl) (hline : (apos.endLine == pos.line) = true := by rfl) :
    PE X (.Call (.Attribute o "join" apos) [e] [] pos) (tM1 (rJoin X.K) to te) := pe_join ho he hs hbase hline
theorem rds_str {N : Addr → Prop} {H : Hp} : ∀ {ys : List Str} {xs : List V}, RDs N H xs (ys.map PyData.str) → xs = ys.map V.str
  | [], _, h => by cases h; rfl
  | y :: ys, _, h => by
    rw [List.map_cons] at h
    cases h with
    | cons h1 h2 =>
      cases h1
      rw [rds_str h2]
      rfl
def dJoin (To Te : DTE) : DTE := fun env Qd => To env fun r => match r with
  | .dat (.str a) => Te env fun r2 => ∃ ys : List Str, seqD r2 = some (ys.map PyData.str) ∧ (ys.map (·.length)).sum + ys.length * a.length ≤ 16777216 ∧ Qd (.dat (.str (Txt.join a ys)))
  | _ => False
instance {K : PySem.W.Frag} {to te : TE} {To Te : DTE} [DL to To] [DL te Te] : DL (tM1 (rJoin K) to te) (dJoin To Te) := ⟨fun z σ env Q Qd o e h q =>
  DL.run (t := to) z σ env _ _ o e h fun v H1 r g1 r1 h1 => by
    split at h1
    · rename_i a
      obtain rfl := rr_str r1
      refine ⟨⟨a, rfl⟩, ?_⟩
      refine DL.run (t := te) (z.at H1) σ env _ _ (g1.ok o) (e.on o g1) h1 fun u H2 r2 g2 rr2 h2 => ?_
      obtain ⟨ys, hd, hl, hq⟩ := h2
      obtain ⟨p, xs, rfl, ha, rs⟩ := seq_rr K rr2 hd
      obtain rfl := rds_str rs
      exact ⟨a, p, ys, rfl, rfl, ha, hl, q _ H2 (.dat (.str _)) (g1.trans g2) (.str _) hq⟩
    · exact h1.elim⟩
end Cr

namespace Cr
open PySem PySem.Spec PyProof.Rows L2
variable [Tbl]

/-! ### enumerate over whatever begins, and over a tuple -/
def enumOb (i : Addr) : Obj := { cls := .type "enumerate", data := .fields #[.none, .bool false, .ref i, rawInt 0, .none, .none] }
theorem meets_enum1 {v : Value} {o : Obj} {H : Heap → Prop} (B : Begins v o H) : Meets (Builtin.«enumerate.__new__» ⟨[.type "enumerate", v], []⟩)
    fun _ R st => H st.heap ∧ R (.ok (.ret (.ref (st.heap.push o).objs.size))) { st with heap := (st.heap.push o).push (enumOb st.heap.objs.size) } :=
  .of_wp fun pg wd ar R st both => by
    rcases st with ⟨hp, gs, ds, tks, out⟩
    have sub := sub_enumerate
    have nxt : ∀ {ar' : Around} {e' : Value → Shared → Prop} {q' : Value → Shared → Prop}, q' (.ref hp.objs.size) ⟨hp.push o, gs, ds, tks, out⟩ → wpAny (model pg wd) ar' (pyIter v) q' e' ⟨hp, gs, ds, tks, out⟩ := fun k => B.iter pg wd _ _ ⟨hp, gs, ds, tks, out⟩ _ both.1 k
    wp_walk using nxt
    refine wpAny_stack_any fun fr => wpAny_pure (?_)
    split
    · rename_i cl _ _ _ _ _
      cases (cl == Value.type "enumerate") <;> (wp_walk using nxt; exact ⟨_, rfl, both.2⟩)
    · (wp_walk using nxt; exact ⟨_, rfl, both.2⟩)
theorem call_enum1 {prog : Program} {w : World} {A : Around} {E : Value → Shared → Prop} {s : Shared} {v : Value} {o : Obj} {H : Heap → Prop} {Q : Value → Shared → Prop} (B : Begins v o H) (h1 : H s.heap)
    (h : ∀ h', IsEnum h' (s.heap.objs.size + 1) s.heap.objs.size 0 .none → h'.get? s.heap.objs.size = some o → (∀ b u, s.heap.get? b = some u → h'.get? b = some u) → Q (.ref (s.heap.objs.size + 1)) { s with heap := h' }) :
    wpAny (model prog w) A (call (.type "enumerate") [v]) Q E s := by
  have z : (s.heap.push o).objs.size = s.heap.objs.size + 1 := Heap.size_push ..
  have en : IsEnum ((s.heap.push o).push (enumOb s.heap.objs.size)) (s.heap.objs.size + 1) s.heap.objs.size 0 .none := by
    have g := Heap.get?_push_size (s.heap.push o) (o := enumOb s.heap.objs.size) rfl
    rw [z] at g
    exact g
  have kept : ∀ b u, s.heap.get? b = some u → ((s.heap.push o).push (enumOb s.heap.objs.size)).get? b = some u := fun b u x => Heap.get?_push_of_some _ (Heap.get?_push_of_some _ x)
  refine callType_new F.called_enumerate (by decide) (F.typeCall_enumerate_1 _) (F.newCall_enumerate_1 _) (fun ob => F.args_object_init_2 ob _) F.entry_enumerate_new (meets_enum1 B) ⟨h1, ?_⟩
  show _ ∧ _
  rw [z]
  exact ⟨⟨_, en, rfl⟩, h _ en (Heap.get?_push_of_some _ (Heap.get?_push_size _ B.free)) kept⟩
/-- the tuple at a as it stands, each item in a new pair -/
def IteT (K : PySem.W.Frag) (a : Addr) : It where
  go := fun i H => ∃ xs x, SqT K H a xs ∧ xs[i]? = some x
  yld := fun i H v H' => ∃ T x o, v = .ref T ∧ H T = none ∧ Obj.dict o = none ∧ H' = upd H T (ptO o [.int (i : Nat), x]) ∧ ∀ xs, SqT K H a xs → xs[i]? = some x
  stop := fun i H => ∃ xs, SqT K H a xs ∧ xs.length ≤ i
/-- the enumerate at e over the iterator at it, i items gone -/
def EnT (a e it : Addr) (i : Nat) (h : Heap) : Prop := (∃ old, IsEnum h e it (i : Int) old) ∧ h.IsTupleIter it a i ∧ e ≠ it ∧ a ≠ it ∧ e ≠ a
theorem turn_enT {P : Program} {w : World} {K : PySem.W.Frag} {elts : List Expr} {kk : Nat} {tpos : Pos} (a e it : Addr) : Turn P w K (.Tuple elts kk tpos) (IteT K a) [e, it] e (EnT a e it) where
  mem := List.mem_cons_self
  obj := by
    rintro i h ⟨⟨old, he⟩, ⟨u, hu, _, hd⟩, _⟩ b hb
    rcases List.mem_cons.mp hb with rfl | hb
    · exact ⟨_, he, fun v q => nomatch q⟩
    · rcases List.mem_singleton.mp hb with rfl
      exact ⟨u, hu, fun v q => by rw [hd] at q; cases q⟩
  keep := by
    rintro i h h' ⟨⟨old, he⟩, hi, ne⟩ k
    exact ⟨⟨old, k e List.mem_cons_self _ he⟩, hi.at fun u q => k it (List.mem_cons_of_mem _ List.mem_cons_self) u q, ne⟩
  item := by
    intro X eP ew eK hc i pins s σ H E I hf st hg
    subst eP ew eK
    obtain ⟨⟨old, he⟩, hit, n1, n2, n3⟩ := st
    obtain ⟨xs, x, hq, hx⟩ := hg
    obtain ⟨its, rv, pl, hz⟩ := I.tuple hq
    obtain ⟨u, hu, ru⟩ := rv.get hx
    have le : e < s.heap.objs.size := Heap.lt_size he
    have li : it < s.heap.objs.size := let ⟨_, q, _⟩ := hit; Heap.lt_size q
    have ht : s.heap.IsTuple a its.toArray := pl
    have hh : X.A.in1.handled = none := I.ok.hd hc
    have lt : i < its.toArray.size := by
      have := (List.getElem?_eq_some_iff.mp hu).1
      simpa using this
    refine wpAny_pyNext_enum_itemD (Draws.tuple hh it a n2 its.toArray) he ⟨hit, ht⟩ lt n1 (by simp [n1, n3]) fun y h1 tk py out st1 new1 sz k1 => ?_
    have ey : y = u := by
      have q : its.toArray[i]? = some u := by simpa using hu
      rw [q] at py
      exact (Option.some.inj py).symm
    subst ey
    refine ⟨_, rfl, wpAny_letOwnedTupleGo_enum (s := { s with heap := h1, toks := tk + 1 }) out fun h2 he2 sb => ?_⟩
    have new2 : h2.get? s.heap.objs.size = some { cls := .type "tuple", data := .seq #[.int i tk, y] } := (sb.2 _ (Nat.ne_of_gt le)).trans new1
    have ob : ObjOk X.prog X.w (upd H s.heap.objs.size (ptO ({ cls := .type "tuple", data := .seq #[.int i tk, y] } : Obj) [.int (i : Nat), x])) h2 s.heap.objs.size (ptO ({ cls := .type "tuple", data := .seq #[.int i tk, y] } : Obj) [.int (i : Nat), x]) := ⟨new2, by show 2 ≤ sizeLine; decide, _, .cons ⟨_, rfl⟩ (.cons ru .nil), ⟨_, new2, rfl, _, rfl⟩⟩
    have fr : ∀ b, b ∈ [e, it] → b < s.heap.objs.size := fun b hb => by
      rcases List.mem_cons.mp hb with rfl | hb
      · exact le
      · rw [List.mem_singleton.mp hb]; exact li
    have I1 := I.turnedNew (t' := tk + 1) (ch := [e, it]) (fun b v hb q => (sb.2 b fun z => hb (by simp [z])).trans (k1 b v (fun z => hb (by simp [z])) (fun z => hb (by simp [z])) q)) hf (Nat.le_refl _) ob
    refine ⟨.ref s.heap.objs.size, _, I1, rfl, ⟨_, x, _, rfl, I.hok.fresh (Nat.le_refl _), rfl, rfl, fun ys hy => by rw [I.tuple_inj hy hq]; exact hx⟩, ⟨⟨y, ?_⟩, st1.1.at fun v q => (sb.2 it n1.symm).trans q, n1, n2, n3⟩, fun b hb => ?_⟩
    · have cast : ((i + 1 : Nat) : Int) = (i : Int) + 1 := Int.natCast_succ i
      rw [cast]
      exact he2
    · rw [upd_ne (Nat.ne_of_lt (fr b hb))]
      exact (hf b hb).1
  done := by
    intro X eP ew eK hc i pins s σ H E I hf st hg
    subst eP ew eK
    obtain ⟨⟨old, he⟩, hit, n1, n2, n3⟩ := st
    obtain ⟨xs, hq, hx⟩ := hg
    obtain ⟨its, rv, pl, hz⟩ := I.tuple hq
    have ht : s.heap.IsTuple a its.toArray := pl
    have hh : X.A.in1.handled = none := I.ok.hd hc
    have none' : its.toArray[i]? = none := by
      have := rv.length
      simp
      omega
    have D : Draws X.prog X.w X.A.in1 it [it, a] i (fun _ _ => True) fun j h => j = i ∧ h.IsTupleIter it a i ∧ h.IsTuple a its.toArray :=
      { live := fun _ _ st => let ⟨u, hu, _⟩ := st.2.1; ⟨u, hu⟩
        frame := fun _ _ _ st hk => ⟨st.1, st.2.1.at fun u q => hk it (by simp) u q, st.2.2.at fun u q => hk a (by simp) u q⟩
        item := fun j s Q E hj st _ => absurd st.1 (Nat.ne_of_lt hj)
        done := fun s Q E st hE => wpAny_nextOf_tuple_end hh st.2.1 st.2.2 none' hE }
    obtain ⟨f0, f1, f2, f3, f4, f5⟩ := hf it (List.mem_cons_of_mem _ List.mem_cons_self)
    exact wpAny_pyNext_enum_endD D he ⟨rfl, hit, ht⟩ fun h' eb => ⟨rfl, I.turned (t' := s.toks) (fun b u hb q => eb b u hb q) f0 f1 f3 f4 f5⟩
  self := fun A i s Q E st h => let ⟨⟨_, he⟩, _⟩ := st; wpAny_pyIter_enum he h
def iEnT (K : PySem.W.Frag) (ta : TA) : TI := fun σ H R => ta σ H fun vs H1 => ∃ a xs, vs = [.ref a] ∧ SqT K H1 a xs ∧ R (IteT K a) H1
theorem pi_enT {X : Cx} {e : Expr} {ta : TA} {p pos tpos : Pos} {elts : List Expr} {kk : Nat} (hg : Gl X "enumerate") (hm : X.mg "enumerate" = none) (ha : PA X [e] ta) (hs : starEach [e] X.env = [(false, eval e X.env)] := by rfl) :
    PI X (.Tuple elts kk tpos) (.Call (.Name "enumerate" p) [e] [] pos) (iEnT X.K ta) := by
  refine ⟨fun pins s σ H R I h => Call_ (ld_blt I hg hm boot_enumerate (PyProof.Rows.callWith_type1 (thn (ha.run pos pins s σ H _ I h) fun us s1 got => ?_) hs rfl))⟩
  obtain ⟨vs, H1, I1, r1, a, xs, ex, hq, q⟩ := got
  subst ex
  obtain ⟨u, rfl, rx⟩ := vals1 r1
  cases rx
  obtain ⟨its, rv, pl, hz⟩ := I1.tuple hq
  have ht : s1.heap.IsTuple a its.toArray := pl
  have la : a < s1.heap.objs.size := let ⟨_, q, _⟩ := ht; Heap.lt_size q
  refine call_enum1 (begins_tuple a its.toArray) ht fun h' en itr kept => wpAny_pyIter_enum en ?_
  refine ⟨s1.heap.objs.size + 1, [s1.heap.objs.size + 1, s1.heap.objs.size], _, _, H1, rfl, I1.kept (t' := s1.toks) kept, turn_enT a (s1.heap.objs.size + 1) s1.heap.objs.size, ⟨⟨.none, en⟩, ⟨_, itr, rfl, rfl⟩, Nat.succ_ne_self _, Nat.ne_of_lt la, Nat.ne_of_gt (Nat.lt_succ_of_lt la)⟩, fun b hb => ?_, q⟩
  have le : s1.heap.objs.size ≤ b := by
    rcases List.mem_cons.mp hb with rfl | hb
    · exact Nat.le_succ _
    · rw [List.mem_singleton.mp hb]
      exact Nat.le_refl _
  exact I1.fpOk le (I1.hok.fresh le)
def diEnT (Ta : DEnv → (List R → Prop) → Prop) : DEnv → (List PyData → Bool → Prop) → Prop := fun env Qd => Ta env fun rs => match rs with
  | [r] => match r.data with
    | some (.tuple ds) => Qd (enumD 0 ds) true
    | _ => False
  | _ => False
theorem wk_enT {M N : Addr → Prop} {K : PySem.W.Frag} {a : Addr} {xs : List V} {ds : List PyData} {H1 : Hp} (hM : ∀ b, M b → N b ∨ H1 b = none) (ha : ¬ M a) (h1 : PT H1 a xs) (rs : RDs N H1 xs ds) : WkD M N (IteT K a) (enumD 0 ds) H1 := by
  intro H' mv i
  have h2 : PT H' a xs := h1.onX fun u w t => mv a u ha w t
  refine ⟨fun d hd => ?_, fun hi => ⟨xs, h2.sq, by rw [rs.length, ← enumD_len 0 ds]; exact hi⟩⟩
  obtain ⟨e, he, rfl⟩ := enumD_get hd
  obtain ⟨v, e1, e2⟩ := rs.get he
  refine ⟨⟨xs, v, h2.sq, e1⟩, ?_⟩
  rintro x H'' ⟨T, y, ob, rfl, hT, hd0, rfl, hx⟩
  have ex := hx xs h2.sq
  rw [e1] at ex
  cases ex
  refine ⟨Same.new hT, fun hl N' hN => ?_⟩
  have r2 : RD N' (upd H' T (ptO ob [.int (i : Nat), v])) v e := rd_moved hM (fun b u m w t => by
    have := mv b u m w t
    rw [upd_ne (ne_of_none this hT)]
    exact this) hl hN e2
  rw [Nat.zero_add]
  exact .tup (PT.new hd0) (.cons (.int _) (.cons r2 .nil))
instance {K : PySem.W.Frag} {ta : TA} {Ta : DEnv → (List R → Prop) → Prop} [DA ta Ta] : DI (iEnT K ta) (diEnT Ta) := ⟨fun z σ env R Qd o e h q =>
  DA.run (t := ta) z σ env _ _ o e h fun vs H1 rs g1 r1 h1 => by
    split at h1
    · rename_i r
      match vs, r1 with
      | [v], ⟨r1, _⟩ =>
        split at h1
        · rename_i ds hd
          obtain ⟨a, xs, rfl, ha, rs⟩ := r1.tupl hd
          refine ⟨a, xs, rfl, ha.sq, q _ true _ H1 (fun b => b = a) g1 (fun b hb => ?_) (fun st b hb => ?_) (fun M hM hav => wk_enT hM (hav a rfl) ha rs) h1⟩
          · subst hb
            exact ⟨fun s => tup_out o g1 ha (o.sn _ s), ha.old⟩
          · subst hb
            exact tup_out o g1 ha
        · exact h1.elim
    · exact h1.elim⟩
/-- the list at a as it stands, each item in a new pair -/
def IteL (K : PySem.W.Frag) (a : Addr) : It where
  go := fun i H => ∃ xs x, SqL K H a xs ∧ xs[i]? = some x
  yld := fun i H v H' => ∃ T x o, v = .ref T ∧ H T = none ∧ Obj.dict o = none ∧ H' = upd H T (ptO o [.int (i : Nat), x]) ∧ ∀ xs, SqL K H a xs → xs[i]? = some x
  stop := fun i H => ∃ xs, SqL K H a xs ∧ xs.length ≤ i
/-- the enumerate at e over the iterator at it, i items gone -/
def EnL (a e it : Addr) (i : Nat) (h : Heap) : Prop := (∃ old, IsEnum h e it (i : Int) old) ∧ h.IsListIter it a i ∧ e ≠ it ∧ a ≠ it ∧ e ≠ a
theorem turn_enL {P : Program} {w : World} {K : PySem.W.Frag} {elts : List Expr} {kk : Nat} {tpos : Pos} (a e it : Addr) : Turn P w K (.Tuple elts kk tpos) (IteL K a) [e, it] e (EnL a e it) where
  mem := List.mem_cons_self
  obj := by
    rintro i h ⟨⟨old, he⟩, ⟨u, hu, _, hd⟩, _⟩ b hb
    rcases List.mem_cons.mp hb with rfl | hb
    · exact ⟨_, he, fun v q => nomatch q⟩
    · rcases List.mem_singleton.mp hb with rfl
      exact ⟨u, hu, fun v q => by rw [hd] at q; cases q⟩
  keep := by
    rintro i h h' ⟨⟨old, he⟩, hi, ne⟩ k
    exact ⟨⟨old, k e List.mem_cons_self _ he⟩, hi.at fun u q => k it (List.mem_cons_of_mem _ List.mem_cons_self) u q, ne⟩
  item := by
    intro X eP ew eK hc i pins s σ H E I hf st hg
    subst eP ew eK
    obtain ⟨⟨old, he⟩, hit, n1, n2, n3⟩ := st
    obtain ⟨xs, x, hq, hx⟩ := hg
    obtain ⟨its, rv, pl, hz⟩ := I.list hq
    obtain ⟨u, hu, ru⟩ := rv.get hx
    have le : e < s.heap.objs.size := Heap.lt_size he
    have li : it < s.heap.objs.size := let ⟨_, q, _⟩ := hit; Heap.lt_size q
    have ht : s.heap.IsList a its.toArray := pl.isList
    have hh : X.A.in1.handled = none := I.ok.hd hc
    have lt : i < its.toArray.size := by
      have := (List.getElem?_eq_some_iff.mp hu).1
      simpa using this
    refine wpAny_pyNext_enum_itemD (Draws.list hh it a n2 its.toArray) he ⟨hit, ht⟩ lt n1 (by simp [n1, n3]) fun y h1 tk py out st1 new1 sz k1 => ?_
    have ey : y = u := by
      have q : its.toArray[i]? = some u := by simpa using hu
      rw [q] at py
      exact (Option.some.inj py).symm
    subst ey
    refine ⟨_, rfl, wpAny_letOwnedTupleGo_enum (s := { s with heap := h1, toks := tk + 1 }) out fun h2 he2 sb => ?_⟩
    have new2 : h2.get? s.heap.objs.size = some { cls := .type "tuple", data := .seq #[.int i tk, y] } := (sb.2 _ (Nat.ne_of_gt le)).trans new1
    have ob : ObjOk X.prog X.w (upd H s.heap.objs.size (ptO ({ cls := .type "tuple", data := .seq #[.int i tk, y] } : Obj) [.int (i : Nat), x])) h2 s.heap.objs.size (ptO ({ cls := .type "tuple", data := .seq #[.int i tk, y] } : Obj) [.int (i : Nat), x]) := ⟨new2, by show 2 ≤ sizeLine; decide, _, .cons ⟨_, rfl⟩ (.cons ru .nil), ⟨_, new2, rfl, _, rfl⟩⟩
    have fr : ∀ b, b ∈ [e, it] → b < s.heap.objs.size := fun b hb => by
      rcases List.mem_cons.mp hb with rfl | hb
      · exact le
      · rw [List.mem_singleton.mp hb]; exact li
    have I1 := I.turnedNew (t' := tk + 1) (ch := [e, it]) (fun b v hb q => (sb.2 b fun z => hb (by simp [z])).trans (k1 b v (fun z => hb (by simp [z])) (fun z => hb (by simp [z])) q)) hf (Nat.le_refl _) ob
    refine ⟨.ref s.heap.objs.size, _, I1, rfl, ⟨_, x, _, rfl, I.hok.fresh (Nat.le_refl _), rfl, rfl, fun ys hy => by rw [I.list_inj hy hq]; exact hx⟩, ⟨⟨y, ?_⟩, st1.1.at fun v q => (sb.2 it n1.symm).trans q, n1, n2, n3⟩, fun b hb => ?_⟩
    · have cast : ((i + 1 : Nat) : Int) = (i : Int) + 1 := Int.natCast_succ i
      rw [cast]
      exact he2
    · rw [upd_ne (Nat.ne_of_lt (fr b hb))]
      exact (hf b hb).1
  done := by
    intro X eP ew eK hc i pins s σ H E I hf st hg
    subst eP ew eK
    obtain ⟨⟨old, he⟩, hit, n1, n2, n3⟩ := st
    obtain ⟨xs, hq, hx⟩ := hg
    obtain ⟨its, rv, pl, hz⟩ := I.list hq
    have ht : s.heap.IsList a its.toArray := pl.isList
    have hh : X.A.in1.handled = none := I.ok.hd hc
    have none' : its.toArray[i]? = none := by
      have := rv.length
      simp
      omega
    have D : Draws X.prog X.w X.A.in1 it [it, a] i (fun _ _ => True) fun j h => j = i ∧ h.IsListIter it a i ∧ h.IsList a its.toArray :=
      { live := fun _ _ st => let ⟨u, hu, _⟩ := st.2.1; ⟨u, hu⟩
        frame := fun _ _ _ st hk => ⟨st.1, st.2.1.at fun u q => hk it (by simp) u q, st.2.2.at fun u q => hk a (by simp) u q⟩
        item := fun j s Q E hj st _ => absurd st.1 (Nat.ne_of_lt hj)
        done := fun s Q E st hE => wpAny_nextOf_list_end hh st.2.1 st.2.2 none' hE }
    obtain ⟨f0, f1, f2, f3, f4, f5⟩ := hf it (List.mem_cons_of_mem _ List.mem_cons_self)
    exact wpAny_pyNext_enum_endD D he ⟨rfl, hit, ht⟩ fun h' eb => ⟨rfl, I.turned (t' := s.toks) (fun b u hb q => eb b u hb q) f0 f1 f3 f4 f5⟩
  self := fun A i s Q E st h => let ⟨⟨_, he⟩, _⟩ := st; wpAny_pyIter_enum he h
def iEnL (K : PySem.W.Frag) (ta : TA) : TI := fun σ H R => ta σ H fun vs H1 => ∃ a xs, vs = [.ref a] ∧ SqL K H1 a xs ∧ R (IteL K a) H1
theorem pi_enL {X : Cx} {e : Expr} {ta : TA} {p pos tpos : Pos} {elts : List Expr} {kk : Nat} (hg : Gl X "enumerate") (hm : X.mg "enumerate" = none) (ha : PA X [e] ta) (hs : starEach [e] X.env = [(false, eval e X.env)] := by rfl) :
    PI X (.Tuple elts kk tpos) (.Call (.Name "enumerate" p) [e] [] pos) (iEnL X.K ta) := by
  refine ⟨fun pins s σ H R I h => Call_ (ld_blt I hg hm boot_enumerate (PyProof.Rows.callWith_type1 (thn (ha.run pos pins s σ H _ I h) fun us s1 got => ?_) hs rfl))⟩
  obtain ⟨vs, H1, I1, r1, a, xs, ex, hq, q⟩ := got
  subst ex
  obtain ⟨u, rfl, rx⟩ := vals1 r1
  cases rx
  obtain ⟨its, rv, pl, hz⟩ := I1.list hq
  have ht : s1.heap.IsList a its.toArray := pl.isList
  have la : a < s1.heap.objs.size := let ⟨_, q, _⟩ := ht; Heap.lt_size q
  refine call_enum1 (begins_list a its.toArray) ht fun h' en itr kept => wpAny_pyIter_enum en ?_
  refine ⟨s1.heap.objs.size + 1, [s1.heap.objs.size + 1, s1.heap.objs.size], _, _, H1, rfl, I1.kept (t' := s1.toks) kept, turn_enL a (s1.heap.objs.size + 1) s1.heap.objs.size, ⟨⟨.none, en⟩, ⟨_, itr, rfl, rfl⟩, Nat.succ_ne_self _, Nat.ne_of_lt la, Nat.ne_of_gt (Nat.lt_succ_of_lt la)⟩, fun b hb => ?_, q⟩
  have le : s1.heap.objs.size ≤ b := by
    rcases List.mem_cons.mp hb with rfl | hb
    · exact Nat.le_succ _
    · rw [List.mem_singleton.mp hb]
      exact Nat.le_refl _
  exact I1.fpOk le (I1.hok.fresh le)
def diEnL (Ta : DEnv → (List R → Prop) → Prop) : DEnv → (List PyData → Bool → Prop) → Prop := fun env Qd => Ta env fun rs => match rs with
  | [r] => match r.data with
    | some (.list ds) => Qd (enumD 0 ds) r.st
    | _ => False
  | _ => False
theorem wk_enL {M N : Addr → Prop} {K : PySem.W.Frag} {a : Addr} {xs : List V} {ds : List PyData} {H1 : Hp} (hM : ∀ b, M b → N b ∨ H1 b = none) (ha : ¬ M a) (h1 : H1 a = some (.lst xs)) (rs : RDs N H1 xs ds) : WkD M N (IteL K a) (enumD 0 ds) H1 := by
  intro H' mv i
  have h2 := mv a _ ha h1 (fun _ z => by cases z)
  refine ⟨fun d hd => ?_, fun hi => ⟨xs, (SqL.of h2), by rw [rs.length, ← enumD_len 0 ds]; exact hi⟩⟩
  obtain ⟨e, he, rfl⟩ := enumD_get hd
  obtain ⟨v, e1, e2⟩ := rs.get he
  refine ⟨⟨xs, v, (SqL.of h2), e1⟩, ?_⟩
  rintro x H'' ⟨T, y, ob, rfl, hT, hd0, rfl, hx⟩
  have ex := hx xs (SqL.of h2)
  rw [e1] at ex
  cases ex
  refine ⟨Same.new hT, fun hl N' hN => ?_⟩
  have r2 : RD N' (upd H' T (ptO ob [.int (i : Nat), v])) v e := rd_moved hM (fun b u m w t => by
    have := mv b u m w t
    rw [upd_ne (ne_of_none this hT)]
    exact this) hl hN e2
  rw [Nat.zero_add]
  exact .tup (PT.new hd0) (.cons (.int _) (.cons r2 .nil))
instance {K : PySem.W.Frag} {ta : TA} {Ta : DEnv → (List R → Prop) → Prop} [DA ta Ta] : DI (iEnL K ta) (diEnL Ta) := ⟨fun z σ env R Qd o e h q =>
  DA.run (t := ta) z σ env _ _ o e h fun vs H1 rs g1 r1 h1 => by
    split at h1
    · rename_i r
      match vs, r1 with
      | [v], ⟨r1, _⟩ =>
        split at h1
        · rename_i ds hd
          obtain ⟨a, xs, rfl, ha, rs⟩ := r1.items hd
          refine ⟨a, xs, rfl, (SqL.of ha), q _ r.st _ H1 (fun b => b = a) g1 (fun b hb => ?_) (fun st b hb => ?_) (fun M hM hav => wk_enL hM (hav a rfl) ha rs) h1⟩
          · subst hb
            refine ⟨fun s => ?_, _, ha⟩
            have := r1.rdS o hd
            cases this with
            | lst n _ _ => exact n s
          · subst hb
            intro n
            cases r with
            | cur ds' => cases st
            | dat d => cases hd; cases r1 with | lst w _ _ => exact w n
            | new ds' =>
              obtain ⟨l, ys, e1, e2, _⟩ := r1
              cases e1
              obtain ⟨_, w⟩ := o.lst _ n
              rw [e2] at w; cases w
            | ins C rs => cases hd
            | src => cases hd
            | scr K ns => cases hd
            | nsrc => cases hd
            | hob u => cases hd
        · exact h1.elim
    · exact h1.elim⟩
end Cr

namespace Cr
open PySem PySem.Spec PyProof.Rows L2
variable [Tbl]

/-! ### promises over data that every law's row has -/
def DfE (K : PySem.W.Frag) (mg : Str → Option Value) (x : Str) (st : Stmt) (ps : List Str) : Prop := ∃ f fd, Df K mg x st ps f fd
theorem Df.has {P : Program} {w : World} {K : PySem.W.Frag} {mg : Str → Option Value} {base : Heap} {n : Nat} {x : Str} {st : Stmt} {ps : List Str} {f : Addr} {fd : FuncData} {sp : Sp} (D : Df K mg x st ps f fd) (G : FnOk P w K mg base CX0 n f fd ps sp) : Has P w K mg base n x ps sp := ⟨f, fd, D.m, D.F.kp, D.b, G⟩
abbrev qDraw : Sp := spD (fun n : Int => 0 < n ∧ n < 1073741824) (fun n => [.src, .dat (.int n)]) (fun n r => ∃ k : Int, r = .dat (.int k) ∧ 0 ≤ k ∧ k < n)
theorem toDraw (vs : List V) (H : Hp) (Q : VK) (E : XK) (h : qDraw vs H Q E) : spDraw vs H Q E := by
  obtain ⟨n, S, ⟨h0, h1⟩, hS, hv, q⟩ := h
  match vs, hv with
  | [v1, v2], ⟨⟨a, e, ha⟩, hn, _⟩ =>
    subst e
    obtain rfl := sv_int hn
    exact ⟨a, n, rfl, hS.s a ha, h0, h1, fun H' r sb src r0 r1 => q _ H' (.dat (.int r)) (sbGe hS ha sb src) (.int r) ⟨r, rfl, r0, r1⟩⟩
theorem td_ref {H : Hp} {v : V} {ds : List PyData} (h : TD H v (.tuple ds)) : ∃ a, v = .ref a := let ⟨a, _, e, _⟩ := h.tupv; ⟨a, e⟩
abbrev qText : Sp := spD (fun rs : List Rule => RulesOk 100 rs) (fun rs => [.dat (.list (rs.map ruleD))]) (fun rs r => r = .dat (.str (textS rs)))
theorem toText (vs : List V) (H : Hp) (Q : VK) (E : XK) (h : qText vs H Q E) : spText vs H Q E := by
  obtain ⟨rs, S, ok, hS, hv, q⟩ := h
  match vs, hv with
  | [v1], ⟨h1, _⟩ =>
    have h1 : RD S H v1 (.list (rs.map ruleD)) := h1
    cases h1 with
    | lst n ha rr => exact ⟨_, _, rs, rfl, ⟨ha, RDs.td (plainDs_map rule_plain rs) rr⟩, ok, fun H' sm => q _ H' (.dat (.str (textS rs))) (sameGe hS sm) (.str _) rfl⟩
abbrev qSource : Sp := spD (fun _ : Int => True) (fun c => [.dat (.int c)]) (fun _ r => r = .nsrc)
theorem toSource (vs : List V) (H : Hp) (Q : VK) (E : XK) (h : qSource vs H Q E) : spSource vs H Q E := by
  obtain ⟨c, S, _, hS, hv, q⟩ := h
  match vs, hv with
  | [v1], ⟨h1, _⟩ =>
    obtain rfl := sv_int h1
    exact ⟨c, rfl, fun H' a ha sm src => q _ H' .nsrc (sameGe hS sm) ⟨a, rfl, ha, src⟩ rfl⟩
abbrev qIsRule : Sp := spD (fun r : Rule => RuleOk r) (fun r => [.dat (ruleD r)]) (fun _ r => r = .dat (.bool true))
theorem toIsRule (vs : List V) (H : Hp) (Q : VK) (E : XK) (h : qIsRule vs H Q E) : spIsRule vs H Q E := by
  obtain ⟨r, S, ok, hS, hv, q⟩ := h
  match vs, hv with
  | [v1], ⟨h1, _⟩ =>
    have td := sv_td h1 (rule_plain r)
    obtain ⟨t, rfl⟩ := td_ref td
    exact ⟨t, r, rfl, td, ok, fun H' sm => q _ H' (.dat (.bool true)) (sameGe hS sm) (.bl true) rfl⟩
theorem blkOk_none {N : List Str} {sc0 scope : Scope} {own : List (Str × Nat)} (h : L2.blkC N { kind := .function, names := [], isGenerator := false, isCoroutine := false } scope own = true) : L2.BlkOk N sc0 scope own := by
  have k := L2.blkOk_by h
  refine ⟨k.kind, k.uniq, k.ix, fun y hy e => ?_, k.own⟩
  rcases k.free y hy e with q | q <;> cases q
theorem no_if {b : Bool} {X Y : Prop} (h : b = false) (y : Y) : if b = true then X else Y := by rw [h]; exact y
theorem yes_if {b : Bool} {X Y : Prop} (h : b = true) (x : X) : if b = true then X else Y := by rw [h]; exact x
theorem of_if {α : Type} {b p : Bool} {k : Option α → Prop} {x : α} (h : b = p) (hk : k (if p = true then some x else none)) : if b = true then k (some x) else k none := by
  rw [h]
  cases p with
  | true => exact hk
  | false => exact hk
abbrev qCell (K : PySem.W.Frag) : Sp := spD (fun _ : List Int × Nat => True) (fun a => [.scr K a.1, .dat (.int (a.2 : Nat))]) (fun _ r => ∃ c : Int, r = .dat (.int c))
theorem toCell (K : PySem.W.Frag) (vs : List V) (H : Hp) (Q : VK) (E : XK) (h : qCell K vs H Q E) : spCell K vs H Q E := by
  obtain ⟨⟨ns, i⟩, S, _, hS, hv, q⟩ := h
  match vs, hv with
  | [v1, v2], ⟨⟨a, e, h1⟩, h2, _⟩ =>
    subst e
    obtain rfl := sv_int h2
    exact ⟨a, ns, i, rfl, h1.sq, fun c => q _ H (.dat (.int c)) (sameGe hS (Same.refl _)) (.int c) ⟨c, rfl⟩⟩
abbrev qLaw (K : PySem.W.Frag) (n : Nat) : Sp := spD (fun ns : List Int => ns.length ≤ n) (fun ns => [.scr K ns]) (fun _ r => r = .dat (.bool true))
theorem law_of {K : PySem.W.Frag} {n : Nat} {H : Hp} {a : Addr} {ns : List Int} {E : XK} (hl : ns.length ≤ n) (O : OnlyT H) (tb : TabsH H) (hS : SqL K H a (ns.map V.int)) : qLaw K n [.ref a] H (fun v _ => v = .bl true) E :=
  ⟨ns, fun _ => False, hl, ⟨fun _ z => z.elim, tb⟩, ⟨⟨a, rfl, Scr.of O hS⟩, trivial⟩, fun v H' r _ rr e => by
    subst e
    have rr : RD (fun _ => True) H' v (.bool true) := rr
    cases rr
    rfl⟩
/-- the class method read -/
def dRead (C : Addr) (Ta : DEnv → (List R → Prop) → Prop) : DTE := fun env Qd => Ta env fun as => ∃ rs, as = [.dat (.str (textS rs))] ∧ RulesOk 12 rs ∧ Qd (.ins C rs)
instance {C : Addr} {E : XK} {ta : TA} {Ta : DEnv → (List R → Prop) → Prop} [DA ta Ta] : DL (ClX.tCMeth C (spRead C) E (tC (.ref C)) ta) (dRead C Ta) := ⟨fun z σ env Q Qd o e h q => by
  refine ⟨rfl, DA.run (t := ta) z σ env _ _ o e h fun vs H1 as g1 r1 h1 => ?_⟩
  obtain ⟨rs, rfl, ok, hq⟩ := h1
  match vs, r1 with
  | [v], ⟨r1, _⟩ =>
    obtain rfl := rr_str r1
    exact ⟨rs, rfl, ok, fun H' x sm hx hold => q _ H' (.ins C rs) (g1.trans (Ge.same (g1.ok o) sm)) ⟨x, rfl, hold⟩ hq⟩⟩
abbrev qChoose : Sp := spD (fun ds : List PyData => 0 < ds.length ∧ ds.length < 1000 ∧ noLs ds = true) (fun ds => [.src, .dat (.list ds)]) (fun ds r => ∃ d ∈ ds, r = .dat d)
theorem rds_mem {N : Addr → Prop} {H : Hp} {v : V} : ∀ {xs : List V} {ds : List PyData}, RDs N H xs ds → v ∈ xs → ∃ d ∈ ds, RD N H v d
  | _, _, .nil, h => (nomatch h)
  | _, _, .cons h1 h2, h => by
    rcases List.mem_cons.mp h with rfl | h
    · exact ⟨_, List.mem_cons_self, h1⟩
    · obtain ⟨d, hd, hr⟩ := rds_mem h2 h
      exact ⟨d, List.mem_cons_of_mem _ hd, hr⟩
theorem noLs_mem : ∀ {ds : List PyData} {d : PyData}, noLs ds = true → d ∈ ds → noL d = true
  | [], _, _, h => (nomatch h)
  | e :: ds, d, hn, h => by
    rw [noLs, Bool.and_eq_true] at hn
    rcases List.mem_cons.mp h with rfl | h
    · exact hn.1
    · exact noLs_mem hn.2 h
end Cr

namespace Cr
open PySem PySem.Spec PyProof.Rows L2
variable [Tbl]

/-! ### dict(case) -/
abbrev cK (c : Cond) : L2.Key × V := (Sum.inl c.1, V.int c.2)
/-- one condition more -/
def putC (cs : Case) (c : Cond) : Case := if (cs.any fun d => decide (d.1 = c.1)) = true then cs.map (fun d => if d.1 = c.1 then (d.1, c.2) else d) else cs ++ [c]
def mergeC (cs ds : Case) : Case := ds.foldl putC cs
theorem putK_C (cs : Case) (c : Cond) : putK (cs.map cK) (Sum.inl c.1) (V.int c.2) = (putC cs c).map cK := by
  have a : ((cs.map cK).any fun kv => decide (kv.1 = (Sum.inl c.1 : L2.Key))) = cs.any fun d => decide (d.1 = c.1) := by
    rw [List.any_map]
    congr 1
    funext d
    by_cases e : d.1 = c.1
    · simp [e]
    · have : ¬ ((Sum.inl d.1 : L2.Key) = Sum.inl c.1) := fun z => e (by injection z)
      simp [e]
  unfold putK putC
  rw [a]
  by_cases h : (cs.any fun d => decide (d.1 = c.1)) = true
  · rw [if_pos h, if_pos h, List.map_map, List.map_map]
    refine List.map_congr_left fun d _ => ?_
    show (if (Sum.inl d.1 : L2.Key) = Sum.inl c.1 then ((Sum.inl d.1 : L2.Key), V.int c.2) else cK d) = cK (if d.1 = c.1 then (d.1, c.2) else d)
    by_cases e : d.1 = c.1
    · rw [if_pos (by rw [e]), if_pos e]
    · rw [if_neg (fun z => e (by injection z)), if_neg e]
  · rw [if_neg h, if_neg h, List.map_append]
    rfl
theorem mergeK_C : ∀ (ds cs : Case), mergeK (cs.map cK) (ds.map cK) = (mergeC cs ds).map cK
  | [], _ => rfl
  | d :: ds, cs => by
    show mergeK (putK (cs.map cK) (Sum.inl d.1) (V.int d.2)) (ds.map cK) = _
    rw [putK_C, mergeK_C ds (putC cs d)]
    rfl
def rDictC : List V → Hp → VK → Prop := fun vs H Q => ∃ (a : Addr) (xs : List V) (cs : Case), vs = [.ref a] ∧ PT H a xs ∧ TDs H xs (cs.map condD) ∧ ∀ p, H p = none → Q (.ref p) (upd H p (.dK ((mergeC [] cs).map cK)))
section
variable {X : Cx} {pins : List (Addr × Obj)} {σ : L2.St} {H : Hp} {s : Shared}
theorem pt_at (I : Inv X pins σ H s) {a : Addr} {xs : List V} (h : PT H a xs) : ∃ (o : Obj) (n : Nat) (its : List Value), s.heap.get? a = some o ∧ o.cls = .type "tuple" ∧ o.dict = none ∧ o.data = .seq its.toArray n ∧ Vals xs its ∧ xs.length ≤ sizeLine := by
  obtain ⟨o, e, d⟩ := h
  obtain ⟨g, z, its, r, o', g', c, n, da⟩ := (show ObjOk X.prog X.w H s.heap a (ptO o xs) from I.hok a _ e)
  rw [g] at g'
  cases g'
  exact ⟨o, n, its, g, c, d, da, r, z⟩
theorem cond_pt {H : Hp} {v : V} {c : Cond} (h : TD H v (condD c)) : ∃ a, v = .ref a ∧ PT H a [.int c.1, .int c.2] := by
  obtain ⟨a, xs, rfl, hx, ts⟩ := h.tupv
  cases ts with
  | cons t1 t2 =>
    cases t2 with
    | cons t3 t4 =>
      cases t4
      rw [t1.intv, t3.intv] at hx
      exact ⟨a, rfl, hx⟩
theorem conds_heap (I : Inv X pins σ H s) : ∀ {cs : Case} {xs : List V} {us : List Value}, TDs H xs (cs.map condD) → Vals xs us →
    ∃ (Ts : List Addr) (ps : List (Value × Value)) (kvs : List (L2.Key × Value)), us = Ts.map Value.ref ∧ ps.length = cs.length ∧ kvs.length = cs.length ∧ KV (cs.map cK) kvs ∧
      ∀ (j : Nat) k v, ps[j]? = some (k, v) → ∃ b key, Ts[j]? = some b ∧ s.heap.IsTuple b #[k, v] ∧ kvs[j]? = some (key, v) ∧ (mixKind X.prog X.w).is key k = true
  | [], _, _, h, r => by
    cases h
    cases r
    exact ⟨[], [], [], rfl, rfl, rfl, .nil, fun j k v e => by simp at e⟩
  | c :: cs, _, _, h, r => by
    rw [List.map_cons] at h
    cases h with
    | cons h1 h2 =>
      cases r with
      | cons r1 r2 =>
        obtain ⟨Ts, ps, kvs, e1, e2, e3, e4, e5⟩ := conds_heap I h2 r2
        obtain ⟨b, rfl, hb⟩ := cond_pt h1
        cases r1
        obtain ⟨o, n, its, g, cl, d, da, rv, _⟩ := pt_at I hb
        obtain ⟨u, w, ei, ru, rw'⟩ := vals2 rv
        subst ei
        refine ⟨b :: Ts, (u, w) :: ps, (Sum.inl c.1, w) :: kvs, by rw [e1]; rfl, by simp [e2], by simp [e3], .cons ⟨rfl, rw'⟩ e4, fun j k v e => ?_⟩
        cases j with
        | zero =>
          have e : (u, w) = (k, v) := Option.some.inj e
          cases e
          exact ⟨b, _, rfl, ⟨o, g, cl, n, da⟩, rfl, kV_is (k := Sum.inl c.1) (P := X.prog) (w := X.w) ru⟩
        | succ j =>
          obtain ⟨b', key, q1, q2, q3, q4⟩ := e5 j k v (by simpa using e)
          exact ⟨b', key, by simpa using q1, q2, by simpa using q3, q4⟩
theorem cr_dictC (calm : X.calm = true) : CallR X (.type "dict") rDictC := by
  intro pins s σ H vs us Q I r need
  obtain ⟨a, xs, cs, rfl, ha, tx, q⟩ := need
  obtain ⟨u, rfl, ru⟩ := vals1 r
  cases ru
  obtain ⟨o, n, its, g, cl, d, da, rv, z⟩ := pt_at I ha
  obtain ⟨Ts, ps, kvs, e1, e2, e3, e4, e5⟩ := conds_heap I tx rv
  subst e1
  have lx : xs.length = cs.length := by have := tx.length; rw [List.length_map] at this; exact this
  have lt : Ts.length = cs.length := by have := rv.length; rw [List.length_map] at this; omega
  have ok : PlainSeq "tuple" s.heap a (Ts.map Value.ref).toArray ∧ PairItems s.heap (Ts.map Value.ref).toArray (fun j => (Ts[j]?).getD 0) ps := by
    refine ⟨⟨o, n, g, cl, d, da⟩, by simp [lt, e2], fun j k v e => ?_⟩
    obtain ⟨b, key, q1, q2, _⟩ := e5 j k v e
    exact ⟨by simp [q1], .inl (by show s.heap.IsTuple ((Ts[j]?).getD 0) _; rw [q1]; exact q2)⟩
  refine PySem.call_dict_pairs (knd := mixKind X.prog X.w) (kvs := kvs) (PairArg.tuple a (Ts.map Value.ref).toArray (fun j => (Ts[j]?).getD 0) ps) (I.ok.hd calm) ok ⟨by rw [e3, e2], fun j k v e => ?_⟩ (by rw [e2]; omega) fun h' tk hd' k => ?_
  · obtain ⟨b, key, _, _, q3, q4⟩ := e5 j k v e
    exact ⟨key, q3, q4⟩
  · have hm : (s.heap.objs.size == sysModules) = false := beq_eq_false_iff_ne.mpr (Nat.ne_of_gt I.big)
    have em : mergeK [] (cs.map cK) = (mergeC [] cs).map cK := mergeK_C cs []
    have hl : (mergeK [] (cs.map cK)).length ≤ sizeLine := by
      refine Nat.le_trans (length_mergeK _ _) ?_
      rw [List.length_nil, List.length_map]
      omega
    have ob : ObjOk X.prog X.w (upd H s.heap.objs.size (.dK (mergeK [] (cs.map cK)))) h' s.heap.objs.size (.dK (mergeK [] (cs.map cK))) := ⟨hl, hm, merged [] kvs, KV.merge e4 .nil, hd'⟩
    rw [em] at ob
    exact ⟨.ref s.heap.objs.size, _, I.laid (t' := tk) (fun b o e => k b o (by simp) e) (Nat.le_refl _) ob, rfl, q _ (I.hok.fresh (Nat.le_refl _))⟩
/-- d.items() -/
def rItemsK : V → List V → Hp → VK → Prop := fun x xs H Q => ∃ (a : Addr) (kvs : List (L2.Key × V)), x = .ref a ∧ xs = [] ∧ H a = some (.dK kvs) ∧ ∀ p, H p = none → Q (.ref p) (upd H p (DX.itemsO p a))
theorem mt_itemsK : MtR X "dict.items" rItemsK := by
  intro pins s σ H x xs v us Q I rx rxs need
  obtain ⟨a, kvs, rfl, rfl, ha, q⟩ := need
  cases rx
  cases rxs
  obtain ⟨z, hd, vs, rel, o, es, ep, ho, hx, hdat, _⟩ := dk_of I.hok ha
  exact DT.callItems (es := es) (ep := ep) hd ⟨o, ho, hx, hdat⟩ ⟨.ref s.heap.objs.size, _, I.laid (t' := s.toks) (fun b u e => Heap.get?_push_of_some _ e) (Nat.le_refl _) (DX.itemsO_ok (Heap.get?_push_size _ rfl)), rfl, q _ (I.hok.fresh (Nat.le_refl _))⟩
/-- laid tuples are tracked from now on -/
theorem takeF {h' : Heap} {tk : Nat} {P : Addr → List V → Prop} (I0 : Inv X pins σ H s) : ∀ (L : List Addr) (H1 : Hp), Inv X pins σ H1 { s with heap := h', toks := tk } → L.Nodup →
    (∀ a ∈ L, s.heap.objs.size ≤ a ∧ H1 a = none ∧ ∃ vs ob, Obj.dict ob = none ∧ P a vs ∧ ∀ H2, ObjOk X.prog X.w H2 h' a (ptO ob vs)) → ∃ H2, Inv X pins σ H2 { s with heap := h', toks := tk } ∧ Same H1 H2 ∧ ∀ a ∈ L, ∃ vs, P a vs ∧ PT H2 a vs
  | [], H1, I1, _, _ => ⟨H1, I1, Same.refl _, fun _ h => (nomatch h)⟩
  | a :: L, H1, I1, nd, h => by
    obtain ⟨ha, hn, vs, ob, d, hP, ok⟩ := h a List.mem_cons_self
    rw [List.nodup_cons] at nd
    have I2 : Inv X pins σ (upd H1 a (ptO ob vs)) { s with heap := h', toks := tk } := I1.take (h' := h') (t' := tk) (fun _ _ _ e => e) (I0.fpOk ha hn) (ok _)
    obtain ⟨H2, I3, sm, q⟩ := takeF I0 L _ I2 nd.2 fun c hc => by
      obtain ⟨c1, c2, c3⟩ := h c (List.mem_cons_of_mem _ hc)
      exact ⟨c1, by rw [upd_ne (fun z => nd.1 (by rw [← z]; exact hc))]; exact c2, c3⟩
    refine ⟨H2, I3, (Same.new hn).trans sm, fun c hc => ?_⟩
    rcases List.mem_cons.mp hc with rfl | hc
    · exact ⟨vs, hP, Same.pt sm (PT.new d)⟩
    · exact q c hc
/-! ### sorted(d.items()) -/
theorem each_get {β : Type} {R : Value → β → Prop} : ∀ {vs : List Value} {bs : List β}, vs.length = bs.length → (∀ (j : Nat) v b, vs[j]? = some v → bs[j]? = some b → R v b) → PySem.W.EachIs R vs bs
  | [], [], _, _ => .nil
  | [], _ :: _, h, _ => by simp at h
  | _ :: _, [], h, _ => by simp at h
  | v :: vs, b :: bs, h, k => .cons (k 0 v b rfl rfl) (each_get (by simpa using h) fun j v b h1 h2 => k (j + 1) v b (by simpa using h1) (by simpa using h2))
theorem ents_at {P : Program} {w : World} : ∀ {kvs : Case} {vs : List (L2.Key × Value)} {es : List DictEntry}, KV (kvs.map cK) vs → Pairs (mixKind P w) es vs → es.length = kvs.length ∧ ∀ (j : Nat) e, es[j]? = some e → ∃ c t u, kvs[j]? = some c ∧ e.key = .int c.1 t ∧ e.val = .int c.2 u
  | [], _, _, r, p => by
    cases r
    cases p
    exact ⟨rfl, fun j e h => by simp at h⟩
  | c :: kvs, _, _, r, p => by
    rw [List.map_cons] at r
    cases r with
    | cons r1 r2 =>
      cases p with
      | cons p1 p2 p3 =>
        obtain ⟨l, k⟩ := ents_at r2 p3
        refine ⟨by simp [l], fun j e h => ?_⟩
        cases j with
        | zero =>
          have h : _ = e := Option.some.inj h
          subst h
          obtain ⟨q1, u, q2⟩ := r1
          rw [← q1] at p1
          have p1 : keyIs (Sum.inl c.1) _ = true := p1
          rcases keyIs_shape p1 with ⟨i, t, e1, e2⟩ | ⟨x, t, e1, e2⟩
          · have e1 : c.1 = i := by injection e1
            exact ⟨c, t, u, rfl, by rw [e2, e1], by rw [p2]; exact q2⟩
          · exact (nomatch e1)
        | succ j =>
          obtain ⟨c', t, u, h1, h2⟩ := k j e (by simpa using h)
          exact ⟨c', t, u, by simpa using h1, h2⟩
def rSortItC : List V → Hp → VK → Prop := fun vs H Q => ∃ (p a : Addr) (kvs : Case), vs = [.ref p] ∧ H p = some (DX.itemsO p a) ∧ H a = some (.dK (kvs.map cK)) ∧ kvs.length < 1000 ∧
  ∀ H' l ys, Same H H' → H l = none → H' l = some (.lst ys) → TDs H' ys ((kvs.mergeSort (PySem.W.dataLe false condD)).map condD) → Q (.ref l) H'
theorem depth_cond (c : Cond) : (condD c).depth ≤ 60 := by simp [condD, PyData.depth, PyData.depthAll]
theorem each_refs {β : Type} {R : Value → β → Prop} : ∀ {out : List Value} {bs : List β}, PySem.W.EachIs R out bs → (∀ v b, R v b → ∃ a, v = .ref a) → ∃ L : List Addr, out = L.map Value.ref
  | _, _, .nil, _ => ⟨[], rfl⟩
  | _, _, .cons h t, k => by
    obtain ⟨a, rfl⟩ := k _ _ h
    obtain ⟨L, rfl⟩ := each_refs t k
    exact ⟨a :: L, rfl⟩
theorem each_tds {β : Type} {R : Value → β → Prop} {enc : β → PyData} {H : Hp} (k : ∀ a b, R (.ref a) b → TD H (.ref a) (enc b)) : ∀ {L : List Addr} {bs : List β}, PySem.W.EachIs R (L.map Value.ref) bs → TDs H (L.map V.ref) (bs.map enc)
  | [], _, h => by cases h; exact .nil
  | a :: L, _, h => by
    rw [List.map_cons] at h
    cases h with
    | cons h1 h2 => exact .cons (k _ _ h1) (each_tds k h2)
theorem vals_refs : ∀ L : List Addr, Vals (L.map V.ref) (L.map Value.ref)
  | [] => .nil
  | _ :: L => .cons rfl (vals_refs L)
theorem cr_sortedItC (calm : X.calm = true) (hu : X.A.units + 66 < cLine) : CallR X (.builtin "sorted") rSortItC := by
  intro pins s σ H vs us Q I r need
  obtain ⟨p, a, kvs, rfl, hp, ha, hl0, q⟩ := need
  obtain ⟨u, rfl, ru⟩ := vals1 r
  cases ru
  have view : s.heap.IsItemsView p a := (show ObjOk X.prog X.w H s.heap p (DX.itemsO p a) from I.hok p _ hp).1
  obtain ⟨z, hd, tab, rel, o, es, ep, ho, hx, hdat, hes, prs, ndk⟩ := dk_of I.hok ha
  obtain ⟨le, at'⟩ := ents_at rel prs
  have les : es.size = kvs.length := by rw [← le]; simp
  refine DT.sortedI (es := es) (ep := ep) (I.ok.hd calm) view ⟨o, ho, hx, hdat⟩ (by rw [sizeLine_eq]; omega) fun h' tk as hk hlt hl hG => ?_
  have nd : as.Nodup := List.Pairwise.imp (fun h => Nat.ne_of_lt h) hG.rise
  have hob : (h'.push { cls := .type "list", data := .seq (as.map Value.ref).toArray }).get? h'.objs.size = some (seqObj "list" (as.map Value.ref).toArray 0) := Heap.get?_push_size _ rfl
  have pair : ∀ (j : Nat) b, as[j]? = some b → ∃ c t u, kvs[j]? = some c ∧ h'.get? b = some { cls := .type "tuple", data := .seq #[Value.int c.1 t, Value.int c.2 u] } := fun j b hj => by
    obtain ⟨en, e1, e2⟩ := hG.pairs j b hj
    obtain ⟨c, t, u, e3, e4, e5⟩ := at' j en (by rw [← e1]; simp)
    exact ⟨c, t, u, e3, by rw [e2, e4, e5]⟩
  have kp : ∀ b ob, h'.get? b = some ob → (h'.push { cls := .type "list", data := .seq (as.map Value.ref).toArray }).get? b = some ob := fun b ob e => Heap.get?_push_of_some _ e
  have lak : as.length = kvs.length := by omega
  refine PySem.W.list_sort_data (s := { s with heap := h'.push { cls := .type "list", data := .seq (as.map Value.ref).toArray }, toks := tk }) (vs := as.map Value.ref) (bs := kvs) (enc := condD) (R := fun v c => ∃ (j : Nat) (b : Addr), v = .ref b ∧ as[j]? = some b ∧ kvs[j]? = some c) (n := 0) hob
    (each_get (by rw [List.length_map]; exact lak) fun j v c h1 h2 => ?_) (each_get (by rw [List.length_map]; exact lak) fun j v c h1 h2 => ?_) (PySem.W.AllAlike.of alike_cond) (PySem.W.Sortable.tuples fun c => ⟨_, _, rfl⟩) (by rw [sizeLine_eq]; omega) (fun c _ => ?_) fun out hlen he => ?_
  · rw [List.getElem?_map] at h1
    cases e : as[j]? with
    | none => rw [e] at h1; cases h1
    | some b => rw [e] at h1; exact ⟨j, b, (Option.some.inj h1).symm, e, h2⟩
  · rw [List.getElem?_map] at h1
    cases e : as[j]? with
    | none => rw [e] at h1; cases h1
    | some b =>
      rw [e] at h1
      obtain rfl := Option.some.inj h1
      obtain ⟨c', t, u, e1, e2⟩ := pair j b e
      rw [h2] at e1
      cases e1
      refine ⟨[], Reads.tuple (kp _ _ e2) rfl rfl ?_, by simp⟩
      exact ReadsAll.cons (as := []) (bs := []) (.int _ _) (ReadsAll.cons (as := []) (bs := []) (.int _ _) .nil)
  · have := depth_cond c
    show X.A.units + 1 + 1 + (condD c).depth < cLine
    omega
  · obtain ⟨L, rfl⟩ := each_refs he fun v c ⟨_, b, e, _⟩ => ⟨b, e⟩
    have hnl : h'.objs.size ≥ s.heap.objs.size := Nat.le_of_lt hlt
    have ne0 : ∀ b ob, h'.get? b = some ob → b ≠ h'.objs.size := fun b ob e => Nat.ne_of_lt (Heap.lt_size e)
    have kF : ∀ b ob, b ≠ h'.objs.size → h'.get? b = some ob → (sortedHeap (h'.push { cls := .type "list", data := .seq (as.map Value.ref).toArray }) h'.objs.size (as.map Value.ref) (L.map Value.ref).toArray).get? b = some ob := fun b ob hb e => (PyProof.Rows.sortedHeap_old hb (Heap.lt_size (kp b ob e))).trans (kp b ob e)
    obtain ⟨eF, heF⟩ := PyProof.Rows.sortedHeap_at (vs := as.map Value.ref) (out := (L.map Value.ref).toArray) hob
    have I1 : Inv X pins σ H { s with heap := sortedHeap (h'.push { cls := .type "list", data := .seq (as.map Value.ref).toArray }) h'.objs.size (as.map Value.ref) (L.map Value.ref).toArray, toks := tk } := I.kept (t' := tk) fun b ob e => kF b ob (ne0 b ob (hk b ob e)) (hk b ob e)
    have hn0 : H h'.objs.size = none := I.hok.fresh hnl
    have lL : L.length = kvs.length := by rw [List.length_map] at hlen; exact hlen
    have I2 : Inv X pins σ (upd H h'.objs.size (.lst (L.map V.ref))) { s with heap := sortedHeap (h'.push { cls := .type "list", data := .seq (as.map Value.ref).toArray }) h'.objs.size (as.map Value.ref) (L.map Value.ref).toArray, toks := tk } :=
      I1.take (t' := tk) (fun _ _ _ e => e) (I.fpOk hnl hn0) ⟨by rw [List.length_map, lL, sizeLine_eq]; omega, L.map Value.ref, eF, vals_refs L, heF⟩
    obtain ⟨H2, I3, sm, qt⟩ := takeF (P := fun b vs => ∃ (j : Nat) (c : Cond), as[j]? = some b ∧ kvs[j]? = some c ∧ vs = [.int c.1, .int c.2]) I as _ I2 nd fun b hb => by
      obtain ⟨j, hj⟩ := List.mem_iff_getElem?.mp hb
      obtain ⟨c, t, u, e1, e2⟩ := pair j b hj
      have g := kF b _ (ne0 b _ e2) e2
      have hbl : s.heap.objs.size ≤ b := Nat.le_of_lt (hG.above b hb)
      exact ⟨hbl, by rw [upd_ne (ne0 b _ e2)]; exact I.hok.fresh hbl, [.int c.1, .int c.2], _, rfl, ⟨j, c, hj, e1, rfl⟩, fun H3 => ⟨g, by show 2 ≤ sizeLine; decide, _, .cons ⟨_, rfl⟩ (.cons ⟨_, rfl⟩ .nil), ⟨_, g, rfl, _, rfl⟩⟩⟩
    refine ⟨.ref h'.objs.size, H2, I3, rfl, q H2 h'.objs.size (L.map V.ref) ((Same.new hn0).trans sm) hn0 (sm _ _ upd_same) (each_tds (fun b c hR => ?_) he)⟩
    obtain ⟨j, b', e, h1, h2⟩ := hR
    cases e
    obtain ⟨vs, ⟨j', c', e1, e2, rfl⟩, hpt⟩ := qt b (List.mem_of_getElem? h1)
    have ej : j = j' := (List.getElem?_inj (List.getElem?_eq_some_iff.mp h1).1 nd).mp (h1.trans e1.symm)
    subst ej
    rw [h2] at e2
    cases e2
    exact .tup hpt (.cons (.int _) (.cons (.int _) .nil))
end
/-! ### as data -/
def cDictC : List R → (R → Prop) → Prop := fun rs Qd => match rs with
  | [r] => ∃ cs : Case, r.data = some (caseD cs) ∧ Qd (.hob (.dK ((mergeC [] cs).map cK)))
  | _ => False
instance : CbD rDictC cDictC := ⟨fun z H vs rs Q Qd o g1 r1 h q => by
  unfold cDictC at h
  split at h
  · rename_i r
    match vs, r1 with
    | [v], ⟨r1, _⟩ =>
      obtain ⟨cs, hd, h⟩ := h
      obtain ⟨a, xs, rfl, ha, rs⟩ := r1.tupl hd
      exact ⟨a, xs, cs, rfl, ha, RDs.td (plainDs_map cond_plain cs) rs, fun p hp => q _ _ (.hob _) (new_ge o g1 hp) ⟨p, rfl, upd_same, fun ys z => (by cases z), fun ys z => (by cases z)⟩ h⟩
  · exact h.elim⟩
def dSortIt (i : Nat) : DTE := fun env Qd => match env[i]? with
  | some (some (.hob u)) => ∃ kvs : Case, u = .dK (kvs.map cK) ∧ kvs.length < 1000 ∧ Qd (.new ((kvs.mergeSort (PySem.W.dataLe false condD)).map condD))
  | _ => False
instance {K : PySem.W.Frag} {i : Nat} : DL (tCB rSortItC (tCons (tBM0 K "dict" rItemsK (tVar i)) tNil)) (dSortIt i) := ⟨fun z σ env Q Qd o e h q => by
  unfold dSortIt at h
  split at h
  · rename_i u hi
    obtain ⟨kvs, rfl, hl, h⟩ := h
    obtain ⟨v, e1, a, rfl, h1, _⟩ := e.slot i _ hi
    refine ⟨_, e1, .inr (.inr (.inl ⟨rfl, .inl ⟨_, h1⟩⟩)), a, _, rfl, rfl, h1, fun p hp => ?_⟩
    have s1 : Same z.H (upd z.H p (DX.itemsO p a)) := Same.new hp
    refine ⟨p, a, kvs, rfl, upd_same, s1 _ _ h1, hl, fun H' l ys sm hn hL td => ?_⟩
    exact q _ H' (.new _) (Ge.same o (s1.trans sm)) ⟨l, ys, rfl, s1.free hn, hL, td.rd⟩ h
  · exact h.elim⟩
end Cr

namespace Cr
open PySem PySem.Spec PyProof.Rows L2
variable [Tbl]

/-! ### conditions put together -/
theorem condLe : PySem.W.dataLe false condD = fun p q : Cond => decide (p.1 < q.1 ∨ (p.1 = q.1 ∧ p.2 ≤ q.2)) := PySem.W.dataLe_ii (fun c : Cond => c.1) (fun c : Cond => c.2)
theorem cond_pw (l : Case) : (l.mergeSort (PySem.W.dataLe false condD)).Pairwise fun p q => p.1 < q.1 ∨ (p.1 = q.1 ∧ p.2 ≤ q.2) := by
  rw [condLe]
  have h := List.pairwise_mergeSort (le := fun p q : Cond => decide (p.1 < q.1 ∨ (p.1 = q.1 ∧ p.2 ≤ q.2))) (fun a b c h1 h2 => by
    rw [decide_eq_true_eq] at *
    omega) (fun a b => by
    rw [Bool.or_eq_true, decide_eq_true_eq, decide_eq_true_eq]
    omega) l
  exact h.imp fun h => by rw [decide_eq_true_eq] at h; exact h
theorem case_sorted {ds : Case} (each : ∀ x ∈ ds, 0 ≤ x.1 ∧ x.1 ≤ 4 ∧ 0 ≤ x.2 ∧ x.2 ≤ 9) (nd : (ds.map (·.1)).Nodup) : CaseOk (ds.mergeSort (PySem.W.dataLe false condD)) := by
  have pm := List.mergeSort_perm ds (PySem.W.dataLe false condD)
  refine ⟨fun x hx => each x (pm.mem_iff.mp hx), ?_⟩
  have nd' : ((ds.mergeSort (PySem.W.dataLe false condD)).map (·.1)).Nodup := (pm.map (·.1)).nodup_iff.mpr nd
  rw [List.Nodup, List.pairwise_map] at nd'
  exact (cond_pw ds).imp₂ (fun a b h1 h2 => by omega) nd'
theorem putC_mem {cs : Case} {c x : Cond} (h : x ∈ putC cs c) : x ∈ cs ∨ x = c := by
  unfold putC at h
  split at h
  · obtain ⟨d, hd, e⟩ := List.mem_map.mp h
    split at e
    · rename_i q
      exact .inr (by rw [← e, q])
    · exact .inl (by rw [← e]; exact hd)
  · rcases List.mem_append.mp h with h | h
    · exact .inl h
    · exact .inr (List.mem_singleton.mp h)
theorem putC_keys {cs : Case} (c : Cond) (h : (cs.map (·.1)).Nodup) : ((putC cs c).map (·.1)).Nodup := by
  unfold putC
  split
  · have e : (cs.map fun d => if d.1 = c.1 then (d.1, c.2) else d).map (·.1) = cs.map (·.1) := by
      rw [List.map_map]
      refine List.map_congr_left fun d _ => ?_
      show (if d.1 = c.1 then (d.1, c.2) else d).1 = d.1
      split <;> rfl
    rw [e]
    exact h
  · rename_i n
    rw [List.map_append, List.nodup_append]
    refine ⟨h, List.nodup_cons.mpr ⟨fun z => (nomatch z), List.nodup_nil⟩, fun a ha b hb => ?_⟩
    rw [List.map_singleton, List.mem_singleton] at hb
    subst hb
    obtain ⟨d, hd, rfl⟩ := List.mem_map.mp ha
    exact fun e => n (List.any_eq_true.mpr ⟨d, hd, decide_eq_true e⟩)
theorem putC_len (cs : Case) (c : Cond) : (putC cs c).length ≤ cs.length + 1 := by
  unfold putC
  split
  · rw [List.length_map]; omega
  · rw [List.length_append]; exact Nat.le_refl _
theorem mergeC_mem : ∀ {ds cs : Case} {x : Cond}, x ∈ mergeC cs ds → x ∈ cs ∨ x ∈ ds
  | [], _, _, h => .inl h
  | d :: ds, cs, x, h => by
    rcases mergeC_mem (ds := ds) (cs := putC cs d) h with h | h
    · rcases putC_mem h with h | h
      · exact .inl h
      · exact .inr (by rw [h]; exact List.mem_cons_self)
    · exact .inr (List.mem_cons_of_mem _ h)
theorem mergeC_keys : ∀ (ds : Case) {cs : Case}, (cs.map (·.1)).Nodup → ((mergeC cs ds).map (·.1)).Nodup
  | [], _, h => h
  | d :: ds, _, h => mergeC_keys ds (putC_keys d h)
theorem mergeC_len : ∀ (ds cs : Case), (mergeC cs ds).length ≤ cs.length + ds.length
  | [], _ => Nat.le_refl _
  | d :: ds, cs => by
    have h1 := mergeC_len ds (putC cs d)
    have h2 := putC_len cs d
    show (mergeC (putC cs d) ds).length ≤ _
    rw [List.length_cons]
    omega
theorem mergedC_ok {a b : Case} (ha : CaseOk a) (hb : CaseOk b) : CaseOk ((mergeC [] (a ++ b)).mergeSort (PySem.W.dataLe false condD)) :=
  case_sorted (fun x hx => by
    rcases mergeC_mem hx with h | h
    · exact (nomatch h)
    · rcases List.mem_append.mp h with h | h
      · exact ha.each x h
      · exact hb.each x h) (mergeC_keys _ List.nodup_nil)
end Cr

namespace Cr
open PySem PySem.Spec PyProof.Rows L2
variable [Tbl]

/-! ### comprehensions over two sources -/
@[irreducible] def dLc2 (Ti : DEnv → (List PyData → Bool → Prop) → Prop) (Tg : PyData → DEnv → (DEnv → Prop) → Prop) (Tt : DEnv → (Bool → Prop) → Prop) (Ti1 : DEnv → (List PyData → Bool → Prop) → Prop) (Tg1 : PyData → DEnv → (DEnv → Prop) → Prop) (Tt1 : DEnv → (Bool → Prop) → Prop) (Te : DTE) (vs vs1 : List Nat) : DTE := fun env Qd => Ti env fun ds _ =>
  ∃ Inv : Nat → List PyData → Prop, Inv 0 [] ∧ (∀ (i : Nat) (d : PyData) (acc : List PyData), ds[i]? = some d → Inv i acc → Tg d (wipeE env vs) fun env2 => Tt env2 fun b =>
    if b = true then Ti1 env2 fun es st => st = true ∧ ∃ Inv1 : Nat → List PyData → Prop, Inv1 0 acc ∧ (∀ (j : Nat) (e : PyData) (acc1 : List PyData), es[j]? = some e → Inv1 j acc1 → Tg1 e (wipeE env2 vs1) fun env3 => Tt1 env3 fun b =>
      if b = true then Te env3 fun r => match r.stay with | some x => acc1.length < 1000000 ∧ Inv1 (j + 1) (acc1 ++ [x]) | none => False else Inv1 (j + 1) acc1) ∧ ∀ acc1, Inv1 es.length acc1 → Inv (i + 1) acc1
    else Inv (i + 1) acc) ∧ ∀ acc, Inv ds.length acc → Qd (.new acc)
theorem wipeE_own {env : DEnv} : ∀ {vs : List Nat} {i : Nat} {sv : SV}, (wipeE env vs)[i]? = some (some sv) → i ∉ vs ∧ env[i]? = some (some sv)
  | [], _, _, h => ⟨fun z => (nomatch z), h⟩
  | v :: vs, i, sv, h => by
    have h : ((wipeE env vs).set v none)[i]? = some (some sv) := h
    by_cases w : v = i
    · subst w
      have hl : v < (wipeE env vs).length := by have := (List.getElem?_eq_some_iff.mp h).1; rw [List.length_set] at this; exact this
      rw [List.getElem?_set_self hl] at h
      cases h
    · rw [List.getElem?_set_ne w] at h
      obtain ⟨a, b⟩ := wipeE_own h
      exact ⟨fun z => (List.mem_cons.mp z).elim (fun e => w e.symm) a, b⟩
/-- no name holds the list at D -/
def NoD (D : Addr) (σ : L2.St) (env : DEnv) : Prop := ∀ (i : Nat) (ds : List PyData), env[i]? = some (some (SV.own ds)) → σ[i]? ≠ some (some (.ref D))
theorem NoD.ow {D : Addr} {σ σ' : L2.St} {env env' : DEnv} (h : NoD D σ env) (w : Ow σ env σ' env') : NoD D σ' env' := fun i ds e => by
  obtain ⟨e1, e2⟩ := w i ds e
  rw [e2]
  exact h i ds e1
theorem NoD.wipe {D : Addr} {σ : L2.St} {env : DEnv} (h : NoD D σ env) (vs : List Nat) : NoD D (L2.wipe σ vs) (wipeE env vs) := fun i ds e => by
  obtain ⟨a, b⟩ := wipeE_own e
  rw [wipe_get a]
  exact h i ds b
theorem EnvS.moveD {S N : Addr → Prop} {D : Addr} {H H' : Hp} {σ : L2.St} {env : DEnv} (kn : KeepN (fun b => N b ∨ b = D) H (fun b => N b ∨ b = D) H') (ho : ∀ b u, ¬ S b → b ≠ D → H b = some u → Fx u → H' b = some u) (ne : NoD D σ env) (h : EnvS ⟨S, fun b => N b ∨ b = D, H⟩ σ env) : EnvS ⟨S, fun b => N b ∨ b = D, H'⟩ σ env := by
  refine ⟨h.len, fun i sv e => ?_, h.inj⟩
  obtain ⟨v, e1, e2⟩ := h.slot i sv e
  refine ⟨v, e1, ?_⟩
  cases sv with
  | dat d => exact RD.mono kn e2
  | ins C rs => obtain ⟨x, rfl, q⟩ := e2; exact ⟨x, rfl, q.keep kn⟩
  | src => exact e2
  | scr K ns => obtain ⟨x, rfl, q⟩ := e2; exact ⟨x, rfl, q.keep kn⟩
  | hob u =>
    obtain ⟨x, rfl, q, n⟩ := e2
    exact ⟨x, rfl, kn.k _ _ (fun w => by obtain ⟨ys, e⟩ := kn.l _ w; have q : H x = _ := q; rw [q] at e; exact n.1 ys (Option.some.inj e)) q n.2, n⟩
  | own ds =>
    obtain ⟨l, xs, rfl, h0, hs, h1, h2⟩ := e2
    have nD : l ≠ D := fun z => ne i ds e (by rw [e1, z])
    exact ⟨l, xs, rfl, h0, hs, ho _ _ hs nD h1 (fun _ z => by cases z), RDs.mono kn h2⟩
theorem dlc2_run {wi wi1 : TI} {g g1 : TG} {tt tt1 : TT} {te : TE} {vs vs1 ix ix1 : List Nat} {Ti Ti1 : DEnv → (List PyData → Bool → Prop) → Prop} {Tg Tg1 : PyData → DEnv → (DEnv → Prop) → Prop} {Tt Tt1 : DEnv → (Bool → Prop) → Prop} {Te : DTE} [DI wi Ti] [DG g Tg ix] [DT tt Tt] [DI wi1 Ti1] [DG g1 Tg1 ix1] [DT tt1 Tt1] [DL te Te] (hix : ∀ j ∈ ix, j ∈ vs) (hix1 : ∀ j ∈ ix1, j ∈ vs1) : DL (tLc2 wi g tt wi1 g1 tt1 te vs vs1) (dLc2 Ti Tg Tt Ti1 Tg1 Tt1 Te vs vs1) := ⟨fun z σ env Q Qd o e h q => by
  unfold dLc2 at h
  refine DI.run (wi := wi) z σ env _ _ o e h fun ds st J H1 av gg1 hav _ wk h1 => ?_
  obtain ⟨Inv, i0, turn, fin⟩ := h1
  intro D hD
  have o1 := gg1.ok o
  have e1 := e.on o gg1
  have hDS : ¬ z.S D := fun s => by obtain ⟨_, _, _, w⟩ := gg1.s D s; rw [hD] at w; cases w
  have wk' := wk (fun b => z.S b ∨ b = D) (fun b hb => hb.elim (fun s => .inl (o.sn b s)) fun w => .inr (by rw [w]; exact hD)) (fun b hb w => w.elim (hav b hb).1 fun w => by obtain ⟨u, hu⟩ := (hav b hb).2; rw [w, hD] at hu; cases hu)
  have noD : NoD D σ env := fun i ds' ei es => by
    obtain ⟨v, q1, l, xs, rfl, _, _, q2, _⟩ := e1.slot i _ ei
    rw [q1] at es
    injection es with es
    injection es with es
    injection es with es
    subst es
    have q2 : H1 l = some (.lst xs) := q2
    rw [hD] at q2
    cases q2
  refine ⟨fun i m H => m = ds.length - i ∧ i ≤ ds.length ∧ ∃ acc xs, H D = some (.lst xs) ∧ RDs (fun b => z.N b ∨ b = D) H xs acc ∧ Inv i acc ∧ Ge (z.at H1) H,
    ⟨_, rfl, Nat.zero_le _, [], [], upd_same, .nil, i0, ⟨fun b u _ w t => by rw [upd_ne (ne_of_none w hD)]; exact w, fun b s => (gg1.s b s).same (Same.new hD), .same (Same.new hD)⟩⟩, ?_⟩
  rintro i m H ⟨rfl, hi, acc, xs, hL, ra, iv, g2⟩
  have mv : Mv (fun b => z.S b ∨ b = D) H1 H := fun b u n w t => g2.k b u (fun s => n (.inl s)) w t
  obtain ⟨w1, w2⟩ := wk' H mv i
  by_cases hlt : i < ds.length
  · obtain ⟨hgo, hy⟩ := w1 ds[i] (List.getElem?_eq_getElem hlt)
    refine .inr ⟨hgo, fun H' => ∃ acc xs, H' D = some (.lst xs) ∧ RDs (fun b => z.N b ∨ b = D) H' xs acc ∧ Inv (i + 1) acc ∧ Ge (z.at H1) H', fun H' ⟨acc', xs', a1, a2, a3, a5⟩ => ⟨_, by omega, rfl, hlt, acc', xs', a1, a2, a3, a5⟩, fun x H' hyl => ?_⟩
    obtain ⟨sm, rx⟩ := hy x H' hyl
    have rx := rx o1.lst (fun b => z.N b ∨ b = D) (fun b hb => hb.imp id fun w => by rw [w]; exact hD)
    have g2' : Ge (z.at H1) H' := ⟨fun b u n w t => sm b u (g2.k b u n w t), fun b s => (g2.s b s).same sm, g2.t.trans (.same sm)⟩
    have zp : (⟨z.S, fun b => z.N b ∨ b = D, H'⟩ : Zs).Ok := ⟨fun b s => .inl (o.sn b s), g2'.s, fun b hb => hb.elim (fun n => (g2'.ok o1).lst b n) fun w => ⟨xs, by rw [w]; exact sm _ _ hL⟩, (g2'.ok o1).tb⟩
    have ep : EnvS ⟨z.S, fun b => z.N b ∨ b = D, H'⟩ (L2.wipe σ vs) (wipeE env vs) := EnvS.wipe (EnvS.grow (z := z.at H1) (z' := ⟨z.S, fun b => z.N b ∨ b = D, H'⟩) ⟨fun b u n w t => (g2'.keepN o1).k b u n w t, fun b hb => Or.imp id (fun w => by rw [w]; exact hD) hb, o1.lst⟩ (fun b u n s w t => g2'.k b u s w t) (fun b n => Or.inl n) (fun b s => s) (fun b s => Or.inl s) e1) vs
    have hturn := turn i ds[i] acc (List.getElem?_eq_getElem hlt) iv
    refine DG.run (g := g) ⟨z.S, fun b => z.N b ∨ b = D, H'⟩ _ _ x ds[i] _ _ zp ep rx hturn fun σ2 env2 e2 l2 k2 ow2 q2 => ?_
    rw [wipe_length] at l2
    have noD2 := (noD.wipe vs).ow ow2
    refine ⟨?_, ?_⟩
    · rw [wipe_same (σ := σ) l2 fun j hj => (k2 j fun w => hj (hix j w)).trans (wipe_get hj)]
    · refine DT.run (t := tt) ⟨z.S, fun b => z.N b ∨ b = D, H'⟩ σ2 env2 _ _ zp e2 q2 fun b H3 g3 h3 => ?_
      have o3 := g3.ok zp
      have ra3 : RDs (fun b => z.N b ∨ b = D) H3 xs acc := RDs.mono (g3.keepN zp) (RDs.mono ⟨fun b u n w t => sm b u w, fun b n => .inl n, fun b hb => hb.elim (fun n => (g2.ok o1).lst b n) fun w => ⟨xs, by rw [w]; exact hL⟩⟩ ra)
      have hL3 : H3 D = some (.lst xs) := g3.k _ _ hDS (sm _ _ hL)
      have g23 : Ge (z.at H1) H3 := ⟨fun b u n w t => g3.k b u n (g2'.k b u n w t) t, g3.s, g2'.t.trans g3.t⟩
      have e3 := e2.on zp g3
      cases b with
      | false => exact ⟨acc, xs, hL3, ra3, h3, g23⟩
      | true =>
        show wi1 σ2 H3 _
        refine DI.run (wi := wi1) ⟨z.S, fun b => z.N b ∨ b = D, H3⟩ σ2 env2 _ _ o3 e3 h3 fun es st1 J1 H4 av1 g4 hav1 hst1 wkk h4 => ?_
        obtain ⟨hst, Inv1, j0, turn1, fin1⟩ := h4
        have o4 := g4.ok o3
        have e4 := e3.on o3 g4
        have hL4 : H4 D = some (.lst xs) := g4.k _ _ hDS hL3
        have ra4 := RDs.mono (g4.keepN o3) ra3
        have wk1 := wkk (fun b => z.S b ∨ b = D) (fun b hb => .inl (hb.elim (fun s => .inl (o.sn b s)) fun w => .inr w)) (fun b hb w => w.elim (hav1 b hb).1 fun w => hst1 hst b hb (.inr w))
        refine ⟨fun j k H => k = es.length - j ∧ j ≤ es.length ∧ ∃ acc1 xs1, H D = some (.lst xs1) ∧ RDs (fun b => z.N b ∨ b = D) H xs1 acc1 ∧ Inv1 j acc1 ∧ Mv (fun b => z.S b ∨ b = D) H4 H ∧ (∀ b, z.S b → Src H b) ∧ TbS H4 H,
          ⟨_, rfl, Nat.zero_le _, acc, xs, hL4, ra4, j0, fun _ _ _ w _ => w, g4.s, .refl _⟩, ?_⟩
        rintro j k H5 ⟨rfl, hj, acc1, xs1, hL5, ra5, iv1, mv5, hS5, ht5⟩
        obtain ⟨w5, w6⟩ := wk1 H5 mv5 j
        have ge5 : Ge (z.at H1) H5 := ⟨fun b u n w t => by
          have nb : b ≠ D := fun q => by rw [q] at w; have w : H1 D = some u := w; rw [hD] at w; cases w
          exact mv5 b u (fun q => q.elim n nb) (g4.k b u n (g23.k b u n w t) t) t, hS5, (g23.t.trans g4.t).trans ht5⟩
        by_cases hlt1 : j < es.length
        · obtain ⟨hgo1, hy1⟩ := w5 es[j] (List.getElem?_eq_getElem hlt1)
          refine .inr ⟨hgo1, fun H => ∃ acc1 xs1, H D = some (.lst xs1) ∧ RDs (fun b => z.N b ∨ b = D) H xs1 acc1 ∧ Inv1 (j + 1) acc1 ∧ Mv (fun b => z.S b ∨ b = D) H4 H ∧ (∀ b, z.S b → Src H b) ∧ TbS H4 H, fun H' ⟨acc', xs', a1, a2, a3, a4, a5⟩ => ⟨_, by omega, rfl, hlt1, acc', xs', a1, a2, a3, a4, a5⟩, fun x1 H6 hyl1 => ?_⟩
          obtain ⟨sm6, rx1⟩ := hy1 x1 H6 hyl1
          have l4 : ∀ b, (z.N b ∨ b = D) → ∃ ys, H4 b = some (.lst ys) := o4.lst
          have rx1 := rx1 l4 (fun b => z.N b ∨ b = D) (fun b hb => .inl hb)
          have l6 : ∀ b, (z.N b ∨ b = D) → ∃ ys, H6 b = some (.lst ys) := fun b hb => by
            by_cases q : b = D
            · rw [q]; exact ⟨xs1, sm6 _ _ hL5⟩
            · by_cases s : z.S b
              · obtain ⟨a, b', c', w⟩ := hS5 b s
                exact ⟨_, sm6 _ _ w⟩
              · obtain ⟨ys, w⟩ := l4 b hb
                exact ⟨ys, sm6 _ _ (mv5 b _ (fun w => w.elim s q) w (fun _ z => by cases z))⟩
          have z6 : (⟨z.S, fun b => z.N b ∨ b = D, H6⟩ : Zs).Ok := ⟨fun b s => .inl (o.sn b s), fun b s => (hS5 b s).same sm6, l6, (ht5.trans (.same sm6)).t o4.tb⟩
          have kn46 : KeepN (fun b => z.N b ∨ b = D) H4 (fun b => z.N b ∨ b = D) H6 := ⟨fun b u n w t => sm6 b u (mv5 b u (fun q => n (q.imp (o.sn b) id)) w t), fun b n => .inl n, l4⟩
          have e6 : EnvS ⟨z.S, fun b => z.N b ∨ b = D, H6⟩ σ2 env2 := EnvS.moveD (H := H4) kn46 (fun b u s n w t => sm6 b u (mv5 b u (fun q => q.elim s n) w t)) noD2 e4
          have ra6 : RDs (fun b => z.N b ∨ b = D) H6 xs1 acc1 := RDs.mono ⟨fun b u n w t => sm6 b u w, fun b n => .inl n, fun b hb => by
            obtain ⟨ys, w⟩ := l6 b hb
            by_cases q : b = D
            · rw [q]; exact ⟨xs1, hL5⟩
            · by_cases s : z.S b
              · obtain ⟨a, b', c', w⟩ := hS5 b s
                exact ⟨_, w⟩
              · obtain ⟨ys, w⟩ := l4 b hb
                exact ⟨ys, mv5 b _ (fun w => w.elim s q) w (fun _ z => by cases z)⟩⟩ ra5
          have hturn1 := turn1 j es[j] acc1 (List.getElem?_eq_getElem hlt1) iv1
          refine DG.run (g := g1) ⟨z.S, fun b => z.N b ∨ b = D, H6⟩ _ _ x1 es[j] _ _ z6 (e6.wipe vs1) rx1 hturn1 fun σ3 env3 e7 l7 k7 _ q7 => ?_
          rw [wipe_length] at l7
          refine ⟨?_, ?_⟩
          · rw [wipe_same (σ := σ2) l7 fun j hj => (k7 j fun w => hj (hix1 j w)).trans (wipe_get hj)]
          · refine DT.run (t := tt1) ⟨z.S, fun b => z.N b ∨ b = D, H6⟩ σ3 env3 _ _ z6 e7 q7 fun b H8 g8 h8 => ?_
            have o8 := g8.ok z6
            have ra8 := RDs.mono (g8.keepN z6) ra6
            have hL8 : H8 D = some (.lst xs1) := g8.k _ _ hDS (sm6 _ _ hL5)
            have mv8 : Mv (fun b => z.S b ∨ b = D) H4 H8 := fun b u n w t => g8.k b u (fun s => n (.inl s)) (sm6 b u (mv5 b u n w t)) t
            cases b with
            | false => exact ⟨acc1, xs1, hL8, ra8, h8, mv8, g8.s, (ht5.trans (.same sm6)).trans g8.t⟩
            | true =>
              show te σ3 H8 _
              refine DL.run (t := te) ⟨z.S, fun b => z.N b ∨ b = D, H8⟩ σ3 env3 _ _ o8 (e7.on z6 g8) h8 fun y H9 r g9 r9 h9 => ?_
              split at h9
              · rename_i e' he
                obtain ⟨hl9, h9⟩ := h9
                have ry := r9.keepD o8 he
                have hL9 : H9 D = some (.lst xs1) := g9.k _ _ hDS hL8
                have o9 := g9.ok o8
                have ra9 := RDs.mono (g9.keepN o8) ra8
                have kn9 : KeepN (fun b => z.N b ∨ b = D) H9 (fun b => z.N b ∨ b = D) (upd H9 D (.lst (xs1 ++ [y]))) := ⟨fun b u n w t => by rw [upd_ne (fun q => n (.inr q))]; exact w, fun b n => .inl n, o9.lst⟩
                have hxl : xs1.length = acc1.length := ra9.length
                refine ⟨xs1, hL9, by rw [sizeLine_eq]; omega, acc1 ++ [e'], xs1 ++ [y], upd_same, (RDs.mono kn9 ra9).append (.cons (RD.mono kn9 ry) .nil), h9, fun b u n w t => ?_, fun b s => ?_, ((ht5.trans (.same sm6)).trans g8.t).trans (g9.t.trans (.upd hL9))⟩
                · rw [upd_ne (fun q => n (.inr q))]
                  exact g9.k b u (fun s => n (.inl s)) (mv8 b u n w t) t
                · obtain ⟨a1, a2, a3, w⟩ := g9.s b s
                  exact ⟨a1, a2, a3, by rw [upd_ne (fun q => hDS (by rw [← q]; exact s))]; exact w⟩
              · exact h9.elim
        · obtain rfl : j = es.length := by omega
          exact .inl ⟨w6 (Nat.le_refl _), acc1, xs1, hL5, ra5, fin1 acc1 iv1, ge5⟩
  · obtain rfl : i = ds.length := by omega
    exact .inl ⟨w2 (Nat.le_refl _), q _ H (.new acc) (gg1.trans g2) ⟨D, xs, rfl, gg1.fresh hD, hL, ra⟩ (fin acc iv)⟩⟩
instance {wi wi1 : TI} {g g1 : TG} {tt tt1 : TT} {te : TE} {vs vs1 ix ix1 : List Nat} {Ti Ti1 : DEnv → (List PyData → Bool → Prop) → Prop} {Tg Tg1 : PyData → DEnv → (DEnv → Prop) → Prop} {Tt Tt1 : DEnv → (Bool → Prop) → Prop} {Te : DTE} [DI wi Ti] [DG g Tg ix] [DT tt Tt] [DI wi1 Ti1] [DG g1 Tg1 ix1] [DT tt1 Tt1] [DL te Te] [SubL ix vs] [SubL ix1 vs1] : DL (tLc2 wi g tt wi1 g1 tt1 te vs vs1) (dLc2 Ti Tg Tt Ti1 Tg1 Tt1 Te vs vs1) := dlc2_run (ix := ix) (ix1 := ix1) SubL.h SubL.h
theorem inner_pure {β : Type} {bs : List β} {enc1 : β → PyData} (p : β → Bool) (f : β → PyData) {acc : List PyData} {Body : PyData → (Option PyData → Prop) → Prop} {Nx : List PyData → Prop} (hl : acc.length + bs.length ≤ 1000000)
    (step : ∀ b ∈ bs, ∀ k : Option PyData → Prop, k (if p b = true then some (f b) else none) → Body (enc1 b) k) (q : Nx (acc ++ (bs.filter p).map f)) :
    ∃ Inv1 : Nat → List PyData → Prop, Inv1 0 acc ∧ (∀ (j : Nat) (e : PyData) (acc1 : List PyData), (bs.map enc1)[j]? = some e → Inv1 j acc1 → Body e fun o => match o with | some x => acc1.length < 1000000 ∧ Inv1 (j + 1) (acc1 ++ [x]) | none => Inv1 (j + 1) acc1) ∧ ∀ acc1, Inv1 (bs.map enc1).length acc1 → Nx acc1 := by
  refine ⟨fun j acc1 => acc1 = acc ++ ((bs.take j).filter p).map f, by simp, fun j e acc1 he hi => ?_, fun acc1 hi => ?_⟩
  · have hi : acc1 = acc ++ ((bs.take j).filter p).map f := hi
    obtain ⟨b, hb, rfl⟩ := map_get he
    have hj : j < bs.length := (List.getElem?_eq_some_iff.mp hb).1
    refine step b (List.mem_of_getElem? hb) _ ?_
    by_cases hp : p b = true
    · rw [if_pos hp]
      refine ⟨?_, ?_⟩
      · rw [hi, List.length_append, List.length_map]
        have := List.length_filter_le p (bs.take j)
        rw [List.length_take] at this
        omega
      · show acc1 ++ [f b] = acc ++ ((bs.take (j + 1)).filter p).map f
        rw [take_snoc hb, List.filter_append, List.map_append, hi, List.filter_cons, if_pos hp, List.append_assoc]
        rfl
    · rw [if_neg hp]
      show acc1 = _
      rw [take_snoc hb, List.filter_append, List.map_append, hi, List.filter_cons, if_neg hp]
      simp
  · have hi : acc1 = acc ++ ((bs.take (bs.map enc1).length).filter p).map f := hi
    rw [List.length_map, List.take_length] at hi
    rw [hi]
    exact q
theorem dLc2_by {Ti Ti1 : DEnv → (List PyData → Bool → Prop) → Prop} {Tg Tg1 : PyData → DEnv → (DEnv → Prop) → Prop} {Tt Tt1 : DEnv → (Bool → Prop) → Prop} {Te : DTE} {vs vs1 : List Nat} {env : DEnv} {Qd : R → Prop} {ds : List PyData} {st : Bool} (Inv : Nat → List PyData → Prop) (hi : ∀ q : List PyData → Bool → Prop, q ds st → Ti env q) (h0 : Inv 0 [])
    (step : ∀ (i : Nat) (d : PyData) (acc : List PyData), ds[i]? = some d → Inv i acc → Tg d (wipeE env vs) fun env2 => Tt env2 fun b =>
      if b = true then Ti1 env2 fun es st => st = true ∧ ∃ Inv1 : Nat → List PyData → Prop, Inv1 0 acc ∧ (∀ (j : Nat) (e : PyData) (acc1 : List PyData), es[j]? = some e → Inv1 j acc1 → Tg1 e (wipeE env2 vs1) fun env3 => Tt1 env3 fun b =>
        if b = true then Te env3 fun r => match r.stay with | some x => acc1.length < 1000000 ∧ Inv1 (j + 1) (acc1 ++ [x]) | none => False else Inv1 (j + 1) acc1) ∧ ∀ acc1, Inv1 es.length acc1 → Inv (i + 1) acc1
      else Inv (i + 1) acc) (q : ∀ acc, Inv ds.length acc → Qd (.new acc)) : dLc2 Ti Tg Tt Ti1 Tg1 Tt1 Te vs vs1 env Qd := by
  unfold dLc2
  exact hi _ ⟨Inv, h0, step, q⟩
/-- the inner walk, as a reading says it -/
theorem inner_by {β : Type} {bs : List β} {enc1 : β → PyData} (p : β → Bool) (f : β → PyData) {acc : List PyData} {Tg1 : PyData → DEnv → (DEnv → Prop) → Prop} {Tt1 : DEnv → (Bool → Prop) → Prop} {Te : DTE} {env2 : DEnv} {Nx : List PyData → Prop} (hl : acc.length + bs.length ≤ 1000000)
    (step : ∀ b ∈ bs, ∀ k : Option PyData → Prop, k (if p b = true then some (f b) else none) → Tg1 (enc1 b) env2 fun env3 => Tt1 env3 fun b => if b = true then Te env3 fun r => match r.stay with | some x => k (some x) | none => False else k none) (q : Nx (acc ++ (bs.filter p).map f)) :
    ∃ Inv1 : Nat → List PyData → Prop, Inv1 0 acc ∧ (∀ (j : Nat) (e : PyData) (acc1 : List PyData), (bs.map enc1)[j]? = some e → Inv1 j acc1 → Tg1 e env2 fun env3 => Tt1 env3 fun b =>
        if b = true then Te env3 fun r => match r.stay with | some x => acc1.length < 1000000 ∧ Inv1 (j + 1) (acc1 ++ [x]) | none => False else Inv1 (j + 1) acc1) ∧ ∀ acc1, Inv1 (bs.map enc1).length acc1 → Nx acc1 :=
  inner_pure (Body := fun d k => Tg1 d env2 fun env3 => Tt1 env3 fun b => if b = true then Te env3 fun r => match r.stay with | some x => k (some x) | none => False else k none) p f hl step q
instance {s t : Str} {i j : Nat} : SubL [i] (List.map (fun x => x.snd) [(s, i), (t, j)]) := ⟨fun k h => by rw [List.mem_singleton.mp h]; exact List.mem_cons_self⟩
instance {s t u : Str} {i j k : Nat} : SubL [i] (List.map (fun x => x.snd) [(s, i), (t, j), (u, k)]) := ⟨fun m h => by rw [List.mem_singleton.mp h]; exact List.mem_cons_self⟩
instance {s t u : Str} {i j k : Nat} : SubL ([i] ++ ([j] ++ [])) (List.map (fun x => x.snd) [(s, i), (t, j), (u, k)]) := ⟨fun m h => List.mem_append_left [k] h⟩
instance {s t u v : Str} {i j k l : Nat} : SubL ([i] ++ ([j] ++ [])) (List.map (fun x => x.snd) [(s, i), (t, j), (u, k), (v, l)]) := ⟨fun m h => List.mem_append_left [k, l] h⟩
/-! ### a property -/
def dPropS (C : Addr) (T : List R → (R → Prop) → Prop) (Ta : DTE) : DTE := fun env Qd => Ta env fun r => match r with
  | .ins C' rs => C' = C ∧ T [.ins C rs] Qd
  | _ => False
instance (priority := 500) {C : Addr} {sp : Sp} {E : XK} {ta : TE} {T : List R → (R → Prop) → Prop} {Ta : DTE} [SpD sp T] [DL ta Ta] : DL (tProp C sp [] E ta) (dPropS C T Ta) := ⟨fun z σ env Q Qd o e h q =>
  DL.run (t := ta) z σ env _ _ o e h fun v H1 r g1 r1 h1 => by
    split at h1
    · rename_i C' rs
      obtain ⟨rfl, h1⟩ := h1
      obtain ⟨x, rfl, dx, t, xs, q1, q2, q3⟩ := id r1
      exact ⟨x, dx, _, rfl, q1, SpD.run (sp := sp) z H1 [.ref x] [.ins C' rs] Q Qd E o g1 ⟨r1, trivial⟩ h1 q⟩
    · exact h1.elim⟩
/-- a property that keeps a promise -/
def HasQ (P : Program) (w : World) (K : PySem.W.Frag) (mg : Str → Option Value) (base : Heap) (n : Nat) (C : Addr) (x : Str) (sp : Sp) : Prop := Cls K C ∧ ∃ p g fd, PropOf K C x p g ∧ FnOk P w K mg base CX0 n g fd ["self"] sp ∧ Binds K fd ["self"] []
theorem pe_propQ {X : Cx} {n : Nat} {C : Addr} {x : Str} {sp : Sp} {e : Expr} {ta : TE} {pos : Pos} (h : HasQ X.prog X.w X.K X.mg X.base n C x sp) (hr : Room (n + 1) X.A) (he : PE X e ta) (hab : attributeBase e x X.env (eval e X.env) = eval e X.env := by rfl) : PE X (.Attribute e x pos) (tProp C sp [] E0 ta) := by
  obtain ⟨c, p, g, fd, hp, F, hb⟩ := h
  exact pe_prop he c hp F hr hb .nil passE0 hab
end Cr

namespace Cr
open PySem PySem.Spec PyProof.Rows L2

/-! ### set(t), t a tuple of tuples of ints -/
section
variable {P : Program} {w : World} {A : Around} {E : Value → Shared → Prop} {s : Shared}
/-- what set.__init__ has done behind -/
def SetDoneT (P : Program) (w : World) (s : Shared) (ks : List (Addr × List Int)) : Value → Shared → Prop := fun r s2 => r = .none ∧ ∃ h' tk L es ep t, s2 = { s with heap := h', toks := tk } ∧ SetTR P w h' s.heap.objs.size L es ep t ∧ Got ks ks.length L ∧ ∀ b o, s.heap.get? b = some o → h'.get? b = some o
theorem init_tups {l : Addr} {items : Array Value} (ks : List (Addr × List Int)) (hh : A.handled = none) (hl : s.heap.IsTuple l items) (hit : ∀ (i : Nat) (v : Value), items[i]? = some v → ∃ p, ks[i]? = some p ∧ v = .ref p.1) (hisz : items.size = ks.length) (few : ks.length < 64)
    (hk : ∀ p ∈ ks, IsT P w s.heap p.2 p.1) (hu : A.units + 3 < cLine) :
    wpAny (model P w) A.in1.in1 (Builtin.«set.__init__» ⟨[.ref s.heap.objs.size, .ref l], []⟩)
      (fun fin s' => match fin with
        | .done f => wants (SetDoneT P w s ks) E (.ok f) s'
        | .again c' => c'.quiet = true ∧ codeAny (model P w) A.in1 c' (wants (SetDoneT P w s ks) E) s')
      (fun e s' => wants (SetDoneT P w s ks) E (.error e) s') { s with heap := s.heap.push (set0 w) } := by
  obtain ⟨ol, hol, hcl, nl, hdl⟩ := hl
  obtain ⟨ocls, odict, odata, oslots⟩ := ol
  simp only at hcl hdl
  subst hcl; subst hdl
  have hS : (s.heap.push (set0 w)).get? s.heap.objs.size = some (set0 w) := Heap.get?_push_size _ rfl
  have hol' : (s.heap.push (set0 w)).get? l = some { cls := .type "tuple", dict := odict, data := .seq items nl, slots := oslots } := Heap.get?_push_of_some _ hol
  have hsls := F.sub_tuple_set
  have hslf := F.sub_tuple_frozenset
  have hne : (Value.type "tuple" == Value.type "dict") = false := by decide
  have hl1 : (s.heap.push (set0 w)).IsTuple l items := ⟨_, hol', rfl, nl, rfl⟩
  have hlS : l < s.heap.objs.size := Heap.lt_size hol
  have hz1 : (s.heap.push (set0 w)).objs.size = s.heap.objs.size + 1 := Heap.size_push ..
  unfold Builtin.«set.__init__» noKeywords Builtin.Frozenset.updateFrom
  generalize hPI : pyIter = PI
  wp_walk
  subst hPI
  refine wpAny_pyIter_tuple hl1 (wpAny_bind (wpAny_runValue ?_))
  have hh3 : A.in1.in1.in1.handled = none := by simp [hh]
  have hneI : l ≠ (s.heap.push (set0 w)).objs.size := by rw [hz1]; exact Nat.ne_of_lt (Nat.lt_succ_of_lt hlS)
  have hSf : s.heap.objs.size ∉ [(s.heap.push (set0 w)).objs.size, l] := by
    rw [hz1]
    simp only [List.mem_cons, List.mem_singleton, List.not_mem_nil, or_false, not_or]
    exact ⟨Nat.ne_of_lt (Nat.lt_succ_self _), Nat.ne_of_gt hlS⟩
  refine set_update_tups ((Walks.tuple hh3 _ l hneI items).toS) s.heap.objs.size hSf ks hisz few hit s.heap hk (absent_from (Nat.le_refl _)) (fun b hb => absent_from (by rw [List.mem_singleton.mp hb, hz1]; omega)) hu (items.size - 0) 0 _ (by omega) (Nat.zero_le _)
    ⟨⟨_, Heap.get?_push_size _ rfl, rfl, rfl⟩, (hl1.push _)⟩ (fun b o e => Heap.get?_push_of_some _ (Heap.get?_push_of_some _ e)) ⟨[], #[], 0, _, setTR_fresh (Heap.get?_push_of_some _ hS), Got.zero ks⟩ fun s' L es ep t hm hS' g' hkp => ?_
  obtain ⟨h', g2, d', tk', os'⟩ := s'
  have eg : g2 = s.gens := hm.gens
  have ed : d' = s.drawn := hm.drawn
  have eo : os' = s.os := hm.os
  subst eg; subst ed; subst eo
  show wpAny _ _ _ _ _ _
  refine wpAny_pure ?_
  show wpAny _ _ (ret Value.none) _ _ _
  rw [hisz] at g'
  exact wpAny_pure ⟨rfl, h', tk', L, es, ep, t, rfl, hS', g', hkp⟩
theorem call_setTT {l : Addr} {items : Array Value} (ks : List (Addr × List Int)) {Q : Value → Shared → Prop} (hh : A.handled = none) (hl : s.heap.IsTuple l items) (hit : ∀ (i : Nat) (v : Value), items[i]? = some v → ∃ p, ks[i]? = some p ∧ v = .ref p.1) (hisz : items.size = ks.length) (few : ks.length < 64)
    (hk : ∀ p ∈ ks, IsT P w s.heap p.2 p.1) (hu : A.units + 3 < cLine)
    (q : ∀ (h' : Heap) (tk : Nat) L es ep t, SetTR P w h' s.heap.objs.size L es ep t → Got ks ks.length L → (∀ b o, s.heap.get? b = some o → h'.get? b = some o) → Q (.ref s.heap.objs.size) { s with heap := h', toks := tk }) :
    wpAny (model P w) A (call (.type "set") [.ref l]) Q E s := by
  obtain ⟨c, tl, hmro⟩ := F.called_set.mro
  have hmade := F.called_set.made
  have hsub := F.called_set.sub
  refine wpAny_call (codeAny_of_tree ?_)
  show wpAny _ _ (callAny (.type "set") _) _ _ _
  refine wpAny_pure ⟨Code.quiet_builtin _ (by decide +kernel), codeAny_builtin F.entry_type_call ?_⟩
  rw [Around.under_plain (weight_type_call_type "set" [.ref l] []) rfl]
  have h1 := F.called_set.notType
  have h2 := F.called_set.canCreate
  have hct := F.typeCall_set_1 (.ref l)
  repeat (any_goals (first | assumption | wp_step))
  refine codeAny_mono (code_set_led1 (.ref l) (E := E) (Q₁ := fun obj s1 => obj = .ref s.heap.objs.size ∧ s1 = { s with heap := s.heap.push (set0 w) }) ⟨rfl, rfl⟩) fun r s1 hr => ?_
  cases r with
  | error e => exact hr
  | ok fl =>
    cases fl with
    | ret obj =>
      obtain ⟨rfl, rfl⟩ := hr
      have hT : Shared.TypeIs { s with heap := s.heap.push (set0 w) } (.ref s.heap.objs.size) "set" := ⟨_, Heap.get?_push_size _ rfl, rfl⟩
      have hli := F.called_set.init.lookup
      have hbi := F.called_set.init.bind (.ref s.heap.objs.size)
      repeat (any_goals (first | assumption | wp_step))
      refine codeAny_mono (codeAny_call_builtin F.called_set.init.plain F.entry_set_init (check_set_init_1 hT (init_tups (A := A) (E := E) ks hh hl hit hisz few hk hu))) fun r2 s2 hr2 => ?_
      cases r2 with
      | error e => exact hr2
      | ok fl2 =>
        cases fl2 with
        | ret r =>
          obtain ⟨rfl, h', tk, L, es, ep, t, rfl, hS', hc', hk'⟩ := hr2
          repeat (any_goals (first | assumption | wp_step))
          exact q _ _ _ _ _ _ hS' hc' hk'
        | _ => exact hr2.elim
    | _ => exact hr.elim
end
def rSetOfTT (K : PySem.W.Frag) (P : Program) (w : World) : List V → Hp → VK → Prop := fun xs H Q => ∃ (l : Addr) (ks : List (Addr × List Int)), xs = [V.ref l] ∧ SqT K H l (ks.map fun p => V.ref p.1) ∧ (∀ p ∈ ks, SqT K H p.1 (p.2.map V.int)) ∧ ks.length < 64 ∧
  ∀ a L, H a = none → (∀ p ∈ L, p ∈ ks) → (∀ p ∈ ks, p.2 ∈ L.map (·.2)) → Q (.ref a) (upd H a (SetTO P w a L))
theorem cr_setOfTT {X : Cx} (hc : X.calm = true) (hu : X.A.units + 64 < cLine) : CallR X (.type "set") (rSetOfTT X.K X.prog X.w) := by
  intro pins s σ H xs us Q I r h
  obtain ⟨l, ks, rfl, hl, hk, few, q⟩ := h
  rw [Vals.ref1 r]
  obtain ⟨its, rv, tp, _⟩ := I.tuple hl
  have ei : its = ks.map fun p => Value.ref p.1 := refs_of_vals rv
  refine call_setTT (P := X.prog) (w := X.w) (items := its.toArray) ks (I.ok.hd hc) tp (fun i v hv => ?_) (by rw [ei]; simp) few (fun p hp => I.isT (hk p hp)) (by omega) fun h' tk L es ep t R g k =>
    ⟨.ref s.heap.objs.size, upd H s.heap.objs.size (SetTO X.prog X.w s.heap.objs.size L), I.laid (t' := tk) k (Nat.le_refl _) (setTO_new R.t0), rfl, q _ L (I.hok.fresh (Nat.le_refl _)) (fun p hp => List.mem_of_mem_take (g.sub p hp)) fun p hp => g.all p (by rw [List.take_length]; exact hp)⟩
  have hv' : (ks.map fun p => Value.ref p.1)[i]? = some v := by rw [← ei]; simpa using hv
  rw [List.getElem?_map] at hv'
  cases e : ks[i]? with
  | none => rw [e] at hv'; cases hv'
  | some p => rw [e] at hv'; exact ⟨p, rfl, (Option.some.inj hv').symm⟩
end Cr

namespace Cr
open PySem PySem.Spec PyProof.Rows L2
variable [Tbl]

/-! ### sorted(set(conditions)) -/
theorem sorted_uniq {α : Type} {lt : α → α → Prop} (irr : ∀ a, ¬ lt a a) (asy : ∀ a b, lt a b → ¬ lt b a) : ∀ {l m : List α}, l.Pairwise lt → m.Pairwise lt → (∀ x, x ∈ l ↔ x ∈ m) → l = m
  | [], [], _, _, _ => rfl
  | [], y :: m, _, _, h => absurd ((h y).mpr List.mem_cons_self) (fun z => (nomatch z))
  | x :: l, [], _, _, h => absurd ((h x).mp List.mem_cons_self) (fun z => (nomatch z))
  | x :: l, y :: m, p, q, h => by
    cases p with
    | cons p1 p2 =>
      cases q with
      | cons q1 q2 =>
        have e : x = y := by
          rcases List.mem_cons.mp ((h x).mp List.mem_cons_self) with e | hx
          · exact e
          · rcases List.mem_cons.mp ((h y).mpr List.mem_cons_self) with e | hy
            · exact e.symm
            · exact absurd (q1 x hx) (asy _ _ (p1 y hy))
        subst e
        refine congrArg (x :: ·) (sorted_uniq irr asy p2 q2 fun z => ?_)
        constructor
        · intro hz
          rcases List.mem_cons.mp ((h z).mp (List.mem_cons_of_mem _ hz)) with e | hz'
          · subst e; exact absurd (p1 z hz) (irr z)
          · exact hz'
        · intro hz
          rcases List.mem_cons.mp ((h z).mpr (List.mem_cons_of_mem _ hz)) with e | hz'
          · subst e; exact absurd (q1 z hz) (irr z)
          · exact hz'
abbrev clt (p q : Cond) : Prop := p.1 < q.1 ∨ (p.1 = q.1 ∧ p.2 < q.2)
theorem clt_irr (a : Cond) : ¬ clt a a := by unfold clt; omega
theorem clt_asy (a b : Cond) : clt a b → ¬ clt b a := by unfold clt; omega
def dedC : Case → Case
  | [] => []
  | c :: cs => if c ∈ cs then dedC cs else c :: dedC cs
theorem dedC_mem {x : Cond} : ∀ {cs : Case}, x ∈ dedC cs ↔ x ∈ cs
  | [] => Iff.rfl
  | c :: cs => by
    unfold dedC
    split
    · rename_i h
      rw [dedC_mem, List.mem_cons]
      exact ⟨.inr, fun z => z.elim (fun e => by rw [e]; exact h) id⟩
    · rw [List.mem_cons, List.mem_cons, dedC_mem]
theorem dedC_nd : ∀ cs : Case, (dedC cs).Nodup
  | [] => List.nodup_nil
  | c :: cs => by
    unfold dedC
    split
    · exact dedC_nd cs
    · rename_i h
      exact List.nodup_cons.mpr ⟨fun z => h (dedC_mem.mp z), dedC_nd cs⟩
/-- the different conditions, ascending -/
def normC (cs : Case) : Case := (dedC cs).mergeSort (PySem.W.dataLe false condD)
theorem normC_mem {cs : Case} {x : Cond} : x ∈ normC cs ↔ x ∈ cs := by
  unfold normC
  rw [(List.mergeSort_perm _ _).mem_iff, dedC_mem]
theorem normC_lt (cs : Case) : (normC cs).Pairwise clt := by
  have nd : (normC cs).Nodup := (List.mergeSort_perm _ _).nodup_iff.mpr (dedC_nd cs)
  exact (cond_pw (dedC cs)).imp₂ (fun a b h1 h2 => by
    have h2 : a ≠ b := h2
    unfold clt
    rcases h1 with h | ⟨h, h'⟩
    · exact .inl h
    · refine .inr ⟨h, ?_⟩
      by_cases e : a.2 = b.2
      · exact absurd (Prod.ext h e) h2
      · omega) nd
theorem normC_is {cs ds : Case} (p : ds.Pairwise clt) (h : ∀ x, x ∈ ds ↔ x ∈ cs) : ds = normC cs := sorted_uniq clt_irr clt_asy p (normC_lt cs) fun x => (h x).trans normC_mem.symm
theorem normC_len (cs : Case) : (normC cs).length ≤ cs.length := by
  unfold normC
  rw [(List.mergeSort_perm _ _).length_eq]
  induction cs with
  | nil => exact Nat.le_refl _
  | cons c cs ih =>
    unfold dedC
    split
    · exact Nat.le_succ_of_le ih
    · exact Nat.succ_le_succ ih
def prC (c : Cond) : List Int := [c.1, c.2]
def unC : List Int → Cond
  | [a, b] => (a, b)
  | _ => (0, 0)
theorem conds_rows {H : Hp} : ∀ {cs : Case} {xs : List V}, TDs H xs (cs.map condD) → ∃ ks : List (Addr × List Int), xs = ks.map (fun p => V.ref p.1) ∧ (∀ p ∈ ks, PT H p.1 (p.2.map V.int)) ∧ ks.map (·.2) = cs.map prC
  | [], _, h => by cases h; exact ⟨[], rfl, fun p h => (nomatch h), rfl⟩
  | c :: cs, _, h => by
    rw [List.map_cons] at h
    cases h with
    | cons h1 h2 =>
      obtain ⟨ks, rfl, e2, e3⟩ := conds_rows h2
      obtain ⟨a, rfl, ha⟩ := cond_pt h1
      refine ⟨(a, prC c) :: ks, rfl, fun p hp => ?_, by rw [List.map_cons, List.map_cons, e3]⟩
      rcases List.mem_cons.mp hp with rfl | hp
      · exact ha
      · exact e2 p hp
def dNorm (Te : DTE) : DTE := fun env Qd => Te env fun r => ∃ cs : Case, r.data = some (caseD cs) ∧ cs.length < 64 ∧ (∀ c ∈ cs, (0 ≤ c.1 ∧ c.1 < 64) ∧ 0 ≤ c.2 ∧ c.2 < 64) ∧ Qd (.new ((normC cs).map condD))
theorem rows_tds {H : Hp} : ∀ {L : List (Addr × List Int)}, (∀ p ∈ L, ∃ c : Cond, p.2 = prC c ∧ PT H p.1 (p.2.map V.int)) → TDs H (L.map fun p => V.ref p.1) ((L.map fun p => unC p.2).map condD)
  | [], _ => .nil
  | p :: L, h => by
    obtain ⟨c, e, hp⟩ := h p List.mem_cons_self
    rw [e] at hp
    refine .cons ?_ (rows_tds fun q hq => h q (List.mem_cons_of_mem _ hq))
    show TD H (V.ref p.1) (condD (unC p.2))
    rw [e]
    exact .tup hp (.cons (.int _) (.cons (.int _) .nil))
instance {K : PySem.W.Frag} {P : Program} {w : World} {te : TE} {Te : DTE} [DL te Te] : DL (tCB (rSortedT K P w) (tCons (tCB (rSetOfTT K P w) (tCons te tNil)) tNil)) (dNorm Te) := ⟨fun z σ env Q Qd o e h q => by
  refine DL.run (t := te) z σ env _ _ o e h fun v H1 r g1 r1 h1 => ?_
  obtain ⟨cs, hd, hl, hb, h1⟩ := h1
  obtain ⟨a, xs, rfl, ha, rs⟩ := r1.tupl hd
  obtain ⟨ks, rfl, k1, k2⟩ := conds_rows (RDs.td (plainDs_map cond_plain cs) rs)
  have kl : ks.length = cs.length := by have := congrArg List.length k2; rw [List.length_map, List.length_map] at this; exact this
  have kc : ∀ p ∈ ks, ∃ c ∈ cs, p.2 = prC c := fun p hp => by
    have : p.2 ∈ ks.map (·.2) := List.mem_map.mpr ⟨p, hp, rfl⟩
    rw [k2] at this
    obtain ⟨c, hc, e⟩ := List.mem_map.mp this
    exact ⟨c, hc, e.symm⟩
  refine ⟨a, ks, rfl, ha.sq, fun p hp => (k1 p hp).sq, by omega, fun s L hs sub all => ?_⟩
  have s1 : Same H1 (upd H1 s (SetTO P w s L)) := Same.new hs
  refine ⟨s, L, 2, 64, rfl, upd_same, fun p hp => (Same.pt s1 (k1 p (sub p hp))).sq, by decide, fun p hp => ?_, fun L' p pm nd few pw hp => ?_⟩
  · obtain ⟨c, hc, e⟩ := kc p (sub p hp)
    have b := hb c hc
    rw [e]
    refine ⟨rfl, ?_⟩
    intro x hx
    have hx : x ∈ [c.1, c.2] := hx
    rcases List.mem_cons.mp hx with rfl | hx
    · exact b.1
    · rw [List.mem_singleton.mp hx]; exact b.2
  · have s2 : Same (upd H1 s (SetTO P w s L)) (upd (upd H1 s (SetTO P w s L)) p (.lst (L'.map fun q => V.ref q.1))) := Same.new hp
    have s12 := s1.trans s2
    have inK : ∀ q ∈ L', q ∈ ks := fun q hq => sub q (pm.mem_iff.mp hq)
    have en : (L'.map fun q => unC q.2) = normC cs := by
      refine normC_is ?_ fun x => ?_
      · rw [List.pairwise_map]
        have nd' : L'.Pairwise fun q r => q.2 ≠ r.2 := by rw [List.Nodup, List.pairwise_map] at nd; exact nd
        refine List.Pairwise.imp_of_mem (fun {q r} hq hr h => ?_) (pw.imp₂ (fun a b h1 h2 => And.intro h1 h2) nd')
        obtain ⟨h1, h2⟩ := h
        obtain ⟨c, hc, e⟩ := kc q (inK q hq)
        obtain ⟨d, hd, e'⟩ := kc r (inK r hr)
        rw [e, e'] at h1 h2 ⊢
        exact pair_lt h1 h2 (hb c hc).1 (hb c hc).2 (hb d hd).1 (hb d hd).2
      · constructor
        · intro hx
          obtain ⟨q, hq, rfl⟩ := List.mem_map.mp hx
          obtain ⟨c, hc, e⟩ := kc q (inK q hq)
          rw [e]
          exact hc
        · intro hx
          have : prC x ∈ ks.map (·.2) := by rw [k2]; exact List.mem_map.mpr ⟨x, hx, rfl⟩
          obtain ⟨k, hk, e⟩ := List.mem_map.mp this
          obtain ⟨q, hq, e'⟩ := List.mem_map.mp (all k hk)
          exact List.mem_map.mpr ⟨q, pm.mem_iff.mpr hq, by rw [e', e]; rfl⟩
    have td : TDs (upd (upd H1 s (SetTO P w s L)) p (.lst (L'.map fun q => V.ref q.1))) (L'.map fun q => V.ref q.1) ((normC cs).map condD) := by
      rw [← en]
      exact rows_tds fun q hq => by
        obtain ⟨c, hc, e⟩ := kc q (inK q hq)
        exact ⟨c, e, Same.pt s12 (k1 q (inK q hq))⟩
    exact q _ _ (.new _) (g1.trans (Ge.same (g1.ok o) s12)) ⟨p, _, rfl, g1.fresh (s1.free hp), upd_same, td.rd⟩ h1⟩
/-! ### len(set(ints)) -/
abbrev fmI (ns : List Int) (i : Nat) : List Int := PyProof.Rows.firstMet (fun i => ns.getD i 0) i
def dedI (ns : List Int) : Nat := (fmI ns ns.length).length
theorem firstMet_full (ns : List Int) : ∀ i, i ≤ ns.length → (fmI ns i).length ≤ i ∧ ((fmI ns i).length = i → fmI ns i = ns.take i ∧ (ns.take i).Nodup)
  | 0, _ => ⟨Nat.le_refl _, fun _ => ⟨rfl, List.nodup_nil⟩⟩
  | i + 1, h => by
    obtain ⟨l, k⟩ := firstMet_full ns i (by omega)
    have e : ns.getD i 0 = ns[i] := by rw [List.getD_eq_getElem?_getD, List.getElem?_eq_getElem (by omega)]; rfl
    have st : fmI ns (i + 1) = if (fmI ns i).any (· == ns.getD i 0) = true then fmI ns i else fmI ns i ++ [ns.getD i 0] := PyProof.Rows.firstMet_succ ..
    rw [st]
    split
    · rename_i hy
      exact ⟨by omega, fun z => by omega⟩
    · rename_i hn
      refine ⟨by rw [List.length_append]; show _ + 1 ≤ _; omega, fun z => ?_⟩
      rw [List.length_append] at z
      have z : (fmI ns i).length + 1 = i + 1 := z
      obtain ⟨e1, nd⟩ := k (by omega)
      rw [e1] at hn ⊢
      have tk : ns.take (i + 1) = ns.take i ++ [ns[i]] := by rw [List.take_succ, List.getElem?_eq_getElem (by omega)]; rfl
      rw [tk, e]
      refine ⟨rfl, ?_⟩
      rw [List.nodup_append]
      refine ⟨nd, List.nodup_cons.mpr ⟨fun z => (nomatch z), List.nodup_nil⟩, fun a ha b hb => ?_⟩
      rw [List.mem_singleton.mp hb]
      intro q
      exact hn (List.any_eq_true.mpr ⟨a, ha, by rw [e]; exact beq_iff_eq.mpr q⟩)
theorem dedI_lt (ns : List Int) : decide ((dedI ns : Int) < (ns.length : Int)) = !decide ns.Nodup := by
  obtain ⟨l, k⟩ := firstMet_full ns ns.length (Nat.le_refl _)
  by_cases h : ns.Nodup
  · have : dedI ns = ns.length := by
      unfold dedI
      rw [show fmI ns ns.length = ns.take ns.length from L2.firstMet_nodup ns h ns.length (Nat.le_refl _), List.take_length]
    rw [this, decide_eq_true h]
    simp
  · have : dedI ns < ns.length := by
      unfold dedI
      by_cases e : (fmI ns ns.length).length = ns.length
      · have := (k e).2
        rw [List.take_length] at this
        exact absurd this h
      · omega
    rw [decide_eq_false h, decide_eq_true (by omega)]
    rfl
def tLenSetE (K : PySem.W.Frag) (ta : TE) : TE := fun σ H Q => ta σ H fun x H1 => ∃ (l : Addr) (ns : List Int), x = V.ref l ∧ SqL K H1 l (ns.map V.int) ∧ ns.length < 64 ∧ Q (.int (dedI ns : Nat)) H1
theorem pe_lenSetE {X : Cx} {a : Expr} {ta : TE} {p p2 q pos : Pos} (calm : X.calm = true) (hg : Gl X "len") (hm : X.mg "len" = none) (hg2 : Gl X "set") (hm2 : X.mg "set" = none) (ha : PE X a ta)
    (na : starEach [a] X.env = (false, eval a X.env) :: starEach [] X.env := by rfl) : PE X (.Call (.Name "len" p) [.Call (.Name "set" p2) [a] [] q] [] pos) (tLenSetE X.K ta) := by
  refine ⟨fun pn st σ H Q inv need => Call_ (ld_blt inv hg hm PySem.boot_len (PyProof.Rows.callWith_builtin1 (PyProof.Rows.args_cons (Call_ (ld_blt inv hg2 hm2 PyProof.Rows.boot_set (PyProof.Rows.callWith_type1 (PyProof.Rows.args_cons (thn (ha.run pn st σ H _ inv need) fun v s1 got => PyProof.Rows.args_nil ?_) na) na rfl))) rfl) rfl rfl))⟩
  obtain ⟨x, H1, inv1, r1, l, ns, rfl, hl, few, q1⟩ := got
  cases r1
  obtain ⟨its, r, pl, z⟩ := inv1.list hl
  have len : its.toArray.size = ns.length := by rw [List.size_toArray, ← r.length, List.length_map]
  refine call_set_list (inv1.ok.hd calm) pl.isList (ns := ns) (by simpa using r.ints) (by unfold scanBound; omega) fun h' tk hS hk => PyProof.Rows.args_nil ?_
  rw [len] at hS
  obtain ⟨o, es, ep, t, ho, hex, hd, _, _, _, hf, hn⟩ := hS
  have inv2 : Inv X pn σ H1 { s1 with heap := h', toks := tk } := inv1.kept fun b o e => hk b o (Heap.lt_size e) e
  have lim := (firstMet_full ns ns.length (Nat.le_refl _)).1
  have lim : (firstMet (fun i => ns.getD i 0) ns.length).length ≤ ns.length := lim
  exact call_len_set ho hex hd hf (by rw [hn]; omega) ⟨.int (dedI ns : Nat), H1, inv2.tok _, ⟨_, by rw [hn]; rfl⟩, q1⟩
theorem rds_ints {N : Addr → Prop} {H : Hp} : ∀ {ns : List Int} {xs : List V}, RDs N H xs (ns.map PyData.int) → xs = ns.map V.int
  | [], _, h => by cases h; rfl
  | n :: ns, _, h => by
    rw [List.map_cons] at h
    cases h with
    | cons h1 h2 => cases h1; rw [rds_ints h2]; rfl
def dLenSetI (Ta : DTE) : DTE := fun env Qd => Ta env fun r => ∃ ns : List Int, r.data = some (.list (ns.map PyData.int)) ∧ ns.length < 64 ∧ Qd (.dat (.int (dedI ns : Nat)))
instance {K : PySem.W.Frag} {ta : TE} {Ta : DTE} [DL ta Ta] : DL (tLenSetE K ta) (dLenSetI Ta) := ⟨fun z σ env Q Qd o e h q =>
  DL.run (t := ta) z σ env _ _ o e h fun v H1 r g1 r1 h1 => by
    obtain ⟨ns, hd, few, h1⟩ := h1
    obtain ⟨a, xs, rfl, ha, rs⟩ := r1.items hd
    obtain rfl := rds_ints rs
    exact ⟨a, ns, rfl, SqL.of ha, few, q _ H1 (.dat (.int _)) g1 (.int _) h1⟩⟩
end Cr

namespace Cr
open PySem PySem.Spec PyProof.Rows L2
variable [Tbl]

/-! ### rules that oppose one another, rules that settle: the mathematics -/
def strB (a b : Case) : Bool := decide (a.length < b.length) && inB a b
def meetB (a b : Case) : Bool := a.all fun c => b.all fun d => (!decide (c.1 = d.1)) || decide (c.2 = d.2)
def togC (a b : Case) : Case := normC (a ++ b)
def oppB (r s : Rule) : Bool := !(decide (r.2 = s.2) || !meetB r.1 s.1) && (!strB r.1 s.1 && !strB s.1 r.1)
def setlB (c a b : Case) : Bool := (strB a c || strB b c) && inB c (togC a b)
theorem inB_iff {a b : Case} : inB a b = true ↔ ∀ c ∈ a, c ∈ b := by
  unfold inB
  rw [List.all_eq_true]
  exact ⟨fun h c hc => of_decide_eq_true (h c hc), fun h c hc => decide_eq_true (h c hc)⟩
theorem meetB_iff {a b : Case} : meetB a b = true ↔ ∀ c ∈ a, ∀ d ∈ b, c.1 = d.1 → c.2 = d.2 := by
  unfold meetB
  rw [List.all_eq_true]
  constructor
  · intro h c hc d hd e
    have := List.all_eq_true.mp (h c hc) d hd
    simpa [e] using this
  · intro h c hc
    rw [List.all_eq_true]
    intro d hd
    by_cases e : c.1 = d.1
    · simp [e, h c hc d hd e]
    · simp [e]
theorem case_inj {a : Case} (ok : CaseOk a) {c d : Cond} (hc : c ∈ a) (hd : d ∈ a) (e : c.1 = d.1) : c = d := by
  obtain ⟨i, hi, rfl⟩ := List.getElem_of_mem hc
  obtain ⟨j, hj, rfl⟩ := List.getElem_of_mem hd
  have p := List.pairwise_iff_getElem.mp ok.asc
  rcases Nat.lt_trichotomy i j with h | h | h
  · have := p i j hi hj h; omega
  · subst h; rfl
  · have := p j i hj hi h; omega
theorem case_clt {a : Case} (ok : CaseOk a) : a.Pairwise clt := ok.asc.imp fun h => .inl h
theorem case_nd {a : Case} (ok : CaseOk a) : a.Nodup := (case_clt ok).imp fun h e => by subst e; exact clt_irr _ h
theorem tog_mem {a b : Case} {c : Cond} : c ∈ togC a b ↔ c ∈ a ∨ c ∈ b := by unfold togC; rw [normC_mem, List.mem_append]
theorem tog_inj {a b : Case} (ha : CaseOk a) (hb : CaseOk b) (m : meetB a b = true) {c d : Cond} (hc : c ∈ togC a b) (hd : d ∈ togC a b) (e : c.1 = d.1) : c = d := by
  rw [meetB_iff] at m
  rcases tog_mem.mp hc with hc | hc <;> rcases tog_mem.mp hd with hd | hd
  · exact case_inj ha hc hd e
  · exact Prod.ext e (m c hc d hd e)
  · exact Prod.ext e (m d hd c hc e.symm).symm
  · exact case_inj hb hc hd e
theorem tog_keys {a b : Case} (ha : CaseOk a) (hb : CaseOk b) : ((togC a b).map (·.1)).Nodup ↔ meetB a b = true := by
  constructor
  · intro nd
    rw [meetB_iff]
    intro c hc d hd e
    have hc : c ∈ togC a b := tog_mem.mpr (.inl hc)
    have hd : d ∈ togC a b := tog_mem.mpr (.inr hd)
    rw [List.Nodup, List.pairwise_map] at nd
    obtain ⟨i, hi, rfl⟩ := List.getElem_of_mem hc
    obtain ⟨j, hj, rfl⟩ := List.getElem_of_mem hd
    have p := List.pairwise_iff_getElem.mp nd
    rcases Nat.lt_trichotomy i j with h | h | h
    · exact absurd e (p i j hi hj h)
    · subst h; rfl
    · exact absurd e.symm (p j i hj hi h)
  · intro m
    rw [List.Nodup, List.pairwise_map]
    refine List.Pairwise.imp_of_mem (fun {c d} hc hd h e => ?_) (normC_lt (a ++ b))
    have := tog_inj ha hb m hc hd e
    subst this
    exact clt_irr _ h
theorem tog_ok {a b : Case} (ha : CaseOk a) (hb : CaseOk b) (m : meetB a b = true) : CaseOk (togC a b) := by
  refine ⟨fun x hx => (tog_mem.mp hx).elim (ha.each x) (hb.each x), List.Pairwise.imp_of_mem (fun {c d} hc hd h => ?_) (normC_lt (a ++ b))⟩
  rcases h with h | ⟨h, h'⟩
  · exact h
  · have := tog_inj ha hb m hc hd h
    subst this
    omega
theorem nd_len {α : Type} [DecidableEq α] : ∀ {a b : List α}, a.Nodup → (∀ x ∈ a, x ∈ b) → a.length ≤ b.length
  | [], _, _, _ => Nat.zero_le _
  | x :: a, b, nd, h => by
    obtain ⟨n1, n2⟩ := List.nodup_cons.mp nd
    have hx := h x List.mem_cons_self
    have := nd_len (a := a) (b := b.erase x) n2 fun y hy => (List.mem_erase_of_ne (fun e => n1 (by rw [← e]; exact hy))).mpr (h y (List.mem_cons_of_mem _ hy))
    rw [List.length_erase_of_mem hx] at this
    have := List.length_pos_of_mem hx
    rw [List.length_cons]
    omega
theorem nd_all {α : Type} [DecidableEq α] {a b : List α} (nd : a.Nodup) (h : ∀ x ∈ a, x ∈ b) (l : b.length ≤ a.length) {y : α} (hy : y ∈ b) : y ∈ a := by
  by_cases e : y ∈ a
  · exact e
  · have := nd_len (a := a) (b := b.erase y) nd fun x hx => (List.mem_erase_of_ne (fun q => e (by rw [← q]; exact hx))).mpr (h x hx)
    rw [List.length_erase_of_mem hy] at this
    have := List.length_pos_of_mem hy
    omega
theorem sub_len {a b : Case} (na : a.Nodup) (h : inB a b = true) : a.length ≤ b.length := nd_len na (inB_iff.mp h)
theorem sub_eq {a b : Case} (ha : CaseOk a) (hb : CaseOk b) (h : inB a b = true) (l : b.length ≤ a.length) : a = b :=
  sorted_uniq clt_irr clt_asy (case_clt ha) (case_clt hb) fun x => ⟨inB_iff.mp h x, nd_all (case_nd ha) (inB_iff.mp h) l⟩
/-- the law's way to opposed rules -/
def lawOppB (r s : Rule) : Bool := if (decide (r.2 = s.2) || !meetB r.1 s.1) = true then false else if (inB s.1 r.1 || inB r.1 s.1) = true then decide (r.1.length = s.1.length) else true
theorem law_opp {r s : Rule} (hr : CaseOk r.1) (hs : CaseOk s.1) : lawOppB r s = oppB r s := by
  unfold lawOppB oppB
  by_cases h : (decide (r.2 = s.2) || !meetB r.1 s.1) = true
  · rw [if_pos h, h]; rfl
  · rw [if_neg h]
    have h' : (decide (r.2 = s.2) || !meetB r.1 s.1) = false := by simpa using h
    rw [h']
    show _ = (!strB r.1 s.1 && !strB s.1 r.1)
    unfold strB
    by_cases h1 : inB r.1 s.1 = true
    · have l1 := sub_len (case_nd hr) h1
      rw [if_pos (by rw [h1, Bool.or_true]), h1]
      by_cases e : r.1.length = s.1.length
      · simp [e]
      · have : r.1.length < s.1.length := by omega
        simp [e, this]
    · have h1' : inB r.1 s.1 = false := by simpa using h1
      by_cases h2 : inB s.1 r.1 = true
      · have l2 := sub_len (case_nd hs) h2
        rw [if_pos (by rw [h2, Bool.true_or]), h1', h2]
        by_cases e : r.1.length = s.1.length
        · simp [e]
        · have : s.1.length < r.1.length := by omega
          simp [e, this]
      · have h2' : inB s.1 r.1 = false := by simpa using h2
        rw [h1', h2']
        simp
/-! by places -/
def oppAt (rs : List Rule) (i j : Nat) : Bool := match rs[i]?, rs[j]? with
  | some r, some s => oppB r s
  | _, _ => false
def setlAt (rs : List Rule) (i j k : Nat) : Bool := match rs[k]?, rs[i]?, rs[j]? with
  | some c, some r, some s => setlB c.1 r.1 s.1
  | _, _, _ => false
def inner (n i : Nat) : List Nat := (List.range (n - (i + 1))).map fun k => i + 1 + k
abbrev natC (i j : Nat) : Cond := ((i : Int), (j : Int))
def pairsN (rs : List Rule) : List (Nat × Nat) := (List.range rs.length).flatMap fun i => ((inner rs.length i).filter (oppAt rs i)).map fun j => (i, j)
def pairsC (rs : List Rule) : List Cond := (pairsN rs).map fun p => natC p.1 p.2
def numsN (rs : List Rule) (i j : Nat) : List Nat := (List.range rs.length).filter (setlAt rs i j)
def setdB (rs : List Rule) : Bool := (pairsN rs).all fun p => decide (0 < (numsN rs p.1 p.2).length)
def tornO (rs : List Rule) : Option (Nat × Nat) := (pairsN rs).find? fun p => (numsN rs p.1 p.2).isEmpty
theorem inner_mem {n i j : Nat} : j ∈ inner n i ↔ i < j ∧ j < n := by
  unfold inner
  rw [List.mem_map]
  constructor
  · rintro ⟨k, hk, rfl⟩
    rw [List.mem_range] at hk
    omega
  · rintro ⟨h1, h2⟩
    exact ⟨j - (i + 1), by rw [List.mem_range]; omega, by omega⟩
theorem pairs_mem {rs : List Rule} {i j : Nat} : (i, j) ∈ pairsN rs ↔ i < j ∧ j < rs.length ∧ oppAt rs i j = true := by
  unfold pairsN
  rw [List.mem_flatMap]
  constructor
  · rintro ⟨k, hk, h⟩
    obtain ⟨m, hm, e⟩ := List.mem_map.mp h
    cases e
    obtain ⟨h1, h2⟩ := List.mem_filter.mp hm
    obtain ⟨h3, h4⟩ := inner_mem.mp h1
    exact ⟨h3, h4, h2⟩
  · rintro ⟨h1, h2, h3⟩
    exact ⟨i, by rw [List.mem_range]; omega, List.mem_map.mpr ⟨j, List.mem_filter.mpr ⟨inner_mem.mpr ⟨h1, h2⟩, h3⟩, rfl⟩⟩
theorem opp_some {rs : List Rule} {i j : Nat} (h : oppAt rs i j = true) : ∃ r s, rs[i]? = some r ∧ rs[j]? = some s ∧ oppB r s = true := by
  unfold oppAt at h
  split at h
  · rename_i r s h1 h2
    exact ⟨r, s, h1, h2, h⟩
  · cases h
theorem pairsC_lt (rs : List Rule) : (pairsC rs).Pairwise clt := by
  unfold pairsC pairsN
  rw [List.pairwise_map, List.pairwise_flatMap]
  refine ⟨fun i hi => ?_, ?_⟩
  · rw [List.pairwise_map]
    refine List.Pairwise.filter _ ?_
    unfold inner
    rw [List.pairwise_map]
    exact List.pairwise_lt_range.imp fun {a b} h => .inr ⟨rfl, by show ((i + 1 + a : Nat) : Int) < ((i + 1 + b : Nat) : Int); omega⟩
  · refine List.pairwise_lt_range.imp fun {a b} h => ?_
    intro x hx y hy
    obtain ⟨m, _, rfl⟩ := List.mem_map.mp hx
    obtain ⟨k, _, rfl⟩ := List.mem_map.mp hy
    exact .inl (by show (a : Int) < (b : Int); omega)
theorem settled_torn (rs : List Rule) : setdB rs = (tornO rs).isNone := by
  unfold setdB tornO
  cases e : (pairsN rs).find? fun p => (numsN rs p.1 p.2).isEmpty with
  | none =>
    rw [List.find?_eq_none] at e
    show _ = true
    rw [List.all_eq_true]
    intro p hp
    have := e p hp
    rw [decide_eq_true_eq]
    cases h : numsN rs p.1 p.2 with
    | nil => rw [h] at this; exact absurd rfl this
    | cons _ _ => exact Nat.succ_pos _
  | some p =>
    have h1 := List.find?_some e
    have h2 := List.mem_of_find?_eq_some e
    show _ = false
    rw [List.all_eq_false]
    refine ⟨p, h2, ?_⟩
    have h1 : (numsN rs p.1 p.2).isEmpty = true := h1
    rw [List.isEmpty_iff] at h1
    rw [h1]
    simp
theorem few_settled {rs : List Rule} (h : rs.length ≤ 1) : setdB rs = true := by
  unfold setdB
  rw [List.all_eq_true]
  rintro ⟨i, j⟩ hp
  obtain ⟨h1, h2, _⟩ := pairs_mem.mp hp
  omega
/-- a rule for both together is no rule of the list, where none settles the two -/
theorem torn_new {rs : List Rule} (ok : ∀ r ∈ rs, CaseOk r.1) {i j : Nat} (ht : tornO rs = some (i, j)) {r s : Rule} (hr : rs[i]? = some r) (hs : rs[j]? = some s) (ne : r.1 ≠ s.1) (x : Int) : (togC r.1 s.1, x) ∉ rs := by
  intro hm
  have h1 := List.find?_some ht
  have h2 := List.mem_of_find?_eq_some ht
  obtain ⟨_, _, ho⟩ := pairs_mem.mp h2
  obtain ⟨r', s', e1, e2, ho⟩ := opp_some ho
  rw [hr] at e1; cases e1
  rw [hs] at e2; cases e2
  have okr := ok r (List.mem_of_getElem? hr)
  have oks := ok s (List.mem_of_getElem? hs)
  unfold oppB at ho
  rw [Bool.and_eq_true, Bool.and_eq_true, Bool.not_eq_true', Bool.not_eq_true', Bool.not_eq_true'] at ho
  obtain ⟨ho, n1, n2⟩ := ho
  have m : meetB r.1 s.1 = true := by
    rw [Bool.or_eq_false_iff] at ho
    simpa using ho.2
  have okt := tog_ok okr oks m
  have ir : inB r.1 (togC r.1 s.1) = true := inB_iff.mpr fun c hc => tog_mem.mpr (.inl hc)
  have is' : inB s.1 (togC r.1 s.1) = true := inB_iff.mpr fun c hc => tog_mem.mpr (.inr hc)
  obtain ⟨k, hk, ek⟩ := List.getElem_of_mem hm
  have hk' : rs[k]? = some (togC r.1 s.1, x) := by rw [List.getElem?_eq_getElem hk, ek]
  have st : strB r.1 (togC r.1 s.1) = true ∨ strB s.1 (togC r.1 s.1) = true := by
    by_cases l : r.1.length < (togC r.1 s.1).length
    · exact .inl (by unfold strB; rw [ir, decide_eq_true l]; rfl)
    · have e := sub_eq okr okt ir (by omega)
      rw [← e] at is'
      have l2 := sub_len (case_nd oks) is'
      by_cases l3 : s.1.length < r.1.length
      · exfalso
        have : strB s.1 r.1 = true := by unfold strB; rw [is', decide_eq_true l3]; rfl
        rw [this] at n2
        cases n2
      · exact absurd (sub_eq oks okr is' (by omega)).symm ne
  have hset : setlAt rs i j k = true := by
    unfold setlAt
    rw [hk', hr, hs]
    show setlB (togC r.1 s.1) r.1 s.1 = true
    unfold setlB
    rw [Bool.and_eq_true, Bool.or_eq_true]
    exact ⟨st, inB_iff.mpr fun c hc => hc⟩
  have : k ∈ numsN rs i j := List.mem_filter.mpr ⟨List.mem_range.mpr hk, hset⟩
  have h1 : (numsN rs i j).isEmpty = true := h1
  rw [List.isEmpty_iff] at h1
  rw [h1] at this
  cases this
end Cr

set_option synthInstance.maxSize 4000
set_option synthInstance.maxHeartbeats 1000000
namespace Cr
open PySem PySem.Spec PyProof.Rows L2
variable [Tbl]
theorem case_len {c : Case} (h : CaseOk c) : c.length ≤ 1000 := by have := h.len; omega
theorem oIx_at {ds : List PyData} {i : Nat} {d : PyData} {Qd : R → Prop} (h : ds[i]? = some d) (q : Qd (.dat d)) : oIx true (.dat (.tuple ds)) (.dat (.int (i : Nat))) Qd := by
  have e : atI ds (i : Int) = some d := by
    have l : i < ds.length := (List.getElem?_eq_some_iff.mp h).1
    have k : ixN ds.length (i : Int) = some i := by
      unfold ixN
      rw [if_pos (by omega)]
      first
        | (rw [if_pos (by omega)]; simp)
        | simp [l]
    unfold atI
    rw [k]
    exact h
  unfold oIx
  simp only [R.data]
  rw [e]
  exact q
theorem dIx_at {env : DEnv} {i j n : Nat} {ds : List PyData} {d : PyData} {Qd : R → Prop} (h0 : env[i]? = some (some (.dat (.tuple ds)))) (h1 : env[j]? = some (some (.dat (.int (n : Nat))))) (h : ds[n]? = some d) (q : Qd (.dat d)) : dOp (oIx true) (dVar i) (dVar j) env Qd := by
  unfold dOp dVar
  rw [h0, h1]
  exact oIx_at h q
theorem rangeD_map (lo : Int) (n : Nat) : rangeD lo n = (List.range n).map fun (k : Nat) => PyData.int (lo + (k : Int)) := rfl
theorem rules_at {rs : List Rule} {i : Nat} {r : Rule} (h : rs[i]? = some r) : (rs.map ruleD)[i]? = some (ruleD r) := by rw [List.getElem?_map, h]; rfl
theorem dCase_at {env : DEnv} {i j n : Nat} {rs : List Rule} {r : Rule} {Qd : R → Prop} (h0 : env[i]? = some (some (.dat (.tuple (rs.map ruleD))))) (h1 : env[j]? = some (some (.dat (.int (n : Nat))))) (h : rs[n]? = some r) (q : Qd (.dat (caseD r.1))) : dOp (oIx true) (dOp (oIx true) (dVar i) (dVar j)) (dC (V.int 0)) env Qd := by
  show dOp (oIx true) (dVar i) (dVar j) env fun x => dC (V.int 0) env fun y => oIx true x y Qd
  exact dIx_at h0 h1 (rules_at h) q
section
variable {P : Program} {w : World} {K : PySem.W.Frag} {mg : Str → Option Value} {base : Heap} {f : Addr} {fd : FuncData}
abbrev qWithin : Sp := spD (fun a : Case × Case => a.1.length ≤ 1000) (fun a => [.dat (caseD a.1), .dat (caseD a.2)]) (fun a r => r = .dat (.bool (inB a.1 a.2)))
theorem toWithin (vs : List V) (H : Hp) (Q : VK) (E : XK) (h : qWithin vs H Q E) : spInside vs H Q E := by
  obtain ⟨⟨cs, ds⟩, S, ok, hS, hv, q⟩ := h
  obtain ⟨v1, v2, rfl, h1, h2⟩ := hv.two
  have t1 := sv_td h1 (case_plain cs)
  have t2 := sv_td h2 (case_plain ds)
  obtain ⟨x, rfl⟩ := td_ref t1
  obtain ⟨y, rfl⟩ := td_ref t2
  exact ⟨x, y, cs, ds, rfl, t1, t2, ok, fun H' sm => q _ H' (.dat (.bool _)) (sameGe hS sm) (.bl _) rfl⟩
abbrev qStr : Sp := spD (fun a : Case × Case => a.1.length ≤ 1000) (fun a => [.dat (caseD a.1), .dat (caseD a.2)]) (fun a r => r = .dat (.bool (strB a.1 a.2)))
abbrev n_str : List Str := ["inner", "outer"]
theorem sc_str : FnScope n_str ["inner", "outer"] (defScope s_lies_strictly_within) := ⟨rfl, rfl, rfl, by decide +kernel, rfl, by decide +kernel, by decide +kernel⟩
theorem ok_str (F : Fun K "lies_strictly_within" "lies_strictly_within" s_lies_strictly_within f fd) (B : Blt mg) (hWithin : Has P w K mg base 1 "lies_within" ["inner", "outer"] qWithin) : FnOk P w K mg base CX0 2 f fd ["inner", "outer"] qStr := by
  refine fnD F sc_str (fun _ => rfl) fun cdv A outer s H E hr => ⟨_, _, (pss_one (ps_ret (pe_and (pe_cmpR op_lt (pe_callB (show CallR _ (.builtin "len") (rLenE K) from call_len_seq) (by rfl) B.len PySem.boot_len (pa_cons (pv 0) pa_nil)) (pe_callB (show CallR _ (.builtin "len") (rLenE K) from call_len_seq) (by rfl) B.len PySem.boot_len (pa_cons (pv 1) pa_nil)) (nomark _)) (pe_one (pe_callH hWithin (hr.mono (by decide)) rfl (pa_cons (pv 0) (pa_cons (pv 1) pa_nil))))))), inferInstance, fun a ha => ?_⟩
  obtain ⟨a, b⟩ := a
  show if decide ((((a.map condD).length : Nat) : Int) < (((b.map condD).length : Nat) : Int)) = true then _ else _
  rw [List.length_map, List.length_map]
  have e : decide (((a.length : Nat) : Int) < ((b.length : Nat) : Int)) = decide (a.length < b.length) := by
    by_cases h : a.length < b.length
    · rw [decide_eq_true h, decide_eq_true (by omega)]
    · rw [decide_eq_false h, decide_eq_false (by omega)]
  rw [e]
  split
  · rename_i h
    refine ⟨(a, b), ha, ⟨rfl, rfl, trivial⟩, fun x hx => ?_⟩
    subst hx
    refine ⟨_, ⟨rfl, rfl⟩, ?_⟩
    show R.dat (.bool (inB a b)) = R.dat (.bool (strB a b))
    unfold strB
    rw [h, Bool.true_and]
  · rename_i h
    refine ⟨_, ⟨rfl, rfl⟩, ?_⟩
    show R.dat (.bool false) = R.dat (.bool (strB a b))
    unfold strB
    rw [show decide (a.length < b.length) = false by simpa using h, Bool.false_and]
abbrev qMeet : Sp := spD (fun a : Case × Case => CaseOk a.1 ∧ CaseOk a.2) (fun a => [.dat (caseD a.1), .dat (caseD a.2)]) (fun a r => r = .dat (.bool (meetB a.1 a.2)))
def meet1 (c d : Cond) : Bool := (!decide (c.1 = d.1)) || decide (c.2 = d.2)
abbrev n_meet : List Str := ["one", "other", "named", "found", "attribute", "value"]
theorem sc_meet : FnScope n_meet ["one", "other"] (defScope s_meet) := ⟨rfl, rfl, rfl, by decide +kernel, rfl, by decide +kernel, by decide +kernel⟩
theorem ok_meet (F : Fun K "meet" "meet" s_meet f fd) (B : Blt mg) : FnOk P w K mg base CX0 1 f fd ["one", "other"] qMeet := by
  refine fnD F sc_meet (fun _ => rfl) fun cdv A outer s H E hr => ⟨_, _, (pss_one (ps_ret (pe_callB (show CallR _ (.builtin "all") (rAll K) from cr_all rfl) (by rfl) B.all (by decide +kernel) (pa_cons (pe_lc2 (own := [("named", 2), ("found", 3), ("attribute", 4), ("value", 5)]) (vs1 := [4, 5]) (g := (gTup K 2 (gCons (gName 2) (gCons (gName 3) gNil)))) (g1 := (gTup K 2 (gCons (gName 4) (gCons (gName 5) gNil)))) (tt := tYes) (tt1 := tYes) rfl sc_meet.nd (pi_tup (pv 0)) (blkOk_by (own := [("named", 2), ("found", 3), ("attribute", 4), ("value", 5)]) (N := n_meet) (sc := defScope s_meet) (by decide +kernel)) (by decide) (fun _ _ _ _ _ => (pg_tup (n := 2) rfl (pgs_cons (pg_name (i := 2) sc_meet.nd rfl (Or.inl rfl)) (pgs_cons (pg_name (i := 3) sc_meet.nd rfl (Or.inl rfl)) pgs_nil)))) (fun _ _ _ _ _ => pts_nil) (fun _ _ _ _ _ => (show PI _ _ _ (iTup K _) from pi_tup (pv 1))) (fun _ _ _ _ _ => (pg_tup (n := 2) rfl (pgs_cons (pg_name (i := 4) sc_meet.nd rfl (Or.inl rfl)) (pgs_cons (pg_name (i := 5) sc_meet.nd rfl (Or.inl rfl)) pgs_nil)))) (fun _ _ _ _ _ => pts_nil) (fun _ _ _ _ _ => (pe_or (pe_cmpR (show OpR _ (compareOp .NotEq) (rNeD K) from op_neD hr.units) (pv 2) (pv 4) (nomark _)) (pe_one (pe_cmpR (show OpR _ (compareOp .Eq) (rEqD K) from op_eqD hr.units) (pv 3) (pv 5) (nomark _)))))) pa_nil)))), inferInstance, fun a ha => ?_⟩
  obtain ⟨a, b⟩ := a
  obtain ⟨oka, okb⟩ := ha
  have la := oka.len
  have lb := okb.len
  dsimp only at la lb
  refine dLc2_by (ds := a.map condD) (st := true) (fun i acc => acc = ((a.take i).flatMap fun c => b.map (meet1 c)).map PyData.bool ∧ acc.length ≤ 5 * i) (fun q h => h) ⟨rfl, Nat.le_refl _⟩ (fun i d acc hd hi => ?_) fun acc hi => ?_
  · obtain ⟨c, hc, rfl⟩ := map_get hd
    obtain ⟨hi, hl⟩ := hi
    have il : i < a.length := (List.getElem?_eq_some_iff.mp hc).1
    refine ⟨rfl, rfl, ?_⟩
    refine inner_by (bs := b) (enc1 := condD) (fun _ => true) (fun d => .bool (meet1 c d)) (by omega) (fun d hd k hk => ?_) ?_
    · refine ⟨rfl, rfl, rfl, ?_⟩
      show if (!PyData.eqv (.int c.1) (.int d.1)) = true then _ else _
      have e : PyData.eqv (.int c.1) (.int d.1) = decide (c.1 = d.1) := by simp only [PyData.eqv]; by_cases h : c.1 = d.1 <;> simp [h]
      rw [e]
      by_cases h : c.1 = d.1
      · rw [decide_eq_true h]
        refine no_if rfl ⟨rfl, rfl, ?_⟩
        have e2 : PyData.eqv (.int c.2) (.int d.2) = meet1 c d := by
          unfold meet1
          rw [decide_eq_true h]
          simp only [PyData.eqv]
          by_cases h : c.2 = d.2 <;> simp [h]
        show k (some (.bool (PyData.eqv (.int c.2) (.int d.2))))
        rw [e2]
        exact hk
      · rw [decide_eq_false h]
        have e2 : meet1 c d = true := by unfold meet1; rw [decide_eq_false h]; rfl
        rw [e2] at hk
        exact hk
    · rw [List.filter_eq_self.mpr fun _ _ => rfl]
      refine ⟨?_, by rw [List.length_append, List.length_map]; omega⟩
      rw [take_snoc hc, List.flatMap_append, List.map_append, hi]
      simp [List.map_map, Function.comp_def]
  · obtain ⟨hi, _⟩ := hi
    rw [List.length_map, List.take_length] at hi
    subst hi
    refine ⟨_, boolsD_map id _, _, ⟨rfl, rfl⟩, ?_⟩
    show R.dat (.bool (((a.flatMap fun c => b.map (meet1 c)).map id).all id)) = R.dat (.bool (meetB a b))
    unfold meetB
    rw [List.map_id, List.all_flatMap]
    congr 2
    congr 1
    funext c
    rw [List.all_map]
    rfl
abbrev qTog : Sp := spD (fun a : Case × Case => CaseOk a.1 ∧ CaseOk a.2) (fun a => [.dat (caseD a.1), .dat (caseD a.2)]) (fun a r => r = .dat (caseD (togC a.1 a.2)))
theorem both_small {a b : Case} (ha : CaseOk a) (hb : CaseOk b) : ∀ c ∈ a ++ b, (0 ≤ c.1 ∧ c.1 < 64) ∧ 0 ≤ c.2 ∧ c.2 < 64 := fun c hc => by
  have h : 0 ≤ c.1 ∧ c.1 ≤ 4 ∧ 0 ≤ c.2 ∧ c.2 ≤ 9 := (List.mem_append.mp hc).elim (ha.each c) (hb.each c)
  omega
abbrev n_tog : List Str := ["one", "other"]
theorem sc_tog : FnScope n_tog ["one", "other"] (defScope s_together) := ⟨rfl, rfl, rfl, by decide +kernel, rfl, by decide +kernel, by decide +kernel⟩
theorem ok_tog (F : Fun K "together" "together" s_together f fd) (B : Blt mg) : FnOk P w K mg base CX0 1 f fd ["one", "other"] qTog := by
  refine fnD F sc_tog (fun _ => rfl) fun cdv A outer s H E hr => ⟨_, _, (pss_one (ps_ret (pe_callTy (show CallR _ (.type "tuple") (rTupE K) from call_tupF) (by rfl) B.tuple (by decide +kernel) (pa_cons (pe_callB (show CallR _ (.builtin "sorted") (rSortedT K P w) from cr_sortedT rfl) (by rfl) B.sorted (by decide +kernel) (pa_cons (pe_callTy (show CallR _ (.type "set") (rSetOfTT K P w) from cr_setOfTT rfl hr.units) (by rfl) B.set (by decide +kernel) (pa_cons (pe_op (show OpR _ (binaryOp .Add) (rCatF K) from op_catF) (pv 0) (pv 1)) pa_nil)) pa_nil)) pa_nil)))), inferInstance, fun a ha => ?_⟩
  obtain ⟨a, b⟩ := a
  obtain ⟨oka, okb⟩ := ha
  have la := oka.len
  have lb := okb.len
  dsimp only at la lb
  refine ⟨by show (a.map condD).length + (b.map condD).length ≤ 1000000; rw [List.length_map, List.length_map]; omega, a ++ b, ?_, by rw [List.length_append]; omega, both_small oka okb, ?_⟩
  · show some (PyData.tuple (a.map condD ++ b.map condD)) = some (PyData.tuple ((a ++ b).map condD))
    rw [List.map_append]
  · exact ⟨_, ⟨noLs_map cond_noL _, rfl⟩, rfl⟩
abbrev qOpp : Sp := spD (fun a : Rule × Rule => CaseOk a.1.1 ∧ CaseOk a.2.1) (fun a => [.dat (ruleD a.1), .dat (ruleD a.2)]) (fun a r => r = .dat (.bool (oppB a.1 a.2)))
theorem eqv_int (a b : Int) : PyData.eqv (.int a) (.int b) = decide (a = b) := by simp only [PyData.eqv]; by_cases h : a = b <;> simp [h]
end
end Cr

set_option synthInstance.maxSize 4000
set_option synthInstance.maxHeartbeats 1000000
namespace Cr
open PySem PySem.Spec PyProof.Rows L2
variable [Tbl]
theorem sum_add_map_le {α : Type} {l : List α} {f : α → Nat} {n : Nat} (h : ∀ a ∈ l, f a ≤ n) : (l.map f).sum ≤ l.length * n := by
  induction l with
  | nil => exact Nat.zero_le _
  | cons a l ih =>
    rw [List.map_cons, List.sum_cons, List.length_cons, Nat.succ_mul]
    have := h a List.mem_cons_self
    have := ih fun b hb => h b (List.mem_cons_of_mem _ hb)
    omega
theorem inner_len (n i : Nat) : (inner n i).length = n - (i + 1) := by unfold inner; rw [List.length_map, List.length_range]
theorem pairsN_len {rs : List Rule} (h : rs.length ≤ 30) : (pairsN rs).length ≤ 900 := by
  unfold pairsN
  rw [List.length_flatMap]
  have := sum_add_map_le (l := List.range rs.length) (f := fun i => (((inner rs.length i).filter (oppAt rs i)).map fun j => (i, j)).length) (n := 30) fun i _ => by
    rw [List.length_map]
    have := List.length_filter_le (oppAt rs i) (inner rs.length i)
    rw [inner_len] at this
    omega
  rw [List.length_range] at this
  have : rs.length * 30 ≤ 30 * 30 := Nat.mul_le_mul_right _ h
  omega
section
variable {P : Program} {w : World} {K : PySem.W.Frag} {mg : Str → Option Value} {base : Heap} {f : Addr} {fd : FuncData}
abbrev qPairs : Sp := spD (fun rs : List Rule => RulesOk 12 rs) (fun rs => [.dat (.tuple (rs.map ruleD))]) (fun rs r => r = .new ((pairsC rs).map condD))
def pairsTo (rs : List Rule) (i : Nat) : List (Nat × Nat) := (List.range i).flatMap fun i => ((inner rs.length i).filter (oppAt rs i)).map fun j => (i, j)
abbrev qSetl : Sp := spD (fun a : Case × Case × Case => CaseOk a.1 ∧ CaseOk a.2.1 ∧ CaseOk a.2.2) (fun a => [.dat (caseD a.1), .dat (caseD a.2.1), .dat (caseD a.2.2)]) (fun a r => r = .dat (.bool (setlB a.1 a.2.1 a.2.2)))
abbrev qNums : Sp := spD (fun a : List Rule × Nat × Nat => RulesOk 12 a.1 ∧ a.2.1 < a.1.length ∧ a.2.2 < a.1.length) (fun a => [.dat (.tuple (a.1.map ruleD)), .dat (.int (a.2.1 : Nat)), .dat (.int (a.2.2 : Nat))]) (fun a r => r = .new ((numsN a.1 a.2.1 a.2.2).map fun (k : Nat) => .int (k : Nat)))
abbrev qSetd : Sp := spD (fun rs : List Rule => RulesOk 12 rs) (fun rs => [.dat (.tuple (rs.map ruleD))]) (fun rs r => r = .dat (.bool (setdB rs)))
abbrev qSettled (C : Addr) : Sp := spD (fun rs : List Rule => RulesOk 12 rs) (fun rs => [.ins C rs]) (fun rs r => r = .dat (.bool (setdB rs)))
end
end Cr

set_option synthInstance.maxSize 4000
set_option synthInstance.maxHeartbeats 1000000
namespace Cr
open PySem PySem.Spec PyProof.Rows L2
variable [Tbl]
theorem case_snoc {cs : Case} (ok : CaseOk cs) {i : Nat} (hi : i < 5) {v : Int} (v0 : 0 ≤ v) (v1 : v ≤ 9) (lt : ∀ c ∈ cs, c.1 < (i : Int)) : CaseOk (cs ++ [((i : Int), v)]) := by
  refine ⟨fun x hx => ?_, List.pairwise_append.mpr ⟨ok.asc, List.pairwise_singleton _ _, fun a ha b hb => ?_⟩⟩
  · rcases List.mem_append.mp hx with h | h
    · exact ok.each x h
    · rw [List.mem_singleton.mp h]
      exact ⟨by show 0 ≤ (i : Int); omega, by show (i : Int) ≤ 4; omega, v0, v1⟩
  · rw [List.mem_singleton.mp hb]
    exact lt a ha
theorem shaped_ones {α : Type} (l : List α) : SeqAt.shaped (.list (l.map fun _ => PyData.int 1)) = true := shaped_of (by simp only [PyData.canLay0]; exact lay_all (fun x => by simp [PyData.canLay0]) l) (by have h := dep_all (f := fun _ : α => PyData.int 1) (n := 1) (fun x => by simp [PyData.depth]) l; simp only [PyData.depth]; omega)
theorem eqv_nil (l : List PyData) : PyData.eqv (.list l) (.list []) = l.isEmpty := by
  cases l <;> simp [PyData.eqv, PyData.eqvAll]
theorem none_out (cs ds : Case) : ((cs.filter fun c => decide (c ∉ ds)).map fun _ => PyData.int 1).isEmpty = inB cs ds := by
  unfold inB
  induction cs with
  | nil => rfl
  | cons c cs ih =>
    rw [List.filter_cons, List.all_cons]
    by_cases h : c ∈ ds
    · rw [if_neg (by simp [h]), ih]
      simp [h]
    · rw [if_pos (by simp [h])]
      simp [h]
theorem toChoose (vs : List V) (H : Hp) (Q : VK) (E : XK) (h : qChoose vs H Q E) : spChoose vs H Q E := by
  obtain ⟨ds, S, ⟨h0, h1, hn⟩, hS, hv, q⟩ := h
  have o : (⟨S, S, H⟩ : Zs).Ok := ⟨fun _ s => s, hS.s, fun b s => let ⟨x, y, w, e⟩ := hS.s b s; ⟨_, e⟩, hS.tb⟩
  match vs, hv with
  | [v1, v2], ⟨⟨a, e, ha⟩, h2, _⟩ =>
    subst e
    have h2 : RD S H v2 (.list ds) := h2
    cases h2 with
    | lst n hl rr =>
      have len := rr.length
      refine ⟨a, _, _, rfl, hS.s a ha, fun w => n (by rw [w]; exact ha), hl, by omega, by omega, fun H' v sb src hv => ?_⟩
      obtain ⟨d, hd, hr⟩ := rds_mem rr hv
      have g := sbGe hS ha sb src
      exact q v H' (.dat d) g (RD.free (noLs_mem hn hd) (RD.mono (g.keepN o) hr)) ⟨d, hd, rfl⟩
theorem givesp_tl : TL.tl ("gives " : Str) = [103, 105, 118, 101, 115, 32] := by decide +kernel
theorem none_tl : TL.tl ("" : Str) = [] := by decide +kernel
theorem joinL_flat : ∀ l : List (List Nat), TL.joinL [] l = l.flatten
  | [] => rfl
  | [x] => by simp [TL.joinL]
  | x :: y :: l => by
    have := joinL_flat (y :: l)
    simp only [TL.joinL, List.nil_append, List.flatten_cons] at this ⊢
    rw [this]
theorem joinL_words (g n : List Nat) : ∀ l : List (List Nat), TL.joinL [32] (l ++ [g, n]) = (l.map (· ++ [32])).flatten ++ g ++ [32] ++ n
  | [] => by simp [TL.joinL]
  | [x] => by simp [TL.joinL]
  | x :: y :: l => by
    have := joinL_words g n (y :: l)
    simp only [List.cons_append, TL.joinL, List.map_cons, List.flatten_cons] at this ⊢
    rw [this]
    simp [List.append_assoc]
theorem line6 (r : Rule) : Txt.join "" (r.1.map fun c => numS c.1 ++ "=" ++ numS c.2 ++ " ") ++ "gives " ++ numS r.2 ++ "\n" = lineS r ++ "\n" := by
  refine TL.ext_tl ?_
  rw [TL.tl_append, TL.tl_append, TL.tl_append, TL.tl_append, line_tl, TL.join_eq, TL.tl_join, none_tl, joinL_flat, givesp_tl]
  unfold wordsS
  rw [List.map_append, List.map_cons, List.map_cons, List.map_nil, joinL_words, gives_tl]
  have e : (r.1.map fun c => numS c.1 ++ "=" ++ numS c.2 ++ " ").map TL.tl = ((r.1.map condS).map TL.tl).map (· ++ [32]) := by
    rw [List.map_map, List.map_map, List.map_map]
    refine List.map_congr_left fun c _ => ?_
    show TL.tl (numS c.1 ++ "=" ++ numS c.2 ++ " ") = TL.tl (condS c) ++ [32]
    rw [TL.tl_append, sp_tl]
    rfl
  rw [e]
  simp [List.append_assoc]
theorem len_app (x y : Str) : (x ++ y : Str).length = x.length + y.length := by rw [TL.len_tl, TL.tl_append, List.length_append, ← TL.len_tl, ← TL.len_tl]
theorem oIx_new {ds : List PyData} {i : Int} {Qd : R → Prop} (h0 : 0 ≤ i) (h1 : i < ds.length) (q : ∀ d ∈ ds, Qd (.dat d)) : oIx false (.new ds) (.dat (.int i)) Qd := by
  have k : ixN ds.length i = some i.toNat := by
    unfold ixN
    rw [if_pos (by omega)]
    first
      | (rw [if_pos (by omega)]; done)
      | (simp; omega)
      | simp [h0, h1]
  have l : i.toNat < ds.length := by omega
  have e : atI ds i = some ds[i.toNat] := by
    unfold atI
    rw [k]
    exact List.getElem?_eq_getElem l
  unfold oIx
  simp only [R.data]
  rw [e]
  exact q _ (List.getElem_mem l)
theorem rules_snoc {n : Nat} {rs : List Rule} (ok : RulesOk n rs) (l : rs.length < n) {r : Rule} (hr : RuleOk r) (nr : r ∉ rs) : RulesOk n (rs ++ [r]) := by
  refine ⟨fun q hq => ?_, ?_, by rw [List.length_append]; exact l⟩
  · rcases List.mem_append.mp hq with h | h
    · exact ok.each q h
    · rw [List.mem_singleton.mp h]; exact hr
  · rw [List.nodup_append]
    refine ⟨ok.nd, List.nodup_cons.mpr ⟨fun z => (nomatch z), List.nodup_nil⟩, fun a ha b hb => ?_⟩
    rw [List.mem_singleton.mp hb]
    exact fun e => nr (by rw [← e]; exact ha)
section
variable {P : Program} {w : World} {K : PySem.W.Frag} {mg : Str → Option Value} {base : Heap} {f : Addr} {fd : FuncData}
abbrev qCase6 : Sp := spD (fun a : Int × Int => 0 < a.2 ∧ a.2 ≤ 10) (fun a => [.src, .dat (.int a.1), .dat (.int a.2)]) (fun _ r => ∃ cs, r = .dat (caseD cs) ∧ CaseOk cs)
abbrev n_case6 : List Str := ["_law_source_here", "_law_most", "_law_values", "_law_found", "_law_attribute"]
theorem sc_case6 : FnScope n_case6 ["_law_source_here", "_law_most", "_law_values"] (defScope s_law_case) := ⟨rfl, rfl, rfl, by decide +kernel, rfl, by decide +kernel, by decide +kernel⟩
theorem ok_case6 (F : Fun K "_law_case" "_law_case" s_law_case f fd) (B : Blt mg) (hDraw : Has P w K mg base 1 "_law_draw" ["_law_source_here", "_law_many"] qDraw) : FnOk P w K mg base CX0 2 f fd ["_law_source_here", "_law_most", "_law_values"] qCase6 := by
  refine fnD F sc_case6 (fun _ => rfl) fun cdv A outer s H E hr => ⟨_, _, (pss_cons (ps_set (i := 3) sc_case6.nd rfl (.inl rfl) (pe_lst pa_nil))
      (pss_cons (ps_for PassesOwn.never rfl (pi_range1 (by rfl) B.range (pa_cons pe_int pa_nil)) (pg_name (i := 4) sc_case6.nd rfl (.inl rfl))
      (pss_one (ps_if (PW.pt (pw_and (pt_cmpR op_lt (pe_callB (show CallR _ (.builtin "len") (rLenE K) from call_len_seq) (by rfl) B.len PySem.boot_len (pa_cons (pv 3) pa_nil)) (pv 1) (nomark _)) (pw_and1 (pt_cmpR op_lt (pe_callH hDraw (hr.mono (by decide)) rfl (pa_cons (pv 0) (pa_cons pe_int pa_nil))) pe_int (nomark _))))) (pss_one (ps_expr (pe_bm PySem.F.plainAttrs_list PySem.F.slot_list_append PySem.F.type_list_append mt_append (pv 3) (pa_cons (pe_tupF (pa_cons (pv 4) (pa_cons (pe_callH hDraw (hr.mono (by decide)) rfl (pa_cons (pv 0) (pa_cons (pv 2) pa_nil))) pa_nil))) pa_nil)))) pss_nil)))
      (pss_one (ps_ret (pe_callTy (show CallR _ (.type "tuple") (rTupE K) from call_tupF) (by rfl) B.tuple (by decide +kernel) (pa_cons (pv 3) pa_nil)))))), inferInstance, fun a ha => ?_⟩
  obtain ⟨m, n⟩ := a
  obtain ⟨h0, h1⟩ := ha
  dsimp only at h0 h1
  refine ⟨by show (0 : Nat) ≤ 1000000; decide, _, .inl rfl, ?_⟩
  refine ⟨⟨by decide, by decide⟩, rfl, ?_⟩
  refine loop_range (lo := 0) (n := 5) (fun i env => ∃ (a : Option SV) (cs : Case), env = [some .src, some (.dat (.int m)), some (.dat (.int n)), some (.own (cs.map condD)), a] ∧ CaseOk cs ∧ ∀ c ∈ cs, c.1 < i) ⟨_, [], rfl, CaseOk.nil, fun c hc => (nomatch hc)⟩ (fun i env' hi he => ?_) fun env' he => ?_
  · obtain ⟨a, cs, rfl, ok, lt⟩ := he
    have stay : ∀ c ∈ cs, c.1 < ((i + 1 : Nat) : Int) := fun c hc => by have := lt c hc; omega
    show if decide ((((cs.map condD).length : Nat) : Int) < m) = true then _ else _
    split
    · refine ⟨5, ⟨by decide, by decide⟩, ⟨trivial, rfl, trivial⟩, fun x hx => ?_⟩
      obtain ⟨k, rfl, k0, k1⟩ := hx
      show if decide (k < 2) = true then _ else _
      split
      · refine ⟨n, ⟨h0, by omega⟩, ⟨trivial, rfl, trivial⟩, fun x hx => ?_⟩
        obtain ⟨v, rfl, v0, v1⟩ := hx
        refine ⟨by show (2 : Nat) ≤ 1000000; decide, ?_, some (.dat (.int (0 + (i : Int)))), cs ++ [((i : Int), v)], ?_, case_snoc ok hi v0 (by omega) lt, fun c hc => ?_⟩
        · rw [List.length_map]
          have := ok.len
          omega
        · rw [List.map_append, Int.zero_add]
          rfl
        · rcases List.mem_append.mp hc with h | h
          · exact stay c h
          · rw [List.mem_singleton.mp h]
            show (i : Int) < ((i + 1 : Nat) : Int)
            omega
      · exact ⟨_, cs, rfl, ok, stay⟩
    · exact no_if rfl ⟨_, cs, rfl, ok, stay⟩
  · obtain ⟨a, cs, rfl, ok, lt⟩ := he
    exact ⟨_, ⟨noLs_map cond_noL _, rfl⟩, cs, rfl, ok⟩
abbrev n_text6 : List Str := ["_law_rules_here", "_law_lines", "_law_case_here", "_law_result", "_law_one", "_law_two"]
theorem sc_text6 : FnScope n_text6 ["_law_rules_here"] (defScope s_law_text) := ⟨rfl, rfl, rfl, by decide +kernel, rfl, by decide +kernel, by decide +kernel⟩
theorem ok_text6 (F : Fun K "_law_text" "_law_text" s_law_text f fd) (B : Blt mg) : FnOk P w K mg base CX0 1 f fd ["_law_rules_here"] qText := by
  refine fnD F sc_text6 (fun _ => rfl) fun cdv A outer s H E hr => ⟨_, _, (pss_cons (ps_set (i := 1) sc_text6.nd rfl (.inl rfl) (pe_lst pa_nil))
      (pss_cons (ps_for PassesOwn.never rfl (pi_list (pv 0)) (pg_tup (n := 2) rfl (pgs_cons (pg_name (i := 2) sc_text6.nd rfl (.inl rfl)) (pgs_cons (pg_name (i := 3) sc_text6.nd rfl (.inl rfl)) pgs_nil)))
      (pss_one (ps_expr (pe_bm PySem.F.plainAttrs_list PySem.F.slot_list_append PySem.F.type_list_append mt_append (pv 1) (pa_cons (pe_op op_add_str (pe_op op_add_str (pe_op op_add_str (show PE _ _ (tM1 (rJoin K) _ _) from pe_joinE pe_str (pe_lc (own := [("_law_one", 4), ("_law_two", 5)]) (g := (gTup K 2 (gCons (gName 4) (gCons (gName 5) gNil)))) (tt := tYes) rfl sc_text6.nd (pi_tup (pv 2)) (blkOk_by (own := [("_law_one", 4), ("_law_two", 5)]) (N := n_text6) (sc := defScope s_law_text) (by decide +kernel)) (fun _ _ _ _ _ => (pg_tup (n := 2) rfl (pgs_cons (pg_name (i := 4) sc_text6.nd rfl (Or.inl rfl)) (pgs_cons (pg_name (i := 5) sc_text6.nd rfl (Or.inl rfl)) pgs_nil)))) (fun _ _ _ _ _ => pts_nil) (fun _ _ _ _ _ => (pe_op op_add_str (pe_op op_add_str (pe_op op_add_str (pe_callTy call_str_int (by rfl) B.str (by decide +kernel) (pa_cons (pv 4) pa_nil)) pe_str) (pe_callTy call_str_int (by rfl) B.str (by decide +kernel) (pa_cons (pv 5) pa_nil))) pe_str)))) pe_str) (pe_callTy call_str_int (by rfl) B.str (by decide +kernel) (pa_cons (pv 3) pa_nil))) pe_str) pa_nil)))))
      (pss_one (ps_ret (show PE _ _ (tM1 (rJoin K) _ _) from pe_joinE pe_str (pv 1)))))), inferInstance, fun rs ok => ?_⟩
  refine ⟨by show (0 : Nat) ≤ 1000000; decide, _, .inl rfl, ?_⟩
  refine loop_typed (as := rs) (enc := ruleD) (fun i env => ∃ a b, env = [some (.dat (.list (rs.map ruleD))), some (.own ((rs.take i).map fun r => .str (lineS r ++ "\n"))), a, b, none, none]) ⟨_, _, rfl⟩ (fun i r env' hr he => ?_) fun env' he => ?_
  · obtain ⟨a, b, rfl⟩ := he
    have okr := ok.each r (List.mem_of_getElem? hr)
    refine ⟨rfl, ?_⟩
    have e1 : ("=" : Str).length = 1 := by decide +kernel
    have e2 : (" " : Str).length = 1 := by decide +kernel
    have e3 : ("gives " : Str).length = 6 := by decide +kernel
    have e4 : ("\n" : Str).length = 1 := by decide +kernel
    have e5 : ("" : Str).length = 0 := by decide +kernel
    have cl := okr.case.len
    have nums : ∀ c ∈ r.1, (numS c.1).length ≤ 2 ∧ (numS c.2).length ≤ 2 := fun c hc => by
      have o := okr.case.each c hc
      exact ⟨(num_len o.1 (by omega)).1, (num_len o.2.2.1 (by omega)).1⟩
    have ll := (line_signs okr).1
    have l6 := congrArg Str.length (line6 r)
    rw [len_app, len_app, len_app, len_app, e3, e4] at l6
    refine dLc_pure (as := r.1) (enc := condD) (fun _ => true) (fun c => .str (numS c.1 ++ "=" ++ numS c.2 ++ " ")) (st := true) (fun q h => h) (by omega) (fun c hc k hk => ?_) ?_
    · have o := okr.case.each c hc
      obtain ⟨n1, n2⟩ := nums c hc
      refine ⟨rfl, log_small o.1 (by omega), ?_, log_small o.2.2.1 (by omega), ?_, ?_, hk⟩
      · show (numS c.1).length + ("=" : Str).length ≤ 1000000
        omega
      · show (numS c.1 ++ "=" : Str).length + (numS c.2).length ≤ 1000000
        rw [len_app]
        omega
      · show (numS c.1 ++ "=" ++ numS c.2 : Str).length + (" " : Str).length ≤ 1000000
        rw [len_app, len_app]
        omega
    · rw [List.filter_eq_self.mpr fun _ _ => rfl]
      refine ⟨r.1.map fun c => numS c.1 ++ "=" ++ numS c.2 ++ " ", by rw [List.map_map]; rfl, ?_, ?_⟩
      · have b := sum_le (f := Str.length) (k := 6) (l := r.1.map fun c => numS c.1 ++ "=" ++ numS c.2 ++ " ") fun x hx => by
          obtain ⟨c, hc, rfl⟩ := List.mem_map.mp hx
          obtain ⟨n1, n2⟩ := nums c hc
          rw [len_app, len_app, len_app]
          omega
        rw [List.length_map] at b ⊢
        show ((r.1.map fun c => numS c.1 ++ "=" ++ numS c.2 ++ " ").map Str.length).sum + r.1.length * ("" : Str).length ≤ 16777216
        rw [e5]
        omega
      refine ⟨?_, log_small okr.lo okr.hi, ?_, ?_, ?_, some (.dat (caseD r.1)), some (.dat (.int r.2)), ?_⟩
      · show (Txt.join "" (r.1.map fun c => numS c.1 ++ "=" ++ numS c.2 ++ " ")).length + ("gives " : Str).length ≤ 1000000
        omega
      · show (Txt.join "" (r.1.map fun c => numS c.1 ++ "=" ++ numS c.2 ++ " ") ++ "gives " : Str).length + (numS r.2).length ≤ 1000000
        rw [len_app]
        omega
      · show (Txt.join "" (r.1.map fun c => numS c.1 ++ "=" ++ numS c.2 ++ " ") ++ "gives " ++ numS r.2 : Str).length + ("\n" : Str).length ≤ 1000000
        rw [len_app, len_app]
        omega
      · have := ok.few
        rw [List.length_map]
        have := List.length_take_le' i rs
        omega
      · rw [take_snoc hr, List.map_append, List.map_cons, List.map_nil, ← line6]
        rfl
  · obtain ⟨a, b, rfl⟩ := he
    rw [List.take_length]
    refine ⟨rs.map fun r => lineS r ++ "\n", by rw [List.map_map]; rfl, ?_, _, ⟨rfl, rfl⟩, rfl⟩
    have e4 : ("\n" : Str).length = 1 := by decide +kernel
    have e5 : ("" : Str).length = 0 := by decide +kernel
    have b := sum_le (f := Str.length) (k := 43) (l := rs.map fun r => lineS r ++ "\n") fun x hx => by
      obtain ⟨r, hr, rfl⟩ := List.mem_map.mp hx
      have := (line_signs (ok.each r hr)).1
      rw [len_app]
      omega
    have := ok.few
    rw [List.length_map] at b ⊢
    show ((rs.map fun r => lineS r ++ "\n").map Str.length).sum + rs.length * ("" : Str).length ≤ 16777216
    rw [e5]
    omega
abbrev qGiven : Sp := spD (fun m : Int => 0 ≤ m ∧ m ≤ 12) (fun m => [.src, .dat (.int m)]) (fun m r => ∃ rs : List Rule, r = .new (rs.map ruleD) ∧ RulesOk 12 rs ∧ (rs.length : Int) ≤ m)
abbrev n_given6 : List Str := ["_law_source_here", "_law_most", "_law_values", "_law_many", "_law_found", "_law_size", "_law_span", "_law_turn", "_law_case_here", "_law_one", "_law_other", "_law_known", "_law_rule"]
theorem sc_given6 : FnScope n_given6 ["_law_source_here", "_law_most"] (defScope s_law_given) := ⟨rfl, rfl, rfl, by decide +kernel, rfl, by decide +kernel, by decide +kernel⟩
theorem ok_given6 (F : Fun K "_law_given" "_law_given" s_law_given f fd) (B : Blt mg) (hDict : mg "dict" = none) (hDraw : Has P w K mg base 1 "_law_draw" ["_law_source_here", "_law_many"] qDraw) (hChoose : Has P w K mg base 2 "_law_choose" ["_law_source_here", "_law_values"] qChoose)
    (hCase : Has P w K mg base 2 "_law_case" ["_law_source_here", "_law_most", "_law_values"] qCase6) : FnOk P w K mg base CX0 4 f fd ["_law_source_here", "_law_most"] qGiven := by
  refine fnD F sc_given6 (fun _ => rfl) fun cdv A outer s H E hr => ⟨_, _, (pss_cons (ps_par3 (i := 2) (j := 3) (l := 4) rfl sc_given6.nd rfl rfl rfl (by decide) (by decide) (by decide) rfl rfl rfl (pa_cons (pe_op op_add pe_int (pe_callH hDraw (hr.mono (by decide)) rfl (pa_cons (pv 0) (pa_cons pe_int pa_nil)))) (pa_cons (pe_callH hDraw (hr.mono (by decide)) rfl (pa_cons (pv 0) (pa_cons (pe_op op_add (pv 1) pe_int) pa_nil))) (pa_cons (pe_lst pa_nil) pa_nil))) rfl)
      (pss_cons (ps_par (i := 5) (j := 6) rfl sc_given6.nd rfl rfl (by decide) rfl rfl (pa_cons (pe_ix (show IxR _ (rIxL K) from ix_list) (pe_lst (pa_cons pe_int (pa_cons pe_int (pa_cons pe_int (pa_cons pe_int (pa_cons pe_int pa_nil)))))) (pe_callH hDraw (hr.mono (by decide)) rfl (pa_cons (pv 0) (pa_cons pe_int pa_nil))) (fun _ _ => rfl)) (pa_cons (pe_op op_add pe_int (pe_callH hDraw (hr.mono (by decide)) rfl (pa_cons (pv 0) (pa_cons pe_int pa_nil)))) pa_nil)) rfl)
      (pss_cons (ps_for PassesOwn.never rfl (pi_range1 (by rfl) B.range (pa_cons (pe_op op_mul pe_int (pv 3)) pa_nil)) (pg_name (i := 7) sc_given6.nd rfl (.inl rfl))
      (pss_cons (ps_set (i := 8) sc_given6.nd rfl (.inl rfl) (pe_callH hCase (hr.mono (by decide)) rfl (pa_cons (pv 0) (pa_cons (pv 5) (pa_cons (pv 2) pa_nil)))))
      (C8.pss_cut (ps_if (PW.pt (pw_and (pt_cmpR (show OpR _ (compareOp .NotEq) (rNeD K) from op_neD hr.units) (pv 4) (pe_lst pa_nil) (nomark _)) (pw_and1 (pt_cmpR (show OpR _ (compareOp .Eq) (rEqD K) from op_eqD hr.units) (pe_callH hDraw (hr.mono (by decide)) rfl (pa_cons (pv 0) (pa_cons pe_int pa_nil))) pe_int (nomark _))))) (pss_cons (ps_par (i := 9) (j := 10) rfl sc_given6.nd rfl rfl (by decide) rfl rfl (pa_cons (pe_ix (show IxR _ (rIxT K) from ix_tup) (pe_callH hChoose (hr.mono (by decide)) rfl (pa_cons (pv 0) (pa_cons (pv 4) pa_nil))) pe_int (fun _ _ => rfl)) (pa_cons (pe_ix (show IxR _ (rIxT K) from ix_tup) (pe_callH hChoose (hr.mono (by decide)) rfl (pa_cons (pv 0) (pa_cons (pv 4) pa_nil))) pe_int (fun _ _ => rfl)) pa_nil)) rfl)
      (pss_cons (ps_set (i := 11) sc_given6.nd rfl (.inl rfl) (pe_callTy (cr_dictC rfl) (by rfl) hDict (by decide +kernel) (pa_cons (pe_op (show OpR _ (binaryOp .Add) (rCatF K) from op_catF) (pv 9) (pv 10)) pa_nil)))
      (pss_one (ps_set (i := 8) sc_given6.nd rfl (.inl rfl) (pe_callTy (show CallR _ (.type "tuple") (rTupE K) from call_tupF) (by rfl) B.tuple (by decide +kernel) (pa_cons (pe_callB (cr_sortedItC rfl hr.u66) (by rfl) B.sorted (by decide +kernel) (pa_cons (pe_bm0 PySem.F.plainAttrs_dict PySem.F.slot_dict_items PySem.F.type_dict_items mt_itemsK (pv 11)) pa_nil)) pa_nil)))))) pss_nil)
      (pss_cons (ps_set (i := 12) sc_given6.nd rfl (.inl rfl) (pe_tupF (pa_cons (pv 8) (pa_cons (pe_callH hDraw (hr.mono (by decide)) rfl (pa_cons (pv 0) (pa_cons (pv 6) pa_nil))) pa_nil))))
      (pss_one (ps_if (PW.pt (pw_and (pt_cmpR (show OpR _ (compareOp .NotIn) (rNotInD K) from op_notInD hr.u65) (pv 12) (pv 4) (by rfl)) (pw_and1 (pt_cmpR op_lt (pe_callB (show CallR _ (.builtin "len") (rLenE K) from call_len_seq) (by rfl) B.len PySem.boot_len (pa_cons (pv 4) pa_nil)) (pv 3) (nomark _))))) (pss_one (ps_expr (pe_bm PySem.F.plainAttrs_list PySem.F.slot_list_append PySem.F.type_list_append mt_append (pv 4) (pa_cons (pv 12) pa_nil)))) pss_nil))))))
      (pss_one (ps_ret (pv 4)))))), inferInstance, fun m ha => ?_⟩
  obtain ⟨h0, h1⟩ := ha
  refine ⟨3, ⟨by decide, by decide⟩, ⟨trivial, rfl, trivial⟩, fun x hx => ?_⟩
  obtain ⟨v, rfl, v0, v1⟩ := hx
  refine ⟨_, rfl, ?_⟩
  refine ⟨m + 1, ⟨by omega, by omega⟩, ⟨trivial, rfl, trivial⟩, fun x hx => ?_⟩
  obtain ⟨n, rfl, n0, n1⟩ := hx
  refine ⟨_, rfl, by show (0 : Nat) ≤ 1000000; decide, .own [], .inl rfl, ?_⟩
  refine ⟨by show (5 : Nat) ≤ 1000000; decide, 5, ⟨by decide, by decide⟩, ⟨trivial, rfl, trivial⟩, fun x hx => ?_⟩
  obtain ⟨k, rfl, k0, k1⟩ := hx
  refine oIx_new k0 (by show k < 5; exact k1) fun d hd => ?_
  obtain ⟨z, rfl⟩ : ∃ z, d = .int z := by
    rcases List.mem_cons.mp hd with rfl | hd; · exact ⟨_, rfl⟩
    rcases List.mem_cons.mp hd with rfl | hd; · exact ⟨_, rfl⟩
    rcases List.mem_cons.mp hd with rfl | hd; · exact ⟨_, rfl⟩
    rcases List.mem_cons.mp hd with rfl | hd; · exact ⟨_, rfl⟩
    rcases List.mem_cons.mp hd with rfl | hd; · exact ⟨_, rfl⟩
    exact (nomatch hd)
  refine ⟨_, rfl, ?_⟩
  refine ⟨3, ⟨by decide, by decide⟩, ⟨trivial, rfl, trivial⟩, fun x hx => ?_⟩
  obtain ⟨y, rfl, y0, y1⟩ := hx
  refine ⟨_, rfl, ?_⟩
  refine ⟨.inl ⟨by decide, by decide⟩, ⟨by omega, by omega⟩, rfl, ?_⟩
  refine loop_range (lo := 0) (fun _ env => ∃ (a7 a8 a9 a10 a11 a12 : Option SV) (rs : List Rule), env = [some .src, some (.dat (.int m)), some (.dat (.int (1 + v))), some (.dat (.int n)), some (.own (rs.map ruleD)), some (.dat (.int z)), some (.dat (.int (2 + y))), a7, a8, a9, a10, a11, a12] ∧ RulesOk 12 rs ∧ (rs.length : Int) ≤ n)
    ⟨_, _, _, _, _, _, [], rfl, ⟨fun r h => (nomatch h), List.nodup_nil, by decide⟩, n0⟩ (fun i env' hi he => ?_) fun env' he => ?_
  · obtain ⟨a7, a8, a9, a10, a11, a12, rs, rfl, ok, len⟩ := he
    refine ⟨(z, 1 + v), ⟨by show 0 < 1 + v; omega, by show 1 + v ≤ 10; omega⟩, ⟨trivial, rfl, rfl, trivial⟩, fun x hx => ?_⟩
    obtain ⟨cs, rfl, okc⟩ := hx
    refine ⟨_, rfl, ?_⟩
    refine cut_by (fun env => ∃ (a7 a9 a10 a11 : Option SV) (cs : Case), env = [some .src, some (.dat (.int m)), some (.dat (.int (1 + v))), some (.dat (.int n)), some (.own (rs.map ruleD)), some (.dat (.int z)), some (.dat (.int (2 + y))), a7, some (.dat (caseD cs)), a9, a10, a11, a12] ∧ CaseOk cs) ?_ fun env' he => ?_
    · refine ⟨by show (0 : Nat) ≤ 1000000; decide, shaped_rulesL rs, rfl, ?_⟩
      show if (!PyData.eqv (.list (rs.map ruleD)) (.list [])) = true then _ else _
      rw [eqv_nil]
      by_cases hne : rs = []
      · subst hne
        exact no_if rfl (no_if rfl ⟨_, _, _, _, cs, rfl, okc⟩)
      · have e : (!(rs.map ruleD).isEmpty) = true := by
          cases rs with
          | nil => exact absurd rfl hne
          | cons _ _ => rfl
        rw [if_pos e]
        refine ⟨3, ⟨by decide, by decide⟩, ⟨trivial, rfl, trivial⟩, fun x hx => ?_⟩
        obtain ⟨q, rfl, q0, q1⟩ := hx
        refine ⟨rfl, rfl, ?_⟩
        have pos : 0 < (rs.map ruleD).length := by rw [List.length_map]; exact List.length_pos_iff.mpr hne
        have few := ok.few
        show if PyData.eqv (.int q) (.int 0) = true then _ else _
        split
        · refine ⟨rs.map ruleD, ⟨pos, by rw [List.length_map]; omega, noLs_map rule_noL _⟩, ⟨trivial, rfl, trivial⟩, fun x hx => ?_⟩
          obtain ⟨d1, hd1, rfl⟩ := hx
          obtain ⟨r1, hr1, rfl⟩ := List.mem_map.mp hd1
          refine ⟨_, rfl, ?_⟩
          refine ⟨rs.map ruleD, ⟨pos, by rw [List.length_map]; omega, noLs_map rule_noL _⟩, ⟨trivial, rfl, trivial⟩, fun x hx => ?_⟩
          obtain ⟨d2, hd2, rfl⟩ := hx
          obtain ⟨r2, hr2, rfl⟩ := List.mem_map.mp hd2
          have o1 := (ok.each r1 hr1).case
          have o2 := (ok.each r2 hr2).case
          have l1 := o1.len
          have l2 := o2.len
          refine ⟨_, rfl, ?_⟩
          refine ⟨by rw [List.length_map, List.length_map]; omega, r1.1 ++ r2.1, ?_, _, rfl, ?_⟩
          · show some (PyData.tuple (r1.1.map condD ++ r2.1.map condD)) = some (PyData.tuple ((r1.1 ++ r2.1).map condD))
            rw [List.map_append]
          · refine ⟨_, rfl, ?_, _, rfl, _, _, _, _, _, rfl, mergedC_ok o1 o2⟩
            have := mergeC_len (r1.1 ++ r2.1) []
            rw [List.length_append, List.length_nil] at this
            omega
        · exact ⟨_, _, _, _, cs, rfl, okc⟩
    · obtain ⟨a7, a9, a10, a11, cs, rfl, okc⟩ := he
      refine ⟨2 + y, ⟨by omega, by omega⟩, ⟨trivial, rfl, trivial⟩, fun x hx => ?_⟩
      obtain ⟨q, rfl, q0, q1⟩ := hx
      refine ⟨by show (2 : Nat) ≤ 1000000; decide, _, rfl, ?_⟩
      refine ⟨shaped_rule (cs, q), shaped_rulesL rs, ?_⟩
      show if (!((rs.map ruleD).any fun z => PyData.eqv z (ruleD (cs, q)))) = true then _ else _
      rw [any_rule]
      split
      · rename_i hn
        have nr : (cs, q) ∉ rs := by simpa using hn
        show if decide ((((rs.map ruleD).length : Nat) : Int) < n) = true then _ else _
        split
        · rename_i hl
          have hl : (((rs.map ruleD).length : Nat) : Int) < n := of_decide_eq_true hl
          rw [List.length_map] at hl
          refine ⟨by rw [List.length_map]; have := ok.few; omega, a7, some (.dat (caseD cs)), a9, a10, a11, some (.dat (ruleD (cs, q))), rs ++ [(cs, q)], ?_, rules_snoc ok (by omega) ⟨okc, q0, by show q ≤ 99; omega⟩ nr, by rw [List.length_append]; show ((rs.length + 1 : Nat) : Int) ≤ n; omega⟩
          rw [List.map_append]
          rfl
        · exact ⟨_, _, _, _, _, _, rs, rfl, ok, len⟩
      · exact no_if rfl ⟨_, _, _, _, _, _, rs, rfl, ok, len⟩
  · obtain ⟨a7, a8, a9, a10, a11, a12, rs, rfl, ok, len⟩ := he
    exact ⟨_, ⟨noLs_map rule_noL _, rfl⟩, rs, rfl, ok, by omega⟩
end
end Cr

set_option synthInstance.maxSize 4000
set_option synthInstance.maxHeartbeats 1000000
namespace Cr
open PySem PySem.Spec PyProof.Rows L2
variable [Tbl]
theorem oIxL_at {ds : List PyData} {i : Nat} {d : PyData} {Qd : R → Prop} (h : ds[i]? = some d) (q : Qd (.dat d)) : oIx false (.dat (.list ds)) (.dat (.int (i : Nat))) Qd := by
  have e : atI ds (i : Int) = some d := by
    have l : i < ds.length := (List.getElem?_eq_some_iff.mp h).1
    have k : ixN ds.length (i : Int) = some i := by
      unfold ixN
      rw [if_pos (by omega)]
      first
        | (rw [if_pos (by omega)]; simp)
        | simp [l]
    unfold atI
    rw [k]
    exact h
  unfold oIx
  simp only [R.data]
  rw [e]
  exact q
theorem dIxL_at {env : DEnv} {i j n : Nat} {ds : List PyData} {d : PyData} {Qd : R → Prop} (h0 : env[i]? = some (some (.dat (.list ds)))) (h1 : env[j]? = some (some (.dat (.int (n : Nat))))) (h : ds[n]? = some d) (q : Qd (.dat d)) : dOp (oIx false) (dVar i) (dVar j) env Qd := by
  unfold dOp dVar
  rw [h0, h1]
  exact oIxL_at h q
theorem dOp_intro {T : R → R → (R → Prop) → Prop} {Ta Tb : DTE} {env : DEnv} {Qd : R → Prop} (h : Ta env fun x => Tb env fun y => T x y Qd) : dOp T Ta Tb env Qd := h
theorem dCB_intro {T : List R → (R → Prop) → Prop} {Ta : DEnv → (List R → Prop) → Prop} {env : DEnv} {Qd : R → Prop} (h : Ta env fun rs => T rs Qd) : dCB T Ta env Qd := h
theorem dCons_intro {Ta : DTE} {Tr : DEnv → (List R → Prop) → Prop} {env : DEnv} {Qd : List R → Prop} (h : Ta env fun x => Tr env fun xs => Qd (x :: xs)) : dCons Ta Tr env Qd := h
theorem dVar_at {env : DEnv} {i : Nat} {sv : SV} {Qd : R → Prop} (h : env[i]? = some (some sv)) (q : Qd sv.r) : dVar i env Qd := by
  unfold dVar
  rw [h]
  exact q
theorem sIf_intro {Ta : DTE} {U W : DTS} {Dd : DEnds} {env : DEnv} (h : Ta env fun r => match r with | .dat (.bool b) => if b = true then U Dd env else W Dd env | _ => False) : sIf (dTest Ta) U W Dd env := h
theorem dg2 {i j : Nat} {d e : PyData} {env : DEnv} {Qe : DEnv → Prop} (h : Qe ((env.set i (some (.dat d))).set j (some (.dat e)))) : dgTup 2 (dgCons (dgName i) (dgCons (dgName j) dgNil)) (.tuple [d, e]) env Qe := ⟨rfl, h⟩
theorem sAsg_intro {Ta : DTE} {Tg : PyData → DEnv → (DEnv → Prop) → Prop} {Dd : DEnds} {env : DEnv} (h : Ta env fun r => match r.stay with | some d => Tg d env Dd.nx | none => False) : sAsg Ta Tg Dd env := h
theorem dTup_intro {Ta : DEnv → (List R → Prop) → Prop} {env : DEnv} {Qd : R → Prop} (h : Ta env fun rs => match stays rs with | some ds => rs.length ≤ 1000000 ∧ Qd (.dat (.tuple ds)) | none => False) : dTup Ta env Qd := h
theorem dFst {env : DEnv} {i : Nat} {d e : PyData} {Qd : R → Prop} (h0 : env[i]? = some (some (.dat (.tuple [d, e])))) (q : Qd (.dat d)) : dOp (oIx true) (dVar i) (dC (V.int 0)) env Qd := by
  unfold dOp dVar
  rw [h0]
  exact q
theorem dSnd {env : DEnv} {i : Nat} {d e : PyData} {Qd : R → Prop} (h0 : env[i]? = some (some (.dat (.tuple [d, e])))) (q : Qd (.dat e)) : dOp (oIx true) (dVar i) (dC (V.int 1)) env Qd := by
  unfold dOp dVar
  rw [h0]
  exact q
theorem loop_enumL {α : Type} {as : List α} {enc : α → PyData} {Tg : PyData → DEnv → (DEnv → Prop) → Prop} {Tb : DTS} {Dd : DEnds} {env : DEnv} (Inv : Nat → DEnv → Prop) (h0 : Inv 0 env)
    (step : ∀ (i : Nat) (a : α) env', as[i]? = some a → Inv i env' → Tg (.tuple [.int (i : Nat), enc a]) env' fun env2 => Tb { Dd with nx := Inv (i + 1), ct := Inv (i + 1), bk := Dd.nx } env2) (q : ∀ env', Inv as.length env' → Dd.nx env') : sLoop Tg Tb (enumD 0 (as.map enc)) Dd env := by
  unfold sLoop
  refine ⟨Inv, h0, fun i d env' hd hi => ?_, fun env' h => q env' (by rw [enumD_len, List.length_map] at h; exact h)⟩
  obtain ⟨e, he, rfl⟩ := enumD_get hd
  obtain ⟨a, ha, rfl⟩ := map_get he
  rw [Nat.zero_add]
  exact step i a env' ha hi
theorem lt_nat (a b : Nat) : decide (((a : Nat) : Int) < ((b : Nat) : Int)) = decide (a < b) := by
  by_cases h : a < b
  · rw [decide_eq_true h, decide_eq_true (by omega)]
  · rw [decide_eq_false h, decide_eq_false (by omega)]
theorem shaped_casesL (l : List Case) : SeqAt.shaped (.list (l.map caseD)) = true := shaped_of (by simp only [PyData.canLay0]; exact lay_all case_lay l) (by have h := dep_all (f := caseD) (n := 2) case_dep l; simp only [PyData.depth]; omega)
/-- the settling rules, by themselves -/
def setlK (rs : List Rule) (r s : Rule) (k : Nat) : Bool := match rs[k]? with
  | some c => setlB c.1 r.1 s.1
  | none => false
def numsL (rs : List Rule) (r s : Rule) (n : Nat) : List Nat := (List.range n).filter (setlK rs r s)
theorem numsL_is {rs : List Rule} {r s : Rule} {i j : Nat} (h1 : rs[i]? = some r) (h2 : rs[j]? = some s) : numsL rs r s rs.length = numsN rs i j := by
  unfold numsL numsN
  refine List.filter_congr fun k hk => ?_
  unfold setlAt setlK
  rw [h1, h2]
  cases rs[k]? <;> rfl
section
variable {P : Program} {w : World} {K : PySem.W.Frag} {mg : Str → Option Value} {base : Heap} {f : Addr} {fd : FuncData}
abbrev qRulesL (C : Addr) : Sp := spD (fun rs : List Rule => RulesOk 12 rs) (fun rs => [.dat (.list (rs.map ruleD))]) (fun rs r => r = .ins C rs)
abbrev n_rulesL : List Str := ["_law_rules_here"]
theorem sc_rulesL : FnScope n_rulesL ["_law_rules_here"] (defScope s_law_rules) := ⟨rfl, rfl, rfl, by decide +kernel, rfl, by decide +kernel, by decide +kernel⟩
theorem ok_rulesL {C : Addr} (F : Fun K "_law_rules" "_law_rules" s_law_rules f fd) (hText : Has P w K mg base 1 "_law_text" ["_law_rules_here"] qText) (hReadR : HasC P w K mg base 9 "Rules" C "read" (spRead C)) : FnOk P w K mg base CX0 10 f fd ["_law_rules_here"] (qRulesL C) := by
  refine fnD F sc_rulesL (fun _ => rfl) fun cdv A outer s H E hr => ⟨_, _, (pss_one (ps_ret (pe_cmethH hReadR (hr.mono (by decide)) rfl (pa_cons (pe_callH hText (hr.mono (by decide)) rfl (pa_cons (pv 0) pa_nil)) pa_nil)))), inferInstance, fun rs ok => ?_⟩
  have few := ok.few
  refine ⟨rs, ⟨ok.each, ok.nd, by omega⟩, ⟨rfl, trivial⟩, fun x hx => ?_⟩
  subst hx
  exact ⟨rs, rfl, ok, _, rfl, rfl⟩
abbrev qHas : Sp := spD (fun a : Case × Case => a.2.length ≤ 1000) (fun a => [.dat (caseD a.1), .dat (caseD a.2)]) (fun a r => r = .dat (.bool (inB a.2 a.1)))
abbrev n_has : List Str := ["_law_case_here", "_law_part", "_law_one"]
theorem sc_has : FnScope n_has ["_law_case_here", "_law_part"] (defScope s_law_has) := ⟨rfl, rfl, rfl, by decide +kernel, rfl, by decide +kernel, by decide +kernel⟩
theorem ok_has (F : Fun K "_law_has" "_law_has" s_law_has f fd) (B : Blt mg) : FnOk P w K mg base CX0 1 f fd ["_law_case_here", "_law_part"] qHas := by
  refine fnD F sc_has (fun _ => rfl) fun cdv A outer s H E hr => ⟨_, _, (pss_one (ps_ret (pe_cmpR (show OpR _ (compareOp .Eq) (rEqD K) from op_eqD hr.units) (pe_lc (own := [("_law_one", 2)]) (g := (gName 2)) rfl sc_has.nd (pi_tup (pv 1)) (blkOk_by (own := [("_law_one", 2)]) (N := n_has) (sc := defScope s_law_has) (by decide +kernel)) (fun _ _ _ _ _ => (pg_name (i := 2) sc_has.nd rfl (Or.inl rfl))) (fun _ _ _ _ _ => (pts_one (pt_cmpR (show OpR _ (compareOp .NotIn) (rNotInT K) from op_notInT hr.u65) (pv 2) (pv 0) (by rfl)))) (fun _ _ _ _ _ => pe_int)) (pe_lst pa_nil) (nomark _)))), inferInstance, fun a ha => ?_⟩
  obtain ⟨cs, p⟩ := a
  dsimp only at ha
  refine dLc_pure (as := p) (enc := condD) (fun c => decide (c ∉ cs)) (fun _ => .int 1) (st := true) (fun q h => h) (by omega) (fun c hc k hk => ?_) ?_
  · refine ⟨shaped_cond c, shaped_case cs, of_if ?_ hk⟩
    show (!((cs.map condD).any fun z => PyData.eqv z (condD c))) = _
    rw [any_cond]
    simp
  · refine ⟨by show (0 : Nat) ≤ 1000000; decide, shaped_ones _, rfl, _, ⟨rfl, rfl⟩, ?_⟩
    show R.dat (.bool (PyData.eqv (.list ((p.filter fun c => decide (c ∉ cs)).map fun _ => PyData.int 1)) (.list []))) = R.dat (.bool (inB p cs))
    rw [eqv_nil, none_out]
def unionD (a b : Case) : PyData := if meetB a b = true then caseD (togC a b) else .none
abbrev qUnion : Sp := spD (fun a : Case × Case => CaseOk a.1 ∧ CaseOk a.2) (fun a => [.dat (caseD a.1), .dat (caseD a.2)]) (fun a r => r = .dat (unionD a.1 a.2))
abbrev n_union : List Str := ["_law_case_here", "_law_other", "_law_found", "_law_one"]
theorem sc_union : FnScope n_union ["_law_case_here", "_law_other"] (defScope s_law_union) := ⟨rfl, rfl, rfl, by decide +kernel, rfl, by decide +kernel, by decide +kernel⟩
theorem ok_union (F : Fun K "_law_union" "_law_union" s_law_union f fd) (B : Blt mg) : FnOk P w K mg base CX0 1 f fd ["_law_case_here", "_law_other"] qUnion := by
  refine fnD F sc_union (fun _ => rfl) fun cdv A outer s H E hr => ⟨_, _, (pss_cons (ps_set (i := 2) sc_union.nd rfl (.inl rfl) (pe_callB (show CallR _ (.builtin "sorted") (rSortedT K P w) from cr_sortedT rfl) (by rfl) B.sorted (by decide +kernel) (pa_cons (pe_callTy (show CallR _ (.type "set") (rSetOfTT K P w) from cr_setOfTT rfl hr.units) (by rfl) B.set (by decide +kernel) (pa_cons (pe_op (show OpR _ (binaryOp .Add) (rCatF K) from op_catF) (pv 0) (pv 1)) pa_nil)) pa_nil)))
      (pss_cons (ps_if (pt_cmpR op_lt (pe_lenSetE rfl (by rfl) B.len (by rfl) B.set (pe_lc (own := [("_law_one", 3)]) (g := (gName 3)) (tt := tYes) rfl sc_union.nd (pi_list (pv 2)) (blkOk_by (own := [("_law_one", 3)]) (N := n_union) (sc := defScope s_law_union) (by decide +kernel)) (fun _ _ _ _ _ => (pg_name (i := 3) sc_union.nd rfl (Or.inl rfl))) (fun _ _ _ _ _ => pts_nil) (fun _ _ _ _ _ => (pe_ix (show IxR _ (rIxT K) from ix_tup) (pv 3) pe_int (fun _ _ => rfl))))) (pe_callB (show CallR _ (.builtin "len") (rLenE K) from call_len_seq) (by rfl) B.len PySem.boot_len (pa_cons (pv 2) pa_nil)) (nomark _)) (pss_one (ps_ret pe_non)) pss_nil)
      (pss_one (ps_ret (pe_callTy (show CallR _ (.type "tuple") (rTupE K) from call_tupF) (by rfl) B.tuple (by decide +kernel) (pa_cons (pv 2) pa_nil)))))), inferInstance, fun a ha => ?_⟩
  obtain ⟨a, b⟩ := a
  obtain ⟨oka, okb⟩ := ha
  have la := oka.len
  have lb := okb.len
  dsimp only at la lb oka okb
  refine ⟨by show (a.map condD).length + (b.map condD).length ≤ 1000000; rw [List.length_map, List.length_map]; omega, a ++ b, ?_, by rw [List.length_append]; omega, both_small oka okb, ?_⟩
  · show some (PyData.tuple (a.map condD ++ b.map condD)) = some (PyData.tuple ((a ++ b).map condD))
    rw [List.map_append]
  have lt : (togC a b).length ≤ 10 := by
    have := normC_len (a ++ b)
    rw [List.length_append] at this
    unfold togC
    omega
  refine ⟨.dat (.list ((togC a b).map condD)), .inr rfl, ?_⟩
  refine dLc_pure (as := togC a b) (enc := condD) (fun _ => true) (fun c => .int c.1) (st := true) (fun q h => h) (by omega) (fun c hc k hk => hk) ?_
  rw [List.filter_eq_self.mpr fun _ _ => rfl]
  refine ⟨(togC a b).map (·.1), ?_, by rw [List.length_map]; omega, ?_⟩
  · show some (PyData.list ((togC a b).map fun c => .int c.1)) = some (PyData.list (((togC a b).map (·.1)).map PyData.int))
    rw [List.map_map]
    rfl
  · show if decide ((dedI ((togC a b).map (·.1)) : Int) < (((togC a b).map condD).length : Nat)) = true then _ else _
    have e : decide ((dedI ((togC a b).map (·.1)) : Int) < (((togC a b).map condD).length : Nat)) = !meetB a b := by
      have h := dedI_lt ((togC a b).map (·.1))
      rw [List.length_map] at h ⊢
      rw [h]
      congr 1
      by_cases m : meetB a b = true
      · rw [m, decide_eq_true ((tog_keys oka okb).mpr m)]
      · rw [decide_eq_false fun z => m ((tog_keys oka okb).mp z)]
        simpa using m
    rw [e]
    by_cases m : meetB a b = true
    · rw [m]
      refine no_if rfl ⟨_, ⟨noLs_map cond_noL _, rfl⟩, ?_⟩
      show R.dat (caseD (togC a b)) = R.dat (unionD a b)
      unfold unionD
      rw [if_pos m]
    · have m' : meetB a b = false := by simpa using m
      rw [m']
      refine ⟨_, ⟨rfl, rfl⟩, ?_⟩
      show R.dat .none = R.dat (unionD a b)
      unfold unionD
      rw [if_neg m]
abbrev qLOpp : Sp := spD (fun a : Rule × Rule => CaseOk a.1.1 ∧ CaseOk a.2.1) (fun a => [.dat (ruleD a.1), .dat (ruleD a.2)]) (fun a r => r = .dat (.bool (oppB a.1 a.2)))
abbrev n_lopp : List Str := ["_law_one", "_law_other"]
theorem sc_lopp : FnScope n_lopp ["_law_one", "_law_other"] (defScope s_law_is_opposed) := ⟨rfl, rfl, rfl, by decide +kernel, rfl, by decide +kernel, by decide +kernel⟩
theorem ok_lopp (F : Fun K "_law_is_opposed" "_law_is_opposed" s_law_is_opposed f fd) (B : Blt mg) (hUnion : Has P w K mg base 1 "_law_union" ["_law_case_here", "_law_other"] qUnion) (hHas : Has P w K mg base 1 "_law_has" ["_law_case_here", "_law_part"] qHas) : FnOk P w K mg base CX0 2 f fd ["_law_one", "_law_other"] qLOpp := by
  refine fnD F sc_lopp (fun _ => rfl) fun cdv A outer s H E hr => ⟨_, _, (pss_cons (ps_if (PW.pt (pw_or (pt_cmpR (show OpR _ (compareOp .Eq) (rEqD K) from op_eqD hr.units) (pe_ix (show IxR _ (rIxT K) from ix_tup) (pv 0) pe_int (fun _ _ => rfl)) (pe_ix (show IxR _ (rIxT K) from ix_tup) (pv 1) pe_int (fun _ _ => rfl)) (nomark _)) (pw_or1 (pt_cmpR op_isN (pe_callH hUnion (hr.mono (by decide)) rfl (pa_cons (pe_ix (show IxR _ (rIxT K) from ix_tup) (pv 0) pe_int (fun _ _ => rfl)) (pa_cons (pe_ix (show IxR _ (rIxT K) from ix_tup) (pv 1) pe_int (fun _ _ => rfl)) pa_nil))) pe_non (nomark _))))) (pss_one (ps_ret pe_bl)) pss_nil)
      (pss_cons (ps_if (PW.pt (pw_or (pt_val (pe_callH hHas (hr.mono (by decide)) rfl (pa_cons (pe_ix (show IxR _ (rIxT K) from ix_tup) (pv 0) pe_int (fun _ _ => rfl)) (pa_cons (pe_ix (show IxR _ (rIxT K) from ix_tup) (pv 1) pe_int (fun _ _ => rfl)) pa_nil)))) (pw_or1 (pt_val (pe_callH hHas (hr.mono (by decide)) rfl (pa_cons (pe_ix (show IxR _ (rIxT K) from ix_tup) (pv 1) pe_int (fun _ _ => rfl)) (pa_cons (pe_ix (show IxR _ (rIxT K) from ix_tup) (pv 0) pe_int (fun _ _ => rfl)) pa_nil))))))) (pss_one (ps_ret (pe_cmpR (show OpR _ (compareOp .Eq) (rEqD K) from op_eqD hr.units) (pe_callB (show CallR _ (.builtin "len") (rLenE K) from call_len_seq) (by rfl) B.len PySem.boot_len (pa_cons (pe_ix (show IxR _ (rIxT K) from ix_tup) (pv 0) pe_int (fun _ _ => rfl)) pa_nil)) (pe_callB (show CallR _ (.builtin "len") (rLenE K) from call_len_seq) (by rfl) B.len PySem.boot_len (pa_cons (pe_ix (show IxR _ (rIxT K) from ix_tup) (pv 1) pe_int (fun _ _ => rfl)) pa_nil)) (nomark _)))) pss_nil)
      (pss_one (ps_ret pe_bl)))), inferInstance, fun a ha => ?_⟩
  obtain ⟨⟨a, x⟩, ⟨b, y⟩⟩ := a
  obtain ⟨oka, okb⟩ := ha
  dsimp only at oka okb
  have fin : ∀ c : Bool, c = lawOppB (a, x) (b, y) → ∃ r', fin (R.dat (.bool c)) r' ∧ r' = R.dat (.bool (oppB (a, x) (b, y))) := fun c e => ⟨_, ⟨rfl, rfl⟩, by rw [e, law_opp (r := (a, x)) (s := (b, y)) oka okb]⟩
  refine ⟨rfl, rfl, ?_⟩
  show if PyData.eqv (.int x) (.int y) = true then _ else _
  rw [eqv_int]
  by_cases h : x = y
  · rw [decide_eq_true h]
    exact fin _ (by unfold lawOppB; simp [h])
  · rw [decide_eq_false h]
    refine no_if rfl ?_
    refine ⟨(a, b), ⟨oka, okb⟩, ⟨rfl, rfl, trivial⟩, fun r hx => ?_⟩
    have hx : r = .dat (unionD a b) := hx
    by_cases m : meetB a b = true
    · have e : unionD a b = caseD (togC a b) := by unfold unionD; rw [if_pos m]
      rw [e] at hx
      subst hx
      refine ⟨(a, b), case_len okb, ⟨rfl, rfl, trivial⟩, fun r hx => ?_⟩
      subst hx
      show if inB b a = true then _ else _
      have ee : ∀ p q : Nat, PyData.eqv (.int ((p : Nat) : Int)) (.int ((q : Nat) : Int)) = decide (p = q) := fun p q => by
        rw [eqv_int]
        by_cases h : p = q
        · rw [decide_eq_true h, decide_eq_true (by omega)]
        · rw [decide_eq_false h, decide_eq_false (by omega)]
      cases i1 : inB b a with
      | true =>
        refine ⟨rfl, rfl, fin _ ?_⟩
        show PyData.eqv (.int (((a.map condD).length : Nat) : Int)) (.int (((b.map condD).length : Nat) : Int)) = _
        rw [List.length_map, List.length_map, ee]
        unfold lawOppB
        simp [h, m, i1]
      | false =>
        refine ⟨(b, a), case_len oka, ⟨rfl, rfl, trivial⟩, fun r hx => ?_⟩
        subst hx
        show if inB a b = true then _ else _
        cases i2 : inB a b with
        | true =>
          refine ⟨rfl, rfl, fin _ ?_⟩
          show PyData.eqv (.int (((a.map condD).length : Nat) : Int)) (.int (((b.map condD).length : Nat) : Int)) = _
          rw [List.length_map, List.length_map, ee]
          unfold lawOppB
          simp [h, m, i1, i2]
        | false => exact fin _ (by unfold lawOppB; simp [h, m, i1, i2])
    · have m' : meetB a b = false := by simpa using m
      have e : unionD a b = .none := by unfold unionD; rw [if_neg m]
      rw [e] at hx
      subst hx
      exact fin _ (by unfold lawOppB; simp [m'])
end
end Cr

set_option synthInstance.maxSize 4000
set_option synthInstance.maxHeartbeats 1000000
namespace Cr
open PySem PySem.Spec PyProof.Rows L2
variable [Tbl]
theorem sort_clt {l : List Cond} (nd : l.Nodup) : (l.mergeSort (PySem.W.dataLe false condD)).Pairwise clt := by
  have nd' : (l.mergeSort (PySem.W.dataLe false condD)).Nodup := (List.mergeSort_perm _ _).nodup_iff.mpr nd
  exact (cond_pw l).imp₂ (fun a b h1 h2 => by
    have h2 : a ≠ b := h2
    unfold clt
    rcases h1 with h | ⟨h, h'⟩
    · exact .inl h
    · refine .inr ⟨h, ?_⟩
      by_cases e : a.2 = b.2
      · exact absurd (Prod.ext h e) h2
      · omega) nd'
/-- the law's pairs, the second one outside -/
def lpairsTo (rs : List Rule) (n : Nat) : List (Nat × Nat) := (List.range n).flatMap fun j => ((List.range j).filter fun i => oppAt rs i j).map fun i => (i, j)
theorem lpairs_mem {rs : List Rule} {n i j : Nat} : (i, j) ∈ lpairsTo rs n ↔ i < j ∧ j < n ∧ oppAt rs i j = true := by
  unfold lpairsTo
  rw [List.mem_flatMap]
  constructor
  · rintro ⟨k, hk, h⟩
    obtain ⟨m, hm, e⟩ := List.mem_map.mp h
    cases e
    obtain ⟨h1, h2⟩ := List.mem_filter.mp hm
    exact ⟨List.mem_range.mp h1, List.mem_range.mp hk, h2⟩
  · rintro ⟨h1, h2, h3⟩
    exact ⟨j, List.mem_range.mpr h2, List.mem_map.mpr ⟨i, List.mem_filter.mpr ⟨List.mem_range.mpr h1, h3⟩, rfl⟩⟩
theorem lpairs_nd (rs : List Rule) (n : Nat) : ((lpairsTo rs n).map fun p => natC p.1 p.2).Nodup := by
  unfold lpairsTo List.Nodup
  rw [List.pairwise_map, List.pairwise_flatMap]
  refine ⟨fun j hj => ?_, ?_⟩
  · rw [List.pairwise_map]
    refine List.Pairwise.filter _ (List.pairwise_lt_range.imp fun {a b} h e => ?_)
    have e : natC a j = natC b j := e
    have : (a : Int) = (b : Int) := congrArg Prod.fst e
    omega
  · refine List.pairwise_lt_range.imp fun {a b} h => ?_
    intro x hx y hy e
    obtain ⟨m, _, rfl⟩ := List.mem_map.mp hx
    obtain ⟨k, _, rfl⟩ := List.mem_map.mp hy
    have : (a : Int) = (b : Int) := congrArg Prod.snd e
    omega
theorem lpairs_sorted (rs : List Rule) : ((lpairsTo rs rs.length).map fun p => natC p.1 p.2).mergeSort (PySem.W.dataLe false condD) = pairsC rs := by
  refine sorted_uniq clt_irr clt_asy (sort_clt (lpairs_nd rs _)) (pairsC_lt rs) fun x => ?_
  rw [(List.mergeSort_perm _ _).mem_iff]
  unfold pairsC
  rw [List.mem_map, List.mem_map]
  constructor
  · rintro ⟨⟨i, j⟩, h, rfl⟩
    exact ⟨(i, j), pairs_mem.mpr (lpairs_mem.mp h), rfl⟩
  · rintro ⟨⟨i, j⟩, h, rfl⟩
    exact ⟨(i, j), lpairs_mem.mpr (pairs_mem.mp h), rfl⟩
theorem lpairs_len {rs : List Rule} {n : Nat} (h : n ≤ 30) : (lpairsTo rs n).length ≤ 900 := by
  unfold lpairsTo
  rw [List.length_flatMap]
  have := sum_add_map_le (l := List.range n) (f := fun j => (((List.range j).filter fun i => oppAt rs i j).map fun i => (i, j)).length) (n := 30) fun j hj => by
    rw [List.length_map]
    have := List.length_filter_le (fun i => oppAt rs i j) (List.range j)
    rw [List.length_range] at this
    have := List.mem_range.mp hj
    omega
  rw [List.length_range] at this
  have : n * 30 ≤ 30 * 30 := Nat.mul_le_mul_right _ h
  omega
theorem shaped_natL (l : List Nat) : SeqAt.shaped (.list (l.map fun (i : Nat) => PyData.int (i : Nat))) = true := shaped_of (by simp only [PyData.canLay0]; exact lay_all (fun x => by simp [PyData.canLay0]) l) (by have h := dep_all (f := fun i : Nat => PyData.int (i : Nat)) (n := 1) (fun x => by simp [PyData.depth]) l; simp only [PyData.depth]; omega)
def tornD (rs : List Rule) : PyData := match tornO rs with
  | some p => condD (natC p.1 p.2)
  | none => .none
theorem opp_meet {r s : Rule} (h : oppB r s = true) : meetB r.1 s.1 = true := by
  unfold oppB at h
  rw [Bool.and_eq_true, Bool.not_eq_true', Bool.or_eq_false_iff] at h
  simpa using h.1.2
section
variable {P : Program} {w : World} {K : PySem.W.Frag} {mg : Str → Option Value} {base : Heap} {f : Addr} {fd : FuncData}
abbrev qSettlers : Sp := spD (fun a : List Rule × Rule × Rule => RulesOk 17 a.1 ∧ CaseOk a.2.1.1 ∧ CaseOk a.2.2.1 ∧ meetB a.2.1.1 a.2.2.1 = true) (fun a => [.dat (.list (a.1.map ruleD)), .dat (ruleD a.2.1), .dat (ruleD a.2.2)]) (fun a r => r = .new ((numsL a.1 a.2.1 a.2.2 a.1.length).map fun (k : Nat) => .int (k : Nat)))
abbrev n_settlers : List Str := ["_law_rules_here", "_law_one", "_law_other", "_law_both", "_law_found", "_law_at", "_law_rule", "_law_more", "_law_part"]
theorem sc_settlers : FnScope n_settlers ["_law_rules_here", "_law_one", "_law_other"] (defScope s_law_settlers) := ⟨rfl, rfl, rfl, by decide +kernel, rfl, by decide +kernel, by decide +kernel⟩
theorem ok_settlers (F : Fun K "_law_settlers" "_law_settlers" s_law_settlers f fd) (B : Blt mg) (hEnum : mg "enumerate" = none) (hUnion : Has P w K mg base 1 "_law_union" ["_law_case_here", "_law_other"] qUnion) (hHas : Has P w K mg base 1 "_law_has" ["_law_case_here", "_law_part"] qHas) : FnOk P w K mg base CX0 2 f fd ["_law_rules_here", "_law_one", "_law_other"] qSettlers := by
  refine fnD F sc_settlers (fun _ => rfl) fun cdv A outer s H E hr => ⟨_, _, (pss_cons (ps_par (i := 3) (j := 4) rfl sc_settlers.nd rfl rfl (by decide) rfl rfl (pa_cons (pe_callH hUnion (hr.mono (by decide)) rfl (pa_cons (pe_ix (show IxR _ (rIxT K) from ix_tup) (pv 1) pe_int (fun _ _ => rfl)) (pa_cons (pe_ix (show IxR _ (rIxT K) from ix_tup) (pv 2) pe_int (fun _ _ => rfl)) pa_nil))) (pa_cons (pe_lst pa_nil) pa_nil)) rfl)
      (pss_cons (ps_for PassesOwn.never rfl (show PI _ _ _ (iEnL K _) from pi_enL (by rfl) hEnum (pa_cons (pv 0) pa_nil)) (pg_tup (n := 2) rfl (pgs_cons (pg_name (i := 5) sc_settlers.nd rfl (.inl rfl)) (pgs_cons (pg_name (i := 6) sc_settlers.nd rfl (.inr rfl)) pgs_nil)))
      (pss_cons (ps_setLc (i := 7) (own := [("_law_part", 8)]) (g := (gName 8)) rfl sc_settlers.nd rfl rfl (sw_true rfl rfl rfl (by decide +kernel)) (pi_tup (pe_tupF (pa_cons (pe_ix (show IxR _ (rIxT K) from ix_tup) (pv 1) pe_int (fun _ _ => rfl)) (pa_cons (pe_ix (show IxR _ (rIxT K) from ix_tup) (pv 2) pe_int (fun _ _ => rfl)) pa_nil)))) (blkOk_by (own := [("_law_part", 8)]) (N := n_settlers) (sc := defScope s_law_settlers) (by decide +kernel)) (fun _ _ _ _ _ => (pg_name (i := 8) sc_settlers.nd rfl (Or.inl rfl))) (fun _ _ _ _ _ => (pts_one (PW.pt (pw_and (pt_val (pe_callH hHas (hr.mono (by decide)) rfl (pa_cons (pe_ix (show IxR _ (rIxT K) from ix_tup) (pv 6) pe_int (fun _ _ => rfl)) (pa_cons (pv 8) pa_nil)))) (pw_and1 (pt_cmpR op_lt (pe_callB (show CallR _ (.builtin "len") (rLenE K) from call_len_seq) (by rfl) B.len PySem.boot_len (pa_cons (pv 8) pa_nil)) (pe_callB (show CallR _ (.builtin "len") (rLenE K) from call_len_seq) (by rfl) B.len PySem.boot_len (pa_cons (pe_ix (show IxR _ (rIxT K) from ix_tup) (pv 6) pe_int (fun _ _ => rfl)) pa_nil)) (nomark _))))))) (fun _ _ _ _ _ => (pv 8)))
      (pss_one (ps_if (PW.pt (pw_and (pt_cmpR (show OpR _ (compareOp .NotEq) (rNeD K) from op_neD hr.units) (pv 7) (pe_lst pa_nil) (nomark _)) (pw_and1 (pt_val (pe_callH hHas (hr.mono (by decide)) rfl (pa_cons (pv 3) (pa_cons (pe_ix (show IxR _ (rIxT K) from ix_tup) (pv 6) pe_int (fun _ _ => rfl)) pa_nil))))))) (pss_one (ps_expr (pe_bm PySem.F.plainAttrs_list PySem.F.slot_list_append PySem.F.type_list_append mt_append (pv 4) (pa_cons (pv 5) pa_nil)))) pss_nil))))
      (pss_one (ps_ret (pv 4))))), inferInstance, fun a ha => ?_⟩
  obtain ⟨rs, ⟨a, x⟩, ⟨b, y⟩⟩ := a
  obtain ⟨ok, oka, okb, m⟩ := ha
  dsimp only at ok oka okb m
  have few := ok.few
  refine ⟨(a, b), ⟨oka, okb⟩, ⟨rfl, rfl, trivial⟩, fun r hx => ?_⟩
  have hx : r = .dat (caseD (togC a b)) := by
    have hx : r = .dat (unionD a b) := hx
    rw [hx]
    unfold unionD
    rw [if_pos m]
  subst hx
  refine ⟨_, rfl, by show (0 : Nat) ≤ 1000000; decide, .own [], .inl rfl, ?_⟩
  refine ⟨rfl, ?_⟩
  refine loop_enumL (as := rs) (enc := ruleD) (fun i env => ∃ (o5 o6 o7 : Option SV), env = [some (.dat (.list (rs.map ruleD))), some (.dat (ruleD (a, x))), some (.dat (ruleD (b, y))), some (.dat (caseD (togC a b))), some (.own ((numsL rs (a, x) (b, y) i).map fun (k : Nat) => PyData.int (k : Nat))), o5, o6, o7, none]) ⟨_, _, _, rfl⟩ (fun i c env' hc he => ?_) fun env' he => ?_
  · obtain ⟨o5, o6, o7, rfl⟩ := he
    have okc := (ok.each c (List.mem_of_getElem? hc)).case
    refine ⟨rfl, ?_⟩
    have en : numsL rs (a, x) (b, y) (i + 1) = numsL rs (a, x) (b, y) i ++ if setlB c.1 a b = true then [i] else [] := by
      unfold numsL
      rw [List.range_succ, List.filter_append]
      congr 1
      have e : setlK rs (a, x) (b, y) i = setlB c.1 a b := by unfold setlK; rw [hc]
      rw [List.filter_cons, e, List.filter_nil]
    have il : i < rs.length := (List.getElem?_eq_some_iff.mp hc).1
    have nl : (numsL rs (a, x) (b, y) i).length ≤ i := by
      unfold numsL
      have := List.length_filter_le (setlK rs (a, x) (b, y)) (List.range i)
      rw [List.length_range] at this
      exact this
    refine dLc_pure (as := [a, b]) (enc := caseD) (fun p => inB p c.1 && decide (p.length < c.1.length)) (fun p => caseD p) (st := true) (fun q h => ⟨by show (2 : Nat) ≤ 1000000; decide, h⟩) (by show (2 : Nat) ≤ 1000000; decide) (fun p hp k hk => ?_) ?_
    · have okp : CaseOk p := by
        rcases List.mem_cons.mp hp with rfl | hp
        · exact oka
        · rw [List.mem_singleton.mp hp]; exact okb
      refine ⟨(c.1, p), case_len okp, ⟨rfl, rfl, trivial⟩, fun r hx => ?_⟩
      subst hx
      show if inB p c.1 = true then _ else _
      cases i1 : inB p c.1 with
      | true =>
        rw [i1, Bool.true_and] at hk
        refine of_if ?_ hk
        show decide ((((p.map condD).length : Nat) : Int) < (((c.1.map condD).length : Nat) : Int)) = _
        rw [List.length_map, List.length_map, lt_nat]
      | false =>
        rw [i1, Bool.false_and] at hk
        exact hk
    · have em : ([a, b].filter fun p => inB p c.1 && decide (p.length < c.1.length)).isEmpty = !(strB a c.1 || strB b c.1) := by
        have e1 : strB a c.1 = (inB a c.1 && decide (a.length < c.1.length)) := Bool.and_comm _ _
        have e2 : strB b c.1 = (inB b c.1 && decide (b.length < c.1.length)) := Bool.and_comm _ _
        rw [e1, e2]
        cases h1 : (inB a c.1 && decide (a.length < c.1.length)) <;> cases h2 : (inB b c.1 && decide (b.length < c.1.length)) <;> (rw [List.filter_cons, List.filter_cons, List.filter_nil, h1, h2]; rfl)
      refine ⟨.dat (.list _), .inr rfl, ?_⟩
      generalize ([a, b].filter fun p => inB p c.1 && decide (p.length < c.1.length)) = more at em
      refine ⟨by show (0 : Nat) ≤ 1000000; decide, shaped_casesL more, rfl, ?_⟩
      show if (!PyData.eqv (.list (more.map fun p => caseD p)) (.list [])) = true then _ else _
      rw [eqv_nil, List.isEmpty_map, em, Bool.not_not]
      cases h : (strB a c.1 || strB b c.1) with
      | true =>
        refine ⟨(togC a b, c.1), case_len okc, ⟨rfl, rfl, trivial⟩, fun r hx => ?_⟩
        subst hx
        show if inB c.1 (togC a b) = true then _ else _
        cases h2 : inB c.1 (togC a b) with
        | true =>
          have e : setlB c.1 a b = true := by unfold setlB; rw [h, h2]; rfl
          rw [e, if_pos rfl] at en
          refine ⟨by rw [List.length_map]; omega, some (.dat (.int (i : Nat))), some (.dat (ruleD c)), some (.dat (.list (more.map fun p => caseD p))), ?_⟩
          rw [en, List.map_append]
          rfl
        | false =>
          have e : setlB c.1 a b = false := by unfold setlB; rw [h2, Bool.and_false]
          rw [e, if_neg Bool.false_ne_true, List.append_nil] at en
          exact ⟨some (.dat (.int (i : Nat))), some (.dat (ruleD c)), some (.dat (.list (more.map fun p => caseD p))), by rw [en]; rfl⟩
      | false =>
        have e : setlB c.1 a b = false := by unfold setlB; rw [h, Bool.false_and]
        rw [e, if_neg Bool.false_ne_true, List.append_nil] at en
        exact no_if rfl ⟨some (.dat (.int (i : Nat))), some (.dat (ruleD c)), some (.dat (.list (more.map fun p => caseD p))), by rw [en]; rfl⟩
  · obtain ⟨o5, o6, o7, rfl⟩ := he
    exact ⟨_, ⟨noLs_map (fun _ => rfl) _, rfl⟩, rfl⟩
abbrev qLPairs : Sp := spD (fun rs : List Rule => RulesOk 17 rs) (fun rs => [.dat (.list (rs.map ruleD))]) (fun rs r => r = .new ((pairsC rs).map condD))
abbrev n_lpairs : List Str := ["_law_rules_here", "_law_found", "_law_second", "_law_first"]
theorem sc_lpairs : FnScope n_lpairs ["_law_rules_here"] (defScope s_law_pairs) := ⟨rfl, rfl, rfl, by decide +kernel, rfl, by decide +kernel, by decide +kernel⟩
theorem ok_lpairs (F : Fun K "_law_pairs" "_law_pairs" s_law_pairs f fd) (B : Blt mg) (hLOpp : Has P w K mg base 2 "_law_is_opposed" ["_law_one", "_law_other"] qLOpp) : FnOk P w K mg base CX0 3 f fd ["_law_rules_here"] qLPairs := by
  refine fnD F sc_lpairs (fun _ => rfl) fun cdv A outer s H E hr => ⟨_, _, (pss_cons (ps_set (i := 1) sc_lpairs.nd rfl (.inl rfl) (pe_lst pa_nil))
      (pss_cons (ps_for PassesOwn.never rfl (pi_range1 (by rfl) B.range (pa_cons (pe_callB (show CallR _ (.builtin "len") (rLenE K) from call_len_seq) (by rfl) B.len PySem.boot_len (pa_cons (pv 0) pa_nil)) pa_nil)) (pg_name (i := 2) sc_lpairs.nd rfl (.inr rfl))
      (pss_one (ps_expr (pe_bm PySem.F.plainAttrs_list PySem.F.slot_list_extend PySem.F.type_list_extend mt_extend (pv 1) (pa_cons (pe_lc (own := [("_law_first", 3)]) (g := (gName 3)) rfl sc_lpairs.nd (pi_range1 (by rfl) B.range (pa_cons (pv 2) pa_nil)) (blkOk_by (own := [("_law_first", 3)]) (N := n_lpairs) (sc := defScope s_law_pairs) (by decide +kernel)) (fun _ _ _ _ _ => (pg_name (i := 3) sc_lpairs.nd rfl (Or.inl rfl))) (fun _ _ _ _ _ => (pts_one (pt_val (pe_callH hLOpp (hr.mono (by decide)) rfl (pa_cons (pe_ix (show IxR _ (rIxL K) from ix_list) (pv 0) (pv 3) (fun _ _ => rfl)) (pa_cons (pe_ix (show IxR _ (rIxL K) from ix_list) (pv 0) (pv 2) (fun _ _ => rfl)) pa_nil)))))) (fun _ _ _ _ _ => (pe_tupF (pa_cons (pv 3) (pa_cons (pv 2) pa_nil))))) pa_nil)))))
      (pss_one (ps_ret (pe_callB (cr_sortedE (enc := condD) hr.u66) (by rfl) B.sorted (by decide +kernel) (pa_cons (pv 1) pa_nil)))))), inferInstance, fun rs ok => ?_⟩
  have few := ok.few
  refine ⟨by show (0 : Nat) ≤ 1000000; decide, .own [], .inl rfl, ?_⟩
  refine ⟨⟨by show -(2 ^ 62) ≤ (((rs.map ruleD).length : Nat) : Int); omega, by show (((rs.map ruleD).length : Nat) : Int) < 2 ^ 62; rw [List.length_map]; omega⟩, rfl, ?_⟩
  show sLoop _ _ (rangeD 0 (((rs.map ruleD).length : Nat) : Int).toNat) _ _
  rw [List.length_map, Int.toNat_natCast]
  refine loop_range (lo := 0) (n := rs.length) (fun j env => ∃ o2 : Option SV, env = [some (.dat (.list (rs.map ruleD))), some (.own ((lpairsTo rs j).map fun p => condD (natC p.1 p.2))), o2, none]) ⟨_, rfl⟩ (fun j env' hj he => ?_) fun env' he => ?_
  · obtain ⟨o2, rfl⟩ := he
    rw [Int.zero_add]
    obtain ⟨t, htj⟩ : ∃ t, rs[j]? = some t := ⟨rs[j], List.getElem?_eq_getElem hj⟩
    have ll := lpairs_len (rs := rs) (n := j) (by omega)
    show dLc _ _ _ _ _ [some (.dat (.list (rs.map ruleD))), some (.own ((lpairsTo rs j).map fun p => condD (natC p.1 p.2))), some (.dat (.int (j : Nat))), none] _
    refine dLc_pure (as := List.range j) (enc := fun (i : Nat) => PyData.int (0 + (i : Int))) (fun i => oppAt rs i j) (fun i => condD (natC i j)) (st := true) (fun q h => ⟨⟨by omega, by omega⟩, h⟩) (by rw [List.length_range]; omega) (fun i hi k hk => ?_) ?_
    · have il := List.mem_range.mp hi
      obtain ⟨r, hri⟩ : ∃ r, rs[i]? = some r := ⟨rs[i], List.getElem?_eq_getElem (by omega)⟩
      rw [Int.zero_add]
      unfold dgName dTest dCB dCons
      refine dIxL_at (i := 0) (j := 3) rfl rfl (rules_at hri) ?_
      refine dIxL_at (i := 0) (j := 2) rfl rfl (rules_at htj) ?_
      refine ⟨(r, t), ⟨(ok.each r (List.mem_of_getElem? hri)).case, (ok.each t (List.mem_of_getElem? htj)).case⟩, ⟨rfl, rfl, trivial⟩, fun x hx => ?_⟩
      subst hx
      have e : oppAt rs i j = oppB r t := by unfold oppAt; rw [hri, htj]
      rw [e] at hk
      show if oppB r t = true then _ else _
      split
      · rename_i h
        rw [if_pos h] at hk
        exact ⟨by show (2 : Nat) ≤ 1000000; decide, hk⟩
      · rename_i h
        rw [if_neg h] at hk
        exact hk
    · refine ⟨?_, some (.dat (.int (j : Nat))), ?_⟩
      · rw [List.length_map, List.length_map]
        have := List.length_filter_le (fun i => oppAt rs i j) (List.range j)
        rw [List.length_range] at this
        omega
      · have e : lpairsTo rs (j + 1) = lpairsTo rs j ++ ((List.range j).filter fun i => oppAt rs i j).map fun i => (i, j) := by
          unfold lpairsTo
          rw [List.range_succ, List.flatMap_append]
          simp
        rw [e, List.map_append, List.map_map]
        rfl
  · obtain ⟨o2, rfl⟩ := he
    refine ⟨(lpairsTo rs rs.length).map fun p => natC p.1 p.2, ?_, PySem.W.AllAlike.of alike_cond, PySem.W.Sortable.tuples fun c => ⟨_, _, rfl⟩, fun b _ => depth_cond b, ?_⟩
    · show some ((lpairsTo rs rs.length).map fun p => condD (natC p.1 p.2)) = some (((lpairsTo rs rs.length).map fun p => natC p.1 p.2).map condD)
      rw [List.map_map]
      rfl
    · rw [lpairs_sorted]
      exact ⟨_, ⟨noLs_map cond_noL _, rfl⟩, rfl⟩
abbrev qTorn : Sp := spD (fun rs : List Rule => RulesOk 17 rs) (fun rs => [.dat (.list (rs.map ruleD))]) (fun rs r => r = .dat (tornD rs))
abbrev n_torn : List Str := ["_law_rules_here", "_law_first", "_law_second"]
theorem sc_torn : FnScope n_torn ["_law_rules_here"] (defScope s_law_torn) := ⟨rfl, rfl, rfl, by decide +kernel, rfl, by decide +kernel, by decide +kernel⟩
theorem ok_torn (F : Fun K "_law_torn" "_law_torn" s_law_torn f fd) (B : Blt mg) (hLPairs : Has P w K mg base 3 "_law_pairs" ["_law_rules_here"] qLPairs) (hSettlers : Has P w K mg base 2 "_law_settlers" ["_law_rules_here", "_law_one", "_law_other"] qSettlers) : FnOk P w K mg base CX0 4 f fd ["_law_rules_here"] qTorn := by
  refine fnD F sc_torn (fun _ => rfl) fun cdv A outer s H E hr => ⟨_, _, (pss_cons (ps_for PassesOwn.never rfl (pi_list (pe_callH hLPairs (hr.mono (by decide)) rfl (pa_cons (pv 0) pa_nil))) (pg_tup (n := 2) rfl (pgs_cons (pg_name (i := 1) sc_torn.nd rfl (.inl rfl)) (pgs_cons (pg_name (i := 2) sc_torn.nd rfl (.inl rfl)) pgs_nil)))
      (pss_one (ps_if (pt_cmpR (show OpR _ (compareOp .Eq) (rEqD K) from op_eqD hr.units) (pe_callH hSettlers (hr.mono (by decide)) rfl (pa_cons (pv 0) (pa_cons (pe_ix (show IxR _ (rIxL K) from ix_list) (pv 0) (pv 1) (fun _ _ => rfl)) (pa_cons (pe_ix (show IxR _ (rIxL K) from ix_list) (pv 0) (pv 2) (fun _ _ => rfl)) pa_nil)))) (pe_lst pa_nil) (nomark _)) (pss_one (ps_ret (pe_tupF (pa_cons (pv 1) (pa_cons (pv 2) pa_nil))))) pss_nil)))
      (pss_one (ps_ret pe_non))), inferInstance, fun rs ok => ?_⟩
  refine ⟨rs, ok, ⟨rfl, trivial⟩, fun x hx => ?_⟩
  subst hx
  refine ⟨rfl, ?_⟩
  have ep : (pairsC rs).map condD = (pairsN rs).map fun p => condD (natC p.1 p.2) := by unfold pairsC; rw [List.map_map]; rfl
  show sLoop _ _ ((pairsC rs).map condD) _ _
  rw [ep]
  refine loop_typed (as := pairsN rs) (enc := fun p => condD (natC p.1 p.2)) (fun i env => (∃ o1 o2 : Option SV, env = [some (.dat (.list (rs.map ruleD))), o1, o2]) ∧ ∀ p ∈ (pairsN rs).take i, (numsN rs p.1 p.2).isEmpty = false) ⟨⟨_, _, rfl⟩, fun p hp => (nomatch hp)⟩ (fun i p env' hp he => ?_) fun env' he => ?_
  · obtain ⟨⟨o1, o2, rfl⟩, hn⟩ := he
    obtain ⟨p1, p2, p3⟩ := pairs_mem.mp (show (p.1, p.2) ∈ pairsN rs from List.mem_of_getElem? hp)
    obtain ⟨r, t, hr1, ht1, ho⟩ := opp_some p3
    refine dg2 ?_
    refine sIf_intro (dOp_intro (dCB_intro (dCons_intro (dVar_at rfl (dCons_intro ?_)))))
    refine dIxL_at (i := 0) (j := 1) rfl rfl (rules_at hr1) (dCons_intro ?_)
    refine dIxL_at (i := 0) (j := 2) rfl rfl (rules_at ht1) ?_
    refine ⟨(rs, r, t), ⟨ok, (ok.each r (List.mem_of_getElem? hr1)).case, (ok.each t (List.mem_of_getElem? ht1)).case, opp_meet ho⟩, ⟨rfl, rfl, rfl, trivial⟩, fun x hx => ?_⟩
    have hx : x = .new ((numsN rs p.1 p.2).map fun (k : Nat) => PyData.int (k : Nat)) := by rw [← numsL_is hr1 ht1]; exact hx
    subst hx
    refine ⟨by show (0 : Nat) ≤ 1000000; decide, ?_, rfl, ?_⟩
    · exact shaped_natL _
    show if PyData.eqv (.list ((numsN rs p.1 p.2).map fun (k : Nat) => PyData.int (k : Nat))) (.list []) = true then _ else _
    rw [eqv_nil, List.isEmpty_map]
    cases e : (numsN rs p.1 p.2).isEmpty with
    | true =>
      refine ⟨by show (2 : Nat) ≤ 1000000; decide, _, ⟨rfl, rfl⟩, ?_⟩
      show R.dat (condD (natC p.1 p.2)) = R.dat (tornD rs)
      have : tornO rs = some p := by
        unfold tornO
        obtain ⟨hl, hg⟩ := List.getElem?_eq_some_iff.mp hp
        rw [List.find?_eq_some_iff_getElem]
        refine ⟨e, i, hl, hg, fun j hj => ?_⟩
        have := hn (pairsN rs)[j] (List.mem_take_iff_getElem.mpr ⟨j, by omega, rfl⟩)
        simpa using this
      unfold tornD
      rw [this]
    | false =>
      refine no_if rfl ⟨⟨_, _, rfl⟩, fun q hq => ?_⟩
      rw [take_snoc hp] at hq
      rcases List.mem_append.mp hq with h | h
      · exact hn q h
      · rw [List.mem_singleton.mp h]; exact e
  · obtain ⟨⟨o1, o2, rfl⟩, hn⟩ := he
    rw [List.take_length] at hn
    refine ⟨_, ⟨rfl, rfl⟩, ?_⟩
    show R.dat .none = R.dat (tornD rs)
    have : tornO rs = none := List.find?_eq_none.mpr fun p hp => by rw [hn p hp]; exact Bool.false_ne_true
    unfold tornD
    rw [this]
end
end Cr

set_option synthInstance.maxSize 4000
set_option synthInstance.maxHeartbeats 1000000
namespace Cr
open PySem PySem.Spec PyProof.Rows L2
variable [Tbl]
theorem cut1 {α : Type} (xs : List α) : cutD xs none (some 1) = xs.take 1 := by
  cases xs with
  | nil => rfl
  | cons x xs => simp [cutD, HT.sIx]
theorem oIxD_at {r : R} {ds : List PyData} {i : Nat} {d : PyData} {Qd : R → Prop} (hd : r.data = some (.list ds)) (h : ds[i]? = some d) (q : Qd (.dat d)) : oIx false r (.dat (.int (i : Nat))) Qd := by
  have e := oIxL_at (Qd := Qd) h q
  unfold oIx at e ⊢
  rw [hd]
  exact e
theorem one_ok {n : Nat} {rs : List Rule} (ok : RulesOk n rs) : RulesOk 12 (rs.take 1) ∧ setdB (rs.take 1) = true :=
  ⟨⟨fun r hr => ok.each r (List.mem_of_mem_take hr), ok.nd.sublist (List.take_sublist _ _), by rw [List.length_take]; omega⟩, few_settled (by rw [List.length_take]; omega)⟩
section
variable {P : Program} {w : World} {K : PySem.W.Frag} {mg : Str → Option Value} {base : Heap} {f : Addr} {fd : FuncData}
abbrev qLSettled : Sp := spD (fun m : Int => 0 ≤ m ∧ m ≤ 12) (fun m => [.src, .dat (.int m)]) (fun _ r => ∃ rs : List Rule, r = .new (rs.map ruleD) ∧ RulesOk 12 rs ∧ setdB rs = true)
end
end Cr

namespace Cr
open PySem PySem.Spec PyProof.Rows L2
variable [Tbl]
theorem FnG.imp {P : Program} {w : World} {K : PySem.W.Frag} {mg : Str → Option Value} {base : Heap} {n : Nat} {f : Addr} {sp sp' : Sp} (F : FnG P w K mg base CX0 n f sp) (k : ∀ vs H Q E, sp' vs H Q E → sp vs H Q E) : FnG P w K mg base CX0 n f sp' :=
  fun A outer s H us vs Q E g r e v h => F A outer s H us vs Q E g r e v (k vs H Q E h)
/-- data that look the same -/
def Shows (d : PyData) : Prop := d.showable = true ∧ d.hasDict = false ∧ d.depth ≤ 60 ∧ d.shown.length ≤ sizeLine
abbrev qSame : Sp := spD Shows (fun d => [.dat d, .dat d]) (fun _ r => r = .dat (.bool true))
theorem toSame (K : PySem.W.Frag) (vs : List V) (H : Hp) (Q : VK) (E : XK) (h : qSame vs H Q E) : spSame K vs H Q E := by
  obtain ⟨d, S, ⟨h1, h2, h3, h4⟩, hS, hv, q⟩ := h
  obtain ⟨v1, v2, rfl, a1, a2⟩ := hv.two
  have a1 : RD S H v1 d := a1
  have a2 : RD S H v2 d := a2
  exact ⟨v1, v2, d, rfl, RD.dp (K := K) a1, RD.dp (K := K) a2, h1, h2, h3, h4, q _ H (.dat (.bool true)) (sameGe hS (Same.refl _)) (.bl true) rfl⟩
theorem shows_bool (b : Bool) : Shows (.bool b) := ⟨by cases b <;> rfl, by cases b <;> rfl, by cases b <;> simp [PyData.depth], by
  have : (PyData.bool b).shown.length ≤ 100 := by cases b <;> decide +kernel
  rw [sizeLine_eq]
  omega⟩
theorem ite_both {c : Bool} {X Y : (R → Prop) → Prop} {Qd : R → Prop} (Φ : R → Prop) (hx : ∀ Q, (∀ r, Φ r → Q r) → X Q) (hy : ∀ Q, (∀ r, Φ r → Q r) → Y Q) (q : ∀ r, Φ r → Qd r) : if c = true then X Qd else Y Qd := by
  cases c with
  | true => exact hx _ q
  | false => exact hy _ q
theorem turns2 (n : Nat) : -(2 ^ 62) ≤ (if (if (2 : Int) < (n : Int) then (2 : Int) else (n : Int)) > 1 then (if (2 : Int) < (n : Int) then (2 : Int) else (n : Int)) else 1) ∧ (if (if (2 : Int) < (n : Int) then (2 : Int) else (n : Int)) > 1 then (if (2 : Int) < (n : Int) then (2 : Int) else (n : Int)) else 1) < 2 ^ 62 := by omega
end Cr

namespace Cr
open PySem PySem.Spec PyProof.Rows L2
variable [Tbl]
/-- data that are small enough to be shown: weight and depth -/
structure Sm (w n : Nat) (d : PyData) : Prop where
  sh : d.showable = true
  nd : d.hasDict = false
  dp : d.depth ≤ n
  lv : d.leavesShort 13 = true
  wt : d.weight ≤ w
structure SmL (w n : Nat) (xs : List PyData) : Prop where
  sh : PyData.showableAll xs = true
  nd : PyData.hasDictAll xs = false
  dp : PyData.depthAll xs ≤ n
  lv : PyData.leavesShortAll 13 xs = true
  wt : PyData.weightAll xs ≤ w
theorem Sm.shows {w n : Nat} {d : PyData} (h : Sm w n d) (hw : w ≤ 1048576) (hn : n ≤ 60) : Shows d := ⟨h.sh, h.nd, Nat.le_trans h.dp hn, PyData.shown_fits (B := 13) (by decide) (by decide) h.lv (Nat.le_trans h.wt (by rw [show (2 : Nat) ^ 20 = 1048576 from rfl]; exact hw))⟩
theorem Sm.mono {w w' n n' : Nat} {d : PyData} (h : Sm w n d) (hw : w ≤ w') (hn : n ≤ n') : Sm w' n' d := ⟨h.sh, h.nd, Nat.le_trans h.dp hn, h.lv, Nat.le_trans h.wt hw⟩
theorem log2_le {a : Nat} (h : a < 1024) : a.log2 < 10 := by
  by_cases h0 : a = 0
  · subst h0; decide
  · exact (Nat.log2_lt h0).mpr h
theorem Sm.int {i : Int} (h : i.natAbs < 1024) : Sm 10 0 (.int i) := by
  have l := log2_le h
  refine ⟨?_, by simp only [PyData.hasDict], by simp only [PyData.depth]; exact Nat.le_refl _, ?_, ?_⟩
  · simp only [PyData.showable, decide_eq_true_eq]
    omega
  · simp only [PyData.leavesShort, decide_eq_true_eq]
    exact PyData.shown_int_le (by omega)
  · simp only [PyData.weight]
    split
    · exact Nat.zero_le _
    · omega
theorem Sm.nat {i : Nat} (h : i < 1024) : Sm 10 0 (.int (i : Nat)) := Sm.int (by omega)
theorem Sm.bool (b : Bool) : Sm 0 0 (.bool b) := ⟨by cases b <;> simp [PyData.showable], by cases b <;> simp [PyData.hasDict], by cases b <;> simp [PyData.depth], by cases b <;> simp [PyData.leavesShort], by cases b <;> simp [PyData.weight]⟩
theorem Sm.none : Sm 0 0 .none := ⟨by simp [PyData.showable], by simp [PyData.hasDict], by simp [PyData.depth], by simp [PyData.leavesShort], by simp [PyData.weight]⟩
theorem Sm.str {s : Str} {n : Nat} (h : s.cps.size ≤ n) (hc : s.cps.toList.all (fun c => decide (c < 16 ^ 8)) = true) : Sm n 0 (.str s) := ⟨by simp [PyData.showable], by simp [PyData.hasDict], by simp [PyData.depth], by simp only [PyData.leavesShort]; exact hc, by simp only [PyData.weight]; exact h⟩
theorem SmL.nil (n : Nat) : SmL 0 n [] := ⟨rfl, rfl, Nat.zero_le _, rfl, Nat.le_refl _⟩
theorem SmL.cons {w w' n : Nat} {x : PyData} {xs : List PyData} (h : Sm w n x) (t : SmL w' n xs) : SmL (w + 1 + w') n (x :: xs) := ⟨by rw [PyData.showableAll, h.sh, t.sh]; rfl, by rw [PyData.hasDictAll, h.nd, t.nd]; rfl, by rw [PyData.depthAll]; exact Nat.max_le.mpr ⟨h.dp, t.dp⟩, by rw [PyData.leavesShortAll, h.lv, t.lv]; rfl, by rw [PyData.weightAll]; have := h.wt; have := t.wt; omega⟩
theorem SmL.all {w n : Nat} {xs : List PyData} (h : ∀ x ∈ xs, Sm w n x) : SmL (xs.length * (w + 1)) n xs := by
  induction xs with
  | nil => rw [List.length_nil, Nat.zero_mul]; exact .nil n
  | cons x xs ih =>
    have e := SmL.cons (h x List.mem_cons_self) (ih fun y hy => h y (List.mem_cons_of_mem _ hy))
    rw [List.length_cons, Nat.succ_mul, Nat.add_comm]
    exact e
theorem Sm.tup {w n : Nat} {xs : List PyData} (h : SmL w n xs) : Sm w (n + 1) (.tuple xs) := ⟨by rw [PyData.showable]; exact h.sh, by rw [PyData.hasDict]; exact h.nd, by rw [PyData.depth]; have := h.dp; omega, by rw [PyData.leavesShort]; exact h.lv, by rw [PyData.weight]; exact h.wt⟩
theorem Sm.list {w n : Nat} {xs : List PyData} (h : SmL w n xs) : Sm w (n + 1) (.list xs) := ⟨by rw [PyData.showable]; exact h.sh, by rw [PyData.hasDict]; exact h.nd, by rw [PyData.depth]; have := h.dp; omega, by rw [PyData.leavesShort]; exact h.lv, by rw [PyData.weight]; exact h.wt⟩
theorem SmL.mono {w w' n n' : Nat} {xs : List PyData} (h : SmL w n xs) (hw : w ≤ w') (hn : n ≤ n') : SmL w' n' xs := ⟨h.sh, h.nd, Nat.le_trans h.dp hn, h.lv, Nat.le_trans h.wt hw⟩
theorem Sm.map {α : Type} {w n k : Nat} {f : α → PyData} {l : List α} (h : ∀ a ∈ l, Sm w n (f a)) (hl : l.length ≤ k) : SmL (k * (w + 1)) n (l.map f) := by
  refine (SmL.all fun x hx => ?_).mono (?_ : (l.map f).length * (w + 1) ≤ _) (Nat.le_refl _)
  · obtain ⟨a, ha, rfl⟩ := List.mem_map.mp hx
    exact h a ha
  · rw [List.length_map]
    exact Nat.mul_le_mul_right _ hl
theorem Sm.cond {c : Cond} (h1 : c.1.natAbs < 1024) (h2 : c.2.natAbs < 1024) : Sm 22 1 (condD c) := .tup (.cons (.int h1) (.cons (.int h2) (.nil 0)))
theorem Sm.case {c : Case} {k : Nat} (h : ∀ x ∈ c, x.1.natAbs < 1024 ∧ x.2.natAbs < 1024) (hl : c.length ≤ k) : Sm (k * 23) 2 (caseD c) := .tup (Sm.map (fun a ha => .cond (h a ha).1 (h a ha).2) hl)
theorem Sm.caseOk {c : Case} (ok : CaseOk c) : Sm 115 2 (caseD c) := Sm.case (k := 5) (fun x hx => by have := ok.each x hx; omega) (by have := ok.len; omega)
theorem Sm.rule {r : Rule} (ok : RuleOk r) : Sm 127 3 (ruleD r) := .tup (.cons ((Sm.caseOk ok.case).mono (Nat.le_refl _) (Nat.le_refl _)) (.cons ((Sm.int (by have := ok.lo; have := ok.hi; omega)).mono (Nat.le_refl _) (Nat.zero_le _)) (.nil 2)))
end Cr

namespace Cr
open PySem PySem.Spec PyProof.Rows L2
variable [Tbl]
/-- a, b = (x, y), with a tuple that is built -/
instance (priority := 2000) {K : PySem.W.Frag} {ta tb : TE} {Ta Tb : DTE} {i j : Nat} [DL ta Ta] [DL tb Tb] : DS (tAsg (tTupF (tCons ta (tCons tb tNil))) (gTup K 2 (gCons (gName i) (gCons (gName j) gNil)))) (sPar i j Ta Tb) := ⟨fun z σ env D Dd o e h k =>
  DL.run (t := ta) z σ env _ _ o e h fun v H1 r g1 r1 h1 => by
    obtain ⟨sv, a, h1⟩ := h1
    obtain ⟨z1, hd⟩ := Cr.hold o g1 r1 a
    have := DL.run (t := tb) z1 σ env (fun x H => tNil σ H fun xs H2 => (v :: x :: xs).length ≤ sizeLine ∧ ∀ (p : Addr) (ob : Obj), H2 p = none → ob.dict = none → gTup K 2 (gCons (gName i) (gCons (gName j) gNil)) (.ref p) σ (upd H2 p (ptO ob (v :: x :: xs))) D.nx) _ hd.ok (e.map hd.old) h1 fun u H2 r2 g2 r2' h2 => by
      obtain ⟨sv2, a2, h2⟩ := h2
      obtain ⟨z2, hd2⟩ := Cr.hold hd.ok g2 r2' a2
      refine ⟨small_line (by show (2 : Nat) ≤ 1000000; decide), fun p ob hp hd0 => ?_⟩
      have hp2 : z2.H p = none := by rw [hd2.eq]; exact hp
      have ge : Ge z2 (upd z2.H p (ptO ob [v, u])) := new_ge hd2.ok (Ge.refl hd2.ok) hp2
      have := k.nx (z2.at (upd z2.H p (ptO ob [v, u]))) _ _ ((hd.le.trans hd2.le).trans (ge.le hd2.ok)) (ge.ok hd2.ok) (((e.hold hd i).hold hd2 j).on hd2.ok ge) h2
      refine ⟨p, [v, u], rfl, PT.sq (PT.new hd0), rfl, v, [u], rfl, u, [], rfl, rfl, ?_⟩
      rw [← hd2.eq]
      exact this
    rw [hd.eq] at this
    exact this⟩
end Cr

namespace Cr
open PySem PySem.Spec PyProof.Rows L2
variable [Tbl]
/-! ### all cases of the conditions that rules name -/
def nameStep (acc : List Cond) (r : Rule) : List Cond := acc ++ r.1.filter fun c => decide (c ∉ acc)
def namedTo (rs : List Rule) (i : Nat) : List Cond := (rs.take i).foldl nameStep []
theorem fold_mem {c : Cond} : ∀ (l : List Rule) (acc : List Cond), c ∈ l.foldl nameStep acc ↔ c ∈ acc ∨ ∃ r ∈ l, c ∈ r.1
  | [], acc => by simp
  | r :: l, acc => by
    rw [List.foldl_cons, fold_mem l]
    unfold nameStep
    rw [List.mem_append, List.mem_filter]
    constructor
    · rintro ((h | h) | ⟨q, hq, h⟩)
      · exact .inl h
      · exact .inr ⟨r, List.mem_cons_self, h.1⟩
      · exact .inr ⟨q, List.mem_cons_of_mem _ hq, h⟩
    · rintro (h | ⟨q, hq, h⟩)
      · exact .inl (.inl h)
      · rcases List.mem_cons.mp hq with rfl | hq
        · by_cases m : c ∈ acc
          · exact .inl (.inl m)
          · exact .inl (.inr ⟨h, by simpa using m⟩)
        · exact .inr ⟨q, hq, h⟩
theorem fold_nd : ∀ (l : List Rule) (acc : List Cond), acc.Nodup → (∀ r ∈ l, r.1.Nodup) → (l.foldl nameStep acc).Nodup
  | [], acc, h, _ => h
  | r :: l, acc, h, k => by
    rw [List.foldl_cons]
    refine fold_nd l _ ?_ fun q hq => k q (List.mem_cons_of_mem _ hq)
    unfold nameStep
    refine List.nodup_append.mpr ⟨h, (k r List.mem_cons_self).filter _, fun a ha b hb e => ?_⟩
    subst e
    have := (List.mem_filter.mp hb).2
    simp [ha] at this
theorem named_ok {rs : List Rule} (ok : ∀ r ∈ rs, CaseOk r.1) (i : Nat) : (namedTo rs i).Nodup ∧ ∀ c ∈ namedTo rs i, 0 ≤ c.2 ∧ c.2 ≤ 9 := by
  refine ⟨fold_nd _ _ List.nodup_nil fun r hr => case_nd (ok r (List.mem_of_mem_take hr)), fun c hc => ?_⟩
  rcases (fold_mem _ _).mp hc with h | ⟨r, hr, h⟩
  · cases h
  · have := (ok r (List.mem_of_mem_take hr)).each c h
    exact ⟨this.2.2.1, this.2.2.2⟩
theorem named_len {rs : List Rule} (ok : ∀ r ∈ rs, CaseOk r.1) : ∀ i, (namedTo rs i).length ≤ 5 * i
  | 0 => by show ((rs.take 0).foldl nameStep []).length ≤ _; rw [List.take_zero]; exact Nat.zero_le _
  | i + 1 => by
    have ih := named_len ok i
    by_cases h : i < rs.length
    · have e : rs.take (i + 1) = rs.take i ++ [rs[i]] := take_snoc (List.getElem?_eq_getElem h)
      unfold namedTo at ih ⊢
      rw [e, List.foldl_append]
      show ((rs.take i).foldl nameStep [] ++ rs[i].1.filter fun c => decide (c ∉ (rs.take i).foldl nameStep [])).length ≤ _
      rw [List.length_append]
      have := List.length_filter_le (fun c => decide (c ∉ (rs.take i).foldl nameStep [])) rs[i].1
      have := (ok rs[i] (List.getElem_mem h)).len
      omega
    · unfold namedTo at ih ⊢
      rw [List.take_of_length_le (by omega)] at ih ⊢
      omega
def atK (N : List Cond) (k : Nat) : List Cond := N.filter fun c => decide (c.1 = (k : Int))
def longer (N : List Cond) (k : Nat) (c : Case) : List Case := c :: (atK N k).map fun d => c ++ [d]
def everyTo (N : List Cond) : Nat → List Case
  | 0 => [[]]
  | k + 1 => (everyTo N k).flatMap (longer N k)
theorem at_len {N : List Cond} (nd : N.Nodup) (h : ∀ c ∈ N, 0 ≤ c.2 ∧ c.2 ≤ 9) (k : Nat) : (atK N k).length ≤ 10 := by
  have n1 : ((atK N k).map (·.2)).Nodup := by
    refine List.pairwise_map.mpr ((nd.filter _).imp_of_mem fun {a b} ha hb ne e => ne ?_)
    have h1 := (List.mem_filter.mp ha).2
    have h2 := (List.mem_filter.mp hb).2
    simp at h1 h2
    exact Prod.ext (h1.trans h2.symm) e
  have := nd_len (b := (List.range 10).map fun (i : Nat) => (i : Int)) n1 fun x hx => by
    obtain ⟨c, hc, rfl⟩ := List.mem_map.mp hx
    have := h c (List.mem_filter.mp hc).1
    refine List.mem_map.mpr ⟨c.2.toNat, List.mem_range.mpr (by omega), by omega⟩
  rw [List.length_map, List.length_map, List.length_range] at this
  exact this
theorem flat_len {α β : Type} {f : α → List β} {n : Nat} : ∀ {l : List α}, (∀ a ∈ l, (f a).length ≤ n) → (l.flatMap f).length ≤ l.length * n
  | [], _ => Nat.zero_le _
  | a :: l, h => by
    rw [List.flatMap_cons, List.length_append, List.length_cons, Nat.succ_mul]
    have := h a List.mem_cons_self
    have := flat_len (f := f) (n := n) (l := l) fun b hb => h b (List.mem_cons_of_mem _ hb)
    omega
theorem every_len {N : List Cond} (nd : N.Nodup) (h : ∀ c ∈ N, 0 ≤ c.2 ∧ c.2 ≤ 9) : ∀ k, (everyTo N k).length ≤ 11 ^ k
  | 0 => Nat.le_refl _
  | k + 1 => by
    have ih := every_len nd h k
    have := flat_len (f := longer N k) (n := 11) (l := everyTo N k) fun c _ => by
      unfold longer
      rw [List.length_cons, List.length_map]
      have := at_len nd h k
      omega
    show ((everyTo N k).flatMap (longer N k)).length ≤ _
    rw [Nat.pow_succ]
    omega
theorem every_short {N : List Cond} : ∀ k, ∀ c ∈ everyTo N k, c.length ≤ k
  | 0, c, h => by rw [List.mem_singleton.mp h]; exact Nat.le_refl _
  | k + 1, c, h => by
    obtain ⟨b, hb, h⟩ := List.mem_flatMap.mp h
    have := every_short k b hb
    rcases List.mem_cons.mp h with rfl | h
    · omega
    · obtain ⟨d, _, rfl⟩ := List.mem_map.mp h
      rw [List.length_append]
      show _ + 1 ≤ _
      omega
theorem below_succ (k : Int) : ∀ {c : Case}, c.Pairwise (fun x y => x.1 < y.1) → (c.filter fun d => decide (d.1 < k + 1)) = (c.filter fun d => decide (d.1 < k)) ++ c.filter fun d => decide (d.1 = k)
  | [], _ => rfl
  | x :: c, h => by
    obtain ⟨h1, h2⟩ := List.pairwise_cons.mp h
    have ih := below_succ k h2
    rcases Int.lt_trichotomy x.1 k with l | l | l
    · rw [List.filter_cons, List.filter_cons, List.filter_cons, if_pos (by simp; omega), if_pos (by simpa using l), if_neg (by simp; omega), ih]
      rfl
    · have e : (c.filter fun d => decide (d.1 < k)) = [] := List.filter_eq_nil_iff.mpr fun d hd => by have := h1 d hd; simp; omega
      rw [List.filter_cons, List.filter_cons, List.filter_cons, if_pos (by simp; omega), if_neg (by simp; omega), if_pos (by simpa using l), ih, e]
      rfl
    · have e : (c.filter fun d => decide (d.1 < k)) = [] := List.filter_eq_nil_iff.mpr fun d hd => by have := h1 d hd; simp; omega
      rw [List.filter_cons, List.filter_cons, List.filter_cons, if_neg (by simp; omega), if_neg (by simp; omega), if_neg (by simp; omega), ih, e]
theorem at_one (k : Int) : ∀ {c : Case}, c.Pairwise (fun x y => x.1 < y.1) → (c.filter fun d => decide (d.1 = k)) = [] ∨ ∃ d ∈ c, d.1 = k ∧ (c.filter fun d => decide (d.1 = k)) = [d]
  | [], _ => .inl rfl
  | x :: c, h => by
    obtain ⟨h1, h2⟩ := List.pairwise_cons.mp h
    by_cases e : x.1 = k
    · refine .inr ⟨x, List.mem_cons_self, e, ?_⟩
      rw [List.filter_cons, if_pos (by simpa using e), List.filter_eq_nil_iff.mpr fun d hd => by have := h1 d hd; simp; omega]
    · rw [List.filter_cons, if_neg (by simpa using e)]
      rcases at_one k h2 with w | ⟨d, hd, w⟩
      · exact .inl w
      · exact .inr ⟨d, List.mem_cons_of_mem _ hd, w⟩
theorem every_below {N : List Cond} {c : Case} (asc : c.Pairwise fun x y => x.1 < y.1) (lo : ∀ d ∈ c, 0 ≤ d.1) (hN : ∀ d ∈ c, d ∈ N) : ∀ k : Nat, (c.filter fun d => decide (d.1 < (k : Int))) ∈ everyTo N k
  | 0 => by
    rw [List.filter_eq_nil_iff.mpr fun d hd => by have := lo d hd; simp; omega]
    exact List.mem_singleton.mpr rfl
  | k + 1 => by
    have ih := every_below asc lo hN k
    refine List.mem_flatMap.mpr ⟨_, ih, ?_⟩
    rw [show ((k + 1 : Nat) : Int) = (k : Int) + 1 by omega, below_succ (k : Int) asc]
    rcases at_one (k : Int) asc with e | ⟨d, hd, hk, e⟩
    · rw [e, List.append_nil]
      exact List.mem_cons_self
    · rw [e]
      exact List.mem_cons_of_mem _ (List.mem_map.mpr ⟨d, List.mem_filter.mpr ⟨hN d hd, by simpa using hk⟩, rfl⟩)
theorem every_has {rs : List Rule} (ok : ∀ r ∈ rs, CaseOk r.1) {r : Rule} (hr : r ∈ rs) : r.1 ∈ everyTo (namedTo rs rs.length) 5 := by
  have o := ok r hr
  have := every_below (N := namedTo rs rs.length) o.asc (fun d hd => (o.each d hd).1) (fun d hd => by
    unfold namedTo
    rw [List.take_length]
    exact (fold_mem _ _).mpr (.inr ⟨r, hr, hd⟩)) 5
  rw [List.filter_eq_self.mpr fun d hd => by have := (o.each d hd).2.1; simp; omega] at this
  exact this
/-- the rule with this number matches -/
def hasAt (rs : List Rule) (c : Case) (i : Nat) : Bool := match rs[i]? with
  | some r => inB r.1 c
  | none => false
def firstsOf (rs : List Rule) (c : Case) : List Nat := ((List.range rs.length).filter (hasAt rs c)).take 1
def decTo (rs : List Rule) (cs : List Case) : List Nat := cs.flatMap (firstsOf rs)
theorem first_range {p : Nat → Bool} {n i : Nat} : i ∈ ((List.range n).filter p).take 1 ↔ i < n ∧ p i = true ∧ ∀ j, j < i → p j = false := by
  induction n with
  | zero => simp
  | succ n ih =>
    rw [List.range_succ, List.filter_append]
    cases e : (List.range n).filter p with
    | nil =>
      have none : ∀ j, j < n → p j = false := fun j hj => by
        have := List.filter_eq_nil_iff.mp e j (List.mem_range.mpr hj)
        simpa using this
      rw [List.nil_append]
      cases hp : p n with
      | true =>
        rw [List.filter_cons, hp, if_pos rfl]
        show i ∈ [n] ↔ _
        rw [List.mem_singleton]
        constructor
        · rintro rfl
          exact ⟨Nat.lt_succ_self _, hp, none⟩
        · rintro ⟨h1, h2, _⟩
          by_cases h : i < n
          · rw [none i h] at h2; cases h2
          · omega
      | false =>
        rw [List.filter_cons, hp, if_neg Bool.false_ne_true]
        constructor
        · intro h; cases h
        · rintro ⟨h1, h2, _⟩
          by_cases h : i < n
          · rw [none i h] at h2; cases h2
          · rw [show i = n by omega, hp] at h2; cases h2
    | cons x xs =>
      rw [e] at ih
      show i ∈ [x] ↔ _
      have ih : i ∈ [x] ↔ _ := ih
      rw [ih]
      constructor
      · rintro ⟨h1, h2, h3⟩
        exact ⟨by omega, h2, h3⟩
      · rintro ⟨h1, h2, h3⟩
        refine ⟨?_, h2, h3⟩
        by_cases h : i < n
        · exact h
        · have hx : x ∈ (List.range n).filter p := by rw [e]; exact List.mem_cons_self
          obtain ⟨hx1, hx2⟩ := List.mem_filter.mp hx
          have := h3 x (by have := List.mem_range.mp hx1; omega)
          rw [hx2] at this
          cases this
theorem in_trans {a b c : Case} (h1 : inB a b = true) (h2 : inB b c = true) : inB a c = true := inB_iff.mpr fun x hx => inB_iff.mp h2 x (inB_iff.mp h1 x hx)
theorem in_refl (a : Case) : inB a a = true := inB_iff.mpr fun x hx => hx
def covB (rs : List Rule) (i : Nat) : Bool := match rs[i]? with
  | some r => (rs.take i).any fun q => inB q.1 r.1
  | none => false
theorem dec_cov {rs : List Rule} (ok : ∀ r ∈ rs, CaseOk r.1) {i : Nat} (hi : i < rs.length) : decide (i ∉ decTo rs (everyTo (namedTo rs rs.length) 5)) = covB rs i := by
  have e : covB rs i = (rs.take i).any fun q => inB q.1 rs[i].1 := by unfold covB; rw [List.getElem?_eq_getElem hi]
  have at_i : ∀ c j (hj : j < rs.length), hasAt rs c j = inB rs[j].1 c := fun c j hj => by unfold hasAt; rw [List.getElem?_eq_getElem hj]
  rw [e]
  cases h : (rs.take i).any fun q => inB q.1 rs[i].1 with
  | true =>
    rw [decide_eq_true_eq]
    intro hd
    obtain ⟨c, _, hc⟩ := List.mem_flatMap.mp hd
    obtain ⟨_, h2, h3⟩ := first_range.mp hc
    obtain ⟨q, hq, hi'⟩ := List.any_eq_true.mp h
    obtain ⟨j, hj, rfl⟩ := List.mem_take_iff_getElem.mp hq
    have jl : j < i := by omega
    have := h3 j jl
    rw [at_i c j (by omega)] at this
    rw [at_i c i hi] at h2
    have w := in_trans hi' h2
    rw [this] at w
    cases w
  | false =>
    rw [decide_eq_false_iff_not, Classical.not_not]
    refine List.mem_flatMap.mpr ⟨rs[i].1, every_has ok (List.getElem_mem hi), first_range.mpr ⟨hi, by rw [at_i _ i hi]; exact in_refl _, fun j hj => ?_⟩⟩
    rw [at_i _ j (by omega)]
    have := List.any_eq_false.mp h rs[j] (List.mem_take_iff_getElem.mpr ⟨j, by omega, rfl⟩)
    simpa using this
end Cr

namespace Cr
open PySem PySem.Spec PyProof.Rows L2
variable [Tbl]
/-! ### cases that matter: the mathematics -/
/-- a key written into a dict: new keys behind the others -/
def putK (acc : List Case) (c : Case) : List Case := if c ∈ acc then acc else acc ++ [c]
/-- one rule: all that is there and meets it, together with it -/
def matStep (acc : List Case) (r : Rule) : List Case := (acc.filter fun c => meetB c r.1).foldl (fun a c => putK a (togC c r.1)) acc
def matTo (rs : List Rule) (i : Nat) : List Case := (rs.take i).foldl matStep [[]]
/-- all conditions come from rules that lie within -/
def GoodC (rs : List Rule) (c : Case) : Prop := ∀ x ∈ c, ∃ r ∈ rs, (∀ y ∈ r.1, y ∈ c) ∧ x ∈ r.1
theorem put_mem {acc : List Case} {c d : Case} : d ∈ putK acc c ↔ d ∈ acc ∨ d = c := by
  unfold putK
  split
  · rename_i h
    exact ⟨.inl, fun z => z.elim id fun e => by rw [e]; exact h⟩
  · rw [List.mem_append, List.mem_singleton]
theorem put_nd {acc : List Case} {c : Case} (h : acc.Nodup) : (putK acc c).Nodup := by
  unfold putK
  split
  · exact h
  · rename_i n
    exact List.nodup_append.mpr ⟨h, List.nodup_cons.mpr ⟨fun z => (nomatch z), List.nodup_nil⟩, fun a ha b hb e => n (by rw [← List.mem_singleton.mp hb, ← e]; exact ha)⟩
theorem puts_mem {r : Case} {d : Case} : ∀ {l acc : List Case}, d ∈ l.foldl (fun a c => putK a (togC c r)) acc ↔ d ∈ acc ∨ ∃ c ∈ l, d = togC c r
  | [], acc => by simp
  | c :: l, acc => by
    rw [List.foldl_cons, puts_mem, put_mem]
    constructor
    · rintro ((h | h) | ⟨e, he, h⟩)
      · exact .inl h
      · exact .inr ⟨c, List.mem_cons_self, h⟩
      · exact .inr ⟨e, List.mem_cons_of_mem _ he, h⟩
    · rintro (h | ⟨e, he, h⟩)
      · exact .inl (.inl h)
      · rcases List.mem_cons.mp he with rfl | he
        · exact .inl (.inr h)
        · exact .inr ⟨e, he, h⟩
theorem puts_nd {r : Case} : ∀ {l acc : List Case}, acc.Nodup → (l.foldl (fun a c => putK a (togC c r)) acc).Nodup
  | [], acc, h => h
  | c :: l, acc, h => by rw [List.foldl_cons]; exact puts_nd (put_nd h)
theorem mat_mem {acc : List Case} {r : Rule} {d : Case} : d ∈ matStep acc r ↔ d ∈ acc ∨ ∃ c ∈ acc, meetB c r.1 = true ∧ d = togC c r.1 := by
  unfold matStep
  rw [puts_mem]
  refine or_congr Iff.rfl ⟨?_, ?_⟩
  · rintro ⟨c, hc, h⟩
    obtain ⟨h1, h2⟩ := List.mem_filter.mp hc
    exact ⟨c, h1, h2, h⟩
  · rintro ⟨c, h1, h2, h⟩
    exact ⟨c, List.mem_filter.mpr ⟨h1, h2⟩, h⟩
theorem sub_case {c : Case} (ok : CaseOk c) (p : Cond → Bool) : CaseOk (c.filter p) := ⟨fun x hx => ok.each x (List.mem_filter.mp hx).1, ok.asc.filter p⟩
theorem case_ext {a b : Case} (ha : CaseOk a) (hb : CaseOk b) (h : ∀ x, x ∈ a ↔ x ∈ b) : a = b := sorted_uniq clt_irr clt_asy (case_clt ha) (case_clt hb) h
/-- the step of the fold keeps the meaning -/
theorem good_step {rs : List Rule} {r : Rule} {acc : List Case} (okr : CaseOk r.1) (h : ∀ c, c ∈ acc ↔ CaseOk c ∧ GoodC rs c) (c : Case) : c ∈ matStep acc r ↔ CaseOk c ∧ GoodC (rs ++ [r]) c := by
  rw [mat_mem]
  constructor
  · rintro (hc | ⟨d, hd, m, rfl⟩)
    · obtain ⟨ok, g⟩ := (h c).mp hc
      exact ⟨ok, fun x hx => let ⟨q, hq, k⟩ := g x hx; ⟨q, List.mem_append_left _ hq, k⟩⟩
    · obtain ⟨ok, g⟩ := (h d).mp hd
      refine ⟨tog_ok ok okr m, fun x hx => ?_⟩
      rcases tog_mem.mp hx with hx | hx
      · obtain ⟨q, hq, k1, k2⟩ := g x hx
        exact ⟨q, List.mem_append_left _ hq, fun y hy => tog_mem.mpr (.inl (k1 y hy)), k2⟩
      · exact ⟨r, List.mem_append_right _ (List.mem_singleton.mpr rfl), fun y hy => tog_mem.mpr (.inr hy), hx⟩
  · rintro ⟨ok, g⟩
    by_cases hr : ∀ y ∈ r.1, y ∈ c
    · have dec : ∀ x, Decidable (∃ q ∈ rs, (∀ y ∈ q.1, y ∈ c) ∧ x ∈ q.1) := fun x => Classical.propDecidable _
      let d := c.filter fun x => @decide _ (dec x)
      have md : ∀ x, x ∈ d ↔ x ∈ c ∧ ∃ q ∈ rs, (∀ y ∈ q.1, y ∈ c) ∧ x ∈ q.1 := fun x => by
        show x ∈ c.filter _ ↔ _
        rw [List.mem_filter]
        exact and_congr Iff.rfl (@decide_eq_true_iff _ (dec x))
      have okd : CaseOk d := sub_case ok _
      have gd : GoodC rs d := fun x hx => by
        obtain ⟨_, q, hq, k1, k2⟩ := (md x).mp hx
        exact ⟨q, hq, fun y hy => (md y).mpr ⟨k1 y hy, q, hq, k1, hy⟩, k2⟩
      have m : meetB d r.1 = true := meetB_iff.mpr fun x hx y hy e => congrArg Prod.snd (case_inj ok ((md x).mp hx).1 (hr y hy) e)
      refine .inr ⟨d, (h d).mpr ⟨okd, gd⟩, m, case_ext ok (tog_ok okd okr m) fun x => ?_⟩
      rw [tog_mem, md]
      constructor
      · intro hx
        obtain ⟨q, hq, k1, k2⟩ := g x hx
        rcases List.mem_append.mp hq with hq | hq
        · exact .inl ⟨hx, q, hq, k1, k2⟩
        · rw [List.mem_singleton.mp hq] at k2
          exact .inr k2
      · rintro (⟨hx, _⟩ | hx)
        · exact hx
        · exact hr x hx
    · refine .inl ((h c).mpr ⟨ok, fun x hx => ?_⟩)
      obtain ⟨q, hq, k1, k2⟩ := g x hx
      rcases List.mem_append.mp hq with hq | hq
      · exact ⟨q, hq, k1, k2⟩
      · rw [List.mem_singleton.mp hq] at k1
        exact absurd k1 hr
theorem mats_mem : ∀ (ss rs : List Rule) (acc : List Case), (∀ r ∈ ss, CaseOk r.1) → (∀ c, c ∈ acc ↔ CaseOk c ∧ GoodC rs c) → ∀ c, c ∈ ss.foldl matStep acc ↔ CaseOk c ∧ GoodC (rs ++ ss) c
  | [], rs, acc, _, h, c => by rw [List.foldl_nil, List.append_nil]; exact h c
  | r :: ss, rs, acc, ok, h, c => by
    rw [List.foldl_cons, show rs ++ r :: ss = (rs ++ [r]) ++ ss by simp]
    exact mats_mem ss (rs ++ [r]) (matStep acc r) (fun q hq => ok q (List.mem_cons_of_mem _ hq)) (good_step (ok r List.mem_cons_self) h) c
/-- the cases that matter: those whose conditions all come from rules within -/
theorem matter_mem {rs : List Rule} (ok : ∀ r ∈ rs, CaseOk r.1) (c : Case) : c ∈ matTo rs rs.length ↔ CaseOk c ∧ GoodC rs c := by
  unfold matTo
  rw [List.take_length]
  have := mats_mem rs [] [[]] ok (fun c => ?_) c
  · rw [List.nil_append] at this; exact this
  · rw [List.mem_singleton]
    constructor
    · rintro rfl
      exact ⟨CaseOk.nil, fun x hx => (nomatch hx)⟩
    · rintro ⟨_, g⟩
      cases c with
      | nil => rfl
      | cons x c =>
        obtain ⟨r, hr, _⟩ := g x List.mem_cons_self
        cases hr
theorem matter_nd (rs : List Rule) (i : Nat) : (matTo rs i).Nodup := by
  unfold matTo
  have : ∀ (l : List Rule) (acc : List Case), acc.Nodup → (l.foldl matStep acc).Nodup := by
    intro l
    induction l with
    | nil => exact fun acc h => h
    | cons r l ih => exact fun acc h => ih _ (puts_nd h)
  exact this _ _ (List.nodup_cons.mpr ⟨fun z => (nomatch z), List.nodup_nil⟩)
end Cr

namespace Cr
open PySem PySem.Spec PyProof.Rows L2
variable [Tbl]
/-- two lists with the same members, sorted by keys that tell them apart -/
theorem sort_same {β : Type} (k : β → PyData) {l m : List β} (inj : ∀ a b, PySem.W.keyToks (k a) = PySem.W.keyToks (k b) → a = b) (nl : l.Nodup) (nm : m.Nodup) (h : ∀ x, x ∈ l ↔ x ∈ m) : l.mergeSort (PySem.W.dataLe false k) = m.mergeSort (PySem.W.dataLe false k) := by
  let O := PyProof.Rows.listOrd PyProof.Rows.itemOrd
  have T := PySem.W.sortLe_total O false fun b => PySem.W.keyToks (k b)
  have pw : ∀ {l : List β}, l.Nodup → (l.mergeSort (PySem.W.dataLe false k)).Pairwise fun a b => O.blt (PySem.W.keyToks (k a)) (PySem.W.keyToks (k b)) = true := fun {l} nd => by
    have s : (l.mergeSort (PySem.W.dataLe false k)).Pairwise fun a b => PySem.W.dataLe false k a b = true := List.pairwise_mergeSort (fun a b c h1 h2 => T.trans a b c h1 h2) (fun a b => by have := T.total a b; simpa [PySem.W.dataLe] using this) l
    have nd' : (l.mergeSort (PySem.W.dataLe false k)).Nodup := (List.mergeSort_perm _ _).nodup_iff.mpr nd
    refine s.imp₂ (fun a b h1 h2 => ?_) nd'
    have h1 : (!O.blt (PySem.W.keyToks (k b)) (PySem.W.keyToks (k a))) = true := h1
    have h2 : a ≠ b := h2
    cases e : O.blt (PySem.W.keyToks (k a)) (PySem.W.keyToks (k b)) with
    | true => rfl
    | false =>
      exact absurd (inj a b (O.total _ _ e (by simpa using h1))) h2
  refine sorted_uniq (lt := fun a b => O.blt (PySem.W.keyToks (k a)) (PySem.W.keyToks (k b)) = true) (fun a h => ?_) (fun a b h1 h2 => ?_) (pw nl) (pw nm) fun x => ?_
  · rw [O.irrefl] at h; cases h
  · have := O.trans _ _ _ h1 h2
    rw [O.irrefl] at this
    cases this
  · rw [(List.mergeSort_perm _ _).mem_iff, (List.mergeSort_perm _ _).mem_iff]
    exact h x
theorem toks_cond (x : Cond) : PySem.W.keyToks (condD x) = [.inl 1, .inl x.1, .inl 1, .inl x.2, .inl 0] := by
  unfold condD
  simp [PySem.W.keyToks, PySem.W.keyToksAll]
theorem toks_case : ∀ (c d : Case) (l m : List (Int ⊕ List Nat)), PySem.W.keyToksAll (c.map condD) ++ l = PySem.W.keyToksAll (d.map condD) ++ m → c = d ∧ l = m
  | [], [], l, m, h => ⟨rfl, by simpa [PySem.W.keyToksAll] using h⟩
  | [], y :: d, l, m, h => by simp [PySem.W.keyToksAll] at h
  | x :: c, [], l, m, h => by simp [PySem.W.keyToksAll] at h
  | x :: c, y :: d, l, m, h => by
    rw [List.map_cons, List.map_cons, PySem.W.keyToksAll, PySem.W.keyToksAll, toks_cond, toks_cond] at h
    simp only [List.cons_append, List.nil_append, List.cons.injEq, Sum.inl.injEq, true_and] at h
    obtain ⟨h1, h2, h3⟩ := h
    obtain ⟨rfl, rfl⟩ := toks_case c d l m h3
    exact ⟨by rw [Prod.ext h1 h2], rfl⟩
/-- the key: fewer conditions first -/
def sizeD (c : Case) : PyData := .tuple [.int (c.length : Nat), caseD c]
theorem size_inj (a b : Case) (h : PySem.W.keyToks (sizeD a) = PySem.W.keyToks (sizeD b)) : a = b := by
  unfold sizeD caseD at h
  simp only [PySem.W.keyToks, PySem.W.keyToksAll, List.cons_append, List.nil_append, List.cons.injEq, true_and] at h
  exact (toks_case a b _ _ h.2).1
theorem every_ok {N : List Cond} (hN : ∀ c ∈ N, 0 ≤ c.1 ∧ c.1 ≤ 4 ∧ 0 ≤ c.2 ∧ c.2 ≤ 9) : ∀ k, k ≤ 5 → ∀ c ∈ everyTo N k, CaseOk c ∧ ∀ x ∈ c, x ∈ N ∧ x.1 < (k : Int)
  | 0, _, c, h => by rw [List.mem_singleton.mp h]; exact ⟨CaseOk.nil, fun x hx => (nomatch hx)⟩
  | k + 1, hk, c, h => by
    obtain ⟨b, hb, h⟩ := List.mem_flatMap.mp h
    obtain ⟨ok, lt⟩ := every_ok hN k (by omega) b hb
    rcases List.mem_cons.mp h with rfl | h
    · exact ⟨ok, fun x hx => ⟨(lt x hx).1, by have := (lt x hx).2; omega⟩⟩
    · obtain ⟨d, hd, rfl⟩ := List.mem_map.mp h
      obtain ⟨hd1, hd2⟩ := List.mem_filter.mp hd
      have hd2 : d.1 = (k : Int) := by simpa using hd2
      refine ⟨⟨fun x hx => ?_, List.pairwise_append.mpr ⟨ok.asc, List.pairwise_singleton _ _, fun x hx y hy => ?_⟩⟩, fun x hx => ?_⟩
      · rcases List.mem_append.mp hx with hx | hx
        · exact ok.each x hx
        · rw [List.mem_singleton.mp hx]; exact hN d hd1
      · rw [List.mem_singleton.mp hy, hd2]
        exact (lt x hx).2
      · rcases List.mem_append.mp hx with hx | hx
        · exact ⟨(lt x hx).1, by have := (lt x hx).2; omega⟩
        · rw [List.mem_singleton.mp hx]
          exact ⟨hd1, by omega⟩
theorem longer_pre {N : List Cond} {k : Nat} {c x : Case} (lt : ∀ y ∈ c, y.1 < (k : Int)) (h : x ∈ longer N k c) : (x.filter fun d => decide (d.1 < (k : Int))) = c := by
  have e : (c.filter fun d => decide (d.1 < (k : Int))) = c := List.filter_eq_self.mpr fun y hy => by simpa using lt y hy
  rcases List.mem_cons.mp h with rfl | h
  · exact e
  · obtain ⟨d, hd, rfl⟩ := List.mem_map.mp h
    have hd2 : d.1 = (k : Int) := by simpa using (List.mem_filter.mp hd).2
    rw [List.filter_append, e, List.filter_cons, if_neg (by simp; omega), List.filter_nil, List.append_nil]
theorem every_nd {N : List Cond} (nd : N.Nodup) (hN : ∀ c ∈ N, 0 ≤ c.1 ∧ c.1 ≤ 4 ∧ 0 ≤ c.2 ∧ c.2 ≤ 9) : ∀ k, k ≤ 5 → (everyTo N k).Nodup
  | 0, _ => List.nodup_cons.mpr ⟨fun z => (nomatch z), List.nodup_nil⟩
  | k + 1, hk => by
    have ih := every_nd nd hN k (by omega)
    have lt : ∀ c ∈ everyTo N k, ∀ y ∈ c, y.1 < (k : Int) := fun c hc y hy => ((every_ok hN k (by omega) c hc).2 y hy).2
    show ((everyTo N k).flatMap (longer N k)).Nodup
    unfold List.Nodup
    rw [List.pairwise_flatMap]
    refine ⟨fun c hc => ?_, ih.imp_of_mem fun {a b} ha hb ne x hx y hy e => ne ?_⟩
    · unfold longer
      refine List.pairwise_cons.mpr ⟨fun x hx e => ?_, ?_⟩
      · obtain ⟨d, _, rfl⟩ := List.mem_map.mp hx
        have := congrArg List.length e
        rw [List.length_append] at this
        simp at this
      · rw [List.pairwise_map]
        exact (nd.filter _).imp fun {a b} ne e => ne (by simpa using e)
    · rw [← longer_pre (lt a ha) hx, ← longer_pre (lt b hb) hy, e]
/-- the law's own test, over plain lists -/
def goodB (rs : List Rule) (c : Case) : Bool := c.all fun x => rs.any fun r => inB r.1 c && decide (x ∈ r.1)
theorem goodB_iff {rs : List Rule} {c : Case} : goodB rs c = true ↔ GoodC rs c := by
  unfold goodB GoodC
  rw [List.all_eq_true]
  refine forall_congr' fun x => forall_congr' fun _ => ?_
  rw [List.any_eq_true]
  refine exists_congr fun r => and_congr Iff.rfl ?_
  rw [Bool.and_eq_true, inB_iff, decide_eq_true_eq]
theorem named_all {rs : List Rule} (ok : ∀ r ∈ rs, CaseOk r.1) : ∀ c ∈ namedTo rs rs.length, 0 ≤ c.1 ∧ c.1 ≤ 4 ∧ 0 ≤ c.2 ∧ c.2 ≤ 9 := fun c hc => by
  rcases (fold_mem _ _).mp hc with h | ⟨r, hr, h⟩
  · cases h
  · exact (ok r (List.mem_of_mem_take hr)).each c h
/-- the program's cases and the law's are the same list -/
theorem matter_same {rs : List Rule} (ok : ∀ r ∈ rs, CaseOk r.1) : (matTo rs rs.length).mergeSort (PySem.W.dataLe false sizeD) = ((everyTo (namedTo rs rs.length) 5).filter (goodB rs)).mergeSort (PySem.W.dataLe false sizeD) := by
  have nd := (named_ok ok rs.length).1
  have al := named_all ok
  refine sort_same sizeD size_inj (matter_nd rs _) ((every_nd nd al 5 (Nat.le_refl _)).filter _) fun c => ?_
  rw [matter_mem ok, List.mem_filter, goodB_iff]
  constructor
  · rintro ⟨o, g⟩
    refine ⟨?_, g⟩
    have := every_below (N := namedTo rs rs.length) o.asc (fun d hd => (o.each d hd).1) (fun d hd => by
      obtain ⟨r, hr, _, h⟩ := g d hd
      unfold namedTo
      rw [List.take_length]
      exact (fold_mem _ _).mpr (.inr ⟨r, hr, h⟩)) 5
    rw [List.filter_eq_self.mpr fun d hd => by have := (o.each d hd).2.1; simp; omega] at this
    exact this
  · rintro ⟨h, g⟩
    exact ⟨(every_ok al 5 (Nat.le_refl _) c h).1, g⟩
/-- the law sorts rows of size and case -/
def rowD (p : Nat × Case) : PyData := .tuple [.int (p.1 : Nat), caseD p.2]
theorem rows_sorted (cs : List Case) : ((cs.map fun c => (c.length, c)).mergeSort (PySem.W.dataLe false rowD)).map (·.2) = cs.mergeSort (PySem.W.dataLe false sizeD) := by
  rw [← List.map_mergeSort (r := PySem.W.dataLe false sizeD) (s := PySem.W.dataLe false rowD) (f := fun c : Case => (c.length, c)) (fun a _ b _ => rfl), List.map_map]
  exact List.map_id _
end Cr

set_option synthInstance.maxSize 4000
set_option synthInstance.maxHeartbeats 1000000
namespace Cr
open PySem PySem.Spec PyProof.Rows L2
variable [Tbl]
section
variable {P : Program} {w : World} {K : PySem.W.Frag} {mg : Str → Option Value} {base : Heap} {f : Addr} {fd : FuncData}
theorem sExtend_at {i : Nat} {ds : List PyData} {Te : DTE} {Dd : DEnds} {env : DEnv} (h : env[i]? = some (some (.own ds))) (q : Te env fun r => match r.data with | some (.list es) => ds.length + es.length ≤ 1000000 ∧ Dd.nx (env.set i (some (.own (ds ++ es)))) | _ => False) : sExtend i Te Dd env := by
  unfold sExtend
  rw [h]
  exact q
theorem sAppend_at {i : Nat} {ds : List PyData} {Te : DTE} {Dd : DEnds} {env : DEnv} (h : env[i]? = some (some (.own ds))) (q : Te env fun r => match r.stay with | some d => ds.length < 1000000 ∧ Dd.nx (env.set i (some (.own (ds ++ [d])))) | none => False) : sAppend i Te Dd env := by
  unfold sAppend
  rw [h]
  exact q
theorem named_snoc {rs : List Rule} {i : Nat} {r : Rule} (h : rs[i]? = some r) : namedTo rs (i + 1) = namedTo rs i ++ r.1.filter fun c => decide (c ∉ namedTo rs i) := by
  unfold namedTo
  rw [take_snoc h, List.foldl_append]
  rfl
def stepTo (N : List Cond) (k : Nat) (i : Nat) : List Case := ((everyTo N k).take i).flatMap (longer N k)
theorem step_snoc {N : List Cond} {k i : Nat} {c : Case} (h : (everyTo N k)[i]? = some c) : stepTo N k (i + 1) = stepTo N k i ++ [c] ++ (atK N k).map fun d => c ++ [d] := by
  unfold stepTo
  rw [take_snoc h, List.flatMap_append]
  simp [longer]
theorem step_len {N : List Cond} (nd : N.Nodup) (h : ∀ c ∈ N, 0 ≤ c.2 ∧ c.2 ≤ 9) {k : Nat} (hk : k < 5) (i : Nat) : (stepTo N k i).length ≤ 161051 := by
  have := flat_len (f := longer N k) (n := 11) (l := (everyTo N k).take i) fun c _ => by
    unfold longer
    rw [List.length_cons, List.length_map]
    have := at_len nd h k
    omega
  have e := every_len nd h k
  have : 11 ^ k ≤ 11 ^ 4 := Nat.pow_le_pow_right (by decide) (by omega)
  have : (11 : Nat) ^ 4 = 14641 := rfl
  rw [List.length_take] at *
  unfold stepTo
  have : min i (everyTo N k).length ≤ 14641 := by omega
  have := Nat.mul_le_mul_right 11 this
  omega
abbrev qEvery : Sp := spD (fun rs : List Rule => RulesOk 12 rs) (fun rs => [.dat (.list (rs.map ruleD))]) (fun rs r => r = .new ((everyTo (namedTo rs rs.length) 5).map caseD))
end
end Cr

namespace Cr
open PySem PySem.Spec PyProof.Rows L2
variable [Tbl]
section
variable {X : Cx} {pins : List (Addr × Obj)} {σ : L2.St} {H : Hp} {s : Shared} {h' : Heap}
/-- objects of ours have turned, one of them is followed from now on -/
theorem inv_take {t' : Nat} {ch : List Addr} {T : Addr} {ob : HO} (I : Inv X pins σ H s) (hT : T ∈ ch) (k : ∀ b o, b ∉ ch → s.heap.get? b = some o → h'.get? b = some o) (hf : ∀ b ∈ ch, FpOk X pins H b)
    (new : ObjOk X.prog X.w (upd H T ob) h' T ob) : Inv X pins σ (upd H T ob) { s with heap := h', toks := t' } := by
  have out : ∀ b u, H b = some u → b ∉ ch := fun b u e z => by rw [(hf b z).1] at e; cases e
  have ne : ∀ b u, H b = some u → b ≠ T := fun b u e z => out b u e (z ▸ hT)
  have same : ∀ b u, H b = some u → upd H T ob b = some u := fun b u e => by rw [upd_ne (ne b u e)]; exact e
  refine I.step (g' := s.gens) (d' := s.drawn) (ch := ch) ?_ ?_ ?_ ?_ ?_ ?_ ?_ ?_ ?_ ?_ I.bare
  · intro b hb
    obtain ⟨_, q1, _, q2, q3, q4⟩ := hf b hb
    exact ⟨q2, q1, q3, q4⟩
  · intro b o _ _ hc e _
    exact k b o hc e
  · intro b o _ _ hc e _
    exact ⟨o.slots, k b o hc e⟩
  · intro b o hc _ n
    rw [upd_ne (a := T) (b := b) fun z : b = T => hc (by rw [z]; exact hT)]
    exact n
  · intro b o hc e
    exact ⟨o, k b o hc e⟩
  · intro b xs e
    exact same b _ e
  · intro b o u e
    exact same b _ e
  · intro b ps e
    exact ⟨#[], by rw [same b _ e]; simp⟩
  · rintro m ⟨o, es, ep, ho, r⟩
    exact ⟨o, es, ep, k _ o (fun z => (hf _ z).2.1 rfl) ho, r⟩
  · intro b u e
    by_cases hb : b = T
    · subst hb
      rw [upd_same] at e
      cases e
      exact new
    · rw [upd_ne hb] at e
      refine (I.hok b u e).stay (fun c v hc q => k c v ?_ q) (fun c q => same c _ q) fun c xs q => same c _ q
      rcases hc with z | z
      · rw [z]; exact out b u e
      · exact out c _ z
/-- all but the tables stays -/
structure ExtT (H H' : Hp) : Prop where
  k : ∀ b o, H b = some o → (t : Fx o := by intro _ z; cases z) → H' b = some o
  t : TbS H H'
theorem ExtT.refl (H : Hp) : ExtT H H := ⟨fun _ _ h _ => h, .refl _⟩
theorem ExtT.trans {H H1 H2 : Hp} (a : ExtT H H1) (b : ExtT H1 H2) : ExtT H H2 := ⟨fun c o h t => b.k c o (a.k c o h t) t, a.t.trans b.t⟩
theorem ExtT.of {H H' : Hp} (e : ∀ b o, H b = some o → H' b = some o) : ExtT H H' := ⟨fun b o h _ => e b o h, .keep fun b o h _ => e b o h⟩
/-- a function that gives keys: it keeps what was there -/
def KeyG {β : Type} (X : Cx) (G : Hp → Prop) (n : Nat) (f : Value) (dom : β → Prop) (enc k : β → PyData) : Prop :=
  ∀ (A : Around) (pins : List (Addr × Obj)) (s : Shared) (σ : L2.St) (H : Hp) (N : Addr → Prop) (x : V) (u : Value) (b : β), Sub X n A → Inv X pins σ H s → TabsH H → G H → RelV x u → RD N H x (enc b) → dom b →
    wpAny (model X.prog X.w) A (call f [u]) (fun v s' => ∃ (y : V) (H' : Hp), Inv X pins σ H' s' ∧ ExtT H H' ∧ RelV y v ∧ RD N H' y (k b)) (fun _ _ => False) s
theorem ext_keep {N : Addr → Prop} {H H' : Hp} (e : ExtT H H') (l : ∀ b, N b → ∃ xs, H b = some (.lst xs)) : KeepN N H N H' := ⟨fun b o _ h t => e.k b o h t, fun b n => .inl n, l⟩
theorem rds_snoc {N : Addr → Prop} {H : Hp} {x : V} {d : PyData} (h : RD N H x d) : ∀ {xs : List V} {ds : List PyData}, RDs N H xs ds → RDs N H (xs ++ [x]) (ds ++ [d])
  | _, _, .nil => .cons h .nil
  | _, _, .cons a b => .cons a (rds_snoc h b)
theorem vals_put : ∀ {xs : List V} {us : List Value} {x : V} {u : Value}, Vals xs us → RelV x u → Vals (xs ++ [x]) (us ++ [u])
  | _, _, _, _, .nil, r => .cons r .nil
  | _, _, _, _, .cons a b, r => .cons a (vals_put b r)
theorem pin_more {p q : Addr × Obj} (I : Inv X (pins ++ [p]) σ H s) (nk : s.heap.get? q.1 = some q.2) (fk : FpOk X (pins ++ [p]) H q.1) (hd : ∀ v, q.2.data ≠ .cell v) : Inv X (pins ++ [p, q]) σ H s := I.pins_of fun r hr => by
  rcases List.mem_append.mp hr with h | h
  · exact I.pin r (List.mem_append_right _ (List.mem_append_left _ h))
  · rcases List.mem_cons.mp h with rfl | h
    · exact I.pin r (List.mem_append_right _ (List.mem_append_right _ (List.mem_singleton.mpr rfl)))
    · rw [List.mem_singleton.mp h]
      exact ⟨nk, fk.1, fk.2.1, fk.2.2.1, hd⟩
theorem pin_less {p q : Addr × Obj} (I : Inv X (pins ++ [p, q]) σ H s) : Inv X (pins ++ [p]) σ H s := I.pins_of fun r hr => I.pin r (List.mem_append_right _ (by
  rcases List.mem_append.mp hr with h | h
  · exact List.mem_append_left _ h
  · exact List.mem_append_right _ (by rw [List.mem_singleton.mp h]; exact List.mem_cons_self)))
theorem pin_none {l : List (Addr × Obj)} (I : Inv X (pins ++ l) σ H s) : Inv X pins σ H s := I.pins_of fun r hr => I.pin r (List.mem_append_right _ (List.mem_append_left _ hr))
theorem fp_at {H' : Hp} {b : Addr} (h : FpOk X pins H b) (n : H' b = none) : FpOk X pins H' b := ⟨n, h.2⟩
open PySem.W in
/-- the calls of the key, then the sort -/
theorem key_rest {β : Type} {G : Hp → Prop} {n : Nat} {f : Value} {dom : β → Prop} {enc k : β → PyData} {N : Addr → Prop} {A : Around} {E : Value → Shared → Prop} {a kS : Addr} {e1 : Nat} {vs : List Value} {xs : List V} {bs : List β} {Q : VK} (kf : KeyG X G n f dom enc k) (hG : ∀ H H', ExtT H H' → G H → G H') (g0 : G H) (sb : Sub X n A)
    (I : Inv X (pins ++ [(a, seqObj "list" #[] e1)]) σ H s) (nk : s.heap.get? kS = some (seqObj "list" #[] 0)) (fk : FpOk X (pins ++ [(a, seqObj "list" #[] e1)]) H kS) (fa : FpOk X pins H a) (hka : kS ≠ a)
    (rv : Vals xs vs) (rs : RDs N H xs (bs.map enc)) (tb : TabsH H) (nl : ∀ b, N b → ∃ xs, H b = some (.lst xs)) (hd : ∀ b ∈ bs, dom b) (hZ : vs.length ≤ sizeLine) (hal : AllAlike (bs.map k)) (hsk : Sortable (bs.map k)) (hu : ∀ d, d ∈ bs.map k → A.units + d.depth < cLine)
    (q : ∀ ys H', ExtT H H' → H' a = some (.lst ys) → RDs N H ys ((bs.mergeSort (dataLe false k)).map enc) → Q (.ref a) H') :
    wpAny (model X.prog X.w) A (ksk_rest a f false vs.toArray e1 (.ref kS)) (fun fl s' => fl = .done (.ret .none) ∧ EP X pins σ Q (.ref a) s') E s := by
  have hbl : vs.length = bs.length := by have h1 := rs.length; rw [List.length_map] at h1; rw [← h1, rv.length]
  unfold ksk_rest
  refine wpAny_bind (wpAny_rule ?_)
  rw [List.forIn_toArray]
  refine wpAny_bind (ksk_fold (fun i s' => ∃ (H' : Hp) (kA : Array Value) (e : Nat) (ys : List V), Inv X (pins ++ [(a, seqObj "list" #[] e1), (kS, seqObj "list" kA e)]) σ H' s' ∧ ExtT H H' ∧ Vals ys kA.toList ∧ RDs N H' ys ((bs.take i).map k)) vs 0 s ?init ?step ?done)
  case init =>
    exact ⟨H, #[], 0, [], pin_more I nk fk (fun v h => by cases h), ExtT.refl _, .nil, by rw [List.take_zero]; exact .nil⟩
  case step =>
    rintro j x s' hx ⟨H', kA, e, ys, I', ex, vy, ry⟩
    rw [Nat.zero_add] at ry ⊢
    have hj : j < vs.length := (List.getElem?_eq_some_iff.mp hx).1
    obtain ⟨b, hb⟩ : ∃ b, bs[j]? = some b := ⟨_, List.getElem?_eq_getElem (by omega)⟩
    have hsz : kA.size = j := by
      have h1 := vy.length
      have h2 := ry.length
      rw [List.length_map, List.length_take] at h2
      have h3 : kA.toList.length = kA.size := Array.length_toList
      omega
    obtain ⟨v, hv, rd⟩ : ∃ v, xs[j]? = some v ∧ RD N H v (enc b) := by
      have := rs.get (i := j) (d := enc b) (by rw [List.getElem?_map, hb]; rfl)
      exact this
    obtain ⟨u, hu', ru⟩ := rv.get hv
    have eu : u = x := Option.some.inj (hu'.symm.trans hx)
    subst eu
    have nl' : ∀ c, N c → ∃ xs, H' c = some (.lst xs) := fun c hc => by obtain ⟨zs, hz⟩ := nl c hc; exact ⟨zs, ex.k _ _ hz⟩
    refine wpAny_bind (wpAny_attempt (wpAny_mono (kf A _ s' σ H' N v u b sb I' (ex.t.t tb) (hG _ _ ex g0) ru (rd.mono (ext_keep ex nl)) (hd b (List.mem_of_getElem? hb))) (fun w s'' he => ?_) fun _ _ hF => hF.elim))
    obtain ⟨y, H2, I2, ex2, ry2, rk⟩ := he
    have pk := I2.pin (kS, seqObj "list" kA e) (List.mem_append_right _ (List.mem_append_right _ (List.mem_cons_of_mem _ List.mem_cons_self)))
    have nk2 : s''.heap.get? kS = some (seqObj "list" kA e) := pk.1
    have fk2 := fp_at fk pk.2.1
    have s1 := Heap.SameBut.update s''.heap kS (Obj.mapSeq (·.push w))
    obtain ⟨c2, hc2⟩ : ∃ c2, (s''.heap.update kS (Obj.mapSeq (·.push w))).get? kS = some (seqObj "list" (kA.push w) c2) := ⟨_, get?_update_seq nk2 (·.push w)⟩
    have I3 := (pin_less I2).turnedL (t' := s''.toks) (ch := [kS]) (h' := s''.heap.update kS (Obj.mapSeq (·.push w))) (fun b o hb q => (s1.2 b (fun z => hb (by rw [z]; exact List.mem_singleton.mpr rfl))).trans q) fun b hb => by rw [List.mem_singleton.mp hb]; exact fk2
    refine wpAny_bind (listUpdate_at nk2 rfl ?_ (by rw [hsz]; omega) (by rw [Array.size_push, hsz]; omega))
    refine wpAny_pure ⟨rfl, H2, kA.push w, c2, ys ++ [y], pin_more I3 hc2 fk2 (fun v h => by cases h), ex.trans ex2, ?_, ?_⟩
    · rw [Array.toList_push]
      exact vals_put vy ry2
    · have eb : bs.take (j + 1) = bs.take j ++ [b] := by rw [List.take_add_one, hb]; rfl
      rw [eb, List.map_append]
      exact rds_snoc rk (RDs.mono (ext_keep ex2 nl') ry)
  case done =>
    rintro s' ⟨H', kA, e, ys, I', ex, vy, ry⟩
    rw [Nat.zero_add, List.take_of_length_le (by omega)] at ry
    have pa := I'.pin (a, seqObj "list" #[] e1) (List.mem_append_right _ (List.mem_append_right _ List.mem_cons_self))
    have pk := I'.pin (kS, seqObj "list" kA e) (List.mem_append_right _ (List.mem_append_right _ (List.mem_cons_of_mem _ List.mem_cons_self)))
    have hsz : kA.size = vs.length := by
      have h1 := vy.length
      have h2 := ry.length
      rw [List.length_map] at h2
      have h3 : kA.toList.length = kA.size := Array.length_toList
      omega
    obtain ⟨G, g1, g2⟩ := L2.restrict s'.heap fun b => b != kS
    have hk' : EachIs (fun v k => ∃ as, Reads s'.heap v k as) kA.toList (bs.map k) :=
      each_map (R := fun v d => ∃ as, Reads s'.heap v d as) k ((each_rd I' vy ry).mono fun u b ⟨x, rx, hx⟩ => Dp.reads I' _ x u hx.dp rx)
    refine wpAny_bind (listItems_at pk.1 rfl ?_)
    refine keyH_end (κ := dataKind s'.heap (bs.map k)) (h₁ := G) (fun b o hb q => ?_) (g2 kS (by simp)) pk.1 pa.1 hka (SortsAt.data (s := s') hk' hal hsk hu) hsz hZ fun h3 tk3 c k3 n3 => ⟨rfl, ?_⟩
    · by_cases z : b = kS
      · rw [z, g2 kS (by simp)] at q; cases q
      · rw [← g1 b (by simpa using z)]; exact q
    · have ko := keyedOut_each (R := fun (u : Value) b => ∃ x, RelV x u ∧ RD N H x (enc b)) (rev := false) k ⟨s'.heap, kA.toList, hal, rfl, hk'⟩ (each_rd (pin_none I) rv rs)
      obtain ⟨zs, rz, hz⟩ := rd_each ko
      have lz : zs.length ≤ sizeLine := by
        have := hz.length
        rw [List.length_map, List.length_mergeSort] at this
        omega
      have Ha : H a = none := fa.1
      have I4 := inv_take (t' := tk3) (T := a) (ob := .lst zs) (ch := [a, kS]) (h' := h3) (pin_none I') List.mem_cons_self (fun b o hb q => ?_) (fun b hb => ?_) ⟨lz, _, c, rz, n3⟩
      · refine ⟨.ref a, _, I4, rfl, q zs _ ⟨fun b o h t => ?_, ex.t.trans (.keep fun b o h q => ?_)⟩ upd_same hz⟩
        · rw [upd_ne (fun z => by rw [z, Ha] at h; cases h)]
          exact ex.k b o h t
        · have n0 : H' a = none := pa.2.1
          rw [upd_ne (fun z => by rw [z, n0] at h; cases h)]
          exact h
      · have n1 : b ≠ a := fun z => hb (by rw [z]; exact List.mem_cons_self)
        have n2 : b ≠ kS := fun z => hb (by rw [z]; exact List.mem_cons_of_mem _ List.mem_cons_self)
        exact k3 b o n1 (by rw [g1 b (by simpa using n2)]; exact q)
      · rcases List.mem_cons.mp hb with rfl | hb
        · exact fp_at fa pa.2.1
        · rw [List.mem_singleton.mp hb]
          have := fp_at fk pk.2.1
          exact ⟨this.1, this.2.1, this.2.2.1, this.2.2.2.1, this.2.2.2.2.1, fun p hp => this.2.2.2.2.2 p (by
            rcases List.mem_append.mp hp with h | h
            · exact List.mem_append_left _ h
            · exact List.mem_append_right _ (List.mem_append_left _ h))⟩
/-- sorted(xs, key=f), f known by Gf -/
def rSortG {β : Type} (K : PySem.W.Frag) (Gf : Addr → Hp → Prop) (dom : β → Prop) (enc k : β → PyData) : List V → List V → Hp → VK → Prop := fun vs zs H Q => ∃ (N : Addr → Prop) (a f : Addr) (xs : List V) (bs : List β), vs = [V.ref a] ∧ zs = [V.ref f] ∧ Gf f H ∧ (SqL K H a xs ∨ SqT K H a xs) ∧ RDs N H xs (bs.map enc) ∧ TabsH H ∧ (∀ b, N b → ∃ xs, H b = some (.lst xs)) ∧ (∀ b ∈ bs, dom b) ∧
  PySem.W.AllAlike (bs.map k) ∧ PySem.W.Sortable (bs.map k) ∧ (∀ b ∈ bs, (k b).depth ≤ 60) ∧ ∀ ys p H', H p = none → ExtT H H' → H' p = some (.lst ys) → RDs N H ys ((bs.mergeSort (PySem.W.dataLe false k)).map enc) → Q (.ref p) H'
/-- .. a def of the module -/
abbrev rSortBy {β : Type} (K : PySem.W.Frag) (f : Addr) (dom : β → Prop) (enc k : β → PyData) : List V → List V → Hp → VK → Prop := rSortG K (fun g _ => g = f) dom enc k
open PySem.W in
theorem key_sort {β : Type} {G : Hp → Prop} {n : Nat} {f : Addr} {dom : β → Prop} {enc k : β → PyData} {N : Addr → Prop} {its : List Value} {xs : List V} {bs : List β} {Q : VK} (kf : KeyG X G n (.ref f) dom enc k) (hG : ∀ H H', ExtT H H' → G H → G H') (g0 : G H) (sb : Sub X n X.A.in1.in1) (hu : X.A.units + 66 < cLine)
    (I : Inv X pins σ H s) (rv : Vals xs its) (rs : RDs N H xs (bs.map enc)) (tb : TabsH H) (nl : ∀ b, N b → ∃ xs, H b = some (.lst xs)) (hd : ∀ b ∈ bs, dom b) (hZ : its.length ≤ sizeLine) (hal : AllAlike (bs.map k)) (hsk : Sortable (bs.map k)) (hdep : ∀ b ∈ bs, (k b).depth ≤ 60)
    (q : ∀ ys p H', H p = none → ExtT H H' → H' p = some (.lst ys) → RDs N H ys ((bs.mergeSort (dataLe false k)).map enc) → Q (.ref p) H') (E' : Value → Shared → Prop) :
    wpAny (model X.prog X.w) X.A.in1.in1 (Builtin.«list.sort» ⟨[.ref (s.heap.objs.size + 1)], [(Str.ofString "key", .ref f)]⟩) (fun fl s' => fl = .done (.ret .none) ∧ EP X pins σ Q (.ref (s.heap.objs.size + 1)) s') E' { s with heap := copyHeap s.heap its } := by
  rw [ksk_t1]
  have ho := copyHeap_at s.heap its
  obtain ⟨e1, ho1⟩ : ∃ e1, ((copyHeap s.heap its).update (s.heap.objs.size + 1) (Obj.mapSeq fun _ => (#[] : Array Value))).get? (s.heap.objs.size + 1) = some (seqObj "list" #[] e1) := ⟨_, get?_update_seq ho fun _ => #[]⟩
  have hlt : s.heap.objs.size + 1 < (copyHeap s.heap its).objs.size := Heap.lt_size ho
  unfold ksk_tree
  refine wpAny_bind (listItems_at ho rfl ?_)
  refine wpAny_bind (listUpdate_at ho rfl ?_ (by rw [List.size_toArray]; exact hZ) (Nat.zero_le _))
  refine wpAny_bind (seqEpoch_at ho1 rfl ?_)
  refine wpAny_bind (wpAny_newTuple ?_ (by show its.length ≤ _; exact hZ))
  refine wpAny_bind (wpAny_newList ?_ (Nat.zero_le _))
  refine wpAny_holding ?_
  have hs1 : ((copyHeap s.heap its).update (s.heap.objs.size + 1) (Obj.mapSeq fun _ => (#[] : Array Value))).objs.size = (copyHeap s.heap its).objs.size := Heap.size_update ..
  have hs2 : (((copyHeap s.heap its).update (s.heap.objs.size + 1) (Obj.mapSeq fun _ => (#[] : Array Value))).push (seqObj "tuple" its.toArray 0)).objs.size = (copyHeap s.heap its).objs.size + 1 := by rw [size_push', hs1]
  have I1 : Inv X pins σ H { s with heap := sortingHeap (copyHeap s.heap its) (s.heap.objs.size + 1) its } := I.kept (t' := s.toks) fun b o e => sorting_copy_old e
  have fa : FpOk X pins H (s.heap.objs.size + 1) := I.fpOk (Nat.le_succ _) (I.hok.fresh (Nat.le_succ _))
  have ga : (sortingHeap (copyHeap s.heap its) (s.heap.objs.size + 1) its).get? (s.heap.objs.size + 1) = some (seqObj "list" #[] e1) := Heap.get?_push_of_some _ (Heap.get?_push_of_some _ ho1)
  have I2 : Inv X (pins ++ [(s.heap.objs.size + 1, seqObj "list" #[] e1)]) σ H { s with heap := sortingHeap (copyHeap s.heap its) (s.heap.objs.size + 1) its } := I1.pins_of fun p hp => by
    rcases List.mem_append.mp hp with h | h
    · exact I1.pin p (List.mem_append_right _ h)
    · rw [List.mem_singleton.mp h]
      exact ⟨ga, fa.1, fa.2.1, fa.2.2.1, fun v h => by cases h⟩
  have hle : s.heap.objs.size ≤ (((copyHeap s.heap its).update (s.heap.objs.size + 1) (Obj.mapSeq fun _ => (#[] : Array Value))).push (seqObj "tuple" its.toArray 0)).objs.size := by rw [hs2]; omega
  have fk : FpOk X pins H (((copyHeap s.heap its).update (s.heap.objs.size + 1) (Obj.mapSeq fun _ => (#[] : Array Value))).push (seqObj "tuple" its.toArray 0)).objs.size := I.fpOk hle (I.hok.fresh hle)
  have hne : (((copyHeap s.heap its).update (s.heap.objs.size + 1) (Obj.mapSeq fun _ => (#[] : Array Value))).push (seqObj "tuple" its.toArray 0)).objs.size ≠ s.heap.objs.size + 1 := by rw [hs2]; omega
  refine key_rest (s := { s with heap := sortingHeap (copyHeap s.heap its) (s.heap.objs.size + 1) its }) kf hG g0 sb I2 (Heap.get?_push_size _ rfl) ⟨fk.1, fk.2.1, fk.2.2.1, fk.2.2.2.1, fk.2.2.2.2.1, fun p hp => ?_⟩ fa hne rv rs tb nl hd hZ hal hsk (fun d hd => ?_) fun ys H' ex ha hr => q ys _ H' fa.1 ex ha hr
  · rcases List.mem_append.mp hp with h | h
    · exact fk.2.2.2.2.2 p (List.mem_append_left _ h)
    · rcases List.mem_append.mp h with h | h
      · exact fk.2.2.2.2.2 p (List.mem_append_right _ h)
      · rw [List.mem_singleton.mp h]
        exact fun z => hne z.symm
  · obtain ⟨b, hb, rfl⟩ := List.mem_map.mp hd
    have := hdep b hb
    show X.A.units + 1 + 1 + (k b).depth < cLine
    omega
theorem cr_sortedG {β : Type} {Gf : Addr → Hp → Prop} {n : Nat} {dom : β → Prop} {enc k : β → PyData} (kf : ∀ f, KeyG X (Gf f) n (.ref f) dom enc k) (hG : ∀ f H H', ExtT H H' → Gf f H → Gf f H') (sb : Sub X n X.A.in1.in1) (hu : X.A.units + 66 < cLine) : CallRK X (.builtin "sorted") [Str.ofString "key"] (rSortG X.K Gf dom enc k) := by
  intro pins s σ H vs zs us ws Q I r rz h
  obtain ⟨N, a, f, xs, bs, rfl, rfl, g0, hs, rs, tb, nl, hd, hal, hk, hdep, q⟩ := h
  obtain rfl := Vals.ref1 r
  obtain ⟨w1, rfl, e1⟩ := vals1 rz
  obtain rfl : w1 = Value.ref f := e1
  rcases hs with hs | hs
  · obtain ⟨its, rv, hl, hz⟩ := I.list hs
    have hz' : its.length ≤ sizeLine := by rw [← rv.length]; exact hz
    exact PySem.W.sorted_of_sort hl.isList hz' (PyProof.Rows.ksk_s1 _ _) (fun _ => PyProof.Rows.ksk_l1 _ _) (key_sort (kf f) (hG f) g0 sb hu I rv rs tb nl hd hz' hal hk hdep q)
  · obtain ⟨its, rv, hl, hz⟩ := I.tuple hs
    have hz' : its.length ≤ sizeLine := by rw [← rv.length]; exact hz
    exact sorted_of_sortT (show s.heap.IsTuple a its.toArray from hl) hz' (PyProof.Rows.ksk_s1 _ _) (fun _ => PyProof.Rows.ksk_l1 _ _) (key_sort (kf f) (hG f) g0 sb hu I rv rs tb nl hd hz' hal hk hdep q)
/-- a def of the program gives keys -/
theorem key_has {β : Type} {n : Nat} {f : Addr} {fd : FuncData} {p : Str} {dom : β → Prop} {enc k : β → PyData} (he : ∀ b, noL (enc b) = true) (hk : ∀ b, noL (k b) = true) (F : FnOk X.prog X.w X.K X.mg X.base CX0 n f fd [p] (spD dom (fun b => [.dat (enc b)]) fun b r => r = .dat (k b)))
    (hb : Binds X.K fd [p] []) : KeyG X (fun _ => True) n (.ref f) dom enc k := by
  intro A pins s σ H N x u b sb I tb _ rx rd db
  have e0 := I.env0
  have e1 : Env0 X.prog X.w X.K X.mg X.base A X.stack s H := ⟨sb.fr.trans e0.frames, e0.mod, e0.bs, e0.bsz, e0.funs, e0.frf, e0.hok, e0.bare⟩
  have r1 : Vals [x] [u] := .cons rx .nil
  refine wpAny_call (codeAny_mono (F.run A X.stack s H ⟨[u], []⟩ [u] [x] (fun v H' => ExtT H H' ∧ RD N H' v (k b)) E0 sb.room e1 (hb s [u] I.kIn rfl) r1 ?_) fun r s' hq => ?_)
  · refine ⟨b, fun _ => False, db, ⟨fun _ h => h.elim, tb⟩, ⟨RD.free (he b) rd, trivial⟩, fun v H' r g rr e => ?_⟩
    subst e
    exact ⟨⟨fun c o h t => g.k c o (fun z => z) h t, g.t⟩, RD.free (hk b) rr⟩
  · cases r with
    | error e => exact False.elim hq
    | ok fl =>
      cases fl with
      | ret u' =>
        obtain ⟨v, H', I', rv, ex, rd'⟩ := I.after hq
        exact ⟨v, H', I', ex, rv, rd'⟩
      | next => exact False.elim hq
      | brk => exact False.elim hq
      | cont => exact False.elim hq
end
/-- sorted(xs, key=f) over data -/
def dSortBy {β : Type} (dom : β → Prop) (enc k : β → PyData) (Ta : DTE) : DTE := fun env Qd => Ta env fun r => ∃ bs : List β, seqD r = some (bs.map enc) ∧ (∀ b ∈ bs, dom b) ∧ PySem.W.AllAlike (bs.map k) ∧ PySem.W.Sortable (bs.map k) ∧ (∀ b ∈ bs, (k b).depth ≤ 60) ∧ Qd (.new ((bs.mergeSort (PySem.W.dataLe false k)).map enc))
instance {β : Type} {K : PySem.W.Frag} {f : Addr} {dom : β → Prop} {enc k : β → PyData} {ta : TE} {Ta : DTE} [DL ta Ta] : DL (tCKw (rSortBy K f dom enc k) (tCons ta tNil) (tCons (tC (V.ref f)) tNil)) (dSortBy dom enc k Ta) := ⟨fun z σ env Q Qd o e h q =>
  DL.run (t := ta) z σ env _ _ o e h fun v H1 r g1 r1 h1 => by
    obtain ⟨bs, hd, hdm, hal, hk, hdep, h2⟩ := h1
    obtain ⟨a, xs, rfl, ha, rs⟩ := seq_rr K r1 hd
    refine ⟨z.N, a, f, xs, bs, rfl, rfl, rfl, ha, rs, (g1.ok o).tb, (g1.ok o).lst, hdm, hal, hk, hdep, fun ys p H' hp ex hl hr => ?_⟩
    have ge : Ge (z.at H1) H' := ⟨fun b u _ w t => ex.k b u w t, fun b s => let ⟨a1, a2, a3, w⟩ := g1.s b s; ⟨a1, a2, a3, ex.k _ _ w⟩, ex.t⟩
    exact q _ _ (.new _) (g1.trans ge) ⟨p, ys, rfl, g1.fresh hp, hl, RDs.mono ⟨fun b o _ h t => ex.k b o h t, fun b n => n.imp id fun w => by rw [w]; exact hp, (g1.ok o).lst⟩ hr⟩ h2⟩
/-- the rule -/
theorem pe_sortBy {X : Cx} {β : Type} {n : Nat} {y : Str} {p : Str} {f : Addr} {fd : FuncData} {dom : β → Prop} {enc k : β → PyData} {nm : Option Str} {e ke : Expr} {t : TE} {p1 pos kpos : Pos} (he : ∀ b, noL (enc b) = true) (hk : ∀ b, noL (k b) = true) (F : FnOk X.prog X.w X.K X.mg X.base CX0 n f fd [p] (spD dom (fun b => [.dat (enc b)]) fun b r => r = .dat (k b)))
    (hb : Binds X.K fd [p] []) (hr : Room (n + 2) X.A) (hu : X.A.units + 66 < cLine) (hg : Gl X "sorted") (hm : X.mg "sorted" = none) (ha : PA X [e] (tCons t tNil)) (hy : PK X [⟨nm, ke, kpos⟩] (tCons (tC (V.ref f)) tNil))
    (h1 : backTo pos (starEach [e] X.env) = (false, eval e X.env) :: backTo pos (starEach [] X.env) := by rfl) (h2 : (backTo pos (starEach [e] X.env)).any (·.1) = false := by rfl)
    (h3 : (backToKw pos (keywordEach [⟨nm, ke, kpos⟩] X.env)).all (·.1.isSome) = true := by rfl) (h4 : (backToKw pos (keywordEach [⟨nm, ke, kpos⟩] X.env)).any (·.1.isNone) = false := by rfl) (h5 : (backToKw pos (keywordEach [⟨nm, ke, kpos⟩] X.env)).filterMap (·.1) = [Str.ofString "key"] := by rfl) :
    PE X (.Call (.Name "sorted" p1) [e] [⟨nm, ke, kpos⟩] pos) (tCKw (rSortBy X.K f dom enc k) (tCons t tNil) (tCons (tC (V.ref f)) tNil)) :=
  pe_callBK (cr_sortedG (Gf := fun g _ => g = f) (fun g => fun A pins s σ H N x u b sb I tb gg => gg ▸ key_has he hk F hb A pins s σ H N x u b sb I tb trivial) (fun g H H' _ e => e) ⟨hr.in1.in1, rfl⟩ hu) hg hm (by decide +kernel) ha hy (by decide) (by decide) h1 h2 h3 h4 h5
end Cr

namespace Cr
open PySem PySem.Spec PyProof.Rows L2
variable [Tbl]
/-- a dict whose keys are nested tuples, by its own object: keys, where they stand, values -/
def DicO (P : Program) (w : World) (d : Addr) (xs : List (NestedKey × Addr × Value)) : HO := .ext fun h => ∃ o es ep, h.get? d = some o ∧ o.ExactDict ∧ o.data = .dict es ep ∧ es.toList = xs.map (entryOfKey (nestedKind P w))
theorem dicO_ok {P : Program} {w : World} {H : Hp} {h : Heap} {d : Addr} {xs : List (NestedKey × Addr × Value)} (m : h.DictOfH (nestedKind P w) d xs) : ObjOk P w H h d (DicO P w d xs) := by
  obtain ⟨o, es, ep, h1, h2, h3, h4, _⟩ := m
  refine ⟨⟨o, es, ep, h1, h2, h3, h4⟩, ⟨o, h1⟩, fun g1 g2 ⟨o', es', ep', k1, k2, k3, k4⟩ st => ⟨o', es', ep', st _ k1, k2, k3, k4⟩⟩
/-- a dict is no code object -/
theorem dicO_code {P : Program} {w : World} {d : Addr} {xs : List (NestedKey × Addr × Value)} {q : Str} (e : DicO P w d xs = LamX.CodeO d q) : False := by
  unfold DicO LamX.CodeO at e
  injection e with e
  have at_ : ({ objs := Array.replicate (d + 1) { cls := .none, data := .fields #[.none, .str q 0] } } : Heap).get? d = some { cls := .none, data := .fields #[.none, .str q 0] } := by
    unfold Heap.get?
    simp [Array.getElem?_replicate]
  have code : ∃ (oc : Obj) (vs : Array Value) (t : Tok), ({ objs := Array.replicate (d + 1) { cls := .none, data := .fields #[.none, .str q 0] } } : Heap).get? d = some oc ∧ oc.data = .fields vs ∧ vs[1]? = some (.str q t) := ⟨_, _, 0, at_, rfl, rfl⟩
  have := congrFun e { objs := Array.replicate (d + 1) { cls := .none, data := .fields #[.none, .str q 0] } }
  rw [← this] at code
  obtain ⟨o, es, ep, h1, _, h2, _⟩ := code
  rw [at_] at h1
  cases h1
  cases h2
section
variable {X : Cx} {pins : List (Addr × Obj)} {σ : L2.St} {H : Hp} {s : Shared} {d : Addr} {xs : List (NestedKey × Addr × Value)}
theorem dic_held (I : Inv X pins σ H s) (hd : H d = some (DicO X.prog X.w d xs)) (hk : ∀ x ∈ xs, (nestedKind X.prog X.w).is s.heap x.1 x.2.1) (nd : (xs.map (·.1)).Nodup) : s.heap.DictOfH (nestedKind X.prog X.w) d xs := by
  obtain ⟨⟨o, es, ep, h1, h2, h3, h4⟩, _⟩ := I.hok d _ hd
  exact ⟨o, es, ep, h1, h2, h3, h4, hk, nd⟩
/-- d[k] = v -/
theorem dic_put {k : NestedKey} {a : Addr} {v : Value} {E : Value → Shared → Prop} (I : Inv X pins σ H s) (hd : H d = some (DicO X.prog X.w d xs)) (hk : ∀ x ∈ xs, (nestedKind X.prog X.w).is s.heap x.1 x.2.1) (nd : (xs.map (·.1)).Nodup)
    (key : (nestedKind X.prog X.w).is s.heap k a) (room : X.A.in1.units + 8 < cLine) (hsz : xs.length ≤ sizeLine) :
    wpAny (model X.prog X.w) X.A (setItem (.ref d) (.ref a) v) (fun _ s' => Inv X pins σ (upd H d (DicO X.prog X.w d (storedH xs k a v))) s' ∧ (∀ x ∈ storedH xs k a v, (nestedKind X.prog X.w).is s'.heap x.1 x.2.1) ∧ ((storedH xs k a v).map (·.1)).Nodup) E s := by
  refine wpAny_setItem_heap (knd := nestedKind X.prog X.w) room key (dic_held I hd hk nd) (fun h' hm hs => ⟨?_, ?_, ?_⟩) hsz
  · have mu : Mut (H d) := by rw [hd]; trivial
    obtain ⟨o, es, ep, h1, _⟩ := id hm
    exact I.write (x := d) (e := d) mu (.inl rfl) (fun b u hb e => (hs.2 b hb).trans e) ⟨o, h1⟩ (dicO_ok hm)
  · obtain ⟨_, _, _, _, _, _, _, q, _⟩ := hm
    exact q
  · obtain ⟨_, _, _, _, _, _, _, _, q⟩ := hm
    exact q
end
/-- a case as a key -/
def keyC (c : Case) : NestedKey := toKey (caseD c)
theorem cond_keyD (x : Cond) : KeyD 1 (condD x) := .inr ⟨_, rfl, fun e he => by
  rcases List.mem_cons.mp he with rfl | he
  · exact ⟨_, rfl⟩
  · rw [List.mem_singleton.mp he]; exact ⟨_, rfl⟩⟩
theorem case_keyD (c : Case) : KeyD 2 (caseD c) := .inr ⟨_, rfl, fun e he => by
  obtain ⟨x, _, rfl⟩ := List.mem_map.mp he
  exact cond_keyD x⟩
theorem keyC_inj : ∀ {a b : Case}, keyC a = keyC b → a = b := fun {a b} h => by
  unfold keyC caseD at h
  rw [toKey, toKey, toKeys_map, toKeys_map] at h
  have h := NestedKey.tup.inj h
  rw [List.map_map, List.map_map] at h
  refine (List.map_inj_right fun x y e => ?_).mp h
  have e : toKey (condD x) = toKey (condD y) := e
  unfold condD at e
  simp only [toKey, toKeys, NestedKey.tup.injEq, List.cons.injEq, NestedKey.num.injEq, and_true] at e
  exact Prod.ext e.1 e.2
theorem case_is {X : Cx} {pins : List (Addr × Obj)} {σ : L2.St} {H : Hp} {s : Shared} {N : Addr → Prop} {a : Addr} {c : Case} (I : Inv X pins σ H s) (h : RD N H (.ref a) (caseD c)) : (nestedKind X.prog X.w).is s.heap (keyC c) a := by
  obtain ⟨h1, _, h3⟩ := key_of I 2 (caseD c) (.ref a) (.ref a) (case_keyD c) (RD.dp (K := X.K) h) rfl
  exact ⟨h1, Nat.le_trans h3 (by decide)⟩
/-- the entries of a dict of cases, all True -/
def dicX (as : List (Addr × Case)) : List (NestedKey × Addr × Value) := as.map fun p => (keyC p.2, p.1, .bool true)
theorem dicX_nd {as : List (Addr × Case)} (h : (as.map (·.2)).Nodup) : ((dicX as).map (·.1)).Nodup := by
  unfold dicX
  rw [List.map_map]
  unfold List.Nodup at h ⊢
  rw [List.pairwise_map] at h ⊢
  exact h.imp fun {a b} ne e => ne (keyC_inj e)
theorem at_dicX (as : List (Addr × Case)) (c : Case) : (atKey (dicX as) (keyC c)).isSome = decide (c ∈ as.map (·.2)) := by
  induction as with
  | nil => rfl
  | cons p as ih =>
    show (atKey ((keyC p.2, p.1, Value.bool true) :: dicX as) (keyC c)).isSome = _
    by_cases h : p.2 = c
    · subst h
      simp [atKey]
    · have hk : keyC p.2 ≠ keyC c := fun e => h (keyC_inj e)
      have h' : ¬ c = p.2 := fun e => h e.symm
      have e : atKey ((keyC p.2, p.1, Value.bool true) :: dicX as) (keyC c) = atKey (dicX as) (keyC c) := by
        unfold atKey
        rw [List.find?_cons, decide_eq_false hk]
      rw [e, ih]
      simp [h']
theorem put_dicX (as : List (Addr × Case)) (c : Case) (a : Addr) : storedH (dicX as) (keyC c) a (.bool true) = dicX (if c ∈ as.map (·.2) then as else as ++ [(a, c)]) := by
  unfold storedH
  rw [at_dicX]
  by_cases h : c ∈ as.map (·.2)
  · rw [if_pos (by simpa using h), if_pos h]
    refine (List.map_congr_left fun x hx => ?_).trans (List.map_id _)
    obtain ⟨p, _, rfl⟩ := List.mem_map.mp hx
    unfold putAt
    split <;> rfl
  · rw [if_neg (by simpa using h), if_neg h]
    unfold dicX
    rw [List.map_append]
    rfl
/-- list(d): what a dict offers to list, whatever its keys are -/
theorem kdl_raw {P : Program} {w : World} {d : Addr} {es : Array DictEntry} {ep : Nat} (lo : (d == sysModules) = false) : PySem.W.KdlSrc P w "dict" d d es.size (fun i v => ∃ hi : i < es.size, v = es[i].key) (fun h => h.DictRaw d es ep) where
  type := fun _ hm => hm.typeIs
  there := fun _ ⟨_, ho, _⟩ => ⟨Heap.lt_size ho, Heap.lt_size ho⟩
  keep := fun _ _ hm hk => hm.at fun o e => hk d (.inl rfl) o e
  notList := by decide
  notTuple := by decide
  hint := fun _ _ _ _ hm hq => PySem.W.kdl_hint_dict hm.typeIs hq
  iter := fun A s hh hm => by
    obtain ⟨o, ho, hx⟩ := id hm
    exact ⟨_, _, (fun _ _ hq => wpAny_pyIter_dict_raw lo hm hq), Walks.rawKeys hh _ d (Nat.ne_of_lt (Heap.lt_size ho)) es ep, ⟨⟨_, Heap.get?_push_size _ rfl, rfl, rfl⟩, ⟨o, Heap.get?_push_of_some _ ho, hx⟩⟩⟩
theorem vals_refA (as : List Addr) : Vals (as.map V.ref) (as.map Value.ref) := by
  induction as with
  | nil => exact .nil
  | cons a as ih => exact .cons rfl ih
/-- list(d) -/
theorem dic_list {X : Cx} {pins : List (Addr × Obj)} {σ : L2.St} {H : Hp} {s : Shared} {d : Addr} {xs : List (NestedKey × Addr × Value)} {Q : VK} {E : Value → Shared → Prop} (hc : X.calm = true) (I : Inv X pins σ H s) (hd : H d = some (DicO X.prog X.w d xs)) (lo : (d == sysModules) = false) (hsz : xs.length ≤ sizeLine)
    (q : ∀ p, H p = none → Q (.ref p) (upd H p (.lst ((xs.map (·.2.1)).map V.ref)))) : wpAny (model X.prog X.w) X.A (call (.type "list") [.ref d]) (EP X pins σ Q) E s := by
  obtain ⟨⟨o, es, ep, h1, h2, h3, h4⟩, _⟩ := I.hok d _ hd
  have hl : es.size = xs.length := by rw [← Array.length_toList, h4, List.length_map]
  refine PySem.W.kdl_call (kdl_raw (P := X.prog) (w := X.w) (es := es) (ep := ep) lo) (I.ok.hd hc) ⟨o, h1, h2, h3⟩ (by omega) fun h' tk acc c hk hD hacc => ?_
  have ea : acc.toList = (xs.map (·.2.1)).map Value.ref := by
    apply List.ext_getElem?
    intro j
    by_cases hj : j < es.size
    · have hja : j < acc.size := by rw [hacc.1]; exact hj
      obtain ⟨hi, e⟩ := hacc.2 j acc[j] (Array.getElem?_eq_getElem hja)
      have hx : j < xs.length := by omega
      have ek : es[j].key = .ref xs[j].2.1 := by
        have : es.toList[j]? = some (entryOfKey (nestedKind X.prog X.w) xs[j]) := by rw [h4, List.getElem?_map, List.getElem?_eq_getElem hx]; rfl
        rw [Array.getElem?_toList, Array.getElem?_eq_getElem hj] at this
        rw [Option.some.inj this]
        rfl
      rw [Array.getElem?_toList, Array.getElem?_eq_getElem hja, e, ek, List.getElem?_map, List.getElem?_map, List.getElem?_eq_getElem hx]
      rfl
    · have hn : acc.toList.length ≤ j := by rw [Array.length_toList, hacc.1]; omega
      rw [List.getElem?_eq_none hn, List.getElem?_eq_none (by rw [List.length_map, List.length_map]; omega)]
  refine ⟨.ref _, upd H s.heap.objs.size (.lst ((xs.map (·.2.1)).map V.ref)), I.laid (t' := tk) hk (Nat.le_refl _) ⟨by rw [List.length_map, List.length_map]; exact hsz, acc.toList, c, ?_, ?_⟩, rfl, q _ (I.hok.fresh (Nat.le_refl _))⟩
  · rw [ea]; exact vals_refA _
  · rw [Array.toArray_toList]; exact hD
end Cr

namespace Cr
open PySem PySem.Spec PyProof.Rows L2
variable [Tbl]
/-! ### the heap turns at one object that is neither tuple nor list -/
mutual
theorem RD.but {N : Addr → Prop} {H H' : Hp} {d : Addr} (k : ∀ b, b ≠ d → ∀ u, H b = some u → H' b = some u) (nt : ∀ o xs, H d ≠ some (.frz o (.tup xs))) (nl : ∀ xs, H d ≠ some (.lst xs)) : ∀ {v : V} {x : PyData}, RD N H v x → RD N H' v x
  | _, _, .non => .non
  | _, _, .bl b => .bl b
  | _, _, .int i => .int i
  | _, _, .str s => .str s
  | _, _, .tup h r => .tup (h.on fun u e => k _ (fun z => by subst z; obtain ⟨o, e', _⟩ := h; exact nt _ _ e') u e) (RDs.but k nt nl r)
  | _, _, .lst n h r => .lst n (k _ (fun z => by subst z; exact nl _ h) _ h) (RDs.but k nt nl r)
theorem RDs.but {N : Addr → Prop} {H H' : Hp} {d : Addr} (k : ∀ b, b ≠ d → ∀ u, H b = some u → H' b = some u) (nt : ∀ o xs, H d ≠ some (.frz o (.tup xs))) (nl : ∀ xs, H d ≠ some (.lst xs)) : ∀ {vs : List V} {xs : List PyData}, RDs N H vs xs → RDs N H' vs xs
  | _, _, .nil => .nil
  | _, _, .cons h r => .cons (RD.but k nt nl h) (RDs.but k nt nl r)
end
/-- a dict of cases, all True, stands at d -/
def DicAt (P : Program) (w : World) (N : Addr → Prop) (H : Hp) (d : Addr) (as : List (Addr × Case)) : Prop := H d = some (DicO P w d (dicX as)) ∧ ∀ p ∈ as, RD N H (.ref p.1) (caseD p.2)
theorem dicX_is {X : Cx} {pins : List (Addr × Obj)} {σ : L2.St} {H : Hp} {s : Shared} {N : Addr → Prop} {d : Addr} {as : List (Addr × Case)} (I : Inv X pins σ H s) (h : DicAt X.prog X.w N H d as) : ∀ x ∈ dicX as, (nestedKind X.prog X.w).is s.heap x.1 x.2.1 := fun x hx => by
  obtain ⟨p, hp, rfl⟩ := List.mem_map.mp hx
  exact case_is I (h.2 p hp)
def putA (as : List (Addr × Case)) (a : Addr) (c : Case) : List (Addr × Case) := if c ∈ as.map (·.2) then as else as ++ [(a, c)]
/-- d[k] = True -/
def sDicPut (P : Program) (w : World) (td ty tv : TE) : TS := fun D σ H => tv σ H fun v H1 => td σ H1 fun x H2 => ty σ H2 fun y H3 => ∃ (N : Addr → Prop) (d a : Addr) (as : List (Addr × Case)) (c : Case), v = .bl true ∧ x = .ref d ∧ y = .ref a ∧ DicAt P w N H3 d as ∧ (as.map (·.2)).Nodup ∧ as.length ≤ 1000000 ∧ RD N H3 (.ref a) (caseD c) ∧
  D.nx σ (upd H3 d (DicO P w d (dicX (putA as a c))))
section
variable {X : Cx} {o i value k v : Expr} {td ty tv tk : TE} {pos pos' : Pos}
theorem ps_dicput (room : X.A.in1.units + 8 < cLine) (ho : PE X o td) (hi : PE X i ty) (hv : PE X value tv) (hs : swapsWith value (some (.Subscript o i pos')) pos.line X.env = pure false) :
    PS X (.Assign [.Subscript o i pos'] value pos) (sDicPut X.prog X.w td ty tv) := by
  refine ⟨fun pins s σ H D I h => ?_⟩
  refine wpAny_Assign_Subscript (thn (hv.run pins s σ H _ I h) fun r s1 ⟨v, H1, I1, rv, q1⟩ => thn (ho.run pins s1 σ H1 _ I1 q1) fun u s2 ⟨x, H2, I2, rx, q2⟩ => thn (hi.run pins s2 σ H2 _ I2 q2) fun iv s3 ⟨y, H3, I3, ry, N, d, a, as, c, ev, ex, ey, da, nd, hl, rd, q3⟩ => ?_) hs
  subst ev ex ey
  obtain rfl : u = Value.ref d := rx
  obtain rfl : iv = Value.ref a := ry
  obtain rfl : r = Value.bool true := rv
  refine thn (dic_put I3 da.1 (dicX_is I3 da) (dicX_nd nd) (case_is I3 rd) room (by unfold dicX; rw [List.length_map]; exact small_line hl)) fun _ s4 ⟨I4, _, _⟩ => ?_
  rw [put_dicX] at I4
  exact ⟨σ, _, I4, q3⟩
/-- {k: True}; the new dict stands empty while key and value are made -/
def tDisp1 (P : Program) (w : World) (tk tv : TE) : TE := fun σ H Q => ∀ p, H p = none → (p == sysModules) = false → tPairs [(tk, tv)] σ (upd H p (DicO P w p [])) fun ps H2 => H2 p = some (DicO P w p []) ∧ ∃ (N : Addr → Prop) (a : Addr) (c : Case), ps = [(.ref a, .bl true)] ∧ RD N H2 (.ref a) (caseD c) ∧ Q (.ref p) (upd H2 p (DicO P w p (dicX [(a, c)])))
theorem pe_disp1 (hk : PE X k tk) (hv : PE X v tv) (room : X.A.units + 8 < cLine) : PE X (.Dict [some k] [v] pos) (tDisp1 X.prog X.w tk tv) := by
  refine ⟨fun pins s σ H Q I q => ?_⟩
  have hn := I.hok.fresh (Nat.le_refl s.heap.objs.size)
  have hb : (s.heap.objs.size == sysModules) = false := beq_eq_false_iff_ne.mpr (Nat.ne_of_gt I.big)
  have m0 : (s.heap.push { cls := .type "dict", data := .dict #[] }).DictOfH (nestedKind X.prog X.w) s.heap.objs.size [] := ⟨_, #[], 0, Heap.get?_push_size _ rfl, ⟨rfl, rfl, rfl⟩, rfl, rfl, fun x hx => (nomatch hx), List.nodup_nil⟩
  have I1 := I.laid (a := s.heap.objs.size) (o := DicO X.prog X.w s.heap.objs.size []) (h' := s.heap.push { cls := .type "dict", data := .dict #[] }) (t' := s.toks) (fun _ _ q => Heap.get?_push_of_some _ q) (Nat.le_refl _) (dicO_ok m0)
  have PP := pps_cons (pos := pos) hk hv pps_nil
  have hp : pairTrees [some k] [v] X.env pos ≠ [] := fun z => by cases z
  have hl : (pairTrees [some k] [v] X.env pos).length = 1 := rfl
  rw [arm_eval_Dict, zip_pairTrees [some k] [v] X.env pos rfl rfl, dictDisplay_pairs _ hp (by omega)]
  refine wpAny_bind (wpAny_standAt (wpAny_bind (wpAny_subDictH (knd := nestedKind X.prog X.w) (Q := fun d s' => wpAny (model X.prog X.w) X.A (pure (Value.ref d)) (EP X pins σ Q) X.xe s') room (by omega) (thn (PP.run pins _ σ _ _ I1 (q _ hn hb)) fun ws s2 h2 => ?_))))
  obtain ⟨ps, H2, I2, rel, e2, N, a, c, eps, rd, q2⟩ := h2
  subst eps
  have ew : ws = [(Value.ref a, Value.bool true)] := by
    cases rel with
    | cons h t =>
      cases t
      rename_i b
      obtain ⟨b1, b2⟩ := b
      obtain ⟨h1, h2⟩ := h
      have h1 : b1 = Value.ref a := h1
      have h2 : b2 = Value.bool true := h2
      rw [h1, h2]
  subst ew
  refine ⟨[(keyC c, a, Value.bool true)], ⟨rfl, rfl, case_is I2 rd, trivial⟩, dic_held I2 e2 (fun x hx => (nomatch hx)) List.nodup_nil, fun h' tk hm hs => wpAny_pure ?_⟩
  have es : storedAllH [] [(keyC c, a, Value.bool true)] = dicX [(a, c)] := rfl
  rw [es] at hm
  have mu : Mut (H2 s.heap.objs.size) := by rw [e2]; trivial
  obtain ⟨ob, es', ep, h1, _⟩ := id hm
  exact ⟨.ref _, _, I2.write (x := s.heap.objs.size) (e := s.heap.objs.size) mu (.inl rfl) (fun b u hb e => (hs.2 b hb).trans e) ⟨ob, h1⟩ (dicO_ok hm), rfl, q2⟩
/-- list(d) -/
def rListDic (P : Program) (w : World) : List V → Hp → VK → Prop := fun vs H Q => ∃ (d : Addr) (as : List (Addr × Case)), vs = [.ref d] ∧ H d = some (DicO P w d (dicX as)) ∧ (d == sysModules) = false ∧ as.length ≤ 1000000 ∧ ∀ p, H p = none → Q (.ref p) (upd H p (.lst (as.map fun x => V.ref x.1)))
theorem cr_listDic (hc : X.calm = true) : CallR X (.type "list") (rListDic X.prog X.w) := by
  intro pins s σ H xs us Q I r h
  obtain ⟨d, as, rfl, hd, lo, hl, q⟩ := h
  obtain rfl := Vals.ref1 r
  refine dic_list hc I hd lo (by unfold dicX; rw [List.length_map]; exact small_line hl) fun p hp => ?_
  have e : ((dicX as).map (·.2.1)).map V.ref = as.map fun x => V.ref x.1 := by
    unfold dicX
    rw [List.map_map, List.map_map]
    rfl
  rw [e]
  exact q p hp
end
/-! ### loops, raw -/
theorem for_tup {K : PySem.W.Frag} {a : Addr} {xs : List V} {g : TG} {tb : TS} {D : Ends} {σ : L2.St} {H : Hp} (Iv : Nat → L2.St → Hp → Prop) (h0 : Iv 0 σ H) (keep : ∀ i σ H, Iv i σ H → SqT K H a xs)
    (step : ∀ i x σ H, xs[i]? = some x → Iv i σ H → g x σ H fun σ2 H2 => tb { D with nx := Iv (i + 1), ct := Iv (i + 1), bk := D.nx } σ2 H2) (fin : ∀ σ H, Iv xs.length σ H → D.nx σ H) :
    ∃ W : Nat → Nat → L2.St → Hp → Prop, (∃ m, W 0 m σ H) ∧ ∀ i m σ H, W i m σ H → ((Itt K a).stop i H ∧ D.nx σ H) ∨ ((Itt K a).go i H ∧ ∃ N : L2.St → Hp → Prop, (∀ σ' H', N σ' H' → ∃ m', m' < m ∧ W (i + 1) m' σ' H') ∧ ∀ x H', (Itt K a).yld i H x H' → g x σ H' fun σ2 H2 => tb { D with nx := N, ct := N, bk := D.nx } σ2 H2) := by
  refine ⟨fun i m σ H => m = xs.length - i ∧ i ≤ xs.length ∧ Iv i σ H, ⟨_, rfl, Nat.zero_le _, h0⟩, fun i m σ H ⟨hm, hi, iv⟩ => ?_⟩
  have sq := keep i σ H iv
  rcases Nat.lt_or_ge i xs.length with h | h
  · refine .inr ⟨⟨xs, xs[i], sq, List.getElem?_eq_getElem h⟩, Iv (i + 1), fun σ' H' q => ⟨xs.length - (i + 1), by omega, rfl, h, q⟩, fun x H' ⟨e, hy⟩ => ?_⟩
    rw [e]
    exact step i x σ H (hy xs sq) iv
  · have : i = xs.length := by omega
    subst this
    exact .inl ⟨⟨xs, sq, Nat.le_refl _⟩, fin σ H iv⟩
theorem for_lst {K : PySem.W.Frag} {a : Addr} {xs : List V} {g : TG} {tb : TS} {D : Ends} {σ : L2.St} {H : Hp} (Iv : Nat → L2.St → Hp → Prop) (h0 : Iv 0 σ H) (keep : ∀ i σ H, Iv i σ H → SqL K H a xs)
    (step : ∀ i x σ H, xs[i]? = some x → Iv i σ H → g x σ H fun σ2 H2 => tb { D with nx := Iv (i + 1), ct := Iv (i + 1), bk := D.nx } σ2 H2) (fin : ∀ σ H, Iv xs.length σ H → D.nx σ H) :
    ∃ W : Nat → Nat → L2.St → Hp → Prop, (∃ m, W 0 m σ H) ∧ ∀ i m σ H, W i m σ H → ((Itl K a).stop i H ∧ D.nx σ H) ∨ ((Itl K a).go i H ∧ ∃ N : L2.St → Hp → Prop, (∀ σ' H', N σ' H' → ∃ m', m' < m ∧ W (i + 1) m' σ' H') ∧ ∀ x H', (Itl K a).yld i H x H' → g x σ H' fun σ2 H2 => tb { D with nx := N, ct := N, bk := D.nx } σ2 H2) := by
  refine ⟨fun i m σ H => m = xs.length - i ∧ i ≤ xs.length ∧ Iv i σ H, ⟨_, rfl, Nat.zero_le _, h0⟩, fun i m σ H ⟨hm, hi, iv⟩ => ?_⟩
  have sq := keep i σ H iv
  rcases Nat.lt_or_ge i xs.length with h | h
  · refine .inr ⟨⟨xs, xs[i], sq, List.getElem?_eq_getElem h⟩, Iv (i + 1), fun σ' H' q => ⟨xs.length - (i + 1), by omega, rfl, h, q⟩, fun x H' ⟨e, hy⟩ => ?_⟩
    rw [e]
    exact step i x σ H (hy xs sq) iv
  · have : i = xs.length := by omega
    subst this
    exact .inl ⟨⟨xs, sq, Nat.le_refl _⟩, fin σ H iv⟩
end Cr

namespace Cr
open PySem PySem.Spec PyProof.Rows L2
variable [Tbl]
/-! ### yield from a list -/
/-- one turn of a list's iterator: the next item, or the end -/
theorem next_lst {P : Program} {w : World} {A : Around} {it t : Addr} {i : Nat} {items : Array Value} {Q : Option Value → Shared → Prop} {E : Value → Shared → Prop} {s : Shared} (hh : A.handled = none) (at_ : s.heap.IsListIter it t i) (li : s.heap.IsList t items)
    (more : ∀ x h', items[i]? = some x → h'.IsListIter it t (i + 1) → Heap.SameBut it s.heap h' → Q (some x) { s with heap := h' }) (over : ∀ e h', items[i]? = none → StopX e h' → Heap.ExtBut it s.heap h' → E e { s with heap := h' }) :
    wpAny (model P w) A (callSpecial? (.ref it) "__next__") Q E s := by
  obtain ⟨oi, ei, ci, fi⟩ := id at_
  obtain ⟨ol, el, _, nl, sl⟩ := li
  refine wpAny_callSpecial?_slot (name := Str.ofString "__next__") at_.typeIs slot_listiter_next (wpAny_call_entry slot_listiter_next at_.typeIs entry_listiter_next ?_ (args_listiter_next _))
  refine wpAny_bind (m := field (.ref it) 0) (wpAny_field ei fi (x := .ref t) rfl ?_)
  show wpAny _ _ (ite ((Value.ref t == Value.none) = true) _ _) _ _ s
  rw [if_neg (fun z : (Value.ref t == Value.none) = true => Bool.false_ne_true z)]
  refine wpAny_bind (m := field (.ref it) 1) (wpAny_field ei fi (x := .int i 0) rfl (wpAny_bind (m := seqItems? (.ref t)) (wpAny_seqItems el sl ?_)))
  cases hx : items[i]? with
  | some x =>
    simp only [Int.toNat_natCast, hx] at *
    refine wpAny_bind (wpAny_setField ei fi (by simp) (wpAny_pure ⟨x, rfl, more x _ rfl ⟨_, Heap.get?_update_self _ ei (Obj.isFreed_of_fields (Obj.data_mapFields fi _)), (Obj.cls_mapFields ..).trans ci, ?_⟩ (Heap.SameBut.update ..)⟩))
    rw [Obj.data_mapFields fi]
    simp [rawInt]
  | none =>
    simp only [Int.toNat_natCast, hx] at *
    refine wpAny_bind (wpAny_rule (wpAny_bind (wpAny_setField ei fi (by simp) (wpAny_bind (m := newExc (.type "StopIteration") []) ?_))))
    unfold newExc newTuple
    refine wpAny_bind (wpAny_newObj_type (wpAny_bind (m := firstArgMember _ _) (wpAny_of_eq (a := Value.none) (by first | rfl | (simp only [firstArgMember]; rfl)) (wpAny_newObj_type ?_ (by size_fits)))) (by size_fits))
    unfold raiseNew
    refine wpAny_bind (wpAny_handled ?_)
    rw [show A.in1.handled = none from hh]
    exact wpAny_bind (wpAny_pure (wpAny_throw (over _ _ trivial ⟨_, _, _, rfl, Heap.get?_push_size _ rfl, rfl, rfl, rfl⟩ (((Heap.SameBut.update ..).extBut.push _).push _))))
def tYfLst (te : TE) : TYf := fun σ H Q => te σ H fun x H1 => ∃ a xs, x = .ref a ∧ H1 a = some (.lst xs) ∧ Q xs H1
theorem close_lst : typeLookup (.type "list_iterator") "close" = pure none := by rw [typeLookup_type, builtinLookup_eq_fast]; kernel_rfl
/-- a list that is known is walked as it stands -/
theorem lst_turns {X : Cx} {H : Hp} {it a : Addr} {xs : List V} {its : List Value} (rv : Vals xs its) (ha : H a = some (.lst xs)) (ne : a ≠ it) : QIt X H it xs fun j h => h.IsListIter it a j ∧ h.IsList a its.toArray where
  ty := ⟨"list_iterator", fun _ _ q => q.1.elim fun o z => ⟨o, z.1, z.2.1⟩, close_lst, by decide⟩
  frame := fun j h h' q keep => by
    obtain ⟨⟨o, e, r⟩, u, eu, ru⟩ := q
    have known : H a ≠ none := by rw [ha]; intro z; cases z
    exact ⟨⟨o, keep it o (.inl rfl) e, r⟩, u, keep a u (.inr known) eu, ru⟩
  item := fun A j x s Q E hA hx q k => by
    refine next_lst hA q.1 q.2 (fun y h' ey q' sb => ?_) fun e h' en => ?_
    · obtain ⟨y', ey', ry⟩ := rv.get hx
      have : y = y' := by
        rw [List.getElem?_toArray, ey'] at ey
        exact (Option.some.inj ey).symm
      rw [this]
      exact k y' h' s.toks ry ⟨q', q.2.extBut sb.extBut ne⟩ sb.extBut
    · obtain ⟨y', ey', _⟩ := rv.get hx
      rw [List.getElem?_toArray, ey'] at en
      cases en
  done := fun A s Q E hA q k => by
    have l := rv.length
    refine next_lst hA q.1 q.2 (fun y h' ey => ?_) fun e h' _ st ext => k e h' s.toks st ext
    have := (Array.getElem?_eq_some_iff.mp ey).1
    simp only [List.size_toArray] at this
    omega
theorem yf_lst {X : Cx} {e : Expr} {te : TE} (he : PE X e te) : YfE X e (tYfLst te) := by
  refine ⟨fun pins s σ H Q I h => thn (he.run pins s σ H _ I h) fun v s1 hv => ?_⟩
  obtain ⟨x, H1, I1, r1, a, xs, rfl, ha, hq⟩ := hv
  obtain rfl : v = Value.ref a := r1
  obtain ⟨its, rv, hl, _⟩ := I1.list (SqL.of ha)
  have li : s1.heap.IsList a its.toArray := hl.isList
  obtain ⟨oa, ea, ra⟩ := id li
  have young : ∀ b o, s1.heap.get? b = some o → b ≠ s1.heap.objs.size := fun b o e => Nat.ne_of_lt (Heap.lt_size e)
  refine ⟨"list", li.typeIs, by decide, wpAny_pyIter_list li ⟨s1.heap.objs.size, H1, xs, _, rfl, I1.kept (t' := s1.toks) fun b o e => Heap.get?_push_of_some _ e, .inr I1.sz, Nat.ne_of_gt I1.lt, fun y c hy => ?_, I1.hok.fresh (Nat.le_refl _), fun p hp => young p.1 _ (I1.pin p hp).1, ?_, lst_turns rv ha (young a _ ea), hq⟩⟩
  · exact (I1.cell y c hy).elim fun _ z => z.elim fun o w => young c o w.1
  · exact ⟨⟨_, Heap.get?_push_size _ rfl, rfl, rfl⟩, oa, Heap.get?_push_of_some _ ea, ra⟩
/-! ### list(g(..)) over data -/
/-- what a generator def promises: all that it hands out, data without lists -/
def spGD {α : Type} (dom : α → Prop) (pre : α → List SV) (out : α → List PyData) : SpG := fun vs H Q _ => ∃ (a : α) (S : Addr → Prop), dom a ∧ Srcs S H ∧ SvRs ⟨S, S, H⟩ vs (pre a) ∧ ∀ ys H', Ge ⟨S, S, H⟩ H' → RDs (fun _ => True) H' ys (out a) → Q ys H'
def HasGen (P : Program) (w : World) (K : PySem.W.Frag) (mg : Str → Option Value) (base : Heap) (n : Nat) (x : Str) (ps : List Str) (sp : SpG) : Prop :=
  ∃ f fd, mg x = some (.ref f) ∧ PySem.W.keepIn K (.ref f) = true ∧ Binds K fd ps [] ∧ GFn P w K mg base n f fd ps sp
theorem noStop0 {K : PySem.W.Frag} : NoStop K E0 := fun _ _ _ h => h.elim
theorem pe_listGen {X : Cx} {n : Nat} {x : Str} {ps : List Str} {sp : SpG} {p p1 pos pos' : Pos} {e : Expr} {es : List Expr} {t : TA} (h : HasGen X.prog X.w X.K X.mg X.base n x ps sp) (hr : Room (n + 3) X.A) (hg : Gl X x) (hgl : Gl X "list") (hml : X.mg "list" = none) (ha : PA X (e :: es) t)
    (hdb : (x == ("__debug__" : Str)) = false := by decide) (he : starEach (e :: es) X.env = (false, eval e X.env) :: starEach es X.env := by rfl) (hpl : (backTo pos' (starEach es X.env)).any (·.1) = false := by rfl)
    (he1 : starEach [.Call (.Name x p) (e :: es) [] pos'] X.env = (false, eval (.Call (.Name x p) (e :: es) [] pos') X.env) :: starEach [] X.env := by rfl) :
    PE X (.Call (.Name "list" p1) [.Call (.Name x p) (e :: es) [] pos'] [] pos) (tListG (tCallG sp [] E0 t)) := by
  obtain ⟨f, fd, hm, hk, hb, F⟩ := h
  exact pe_listG (pgen_call F (hr.mono (by omega)) hg hm hk hb .nil ha hdb he hpl) (fun _ _ _ _ _ _ _ h => by obtain ⟨_, _, _, _, _, _, _, _, _, _, _, _, z⟩ := h; exact z.elim) noStop0 hr hgl hml boot_list (by decide) (by decide) he1
def dListG {α : Type} (dom : α → Prop) (pre : α → List SV) (out : α → List PyData) (Ta : DEnv → (List R → Prop) → Prop) : DTE := fun env Qd => Ta env fun rs => ∃ a, dom a ∧ rMatchs rs (pre a) ∧ Qd (.new (out a))
instance {α : Type} {dom : α → Prop} {pre : α → List SV} {out : α → List PyData} {E : XK} {ta : TA} {Ta : DEnv → (List R → Prop) → Prop} [DA ta Ta] : DL (tListG (tCallG (spGD dom pre out) [] E ta)) (dListG dom pre out Ta) := ⟨fun z σ env Q Qd o e h q =>
  DA.run (t := ta) z σ env _ _ o e h fun vs H1 rs g1 r1 h1 => by
    obtain ⟨a, da, m, h2⟩ := h1
    rw [List.append_nil]
    refine ⟨a, z.S, da, ⟨g1.s, (g1.ok o).tb⟩, matchs_rr o r1 m, fun ys H' g' rd p hp => ?_⟩
    have g2 : Ge z H' := g1.trans ⟨fun b u n w t => g'.k b u n w t, g'.s, g'.t⟩
    exact q _ _ (.new (out a)) (new_ge o g2 hp) ⟨p, ys, rfl, g2.fresh hp, upd_same, RDs.mono (new_keepP o g2 hp) (RDs.anti (fun _ _ => trivial) rd)⟩ h2⟩
end Cr

set_option synthInstance.maxSize 4000
set_option synthInstance.maxHeartbeats 1000000
namespace Cr
open PySem PySem.Spec PyProof.Rows L2
variable [Tbl]
/-! ### cases_that_matter -/
/-- the cases that matter, as the program orders them -/
def casesM (rs : List Rule) : List Case := (matTo rs rs.length).mergeSort (PySem.W.dataLe false sizeD)
theorem alike_size (a b : Case) : PySem.W.alike (sizeD a) (sizeD b) = true := by
  have h : PySem.W.alike (caseD a) (caseD b) = true := alike_case a b
  unfold sizeD
  simp [PySem.W.alike, PySem.W.alikeAll, h]
theorem depth_size (c : Case) : (sizeD c).depth ≤ 60 := by
  have h : (caseD c).depth ≤ 10 := by
    have := dep_all (f := condD) (n := 3) (fun x => by simp [condD, PyData.depth, PyData.depthAll]) c
    unfold caseD
    simp only [PyData.depth]
    omega
  unfold sizeD
  simp only [PyData.depth, PyData.depthAll]
  omega
theorem mat_to_succ {rs : List Rule} {i : Nat} {r : Rule} (h : rs[i]? = some r) : matTo rs (i + 1) = matStep (matTo rs i) r := by
  unfold matTo
  rw [take_snoc h, List.foldl_append]
  rfl
theorem mat_sub {rs : List Rule} (ok : ∀ r ∈ rs, CaseOk r.1) (i : Nat) : ∀ c ∈ matTo rs i, CaseOk c := fun c hc => by
  have e : matTo rs i = matTo (rs.take i) (rs.take i).length := by
    unfold matTo
    rw [List.take_length]
  rw [e] at hc
  exact ((matter_mem (fun r hr => ok r (List.mem_of_mem_take hr)) c).mp hc).1
theorem mat_nd (rs : List Rule) (i : Nat) : (matTo rs i).Nodup := matter_nd rs i
section
variable {P : Program} {w : World} {K : PySem.W.Frag} {mg : Str → Option Value} {base : Heap} {f : Addr} {fd : FuncData}
/-- where the loops stand: the dict at d has the cases cs -/
structure Ctm (P : Program) (w : World) (S : Addr → Prop) (H0 : Hp) (v0 : V) (d : Addr) (cs : List Case) (σ : L2.St) (H : Hp) : Prop where
  len : σ.length = 5
  s0 : σ[0]? = some (some v0)
  s1 : σ[1]? = some (some (.ref d))
  keep : ∀ b o, ¬ S b → H0 b = some o → (t : Fx o := by intro _ z; cases z) → H b = some o
  src : ∀ b, S b → Src H b
  tb : TabsH H
  tt : TbS H0 H
  new : H0 d = none
  low : (d == sysModules) = false
  dic : ∃ as, DicAt P w S H d as ∧ as.map (·.2) = cs
abbrev zS (S : Addr → Prop) (H : Hp) : Zs := ⟨S, S, H⟩
theorem zS_ok {S : Addr → Prop} {H : Hp} (h : ∀ b, S b → Src H b) (t : TabsH H) : (zS S H).Ok := ⟨fun _ s => s, h, fun b s => let ⟨_, _, _, e⟩ := h b s; ⟨_, e⟩, t⟩
theorem dic_noS {P : Program} {w : World} {S : Addr → Prop} {H : Hp} {d : Addr} {xs : List (NestedKey × Addr × Value)} (h : ∀ b, S b → Src H b) (e : H d = some (DicO P w d xs)) : ¬ S d := fun s => by
  obtain ⟨_, _, _, z⟩ := h d s
  rw [e] at z
  cases z
theorem DicAt.ge {P : Program} {w : World} {S : Addr → Prop} {H H' : Hp} {d : Addr} {as : List (Addr × Case)} (o : ∀ b, S b → Src H b) (t : TabsH H) (g : Ge (zS S H) H') (h : DicAt P w S H d as) : DicAt P w S H' d as :=
  ⟨g.k d _ (dic_noS o h.1) h.1, fun p hp => RD.mono (g.keepN (zS_ok o t)) (h.2 p hp)⟩
theorem Ctm.ge {S : Addr → Prop} {H0 H H' : Hp} {v0 : V} {d : Addr} {cs : List Case} {σ : L2.St} (h : Ctm P w S H0 v0 d cs σ H) (g : Ge (zS S H) H') : Ctm P w S H0 v0 d cs σ H' :=
  ⟨h.len, h.s0, h.s1, fun b o n e t => g.k b o n (h.keep b o n e t) t, g.s, g.t.t h.tb, h.tt.trans g.t, h.new, h.low, let ⟨as, da, e⟩ := h.dic; ⟨as, da.ge h.src h.tb g, e⟩⟩
theorem Ctm.set {S : Addr → Prop} {H0 H : Hp} {v0 v : V} {d : Addr} {cs : List Case} {σ : L2.St} {i : Nat} (h : Ctm P w S H0 v0 d cs σ H) (hi : 1 < i) : Ctm P w S H0 v0 d cs (σ.set i (some v)) H :=
  ⟨by rw [List.length_set]; exact h.len, by rw [List.getElem?_set_ne (by omega)]; exact h.s0, by rw [List.getElem?_set_ne (by omega)]; exact h.s1, fun b o n e t => h.keep b o n e t, h.src, h.tb, h.tt, h.new, h.low, h.dic⟩
/-- two names hold cases -/
theorem two_env {S : Addr → Prop} {H : Hp} {σ : L2.St} {v u : V} {a b : Case} (hl : σ.length = 5) (h2 : σ[2]? = some (some v)) (h4 : σ[4]? = some (some u)) (r2 : RD S H v (caseD a)) (r4 : RD S H u (caseD b)) : EnvS (zS S H) σ [none, none, some (.dat (caseD a)), none, some (.dat (caseD b))] := by
  refine ⟨hl.symm, fun i sv e => ?_, fun i j ds es e1 _ _ => ?_⟩
  · rcases i with _ | _ | _ | _ | _ | i
    · cases e
    · cases e
    · cases e; exact ⟨v, h2, r2⟩
    · cases e
    · cases e; exact ⟨u, h4, r4⟩
    · cases e
  · rcases i with _ | _ | _ | _ | _ | i <;> cases e1
theorem put_heap {S : Addr → Prop} {H0 H : Hp} {v0 : V} {d a : Addr} {as : List (Addr × Case)} {c : Case} {σ : L2.St} (h : Ctm P w S H0 v0 d (as.map (·.2)) σ H) (da : DicAt P w S H d as) (rd : RD S H (.ref a) (caseD c)) : Ctm P w S H0 v0 d (putK (as.map (·.2)) c) σ (upd H d (DicO P w d (dicX (putA as a c)))) := by
  have nS := dic_noS h.src da.1
  have nt : ∀ (o : Obj) xs, H d ≠ some (.frz o (.tup xs)) := fun o xs z => by rw [da.1] at z; cases z
  have nl : ∀ xs, H d ≠ some (.lst xs) := fun xs z => by rw [da.1] at z; cases z
  have kp : ∀ b, b ≠ d → ∀ u, H b = some u → upd H d (DicO P w d (dicX (putA as a c))) b = some u := fun b n u e => by rw [upd_ne n]; exact e
  have tt : TbS H (upd H d (DicO P w d (dicX (putA as a c)))) := .keep fun b o e q => kp b (fun z => by
    subst z
    rw [da.1] at e
    cases e
    rcases q with ⟨_, q⟩ | ⟨_, q⟩
    · unfold DicO at q
      cases q
    · exact dicO_code q) o e
  refine ⟨h.len, h.s0, h.s1, fun b o n e t => ?_, fun b s => ?_, tt.t h.tb, h.tt.trans tt, h.new, h.low, putA as a c, ⟨upd_same, fun p hp => ?_⟩, ?_⟩
  · exact kp b (fun z => by rw [z, h.new] at e; cases e) o (h.keep b o n e t)
  · obtain ⟨x, y, z, e⟩ := h.src b s
    exact ⟨x, y, z, kp b (fun q => nS (q ▸ s)) _ e⟩
  · refine RD.but kp nt nl ?_
    unfold putA at hp
    split at hp
    · exact da.2 p hp
    · rcases List.mem_append.mp hp with q | q
      · exact da.2 p q
      · rw [List.mem_singleton.mp q]; exact rd
  · unfold putA putK
    split
    · rfl
    · rw [List.map_append]; rfl
theorem puts_len {r : Case} : ∀ (l acc : List Case), (l.foldl (fun a c => putK a (togC c r)) acc).length ≤ acc.length + l.length
  | [], acc => Nat.le_refl _
  | c :: l, acc => by
    rw [List.foldl_cons, List.length_cons]
    have h := puts_len (r := r) l (putK acc (togC c r))
    have h2 : (putK acc (togC c r)).length ≤ acc.length + 1 := by
      unfold putK
      split
      · omega
      · rw [List.length_append]; exact Nat.le_refl _
    omega
theorem rds_refs {N : Addr → Prop} {H : Hp} : ∀ {as : List (Addr × Case)}, (∀ p ∈ as, RD N H (.ref p.1) (caseD p.2)) → RDs N H (as.map fun x => V.ref x.1) ((as.map (·.2)).map caseD)
  | [], _ => .nil
  | p :: as, h => .cons (h p List.mem_cons_self) (rds_refs fun q hq => h q (List.mem_cons_of_mem _ hq))
/-- the dict while a rule is taken in -/
def partM (acc : List Case) (r : Rule) (j : Nat) : List Case := ((acc.take j).filter fun c => meetB c r.1).foldl (fun a c => putK a (togC c r.1)) acc
theorem part_succ {acc : List Case} {r : Rule} {j : Nat} {c : Case} (h : acc[j]? = some c) : partM acc r (j + 1) = if meetB c r.1 = true then putK (partM acc r j) (togC c r.1) else partM acc r j := by
  unfold partM
  rw [take_snoc h, List.filter_append, List.foldl_append, List.filter_cons]
  split <;> rfl
theorem part_all (acc : List Case) (r : Rule) : partM acc r acc.length = matStep acc r := by
  unfold partM matStep
  rw [List.take_length]
theorem part_nd {acc : List Case} {r : Rule} (h : acc.Nodup) (j : Nat) : (partM acc r j).Nodup := puts_nd h
theorem part_len (acc : List Case) (r : Rule) (j : Nat) : (partM acc r j).length ≤ 2 * acc.length := by
  have h := puts_len (r := r.1) ((acc.take j).filter fun c => meetB c r.1) acc
  have h1 := List.length_filter_le (fun c => meetB c r.1) (acc.take j)
  have h2 : (acc.take j).length ≤ acc.length := by rw [List.length_take]; omega
  unfold partM
  omega
abbrev qCtm : Sp := spD (fun rs : List Rule => RulesOk 12 rs) (fun rs => [.dat (.tuple (rs.map ruleD))]) (fun rs r => r = .new ((casesM rs).map caseD))
abbrev n_ctm : List Str := ["rules", "found", "conditions", "result", "case"]
theorem sc_ctm : FnScope n_ctm ["rules"] (defScope s_cases_that_matter) := ⟨rfl, rfl, rfl, by decide +kernel, rfl, by decide +kernel, by decide +kernel⟩
theorem mat_len {rs : List Rule} (ok : RulesOk 12 rs) (i : Nat) : (matTo rs i).length ≤ 161051 := by
  have okc : ∀ r ∈ rs.take i, CaseOk r.1 := fun r hr => (ok.each r (List.mem_of_mem_take hr)).case
  have e : matTo rs i = matTo (rs.take i) (rs.take i).length := by
    unfold matTo
    rw [List.take_length]
  have h1 : (matTo (rs.take i) (rs.take i).length).length = ((everyTo (namedTo (rs.take i) (rs.take i).length) 5).filter (goodB (rs.take i))).length := by
    have := congrArg List.length (matter_same okc)
    rwa [List.length_mergeSort, List.length_mergeSort] at this
  have h2 := every_len (named_ok okc (rs.take i).length).1 (fun c hc => (named_all okc c hc).2.2) 5
  have h3 := List.length_filter_le (goodB (rs.take i)) (everyTo (namedTo (rs.take i) (rs.take i).length) 5)
  rw [e, h1]
  omega
theorem ok_ctm {g : Addr} {gd : FuncData} (F : Fun K "cases_that_matter" "cases_that_matter" s_cases_that_matter f fd) (B : Blt mg) (hMeet : Has P w K mg base 1 "meet" ["one", "other"] qMeet) (hTog : Has P w K mg base 1 "together" ["one", "other"] qTog)
    (hSz : FnOk P w K mg base CX0 1 g gd ["conditions"] (spD (fun c : Case => CaseOk c) (fun c => [.dat (caseD c)]) (fun c r => r = .dat (sizeD c)))) (mSz : mg "by_size" = some (.ref g)) (bSz : Binds K gd ["conditions"] []) : FnOk P w K mg base CX0 4 f fd ["rules"] qCtm := by
  refine F.ok sc_ctm (fun vs H Q E h => ?_) (fun cdv A outer s H0 vs Q E hr h => ?_)
  · obtain ⟨a, S, _, _, hv, _⟩ := h
    rw [hv.length]
    rfl
  have hr2 : Room 3 (A.deeper (envOfC "cases_that_matter" (defScope s_cases_that_matter) s.heap.objs.size f cdv)) := hr
  refine ⟨_, (pss_cons (ps_set (i := 1) sc_ctm.nd rfl (.inl rfl) (pe_disp1 (pe_tupF pa_nil) pe_bl (by have := hr2.un; show (A.deeper (envOfC "cases_that_matter" (defScope s_cases_that_matter) s.heap.objs.size f cdv)).units + 8 < cLine; omega)))
      (pss_cons (ps_for PassesOwn.never rfl (pi_tup (pv 0)) (pg_tup (n := 2) rfl (pgs_cons (pg_name (i := 2) sc_ctm.nd rfl (.inl rfl)) (pgs_cons (pg_name (i := 3) sc_ctm.nd rfl (.inl rfl)) pgs_nil)))
        (pss_one (ps_for PassesOwn.never rfl (pi_list (pe_callTy (show CallR _ (.type "list") (rListDic P w) from cr_listDic rfl) (by rfl) B.list (by decide +kernel) (pa_cons (pv 1) pa_nil))) (pg_name (i := 4) sc_ctm.nd rfl (.inl rfl))
          (pss_one (ps_if (pt_val (pe_callH hMeet (hr2.mono (by decide)) rfl (pa_cons (pv 4) (pa_cons (pv 2) pa_nil))))
            (pss_one (show PS _ _ (sDicPut P w _ _ _) from ps_dicput (by have := hr2.un; show (A.deeper (envOfC "cases_that_matter" (defScope s_cases_that_matter) s.heap.objs.size f cdv)).units + 1 + 8 < cLine; omega) (pv 1) (pe_callH hTog (hr2.mono (by decide)) rfl (pa_cons (pv 4) (pa_cons (pv 2) pa_nil))) pe_bl (by rfl))) pss_nil)))))
      (pss_one (ps_ret (pe_sortBy (y := "by_size") (dom := fun c : Case => CaseOk c) (enc := caseD) (k := sizeD) (fun c => case_noL c) (fun c => by simp [sizeD, noL, noLs, case_noL]) hSz bSz (hr2.mono (by decide)) hr2.u66 (by rfl) B.sorted
        (pa_cons (pe_callTy (show CallR _ (.type "list") (rListDic P w) from cr_listDic rfl) (by rfl) B.list (by decide +kernel) (pa_cons (pv 1) pa_nil)) pa_nil) (pk_cons (pe_glob (v := .ref g) rfl mSz rfl) pk_nil)))))), ?_⟩
  obtain ⟨rs, S, ok, hS, hv, q⟩ := h
  obtain ⟨v0, rfl, h1⟩ := hv.one
  have okc : ∀ r ∈ rs, CaseOk r.1 := fun r hr => (ok.each r hr).case
  have h1 : RD S H0 v0 (.tuple (rs.map ruleD)) := h1
  obtain ⟨a0, xs, rfl, hp0, hx0⟩ : ∃ a xs, v0 = .ref a ∧ PT H0 a xs ∧ RDs S H0 xs (rs.map ruleD) := by
    cases h1 with
    | tup hp hx => exact ⟨_, _, rfl, hp, hx⟩
  have pt : ∀ {H : Hp} {d : Addr} {cs : List Case} {σ : L2.St}, Ctm P w S H0 (.ref a0) d cs σ H → PT H a0 xs ∧ RDs S H xs (rs.map ruleD) := fun {H d cs σ} c => by
    have kn : KeepN S H0 S H := ⟨fun b o n e t => c.keep b o n e t, fun _ n => .inl n, (zS_ok hS.s hS.tb).lst⟩
    exact ⟨hp0.onX fun u e t => c.keep _ u (fun s => by obtain ⟨_, _, _, z⟩ := hS.s _ s; exact hp0.no z) e t, RDs.mono kn hx0⟩
  refine fun d hd low => ⟨Nat.zero_le _, fun p ob hp hdo => ?_⟩
  have npd : d ≠ p := fun z => by rw [← z, upd_same] at hp; cases hp
  have hp0' : H0 p = none := by rw [upd_ne (Ne.symm npd)] at hp; exact hp
  refine ⟨by rw [upd_ne npd, upd_same], S, p, [], rfl, .tup (PT.new hdo) .nil, ?_⟩
  have c0 : Ctm P w S H0 (.ref a0) d (matTo rs 0) ((L2.start n_ctm [V.ref a0]).set 1 (some (.ref d))) (upd (upd (upd H0 d (DicO P w d [])) p (ptO ob [])) d (DicO P w d (dicX [(p, [])]))) := by
    have kp : ∀ b o, H0 b = some o → (upd (upd (upd H0 d (DicO P w d [])) p (ptO ob [])) d (DicO P w d (dicX [(p, [])]))) b = some o := fun b o e => by
      have n1 : b ≠ d := ne_of_none e hd
      have n2 : b ≠ p := ne_of_none e hp0'
      rw [upd_ne n1, upd_ne n2, upd_ne n1]
      exact e
    have tt : TbS H0 (upd (upd (upd H0 d (DicO P w d [])) p (ptO ob [])) d (DicO P w d (dicX [(p, [])]))) := .same kp
    refine ⟨rfl, rfl, rfl, fun b o _ e _ => kp b o e, fun b s => ?_, tt.t hS.tb, tt, hd, low, [(p, [])], ⟨upd_same, fun x hx => ?_⟩, rfl⟩
    · obtain ⟨x, y, z, e⟩ := hS.s b s
      exact ⟨x, y, z, kp b _ e⟩
    · rw [List.mem_singleton.mp hx]
      refine .tup ⟨ob, ?_, hdo⟩ .nil
      rw [upd_ne (Ne.symm npd), upd_same]
  refine ⟨.ref a0, c0.s0, a0, rfl, ⟨xs, (pt c0).1.sq⟩, for_tup (fun i σ H => Ctm P w S H0 (.ref a0) d (matTo rs i) σ H) c0 (fun i σ H c => (pt c).1.sq) (fun i x σ H hx c => ?_) fun σ H c => ?_⟩
  · -- a rule
    obtain ⟨dd, hdd, rx⟩ := (pt c).2.getV hx
    obtain ⟨r, hri, rfl⟩ := map_get hdd
    have okr : CaseOk r.1 := okc r (List.mem_of_getElem? hri)
    obtain ⟨ar, cv, iv, rfl, hpr, rcv⟩ : ∃ a cv iv, x = .ref a ∧ PT H a [cv, iv] ∧ RD S H cv (caseD r.1) := by
      have rx : RD S H x (.tuple [caseD r.1, .int r.2]) := rx
      cases rx with
      | tup h1 h2 =>
        cases h2 with
        | cons q1 q2 =>
          cases q2 with
          | cons q3 q4 =>
            cases q4
            exact ⟨_, _, _, rfl, h1, q1⟩
    refine ⟨ar, [cv, iv], rfl, hpr.sq, rfl, cv, [iv], rfl, iv, [], rfl, rfl, ?_⟩
    have c1 := (c.set (i := 2) (v := cv) (by omega)).set (i := 3) (v := iv) (by omega)
    obtain ⟨as, da, eas⟩ := c1.dic
    have lm := mat_len ok i
    have las : as.length ≤ 161051 := by rw [← eas, List.length_map] at lm; exact lm
    refine ⟨.ref d, c1.s1, d, as, rfl, da.1, low, by omega, fun l hl => ⟨l, rfl, ⟨_, SqL.of upd_same⟩, ?_⟩⟩
    have gl : Ge (zS S H) (upd H l (.lst (as.map fun x => V.ref x.1))) := new_ge (zS_ok c.src c.tb) (Ge.refl (zS_ok c.src c.tb)) hl
    have nSl : ¬ S l := fun s => by obtain ⟨_, _, _, z⟩ := c.src l s; rw [hl] at z; cases z
    have okm := mat_sub okc i
    refine for_lst (xs := as.map fun x => V.ref x.1) (fun j σ H => Ctm P w S H0 (.ref a0) d (partM (matTo rs i) r j) σ H ∧ H l = some (.lst (as.map fun x => V.ref x.1)) ∧ (∀ p ∈ as, RD S H (.ref p.1) (caseD p.2)) ∧ σ[2]? = some (some cv) ∧ RD S H cv (caseD r.1)) ⟨c1.ge gl, upd_same, (da.ge c.src c.tb gl).2, ?_, RD.mono (gl.keepN (zS_ok c.src c.tb)) rcv⟩ (fun j σ H h => SqL.of h.2.1) (fun j x σ H hx h => ?_) fun σ H h => ?_
    · rw [List.getElem?_set_ne (by omega), List.getElem?_set_self (by rw [c.len]; omega)]
    · -- a case
      obtain ⟨c2, hl2, has, s2, rcv2⟩ := h
      rw [List.getElem?_map] at hx
      cases hj : as[j]? with
      | none => rw [hj] at hx; cases hx
      | some pa =>
        rw [hj] at hx
        cases hx
        have hpa := has pa (List.mem_of_getElem? hj)
        have hmj : (matTo rs i)[j]? = some pa.2 := by rw [← eas, List.getElem?_map, hj]; rfl
        have okp : CaseOk pa.2 := okm _ (List.mem_of_getElem? hmj)
        have c3 := c2.set (i := 4) (v := V.ref pa.1) (by omega)
        have e2 : (σ.set 4 (some (V.ref pa.1)))[2]? = some (some cv) := by rw [List.getElem?_set_ne (by omega)]; exact s2
        have e4 : (σ.set 4 (some (V.ref pa.1)))[4]? = some (some (V.ref pa.1)) := List.getElem?_set_self (by rw [c2.len]; omega)
        have env := two_env c3.len e2 e4 rcv2 hpa
        have keepL : ∀ {H' : Hp}, Ge (zS S H) H' → H' l = some (.lst (as.map fun x => V.ref x.1)) ∧ (∀ p ∈ as, RD S H' (.ref p.1) (caseD p.2)) ∧ RD S H' cv (caseD r.1) := fun {H'} g =>
          ⟨g.k l _ nSl hl2, fun p hp => RD.mono (g.keepN (zS_ok c2.src c2.tb)) (has p hp), RD.mono (g.keepN (zS_ok c2.src c2.tb)) rcv2⟩
        refine DT.run (t := tTest (tCall qMeet [] E0 (tCons (tVar 4) (tCons (tVar 2) tNil)))) (zS S H) _ _ _ (fun b => b = meetB pa.2 r.1) (zS_ok c2.src c2.tb) env ⟨(pa.2, r.1), ⟨okp, okr⟩, ⟨rfl, rfl, trivial⟩, fun x hx => by subst hx; exact rfl⟩ fun b H2 g e => ?_
        subst e
        obtain ⟨k1, k2, k3⟩ := keepL g
        have c4 := c3.ge g
        show if meetB pa.2 r.1 = true then _ else _
        by_cases hm : meetB pa.2 r.1 = true
        · rw [if_pos hm]
          refine ⟨.ref d, c4.s1, ?_⟩
          refine DL.run (t := tCall qTog [] E0 (tCons (tVar 4) (tCons (tVar 2) tNil))) (zS S H2) _ _ _ (fun x => x = .dat (caseD (togC pa.2 r.1))) (zS_ok c4.src c4.tb) (two_env c4.len e2 e4 k3 (k2 pa (List.mem_of_getElem? hj))) ⟨(pa.2, r.1), ⟨okp, okr⟩, ⟨rfl, rfl, trivial⟩, fun x hx => hx⟩ fun y H3 ry g3 rr e => ?_
          subst e
          have rr : RD S H3 y (caseD (togC pa.2 r.1)) := rr
          obtain ⟨ay, rfl⟩ : ∃ a, y = .ref a := by
            unfold caseD at rr
            cases rr with
            | tup h1 h2 => exact ⟨_, rfl⟩
          have c5 := c4.ge g3
          obtain ⟨as', da', eas'⟩ := c5.dic
          have lp := part_len (matTo rs i) r j
          have hl' : as'.length ≤ 1000000 := by
            have : (as'.map (·.2)).length = (partM (matTo rs i) r j).length := by rw [eas']
            rw [List.length_map] at this
            omega
          refine ⟨S, d, ay, as', togC pa.2 r.1, rfl, rfl, rfl, da', by rw [eas']; exact part_nd (mat_nd rs i) j, hl', rr, ?_⟩
          rw [← eas'] at c5
          have c6 := put_heap c5 da' rr
          have kp : ∀ b, b ≠ d → ∀ u, H3 b = some u → upd H3 d (DicO P w d (dicX (putA as' ay (togC pa.2 r.1)))) b = some u := fun b n u e => by rw [upd_ne n]; exact e
          have nt : ∀ (o : Obj) xs, H3 d ≠ some (.frz o (.tup xs)) := fun o xs z => by rw [da'.1] at z; cases z
          have nl : ∀ xs, H3 d ≠ some (.lst xs) := fun xs z => by rw [da'.1] at z; cases z
          have kn := g3.keepN (zS_ok c4.src c4.tb)
          have hl3 : H3 l = some (.lst (as.map fun x => V.ref x.1)) := g3.k l _ nSl k1
          refine ⟨?_, kp l (fun z => nl _ (by rw [← z]; exact hl3)) _ hl3, fun p hp => RD.but kp nt nl (RD.mono kn (k2 p hp)), e2, RD.but kp nt nl (RD.mono kn k3)⟩
          rw [part_succ hmj, if_pos hm, ← eas']
          exact c6
        · rw [if_neg hm]
          refine ⟨?_, k1, k2, e2, k3⟩
          rw [part_succ hmj, if_neg hm]
          exact c4
    · -- all cases of this rule
      obtain ⟨c2, _⟩ := h
      have e : (as.map fun x => V.ref x.1).length = (matTo rs i).length := by rw [← eas, List.length_map, List.length_map]
      rw [e, part_all, ← mat_to_succ hri] at c2
      exact c2
  · -- the end
    have el : xs.length = rs.length := by rw [hx0.length, List.length_map]
    rw [el] at c
    obtain ⟨as, da, eas⟩ := c.dic
    have lm := mat_len ok rs.length
    have las : as.length ≤ 161051 := by rw [← eas, List.length_map] at lm; exact lm
    refine ⟨.ref d, c.s1, d, as, rfl, da.1, low, by omega, fun l hl => ?_⟩
    have gl : Ge (zS S H) (upd H l (.lst (as.map fun x => V.ref x.1))) := new_ge (zS_ok c.src c.tb) (Ge.refl (zS_ok c.src c.tb)) hl
    have c1 := c.ge gl
    have okm := mat_sub okc rs.length
    refine ⟨S, l, g, as.map (fun x => V.ref x.1), as.map (·.2), rfl, rfl, rfl, .inl (SqL.of upd_same), rds_refs (da.ge c.src c.tb gl).2, c1.tb, (zS_ok c1.src c1.tb).lst, fun b hb => okm b (by rw [← eas]; exact hb), PySem.W.AllAlike.of alike_size, PySem.W.Sortable.tuples fun c => ⟨_, _, rfl⟩, fun b _ => depth_size b, fun ys p2 H' hp2 ex hl2 rd2 => ?_⟩
    have g0 : Ge (zS S H0) (upd H l (.lst (as.map fun x => V.ref x.1))) := ⟨fun b o n e t => c1.keep b o n e t, c1.src, c1.tt⟩
    have gx : Ge (zS S (upd H l (.lst (as.map fun x => V.ref x.1)))) H' := ⟨fun b o _ e t => ex.k b o e t, fun b s => let ⟨x, y, z, e⟩ := c1.src b s; ⟨x, y, z, ex.k _ _ e⟩, ex.t⟩
    refine q _ H' (.new ((casesM rs).map caseD)) (g0.trans gx) ⟨p2, ys, rfl, g0.fresh hp2, hl2, ?_⟩ rfl
    rw [eas] at rd2
    exact RDs.free (noLs_map case_noL _) (RDs.mono ⟨fun b o _ e t => ex.k b o e t, fun _ n => .inl n, (zS_ok c1.src c1.tb).lst⟩ rd2)
end
end Cr

set_option synthInstance.maxSize 4000
set_option synthInstance.maxHeartbeats 1000000
namespace Cr
open PySem PySem.Spec PyProof.Rows L2
variable [Tbl]
section
variable {P : Program} {w : World} {K : PySem.W.Frag} {mg : Str → Option Value} {base : Heap} {f : Addr} {fd : FuncData}
abbrev qNeedR (C : Addr) : Sp := spD (fun _ : List Rule => True) (fun rs => [.ins C rs]) (fun _ r => r = .dat .none)
abbrev n_needR : List Str := ["thing"]
theorem sc_needR : FnScope n_needR ["thing"] (defScope s_need_rules) := ⟨rfl, rfl, rfl, by decide +kernel, rfl, by decide +kernel, by decide +kernel⟩
theorem ok_needR {C : Addr} (F : Fun K "need_rules" "need_rules" s_need_rules f fd) (B : Blt mg) (hC : mg "Rules" = some (.ref C)) (T : InsT K C) : FnOk P w K mg base CX0 1 f fd ["thing"] (qNeedR C) := by
  refine fnD F sc_needR (fun _ => rfl) fun cdv A outer s H E hr => ⟨_, _, (pss_one (ps_if (pt_not (pt_val (pe_callB (show CallR _ (.builtin "isinstance") (rIsi K) from call_isi) (by rfl) B.isinstance boot_isinstance' (pa_cons (pv 0) (pa_cons (pe_glob (v := .ref C) rfl hC rfl) pa_nil))))) (pss_one ps_never) pss_nil)), inferInstance, fun rs _ => ?_⟩
  exact ⟨T, true, if_pos (beq_self_eq_true _), no_if rfl rfl⟩
abbrev qSize : Sp := spD (fun c : Case => CaseOk c) (fun c => [.dat (caseD c)]) (fun c r => r = .dat (sizeD c))
abbrev n_size : List Str := ["conditions"]
theorem sc_size : FnScope n_size ["conditions"] (defScope s_by_size) := ⟨rfl, rfl, rfl, by decide +kernel, rfl, by decide +kernel, by decide +kernel⟩
theorem ok_size (F : Fun K "by_size" "by_size" s_by_size f fd) (B : Blt mg) : FnOk P w K mg base CX0 1 f fd ["conditions"] qSize := by
  refine fnD F sc_size (fun _ => rfl) fun cdv A outer s H E hr => ⟨_, _, (pss_one (ps_ret (pe_tupF (pa_cons (pe_callB (show CallR _ (.builtin "len") (rLenE K) from call_len_seq) (by rfl) B.len PySem.boot_len (pa_cons (pv 0) pa_nil)) (pa_cons (pv 0) pa_nil))))), inferInstance, fun c ok => ?_⟩
  refine ⟨by show (2 : Nat) ≤ 1000000; decide, _, ⟨?_, rfl⟩, ?_⟩
  · simp [noL, noLs, case_noL]
  · show R.dat (.tuple [.int (((c.map condD).length : Nat) : Int), caseD c]) = R.dat (sizeD c)
    rw [List.length_map]
    rfl
/-! ### the generator cases -/
abbrev qCases (C : Addr) : SpG := spGD (fun rs : List Rule => RulesOk 12 rs) (fun rs => [.ins C rs]) (fun rs => (casesM rs).map caseD)
abbrev n_cas : List Str := ["rules", "found"]
theorem sc_cas : GScope n_cas ["rules"] (defScope s_cases) := ⟨rfl, rfl, rfl, by decide +kernel, rfl, by decide +kernel, by decide +kernel⟩
theorem casesM_len {rs : List Rule} (ok : RulesOk 12 rs) : (casesM rs).length ≤ 1000000 := by
  unfold casesM
  rw [List.length_mergeSort]
  have := mat_len ok rs.length
  omega
theorem ok_cases {C : Addr} (F : Fun K "cases" "cases" s_cases f fd) (B : Blt mg) (hNeedR : Has P w K mg base 1 "need_rules" ["thing"] (qNeedR C)) (hP : HasP P w K mg base C "rules") (hCtm : Has P w K mg base 4 "cases_that_matter" ["rules"] qCtm) :
    GFn P w K mg base 6 f fd ["rules"] (qCases C) := by
  obtain ⟨oc, od, kV, doc, pm, an, cdv, ct, osl, rfl, lk, hcd⟩ := F.ex
  refine gfn_of lk hcd sc_cas (fun vs H Q E h => ?_) fun A outer s H vs Q E pn hr h => ?_
  · obtain ⟨a, S, _, _, hv, _⟩ := h
    rw [hv.length]
    rfl
  refine ⟨_, gss_cons (gs_ps (ps_expr (pe_callH hNeedR (hr.mono (by decide)) rfl (pa_cons (pv 0) pa_nil)))) (gss_cons (gs_ps (ps_set (i := 1) sc_cas.nd rfl (.inl rfl) (pe_callH hCtm (hr.mono (by decide)) rfl (pa_cons (pe_propH hP (hr.mono (by decide)) (pv 0)) pa_nil))))
    (gss_cons (gs_yieldFrom (yf_lst (pv 1)) hr.hd) gss_nil)), ?_⟩
  obtain ⟨rs, S, ok, hS, hv, q⟩ := h
  refine DL.run (t := tCall (qNeedR C) [] E0 (tCons (tVar 0) tNil)) (zS S H) (L2.start n_cas vs) (env0 n_cas [.ins C rs]) _ (fun _ => True) (zS_ok hS.s hS.tb) (env0_ok hv) ⟨rs, trivial, ⟨⟨rfl, rfl⟩, trivial⟩, fun _ _ => trivial⟩ fun v H1 r g rr _ => ?_
  have e1 := (env0_ok (N := n_cas) hv).on (zS_ok hS.s hS.tb) g
  refine DL.run (t := tCall qCtm [] E0 (tCons (tProp C (getSp C "held") [] E0 (tVar 0)) tNil)) (zS S H1) (L2.start n_cas vs) (env0 n_cas [.ins C rs]) _ (fun r => r = .new ((casesM rs).map caseD)) (zS_ok g.s (g.t.t hS.tb)) e1 ⟨rfl, rs, ok, ⟨rfl, trivial⟩, fun x hx => hx⟩ fun v2 H2 r2 g2 rr2 e => ?_
  subst e
  obtain ⟨l, xs, rfl, h0, h1, h2⟩ := rr2
  obtain ⟨v0, rfl, _⟩ := hv.one
  have hl := h2.length
  rw [List.length_map] at hl
  have len := casesM_len ok
  refine ⟨.ref l, rfl, l, xs, rfl, h1, ?_, ?_⟩
  · show 0 + xs.length ≤ sizeLine
    have := small_line len
    omega
  · exact q ([] ++ xs) H2 (g.trans g2) (RDs.free (noLs_map case_noL _) h2)
end
end Cr

namespace Cr
open PySem PySem.Spec PyProof.Rows L2

/-! ### {e for t in it if ..}, e an int -/
/-- one turn's end: the int is put into the set at D -/
def putInt (w : World) (D : Addr) (Nx : Hp → Prop) : VK := fun y G => ∃ (c : Int) (S : Int → Bool) (n : Nat), y = .int c ∧ G D = some (SetO w D S n) ∧ n + 1 < scanBound ∧
  Nx (upd G D (SetO w D (fun j => S j || decide (j = c)) (if S c = true then n else n + 1)))
def scTurn (w : World) (g : TG) (tt : TT) (te : TE) (vs : List Nat) (σ : L2.St) (D : Addr) (Nx : Hp → Prop) (x : V) (G : Hp) : Prop :=
  g x (wipe σ vs) G fun σ2 G2 => wipe σ2 vs = wipe σ vs ∧ tt σ2 G2 fun b G3 => if b = true then te σ2 G3 (putInt w D Nx) else Nx G3
def tScI (w : World) (wi : TI) (g : TG) (tt : TT) (te : TE) (vs : List Nat) : TE := fun σ H Q => wi σ H fun J H1 => ∀ D, H1 D = none → ∃ W : Nat → Nat → Hp → Prop, (∃ m, W 0 m (upd H1 D (SetO w D (fun _ => false) 0))) ∧
  ∀ i m G, W i m G → (J.stop i G ∧ Q (.ref D) G) ∨ (J.go i G ∧ ∃ Nx : Hp → Prop, (∀ G', Nx G' → ∃ m', m' < m ∧ W (i + 1) m' G') ∧ ∀ x G', J.yld i G x G' → scTurn w g tt te vs σ D Nx x G')
theorem pe_scI {X : Cx} {elt tg iter : Expr} {ifs : List Expr} {scope : Scope} {own : List (Str × Nat)} {pos : Pos} {wi : TI} {g : TG} {tt : TT} {te : TE} (calm : X.calm = true) (ndN : X.N.Nodup) (hIt : PI X tg iter wi) (bok : BlkOk X.N X.env.scope scope own)
    (hTg : ∀ s H C cl fp, PG (X.blk s H scope (compEnvC scope cl C X.env) fp) tg g) (hIf : ∀ s H C cl fp, PTs (X.blk s H scope (compEnvC scope cl C X.env) fp) ifs tt) (hEl : ∀ s H C cl fp, PE (X.blk s H scope (compEnvC scope cl C X.env) fp) elt te)
    (unf : ∀ x, foldedSetIterable iter X.env x = pure x := by intro _; rfl) : PE X (.SetComp elt [⟨tg, iter, ifs, 0⟩] scope pos) (tScI X.w wi g tt te (own.map (·.2))) := by
  refine ⟨fun pins s σ H Q I hq => ?_⟩
  have cells : ∀ y ∈ scope.names, y.2 = .free → ∃ c, X.env.cells.lookup y.1 = some c := fun y hy e => (bok.free y hy e).elim (fun k => I.ok.has _ (.inl k)) fun k => I.ok.has _ (.inr k)
  rw [PpSet.eval_SetComp]
  refine wpAny_comprehension_free (use := none) rfl unf (closure_ok cells) bok.kind (fun y hy e => by rw [bok.uniq y hy, e]) (thn (hIt.run pins s σ H _ I hq) fun xv sa ha => thn ha fun itv sb hb => ?_)
  obtain ⟨it, fp, tn, J, Ha, eit, Ia, T, sta, fpa, q⟩ := hb
  subst eit
  refine PpSet.newSet_ok (newEnv_comp ?_)
  have Dfree : Ha sb.heap.objs.size = none := Ia.hok.fresh (Nat.le_refl _)
  obtain ⟨W, ⟨m0, w0⟩, turn⟩ := q _ Dfree
  -- the empty set is laid at D
  obtain ⟨D, eD⟩ : ∃ D, sb.heap.objs.size = D := ⟨_, rfl⟩
  obtain ⟨st, est⟩ : ∃ st : Shared, st = { sb with heap := sb.heap.push { cls := .type "set", dict := none, data := .set #[] 0 (.fresh 0 0 (!X.w.params.followText "set-order")) } } := ⟨_, rfl⟩
  have hst : ∀ b o, sb.heap.get? b = some o → st.heap.get? b = some o := fun b o z => by rw [est]; exact Heap.get?_push_of_some _ z
  have Ib : Inv X pins σ (upd Ha D (SetO X.w D (fun _ => false) 0)) st := by
    rw [est]
    refine Ia.laid (t' := sb.toks) (fun b o z => Heap.get?_push_of_some _ z) (Nat.le_of_eq eD) ?_
    rw [← eD]
    exact setO_new (setR_fresh X.w)
  rw [eD] at w0 turn
  have below : ∀ b ∈ fp, b < sb.heap.objs.size := fun b z => let ⟨_, u, _⟩ := T.obj _ _ sta b z; Heap.lt_size u
  have fpb : ∀ b ∈ fp, FpOk X pins (upd Ha D (SetO X.w D (fun _ => false) 0)) b ∧ b < st.heap.objs.size := fun b z => by
    refine ⟨⟨?_, (fpa b z).2⟩, ?_⟩
    · rw [upd_ne (fun u => Nat.lt_irrefl _ (by have := below b z; rw [eD, ← u] at this; exact this))]
      exact (fpa b z).1
    · rw [est]
      show b < (sb.heap.push _).objs.size
      rw [Heap.size_push]
      exact Nat.lt_succ_of_lt (below b z)
  have stb : tn 0 st.heap := T.keep _ _ _ sta fun b _ o z => hst b o z
  have Ic := block_start Ib bok ndN fpb
  have rdT := hTg st (upd Ha D (SetO X.w D (fun _ => false) 0)) st.heap.objs.size (cellsFrom (st.heap.objs.size + 1) scope.names (cloFrom X.env.cells scope.names [])) fp
  have rdI := hIf st (upd Ha D (SetO X.w D (fun _ => false) 0)) st.heap.objs.size (cellsFrom (st.heap.objs.size + 1) scope.names (cloFrom X.env.cells scope.names [])) fp
  have rdE := hEl st (upd Ha D (SetO X.w D (fun _ => false) 0)) st.heap.objs.size (cellsFrom (st.heap.objs.size + 1) scope.names (cloFrom X.env.cells scope.names [])) fp
  rw [← est, eD]
  obtain ⟨sc, esc⟩ : ∃ sc : Shared, sc = { st with heap := pushCells (st.heap.push { cls := .type "dict", data := .dict #[] }) scope.names } := ⟨_, rfl⟩
  rw [← esc] at Ic
  have stc : tn 0 sc.heap := T.keep _ _ _ stb fun b _ o z => by rw [esc]; exact pushCells_keeps _ _ _ _ (Heap.get?_push_of_some _ z)
  have unk : ∀ b ∈ fp, (upd Ha D (SetO X.w D (fun _ => false) 0)) b = none := fun b z => (fpb b z).1.1
  generalize eHc : upd Ha D (SetO X.w D (fun _ => false) 0) = Hc at Ib Ic rdT rdI rdE w0 unk fpb
  generalize eEnv : compEnvC scope (cellsFrom (st.heap.objs.size + 1) scope.names (cloFrom X.env.cells scope.names [])) st.heap.objs.size X.env = env at Ic rdT rdI rdE
  have eLoc : env.locals = st.heap.objs.size := by rw [← eEnv]; rfl
  have fpIn : ∀ {τ : L2.St} {G : Hp} {u : Shared}, Inv (X.blk st Hc scope env fp) [] τ G u → (∀ b ∈ fp, G b = none) → ∀ b ∈ fp, FpOk (X.blk st Hc scope env fp) [] G b := fun {τ G u} Iu nG b z =>
    ⟨nG b z, (Iu.ok.exf b z).1, Iu.ok.exfs b z, .inl z, fun x c e => (Iu.ok.exf b z).2 x c e, fun p hp => absurd (show p ∈ ([] : List (Addr × Obj)) ++ [] from hp) (by simp)⟩
  show codeAny (model X.prog X.w) X.A (.compStart (.SetComp elt [⟨tg, iter, ifs, 0⟩] scope pos) 0 (.ref it) (.ref D) (compEnvC scope (cellsFrom (st.heap.objs.size + 1) scope.names (cloFrom X.env.cells scope.names [])) st.heap.objs.size X.env)) (compPost (model X.prog X.w) X.A X.xe none (EP X pins σ Q) (.ref D) st.heap.objs.size) { st with heap := pushCells (st.heap.push { cls := .type "dict", data := .dict #[] }) scope.names }
  rw [eEnv, ← esc]
  have all : codeAny (model X.prog X.w) X.A (.compLoop (.SetComp elt [⟨tg, iter, ifs, 0⟩] scope pos) 0 (.ref it) (.ref D) env) (compPost (model X.prog X.w) X.A X.xe none (EP X pins σ Q) (.ref D) st.heap.objs.size) sc := by
    refine PpSet.compLoopS_any (fun m u => ∃ i G, Inv (X.blk st Hc scope env fp) [] (wipe σ (own.map (·.2))) G u ∧ tn i u.heap ∧ (∀ b ∈ fp, G b = none) ∧ W i m G) (fun m u hu => ?_) m0 ⟨0, Hc, Ic, stc, unk, w0⟩
    obtain ⟨i, G, Iu, tu, nG, wG⟩ := hu
    rcases turn i m G wG with ⟨stp, qd⟩ | ⟨goes, Nx, less, step⟩
    · -- no item any more: back in the def
      refine thnF (T.done (X.blk st Hc scope env fp) rfl rfl rfl calm i [] u _ G (fun _ _ => False) Iu (fpIn Iu nG) tu stp) fun r u2 hr => ?_
      obtain ⟨rfl, Iv⟩ := hr
      have back : Inv X pins σ G u2 := Ib.call' (ch := fp) Iv.os Iv.base Iv.hok Iv.bare fun b z => let y := (fpb b z).1; ⟨y.2.2.2.1, y.2.1, y.2.2.2.2.1, y.2.2.2.2.2⟩
      obtain ⟨ns, hns, _⟩ := Iv.loc
      have hns : u2.heap.Ns env.locals ns := hns
      have nloc : G env.locals = none := Iv.free
      rw [eLoc] at hns nloc
      refine ⟨ns, hns, fun h2 same => ?_⟩
      obtain ⟨f0, f1, f2, f3, f4, f5⟩ := Ib.fpOk (Nat.le_refl _) nloc
      exact ⟨.ref D, G, back.turned (t' := u2.toks) (fun b o z e => (same.2 b z).trans e) f0 f1 f3 f4 f5, rfl, qd⟩
    · refine thnF (T.item (X.blk st Hc scope env fp) rfl rfl rfl calm i [] u _ G (fun _ _ => False) Iu (fpIn Iu nG) tu goes) fun r u2 hr => ?_
      obtain ⟨v, rfl, hv⟩ := hr
      refine thnF hv fun _ u3 hx => ?_
      obtain ⟨x, G3, I3, rx, yx, t3, n3⟩ := hx
      -- a turn's end, from wherever it comes
      have next : ∀ {τ : L2.St} {G' : Hp} {u' : Shared}, wipe τ (own.map (·.2)) = wipe σ (own.map (·.2)) → Inv (X.blk st Hc scope env fp) ([] ++ pinsAt fp u3.heap) τ G' u' → Nx G' →
          ∃ m', m' < m ∧ ∃ i G, Inv (X.blk st Hc scope env fp) [] (wipe σ (own.map (·.2))) G u' ∧ tn i u'.heap ∧ (∀ b ∈ fp, G b = none) ∧ W i m' G := fun {τ G' u'} ew Iw nx => by
        obtain ⟨m', lt, wn⟩ := less G' nx
        have kept : ∀ b ∈ fp, ∀ o, u3.heap.get? b = some o → u'.heap.get? b = some o ∧ G' b = none := fun b z o e => (fun y => ⟨y.1, y.2.1⟩) (Iw.pin (b, o) (List.mem_append_right _ (List.mem_append_right _ (mem_pinsAt z e))))
        refine ⟨m', lt, i + 1, G', (Iw.unpinned (pins := [])).weak ?_ ?_, T.keep _ _ _ t3 fun b z o e => (kept b z o e).1, fun b z => ?_, wn⟩
        · rw [← ew, wipe_length]
        · intro j y e
          rw [← ew] at e
          exact (wipe_some e).1
        · exact let ⟨o, e, _⟩ := T.obj _ _ t3 b z; (kept b z o e).2
      refine thnF (rdT.run _ u3 _ G3 x v _ (I3.pinned (fpIn I3 n3) (T.obj _ _ t3)) rx (step x G3 yx)) fun _ u4 h4 => ?_
      obtain ⟨τ, G4, I4, ew, q4⟩ := h4
      refine thnF (rdI.run _ u4 τ G4 _ I4 q4) fun b u5 h5 => ?_
      obtain ⟨G5, I5, q5⟩ := h5
      cases b with
      | false => exact next ew I5 (by simpa using q5)
      | true =>
        have q5 : te τ G5 (putInt X.w D Nx) := q5
        show wpAny _ _ (eval elt env) _ _ u5
        refine thnF (rdE.run _ u5 τ G5 _ I5 q5) fun z u6 h6 => ?_
        obtain ⟨y, G6, I6, ry, c, S, n, ey, hD, few, nx⟩ := h6
        subst ey
        refine thnF (mt_sadd (X := X.blk st Hc scope env fp) _ u6 τ G6 (.ref D) [.int c] (.ref D) [z] (fun _ G7 => Nx G7) I6 rfl (.cons ry .nil) ⟨D, c, S, n, rfl, rfl, hD, few, nx⟩) fun _ u7 h7 => ?_
        obtain ⟨_, G7, I7, _, nx7⟩ := h7
        exact next ew I7 nx7
  exact PpSet.codeAny_compStart_set all (T.self X.A 0 _ _ _ stc all)
/-- .. over a tuple that stays -/
theorem scI_tup {w : World} {K : PySem.W.Frag} {a D : Addr} {xs : List V} {g : TG} {tt : TT} {te : TE} {vs : List Nat} {σ : L2.St} {H1 : Hp} {Qd : Hp → Prop} (Pv : Nat → Hp → Prop) (first : Pv 0 (upd H1 D (SetO w D (fun _ => false) 0)))
    (stays : ∀ i G, i ≤ xs.length → Pv i G → SqT K G a xs) (step : ∀ i x G, xs[i]? = some x → Pv i G → scTurn w g tt te vs σ D (Pv (i + 1)) x G) (last : ∀ G, Pv xs.length G → Qd G) :
    ∃ W : Nat → Nat → Hp → Prop, (∃ m, W 0 m (upd H1 D (SetO w D (fun _ => false) 0))) ∧
      ∀ i m G, W i m G → ((Itt K a).stop i G ∧ Qd G) ∨ ((Itt K a).go i G ∧ ∃ Nx : Hp → Prop, (∀ G', Nx G' → ∃ m', m' < m ∧ W (i + 1) m' G') ∧ ∀ x G', (Itt K a).yld i G x G' → scTurn w g tt te vs σ D Nx x G') := by
  refine ⟨fun i m G => m + i = xs.length ∧ Pv i G, ⟨xs.length, rfl, first⟩, fun i m G hW => ?_⟩
  obtain ⟨em, p⟩ := hW
  have sq := stays i G (by omega) p
  cases e : xs[i]? with
  | some x =>
    have hi : i < xs.length := (List.getElem?_eq_some_iff.mp e).1
    refine .inr ⟨⟨xs, x, sq, e⟩, Pv (i + 1), fun G' p' => ⟨m - 1, by omega, by omega, p'⟩, fun y G' hy => ?_⟩
    obtain ⟨rfl, hy⟩ := hy
    exact step i y _ (hy xs sq) p
  | none =>
    have hi : xs.length ≤ i := List.getElem?_eq_none_iff.mp e
    obtain rfl : i = xs.length := by omega
    exact .inl ⟨⟨xs, sq, Nat.le_refl _⟩, last G p⟩
end Cr

namespace Cr
open PySem PySem.Spec PyProof.Rows L2

/-! ### the closest rules -/
def strictB (cs ds : Case) : Bool := decide (cs.length < ds.length) && inB cs ds
def beatB (rs : List Rule) (r : Rule) : Bool := rs.any fun q => strictB r.1 q.1
/-- the unbeaten matching rules -/
def unb (rs : List Rule) (cs : Case) : List Rule := (rs.filter fun r => inB r.1 cs).filter fun r => !beatB (rs.filter fun q => inB q.1 cs) r
def spStrict : Sp := fun vs H Q _ => ∃ (a b : Addr) (cs ds : Case), vs = [.ref a, .ref b] ∧ TD H (.ref a) (caseD cs) ∧ TD H (.ref b) (caseD ds) ∧ cs.length ≤ 1000 ∧ ∀ H', Same H H' → Q (.bl (strictB cs ds)) H'
def spBeaten : Sp := fun vs H Q _ => ∃ (a D : Addr) (refs : List V) (r : Rule) (rs : List Rule), vs = [.ref a, .ref D] ∧ TD H (.ref a) (ruleD r) ∧ RuleOk r ∧ NewRules H D refs rs ∧ rs.length ≤ 1000 ∧ ∀ H', Same H H' → Q (.bl (beatB rs r)) H'
def spDeciding : Sp := fun vs H Q _ => ∃ (a t : Addr) (xs : List V) (rs : List Rule) (cs : Case), vs = [.ref a, .ref t] ∧ PT H a xs ∧ TDs H xs (rs.map ruleD) ∧ RulesOk 12 rs ∧ TD H (.ref t) (caseD cs) ∧
  ∀ H' p ys, Same H H' → PT H' p ys → TDs H' ys ((unb rs cs).map ruleD) → Q (.ref p) H'
/-- ascending, and just the results of the unbeaten ones -/
def ResOf (rs : List Rule) (cs : Case) (ns : List Int) : Prop := ns.Pairwise (· < ·) ∧ ∀ k, k ∈ ns ↔ ∃ r ∈ unb rs cs, r.2 = k
def spResults : Sp := fun vs H Q _ => ∃ (a t : Addr) (xs : List V) (rs : List Rule) (cs : Case), vs = [.ref a, .ref t] ∧ PT H a xs ∧ TDs H xs (rs.map ruleD) ∧ RulesOk 12 rs ∧ TD H (.ref t) (caseD cs) ∧
  ∀ H' p ns, Same H H' → PT H' p (ns.map V.int) → ResOf rs cs ns → Q (.ref p) H'
def spCallR (C : Addr) : Sp := fun vs H Q _ => ∃ (x t : Addr) (rs : List Rule) (cs : Case), vs = [.ref x, .ref t] ∧ Holds H C x rs ∧ RulesOk 12 rs ∧ TD H (.ref t) (caseD cs) ∧ CaseOk cs ∧
  ∀ H' p ns, Same H H' → PT H' p (ns.map V.int) → ResOf rs cs ns → Q (.ref p) H'
theorem unb_len (rs : List Rule) (cs : Case) : (unb rs cs).length ≤ rs.length := Nat.le_trans (List.length_filter_le _ _) (List.length_filter_le _ _)
theorem unb_mem {rs : List Rule} {cs : Case} {r : Rule} (h : r ∈ unb rs cs) : r ∈ rs := (List.mem_filter.mp (List.mem_filter.mp h).1).1
theorem any_map {α : Type} (l : List α) (p : α → Bool) : (l.map p).any id = l.any p := by rw [List.any_map]; rfl
section
variable {P : Program} {w : World} {K : PySem.W.Frag} {mg : Str → Option Value} {base : Heap}
theorem sc_strict : FnScope ["inner", "outer"] ["inner", "outer"] (defScope s_lies_strictly_within) := ⟨rfl, rfl, rfl, by decide +kernel, rfl, by decide +kernel, by decide +kernel⟩
theorem ok_strict {f fW : Addr} {fd dW : FuncData} (F : Fun K "lies_strictly_within" "lies_strictly_within" s_lies_strictly_within f fd) (B : Blt mg) (W : Df K mg "lies_within" s_lies_within ["inner", "outer"] fW dW) : FnOk P w K mg base CX0 2 f fd ["inner", "outer"] spStrict := by
  have GW : FnOk P w K mg base CX0 1 fW dW ["inner", "outer"] spInside := ok_within W.F B
  refine F.ok sc_strict (fun vs H Q E h => ?_) (fun cdv A outer s H vs Q E hr h => ?_)
  · obtain ⟨a, b, cs, ds, rfl, _⟩ := h
    rfl
  · obtain ⟨a, b, cs, ds, rfl, ha, hb, hl, q⟩ := h
    obtain ⟨_, xs, e, hA, tA⟩ := ha.tupv
    cases e
    obtain ⟨_, ys, e, hB, tB⟩ := hb.tupv
    cases e
    have lx : xs.length = cs.length := by rw [tA.length, List.length_map]
    have ly : ys.length = ds.length := by rw [tB.length, List.length_map]
    refine ⟨_, pss_one (ps_ret (pe_and (pe_cmpR op_lt (pe_callB call_len_seq (by rfl) B.len PySem.boot_len (pa_cons (pv 0) pa_nil)) (pe_callB call_len_seq (by rfl) B.len PySem.boot_len (pa_cons (pv 1) pa_nil)) (nomark _))
      (pe_one (pe_call GW hr rfl W.m W.F.kp W.b .nil pass0 (pa_cons (pv 0) (pa_cons (pv 1) pa_nil)))))), ?_⟩
    refine ⟨_, rfl, a, _, rfl, .inr (PT.sq hA), _, rfl, b, _, rfl, .inr (PT.sq hB), _, _, rfl, rfl, _, rfl, ?_⟩
    rw [lx, ly]
    refine ite2 (fun hb' => ?_) (fun hb' => ?_)
    · have lt : cs.length < ds.length := by have := of_decide_eq_true hb'; omega
      refine ⟨_, rfl, _, rfl, a, b, cs, ds, rfl, ha, hb, hl, fun H' sm => ?_⟩
      have e : strictB cs ds = inB cs ds := by unfold strictB; rw [decide_eq_true lt]; rfl
      rw [← e]
      exact q _ sm
    · have lt : ¬ cs.length < ds.length := fun z => hb' (decide_eq_true (by omega))
      have e : strictB cs ds = false := by unfold strictB; rw [decide_eq_false lt]; rfl
      rw [← e]
      exact q _ (Same.refl _)
theorem sc_beaten : FnScope ["rule", "rules", "conditions", "result"] ["rule", "rules"] (defScope s_is_beaten) := ⟨rfl, rfl, rfl, by decide +kernel, rfl, by decide +kernel, by decide +kernel⟩
theorem ok_beaten {f fS fW : Addr} {fd dS dW : FuncData} (F : Fun K "is_beaten" "is_beaten" s_is_beaten f fd) (B : Blt mg) (hAny : mg "any" = none) (S : Df K mg "lies_strictly_within" s_lies_strictly_within ["inner", "outer"] fS dS) (W : Df K mg "lies_within" s_lies_within ["inner", "outer"] fW dW) :
    FnOk P w K mg base CX0 3 f fd ["rule", "rules"] spBeaten := by
  have GS : FnOk P w K mg base CX0 2 fS dS ["inner", "outer"] spStrict := ok_strict S.F B W
  refine F.ok sc_beaten (fun vs H Q E h => ?_) (fun cdv A outer s H vs Q E hr h => ?_)
  · obtain ⟨a, D, refs, r, rs, rfl, _⟩ := h
    rfl
  · obtain ⟨a, L, refs, r, rs, rfl, ha, okr, nr, hl, q⟩ := h
    obtain ⟨_, c0, e, hA, tc0⟩ := rule_at ha
    cases e
    refine ⟨_, pss_one (ps_ret (pe_callB (cr_any rfl) (by rfl) hAny (by decide +kernel) (pa_cons (pe_lc (own := [("conditions", 2), ("result", 3)]) (g := gTup K 2 (gCons (gName 2) (gCons (gName 3) gNil))) (tt := tYes) rfl sc_beaten.nd (pi_list (pv 1))
        (blkOk_by (own := [("conditions", 2), ("result", 3)]) (N := ["rule", "rules", "conditions", "result"]) (sc := defScope s_is_beaten) (by decide +kernel))
        (fun _ _ _ _ _ => pg_tup rfl (pgs_cons (pg_name (i := 2) sc_beaten.nd rfl (Or.inl rfl)) (pgs_cons (pg_name (i := 3) sc_beaten.nd rfl (Or.inl rfl)) pgs_nil))) (fun _ _ _ _ _ => pts_nil)
        (fun _ _ _ _ _ => pe_call GS hr rfl S.m S.F.kp S.b .nil pass0 (pa_cons (pe_ix (show IxR _ (rIxT K) from ix_tup) (pv 0) pe_int (fun _ _ => rfl)) (pa_cons (pv 2) pa_nil)))) pa_nil))), ?_⟩
    refine ⟨_, rfl, L, rfl, ⟨_, SqL.of nr.1⟩, fun D hD => ?_⟩
    refine lc_list (K := K) (a := L) (xs := refs) (fun i H' => Same H H' ∧ H' D = some (.lst ((rs.take i).map fun q => V.bl (strictB r.1 q.1)))) ⟨Same.new hD, upd_same⟩ (fun i H' _ h => SqL.of (h.1 _ _ nr.1)) ?_ ?_
    · rintro i x H1 hx ⟨sm, hL⟩
      obtain ⟨r', a', c', hr', rfl, ha', tc, hts⟩ := rule_get nr.2 hx
      refine ⟨a', _, rfl, PT.sq (Same.pt sm ha'), rfl, _, _, rfl, _, _, rfl, rfl, rfl, _, rfl, a, _, 0, .ref c0, rfl, rfl, PT.sq (Same.pt sm hA), rfl, _, rfl, c0, c', r.1, r'.1, rfl, tc0.mono (TK.same sm), tc.mono (TK.same sm), Nat.le_trans okr.case.len (by decide), fun H2 sm2 => ⟨_, sm2 _ _ hL, ?_, ?_, ?_⟩⟩
      · rw [List.length_map, List.length_take, sizeLine_eq]; omega
      · exact fun b o eb => by rw [upd_ne (ne_of_none eb hD)]; exact sm2 _ _ (sm b o eb)
      · rw [hts, List.map_append]; exact upd_same
    · rintro H1 ⟨sm, hL⟩
      rw [nr.len, List.take_length] at hL
      refine ⟨D, rs.map fun q => strictB r.1 q.1, rfl, SqL.of (by rw [hL, List.map_map]; rfl), ?_⟩
      rw [any_map]
      exact q _ sm
theorem sc_deciding : FnScope ["rules", "case", "matching", "rule"] ["rules", "case"] (defScope s_deciding_rules) := ⟨rfl, rfl, rfl, by decide +kernel, rfl, by decide +kernel, by decide +kernel⟩
/-- the defs about the closest rules -/
structure Close (K : PySem.W.Frag) (mg : Str → Option Value) (fW fS fB fM fD fR : Addr) (dW dS dB dM dD dR : FuncData) : Prop where
  hAny : mg "any" = none
  W : Df K mg "lies_within" s_lies_within ["inner", "outer"] fW dW
  S : Df K mg "lies_strictly_within" s_lies_strictly_within ["inner", "outer"] fS dS
  Bn : Df K mg "is_beaten" s_is_beaten ["rule", "rules"] fB dB
  M : Df K mg "matching_rules" s_matching_rules ["rules", "case"] fM dM
  D : Df K mg "deciding_rules" s_deciding_rules ["rules", "case"] fD dD
  R : Df K mg "results_for" s_results_for ["rules", "case"] fR dR
theorem ok_deciding {fW fS fB fM fD fR : Addr} {dW dS dB dM dD dR : FuncData} (B : Blt mg) (T : Close K mg fW fS fB fM fD fR dW dS dB dM dD dR) : FnOk P w K mg base CX0 4 fD dD ["rules", "case"] spDeciding := by
  have GB : FnOk P w K mg base CX0 3 fB dB ["rule", "rules"] spBeaten := ok_beaten T.Bn.F B T.hAny T.S T.W
  have GM : FnOk P w K mg base CX0 3 fM dM ["rules", "case"] spMatching := (ok_matching T.M.F B T.W).mono (by decide)
  refine T.D.F.ok sc_deciding (fun vs H Q E h => ?_) (fun cdv A outer s H vs Q E hr h => ?_)
  · obtain ⟨a, t, xs, rs, cs, rfl, _⟩ := h
    rfl
  · obtain ⟨a, t, xs, rs, cs, rfl, hA, tds, ok, ht, q⟩ := h
    refine ⟨_, pss_cons (ps_set (i := 2) sc_deciding.nd rfl (.inr rfl) (pe_call GM hr rfl T.M.m T.M.F.kp T.M.b .nil pass0 (pa_cons (pv 0) (pa_cons (pv 1) pa_nil))))
      (pss_one (ps_ret (pe_callTy call_tupF (by rfl) B.tuple (by decide +kernel) (pa_cons (pe_lc (own := [("rule", 3)]) (g := gName 3) rfl sc_deciding.nd (pi_list (pv 2)) (blkOk_by (own := [("rule", 3)]) (N := ["rules", "case", "matching", "rule"]) (sc := defScope s_deciding_rules) (by decide +kernel))
        (fun _ _ _ _ _ => pg_name (i := 3) sc_deciding.nd rfl (Or.inl rfl))
        (fun _ _ _ _ _ => pts_one (pt_not (pt_val (pe_call GB hr rfl T.Bn.m T.Bn.F.kp T.Bn.b .nil pass0 (pa_cons (pv 3) (pa_cons (pv 2) pa_nil))))))
        (fun _ _ _ _ _ => pv 3)) pa_nil)))), ?_⟩
    refine ⟨_, rfl, _, rfl, a, t, xs, rs, cs, rfl, hA, tds, ok, ht, fun H1 L refs sm1 hL nr => ?_⟩
    generalize hM : (rs.filter fun r => inB r.1 cs) = ms at *
    have mlen : ms.length ≤ 12 := by rw [← hM]; exact Nat.le_trans (List.length_filter_le _ _) ok.few
    have okm : ∀ r ∈ ms, RuleOk r := fun r hr => ok.each r (by rw [← hM] at hr; exact (List.mem_filter.mp hr).1)
    refine ⟨_, rfl, L, rfl, ⟨_, SqL.of nr.1⟩, fun D hD => ?_⟩
    refine lc_list (K := K) (a := L) (xs := refs) (fun i H' => ∃ rf, Same H1 H' ∧ NewRules H' D rf ((ms.take i).filter fun r => !beatB ms r)) ⟨[], Same.new hD, ⟨upd_same, .nil⟩⟩ (fun i H' _ ⟨_, h, _⟩ => SqL.of (h _ _ nr.1)) ?_ ?_
    · rintro i x H2 hx ⟨rf, sm, nd⟩
      obtain ⟨r, ar, c, hr', rfl, har, tc, hts⟩ := rule_get nr.2 hx
      have okr := okm r (List.mem_of_getElem? hr')
      have tr : TD H2 (.ref ar) (ruleD r) := .tup (Same.pt sm har) (.cons (tc.mono (TK.same sm)) (.cons (.int _) .nil))
      refine ⟨rfl, _, rfl, _, rfl, ar, L, refs, r, ms, rfl, tr, okr, nr.same sm, by omega, fun H3 sm3 => ⟨_, rfl, ite2 (fun hb => ?_) (fun hb => ?_)⟩⟩
      · have nd3 := nd.same sm3
        refine ⟨_, rfl, rf, nd3.1, ?_, rf ++ [.ref ar], ?_, ⟨upd_same, ?_⟩⟩
        · have z1 := nd.len
          have z2 := List.length_filter_le (fun r : Rule => !beatB ms r) (ms.take i)
          rw [List.length_take] at z2
          rw [sizeLine_eq]; omega
        · exact fun b o eb => by rw [upd_ne (ne_of_none eb hD)]; exact sm3 _ _ (sm b o eb)
        · have ef : ([r].filter fun r => !beatB ms r) = [r] := by rw [List.filter_cons, hb]; rfl
          rw [hts, List.filter_append, List.map_append, ef]
          exact (nd3.2.append (.cons (tr.mono (TK.same sm3)) .nil)).mono (TK.lst nd3.1)
      · refine ⟨rf, sm.trans sm3, ?_⟩
        have ef : ([r].filter fun r => !beatB ms r) = [] := by rw [List.filter_cons, if_neg hb]; rfl
        rw [hts, List.filter_append, ef, List.append_nil]
        exact nd.same sm3
    · rintro H2 ⟨rf, sm, nd⟩
      rw [nr.len, List.take_length] at nd
      refine ⟨D, rf, rfl, .inl ⟨SqL.of nd.1, fun p ob hp hdo => ?_⟩⟩
      have smp : Same H2 (upd H2 p (ptO ob rf)) := Same.new hp
      refine q _ p rf (sm1.trans (sm.trans smp)) (PT.new hdo) ?_
      have e : unb rs cs = ms.filter fun r => !beatB ms r := by unfold unb; rw [hM]
      rw [e]
      exact nd.2.mono (TK.same smp)
theorem sc_results : FnScope ["rules", "case", "conditions", "result"] ["rules", "case"] (defScope s_results_for) := ⟨rfl, rfl, rfl, by decide +kernel, rfl, by decide +kernel, by decide +kernel⟩
theorem ok_results {fW fS fB fM fD fR : Addr} {dW dS dB dM dD dR : FuncData} (B : Blt mg) (T : Close K mg fW fS fB fM fD fR dW dS dB dM dD dR) : FnOk P w K mg base CX0 5 fR dR ["rules", "case"] spResults := by
  have GD : FnOk P w K mg base CX0 4 fD dD ["rules", "case"] spDeciding := ok_deciding B T
  refine T.R.F.ok sc_results (fun vs H Q E h => ?_) (fun cdv A outer s H vs Q E hr h => ?_)
  · obtain ⟨a, t, xs, rs, cs, rfl, _⟩ := h
    rfl
  · obtain ⟨a, t, xs, rs, cs, rfl, hA, tds, ok, ht, q⟩ := h
    refine ⟨_, pss_one (ps_ret (pe_callTy call_tupF (by rfl) B.tuple (by decide +kernel) (pa_cons (pe_callB (cr_sortedSet rfl) (by rfl) B.sorted (by decide +kernel) (pa_cons
      (pe_scI (own := [("conditions", 2), ("result", 3)]) (g := gTup K 2 (gCons (gName 2) (gCons (gName 3) gNil))) (tt := tYes) rfl sc_results.nd (pi_tup (pe_call GD hr rfl T.D.m T.D.F.kp T.D.b .nil pass0 (pa_cons (pv 0) (pa_cons (pv 1) pa_nil))))
        (blkOk_by (own := [("conditions", 2), ("result", 3)]) (N := ["rules", "case", "conditions", "result"]) (sc := defScope s_results_for) (by decide +kernel))
        (fun _ _ _ _ _ => pg_tup rfl (pgs_cons (pg_name (i := 2) sc_results.nd rfl (Or.inl rfl)) (pgs_cons (pg_name (i := 3) sc_results.nd rfl (Or.inl rfl)) pgs_nil))) (fun _ _ _ _ _ => pts_nil)
        (fun _ _ _ _ _ => pv 3)) pa_nil)) pa_nil))), ?_⟩
    refine ⟨_, rfl, _, rfl, a, t, xs, rs, cs, rfl, hA, tds, ok, ht, fun H1 p ys sm1 hp tys => ?_⟩
    have ulen : (unb rs cs).length ≤ 12 := Nat.le_trans (unb_len rs cs) ok.few
    refine ⟨p, rfl, ⟨_, PT.sq hp⟩, fun D hD => ?_⟩
    refine scI_tup (K := K) (a := p) (xs := ys) (fun i G => ∃ (S : Int → Bool) (n : Nat), Same H1 G ∧ G D = some (SetO w D S n) ∧ n ≤ i ∧ ∀ k, S k = true ↔ ∃ r ∈ (unb rs cs).take i, r.2 = k)
      ⟨fun _ => false, 0, Same.new hD, upd_same, Nat.le_refl _, fun k => ⟨fun z => (nomatch z), fun ⟨r, hr, _⟩ => by simp at hr⟩⟩ (fun i G _ ⟨_, _, h, _⟩ => PT.sq (Same.pt h hp)) ?_ ?_
    · rintro i x G hx ⟨S, n, sm, hS, hn, hk⟩
      obtain ⟨r, ar, c, hr', rfl, har, tc, hts⟩ := rule_get tys hx
      have hi : i < 12 := by have := (List.getElem?_eq_some_iff.mp hr').1; omega
      refine ⟨ar, _, rfl, PT.sq (Same.pt sm har), rfl, _, _, rfl, _, _, rfl, rfl, rfl, _, rfl, r.2, S, n, rfl, hS, ?_, ?_⟩
      · exact Nat.lt_of_lt_of_le (show n + 1 < 64 by omega) (by decide)
      · refine ⟨_, _, fun b o eb => by rw [upd_ne (ne_of_none eb hD)]; exact sm b o eb, upd_same, ?_, fun k => ?_⟩
        · split <;> omega
        · rw [hts, Bool.or_eq_true, hk k]
          constructor
          · rintro (⟨r', hr2, rfl⟩ | z)
            · exact ⟨r', List.mem_append_left _ hr2, rfl⟩
            · exact ⟨r, List.mem_append_right _ (List.mem_singleton.mpr rfl), (of_decide_eq_true z).symm⟩
          · rintro ⟨r', hr2, rfl⟩
            rcases List.mem_append.mp hr2 with z | z
            · exact .inl ⟨r', z, rfl⟩
            · exact .inr (decide_eq_true (by rw [List.mem_singleton.mp z]))
    · rintro G ⟨S, n, sm, hS, hn, hk⟩
      have yl : ys.length = (unb rs cs).length := by rw [tys.length, List.length_map]
      rw [yl, List.take_length] at hk
      refine ⟨D, S, n, rfl, hS, by omega, fun ns l pw mem len hl => ?_⟩
      have sml : Same G (upd G l (.lst (ns.map V.int))) := Same.new hl
      refine ⟨l, ns.map V.int, rfl, .inl ⟨SqL.of upd_same, fun p2 ob hp2 hdo => ?_⟩⟩
      exact q _ p2 ns (sm1.trans (sm.trans (sml.trans (Same.new hp2)))) (PT.new hdo) ⟨pw, fun k => by rw [mem k, hk k]⟩
theorem sc_callR : FnScope ["self", "case"] ["self", "case"] (defScope s_K_call) := ⟨rfl, rfl, rfl, by decide +kernel, rfl, by decide +kernel, by decide +kernel⟩
theorem ok_callR {f C fN fC fK fR' nC fW fS fB fM fD fR : Addr} {fd dN dC dK dR' gC dW dS dB dM dD dR : FuncData} {qc : Str} (F : Fun K "__call__" qc s_K_call f fd) (B : Blt mg) (N : Nums mg) (T : Forms K mg fN fC fK fR' dN dC dK dR')
    (DC : Df K mg "need_case" s_need_case ["thing"] nC gC) (U : Close K mg fW fS fB fM fD fR dW dS dB dM dD dR) (c : Cls K C) (nh : NoAttr K C "held") : FnOk P w K mg base CX0 6 f fd ["self", "case"] (spCallR C) := by
  have GC : FnOk P w K mg base CX0 5 nC gC ["thing"] spNeedCase := (ok_needCase DC.F B N T).mono (by decide)
  have GR : FnOk P w K mg base CX0 5 fR dR ["rules", "case"] spResults := ok_results B U
  refine F.ok sc_callR (fun vs H Q E h => ?_) (fun cdv A outer s H vs Q E hr h => ?_)
  · obtain ⟨x, t, rs, cs, rfl, _⟩ := h
    rfl
  · obtain ⟨x, t, rs, cs, rfl, ⟨dx, p, xs, hx, hp, tx⟩, ok, ht, hcs, q⟩ := h
    refine ⟨_, pss_cons (ps_expr (pe_call GC hr rfl DC.m DC.F.kp DC.b .nil pass0 (pa_cons (pv 1) pa_nil))) (pss_one (ps_ret (pe_call GR hr rfl U.R.m U.R.F.kp U.R.b .nil pass0 (pa_cons (pe_fld (pv 0) rfl) (pa_cons (pv 1) pa_nil))))), ?_⟩
    refine ⟨_, rfl, t, cs, rfl, ht, hcs, fun H1 sm => ?_⟩
    exact ⟨_, rfl, x, C, dx, _, _, rfl, sm _ _ hx, c, nh, rfl, _, rfl, p, t, xs, rs, cs, rfl, Same.pt sm hp, tx.mono (TK.same sm), ok, ht.mono (TK.same sm), fun H2 p2 ns sm2 => q _ p2 ns (sm.trans sm2)⟩
end
end Cr

namespace Cr
open PySem PySem.Spec PyProof.Rows L2

theorem SB.fresh {S : Addr} {H A B : Hp} (h : Same H A) (sb : SB S A B) (n : H S = none) : Same H B := fun b o e => sb b o (ne_of_none e n) (h b o e)
theorem RulesOk.up {n m : Nat} {rs : List Rule} (h : RulesOk n rs) (hm : n ≤ m) : RulesOk m rs := ⟨h.each, h.nd, Nat.le_trans h.few hm⟩
theorem turns_lo (n : Nat) : -(2 ^ 62) ≤ (if (if (3 : Int) < (n : Int) then (3 : Int) else (n : Int)) > 1 then (if (3 : Int) < (n : Int) then (3 : Int) else (n : Int)) else 1) := by omega
theorem turns_hi (n : Nat) : (if (if (3 : Int) < (n : Int) then (3 : Int) else (n : Int)) > 1 then (if (3 : Int) < (n : Int) then (3 : Int) else (n : Int)) else 1) < 2 ^ 62 := by omega
theorem nodict_all {α : Type} {f : α → PyData} (h : ∀ x, (f x).hasDict = false) : ∀ xs : List α, PyData.hasDictAll (xs.map f) = false
  | [] => by simp [PyData.hasDictAll]
  | x :: xs => by rw [List.map_cons, PyData.hasDictAll, h x, nodict_all h xs]; rfl
theorem cond_nodict (c : Cond) : (condD c).hasDict = false := by simp [condD, PyData.hasDict, PyData.hasDictAll]
theorem case_nodict (c : Case) : (caseD c).hasDict = false := by simp only [caseD, PyData.hasDict]; exact nodict_all cond_nodict c
theorem rule_nodict (r : Rule) : (ruleD r).hasDict = false := by simp [ruleD, PyData.hasDict, PyData.hasDictAll, case_nodict]
theorem rules_nodict (rs : List Rule) : (PyData.tuple (rs.map ruleD)).hasDict = false := by simp only [PyData.hasDict]; exact nodict_all rule_nodict rs
theorem rules_dep (rs : List Rule) : (PyData.tuple (rs.map ruleD)).depth ≤ 60 := by have h := dep_all rule_dep rs; simp only [PyData.depth]; omega
section
variable {P : Program} {w : World} {K : PySem.W.Frag} {mg : Str → Option Value} {base : Heap}
theorem FnG.mono {CX : CXT} {j k : Nat} {f : Addr} {sp : Sp} (F : FnG P w K mg base CX j f sp) (h : j ≤ k) : FnG P w K mg base CX k f sp := fun A outer s H us vs Q E hg hr => F A outer s H us vs Q E hg (hr.mono h)
end
/-! ### ints -/
theorem asc_eq : ∀ {a b : List Int}, a.Pairwise (· < ·) → b.Pairwise (· < ·) → (∀ k, k ∈ a ↔ k ∈ b) → a = b
  | [], [], _, _, _ => rfl
  | [], y :: b, _, _, h => absurd ((h y).mpr List.mem_cons_self) (by simp)
  | x :: a, [], _, _, h => absurd ((h x).mp List.mem_cons_self) (by simp)
  | x :: a, y :: b, pa, pb, h => by
    obtain ⟨pa1, pa2⟩ := List.pairwise_cons.mp pa
    obtain ⟨pb1, pb2⟩ := List.pairwise_cons.mp pb
    have e : x = y := by
      rcases List.mem_cons.mp ((h x).mp List.mem_cons_self) with e | e
      · exact e
      rcases List.mem_cons.mp ((h y).mpr List.mem_cons_self) with e2 | e2
      · exact e2.symm
      have := pb1 x e
      have := pa1 y e2
      omega
    subst e
    congr 1
    refine asc_eq pa2 pb2 fun k => ⟨fun z => ?_, fun z => ?_⟩
    · rcases List.mem_cons.mp ((h k).mp (List.mem_cons_of_mem _ z)) with e | e
      · have := pa1 k z; omega
      · exact e
    · rcases List.mem_cons.mp ((h k).mpr (List.mem_cons_of_mem _ z)) with e | e
      · have := pb1 k z; omega
      · exact e
theorem ints_td {H : Hp} : ∀ ns : List Int, TDs H (ns.map V.int) (ns.map PyData.int)
  | [] => .nil
  | n :: ns => .cons (.int n) (ints_td ns)
theorem shaped_ints (ns : List Int) : SeqAt.shaped (.tuple (ns.map PyData.int)) = true := shaped_of (by simp only [PyData.canLay0]; exact lay_all (fun x => by simp [PyData.canLay0]) ns) (by have h := dep_all (f := PyData.int) (n := 0) (fun x => by simp [PyData.depth]) ns; simp only [PyData.depth]; omega)
theorem eqv_ints : ∀ ns : List Int, PyData.eqvAll (ns.map PyData.int) (ns.map PyData.int) = true
  | [] => by simp [PyData.eqvAll]
  | n :: ns => by rw [List.map_cons, PyData.eqvAll, eqv_ints ns]; simp [PyData.eqv]
theorem inV_nums (a : Int) (ns : List Int) : inV (.int a) (ns.map V.int) = decide (a ∈ ns) := by
  have h := inV_ints a (ns.map fun n => (n, 0))
  rw [List.map_map, List.map_map] at h
  rw [show (ns.map V.int) = ns.map ((fun x : Cond => V.int x.1) ∘ fun n => (n, 0)) from rfl, h]
  congr 2
  exact List.map_id ns
theorem flat_nums (ns : List Int) : (ns.map V.int).all flatV = true := by
  have h := flat_ints (ns.map fun n => (n, 0))
  rw [List.map_map] at h
  exact h
theorem pair_shown (a b : PyData) : (PyData.list [a, b]).shown.length ≤ a.shown.length + b.shown.length + 10 := by
  have e : (PyData.list [a, b]).shown = listText [a.shown, b.shown] := by simp only [PyData.shown, PyData.shownAll]
  rw [e]
  have e2 : listText [a.shown, b.shown] = (Str.ofString "[" ++ Str.ofString "" ++ a.shown ++ Str.ofString ", " ++ b.shown ++ Str.ofString "]") := by unfold listText; simp [textFrom]
  rw [e2]
  simp only [strcat_len]
  have h1 : (Str.ofString "[").length = 1 := by decide +kernel
  have h2 : (Str.ofString "").length = 0 := by decide +kernel
  have h3 : (Str.ofString ", ").length = 2 := by decide +kernel
  have h4 : (Str.ofString "]").length = 1 := by decide +kernel
  omega
theorem two_shown {d : PyData} (h1 : d.shown.length ≤ 100000) (h2 : d.showable = true) (h3 : d.hasDict = false) (h4 : d.depth ≤ 40) :
    (PyData.list [d, d]).showable = true ∧ (PyData.list [d, d]).hasDict = false ∧ (PyData.list [d, d]).depth ≤ 60 ∧ (PyData.list [d, d]).shown.length ≤ sizeLine := by
  refine ⟨by simp only [PyData.showable, PyData.showableAll, h2]; rfl, by simp only [PyData.hasDict, PyData.hasDictAll, h3]; rfl, by simp only [PyData.depth, PyData.depthAll]; omega, ?_⟩
  have := pair_shown d d
  rw [sizeLine_eq]; omega
theorem rules_short {rs : List Rule} (h : ∀ r ∈ rs, RuleOk r) (hl : rs.length ≤ 1000) : (PyData.tuple (rs.map ruleD)).shown.length ≤ 100000 ∧ (PyData.tuple (rs.map ruleD)).showable = true := by
  refine ⟨?_, ?_⟩
  · have e : (PyData.tuple (rs.map ruleD)).shown = tupleText (rs.map fun x => (ruleD x).shown) := by simp only [PyData.shown]; rw [shownAll_map]
    rw [e]
    have a := tupleText_le (rs.map fun x => (ruleD x).shown)
    have b : ((rs.map fun x => (ruleD x).shown).map (·.length)).sum ≤ (rs.map fun x => (ruleD x).shown).length * 84 := sum_le fun x hx => by
      obtain ⟨y, hy, rfl⟩ := List.mem_map.mp hx
      exact (rule_shown (h y hy)).1
    rw [List.length_map] at a b
    omega
  · simp only [PyData.showable]
    exact showableAll_map _ _ fun x hx => (rule_shown (h x hx)).2
theorem rules_flat (rs : List Rule) : (PyData.tuple (rs.map ruleD)).depth ≤ 40 := by have h := dep_all rule_dep rs; simp only [PyData.depth]; omega
/-- the results below three, in their order -/
theorem three_eq {rs : List Rule} {cs : Case} {ns : List Int} (h : ResOf rs cs ns) (hr : ∀ r ∈ rs, 0 ≤ r.2 ∧ r.2 ≤ 2) : ns = (([0, 1, 2] : List Int).filter fun k => decide (k ∈ (unb rs cs).map (·.2))) := by
  refine asc_eq h.1 (List.Pairwise.filter _ (by decide)) fun k => ?_
  rw [h.2 k, List.mem_filter, decide_eq_true_eq, List.mem_map]
  constructor
  · rintro ⟨r, hu, rfl⟩
    obtain ⟨h0, h2⟩ := hr r (unb_mem hu)
    refine ⟨?_, r, hu, rfl⟩
    have : r.2 = 0 ∨ r.2 = 1 ∨ r.2 = 2 := by omega
    rcases this with e | e | e <;> rw [e] <;> decide
  · rintro ⟨_, r, hu, e⟩
    exact ⟨r, hu, e⟩
theorem three_take : ∀ i : Nat, i < 3 → ([0, 1, 2] : List Int).take (i + 1) = ([0, 1, 2] : List Int).take i ++ [0 + (i : Int)] := by decide

/-- what the top says of the class -/
structure RulT (K : PySem.W.Frag) (mg : Str → Option Value) (C : Addr) (mc : Value) (pR fR fCl pP fG : Addr) : Prop where
  mR : mg "Rules" = some (.ref C)
  cl : Cls K C
  nh : NoAttr K C "held"
  rd : ClX.CRead K C mc
  cm : ClX.CMet K C mc "read" pR fR
  co : StX.CallO K C fCl
  pr : PropOf K C "rules" pP fG
  ha : PySem.W.findIn K (.ref C) "__class__" = some (some (.builtin "object.__class__"))
  hn : PySem.W.specialIn K (.builtin "object.__class__") "__get__" = some (some (.builtin "getset_descriptor.__get__"))
  htk : PySem.W.takesIn K (.builtin "object.__class__") = some true
  hm : PySem.W.mroIn K C (.type "object") = some true
end Cr

set_option synthInstance.maxSize 4000
set_option synthInstance.maxHeartbeats 1000000
namespace Cr
open PySem PySem.Spec PyProof.Rows L2
variable [Tbl]
/-! ### deciding rules and results, over data -/
def resL (rs : List Rule) (cs : Case) : List Int := ((List.range 100).map fun (k : Nat) => (k : Int)).filter fun k => decide (k ∈ (unb rs cs).map (·.2))
theorem resL_asc (rs : List Rule) (cs : Case) : (resL rs cs).Pairwise (· < ·) := by
  unfold resL
  refine List.Pairwise.filter _ ?_
  exact List.pairwise_map.mpr (List.pairwise_lt_range.imp fun h => by omega)
theorem resL_mem {rs : List Rule} (ok : ∀ r ∈ rs, RuleOk r) (cs : Case) (k : Int) : k ∈ resL rs cs ↔ ∃ r ∈ unb rs cs, r.2 = k := by
  unfold resL
  rw [List.mem_filter, decide_eq_true_eq, List.mem_map]
  constructor
  · rintro ⟨_, h⟩
    obtain ⟨r, hr, e⟩ := List.mem_map.mp h
    exact ⟨r, hr, e⟩
  · rintro ⟨r, hr, e⟩
    have o := ok r (unb_mem hr)
    have l := o.lo
    have h := o.hi
    exact ⟨⟨k.toNat, List.mem_range.mpr (by omega), by omega⟩, List.mem_map.mpr ⟨r, hr, e⟩⟩
theorem resL_of {rs : List Rule} {cs : Case} {ns : List Int} (ok : ∀ r ∈ rs, RuleOk r) (h : ResOf rs cs ns) : ns = resL rs cs := asc_eq h.1 (resL_asc rs cs) fun k => by rw [h.2 k, resL_mem ok]
abbrev qCallR (C : Addr) : Sp := spD (fun a : List Rule × Case => RulesOk 12 a.1 ∧ CaseOk a.2) (fun a => [.ins C a.1, .dat (caseD a.2)]) (fun a r => r = .dat (.tuple ((resL a.1 a.2).map PyData.int)))
theorem toCallR (C : Addr) (vs : List V) (H : Hp) (Q : VK) (E : XK) (h : qCallR C vs H Q E) : spCallR C vs H Q E := by
  obtain ⟨⟨rs, cs⟩, S, ⟨ok, okc⟩, hS, hv, q⟩ := h
  obtain ⟨v1, v2, rfl, ⟨x, rfl, hold⟩, h2⟩ := hv.two
  have td := sv_td h2 (case_plain cs)
  obtain ⟨t, rfl⟩ := td_ref td
  refine ⟨x, t, rs, cs, rfl, hold, ok, td, okc, fun H' p ns sm hp res => ?_⟩
  obtain rfl := resL_of ok.each res
  exact q _ H' (.dat (.tuple _)) (sameGe hS sm) (RD.tup hp (ints_td _).rd) rfl
abbrev qNeedC : Sp := spD (fun c : Case => CaseOk c) (fun c => [.dat (caseD c)]) (fun _ r => r = .dat .none)
theorem toNeedC (vs : List V) (H : Hp) (Q : VK) (E : XK) (h : qNeedC vs H Q E) : spNeedCase vs H Q E := by
  obtain ⟨cs, S, ok, hS, hv, q⟩ := h
  obtain ⟨v, rfl, h1⟩ := hv.one
  have td := sv_td h1 (case_plain cs)
  obtain ⟨t, rfl⟩ := td_ref td
  exact ⟨t, cs, rfl, td, ok, fun H' sm => q _ H' (.dat .none) (sameGe hS sm) .non rfl⟩
abbrev qDr : Sp := spD (fun a : List Rule × Case => RulesOk 12 a.1 ∧ CaseOk a.2) (fun a => [.dat (.tuple (a.1.map ruleD)), .dat (caseD a.2)]) (fun a r => r = .dat (.tuple ((unb a.1 a.2).map ruleD)))
theorem toDr (vs : List V) (H : Hp) (Q : VK) (E : XK) (h : qDr vs H Q E) : spDeciding vs H Q E := by
  obtain ⟨⟨rs, cs⟩, S, ⟨ok, okc⟩, hS, hv, q⟩ := h
  obtain ⟨v1, v2, rfl, h1, h2⟩ := hv.two
  have t1 := sv_td h1 (rules_plain rs)
  have t2 := sv_td h2 (case_plain cs)
  obtain ⟨b, rfl⟩ := td_ref t2
  cases t1 with
  | tup hp tx => exact ⟨_, b, _, rs, cs, rfl, hp, tx, ok, t2, fun H' p ys sm hp ty => q _ H' (.dat (.tuple _)) (sameGe hS sm) (RD.tup hp ty.rd) rfl⟩
section
variable {P : Program} {w : World} {K : PySem.W.Frag} {mg : Str → Option Value} {base : Heap} {f : Addr} {fd : FuncData}
abbrev qDecides (C : Addr) : Sp := spD (fun a : List Rule × Case => RulesOk 12 a.1 ∧ CaseOk a.2) (fun a => [.ins C a.1, .dat (caseD a.2)]) (fun a r => r = .dat (.tuple ((unb a.1 a.2).map ruleD)))
abbrev n_dec : List Str := ["rules", "case"]
theorem sc_dec : FnScope n_dec ["rules", "case"] (defScope s_deciding) := ⟨rfl, rfl, rfl, by decide +kernel, rfl, by decide +kernel, by decide +kernel⟩
theorem ok_dec {C : Addr} (F : Fun K "deciding" "deciding" s_deciding f fd) (B : Blt mg) (hNeedR : Has P w K mg base 1 "need_rules" ["thing"] (qNeedR C)) (hNeedC : Has P w K mg base 4 "need_case" ["thing"] qNeedC) (hP : HasP P w K mg base C "rules") (hDr : Has P w K mg base 4 "deciding_rules" ["rules", "case"] qDr) : FnOk P w K mg base CX0 5 f fd ["rules", "case"] (qDecides C) := by
  refine fnD F sc_dec (fun _ => rfl) fun cdv A outer s H E hr => ⟨_, _, (pss_cons (ps_expr (pe_callH hNeedR (hr.mono (by decide)) rfl (pa_cons (pv 0) pa_nil)))
      (pss_cons (ps_expr (pe_callH hNeedC (hr.mono (by decide)) rfl (pa_cons (pv 1) pa_nil)))
      (pss_one (ps_ret (pe_callH hDr (hr.mono (by decide)) rfl (pa_cons (pe_propH hP (hr.mono (by decide)) (pv 0)) (pa_cons (pv 1) pa_nil))))))), inferInstance, fun a ha => ?_⟩
  obtain ⟨rs, cs⟩ := a
  obtain ⟨ok, okc⟩ := ha
  dsimp only at ok okc
  refine ⟨rs, trivial, ⟨⟨rfl, rfl⟩, trivial⟩, fun x hx => ?_⟩
  subst hx
  refine ⟨cs, okc, ⟨rfl, trivial⟩, fun x hx => ?_⟩
  subst hx
  refine ⟨rfl, (rs, cs), ⟨ok, okc⟩, ⟨rfl, rfl, trivial⟩, fun x hx => ?_⟩
  subst hx
  exact ⟨_, ⟨noLs_map rule_noL _, rfl⟩, rfl⟩
end
abbrev qHasRule : Sp := spD (fun a : List Rule × Rule => RulesOk 12 a.1 ∧ RuleOk a.2) (fun a => [.dat (.tuple (a.1.map ruleD)), .dat (ruleD a.2)]) (fun a r => r = .dat (.bool (decide (a.2 ∈ a.1))))
abbrev qContains (C : Addr) : Sp := spD (fun a : List Rule × Rule => RulesOk 12 a.1 ∧ RuleOk a.2) (fun a => [.ins C a.1, .dat (ruleD a.2)]) (fun a r => r = .dat (.bool (decide (a.2 ∈ a.1))))
def sumL (rs ss : List Rule) : List Rule := rs ++ ss.filter fun r => decide (r ∉ rs)
abbrev qJoined : Sp := spD (fun a : List Rule × List Rule => RulesOk 12 a.1 ∧ RulesOk 12 a.2 ∧ (sumL a.1 a.2).length ≤ 12) (fun a => [.dat (.tuple (a.1.map ruleD)), .dat (.tuple (a.2.map ruleD))]) (fun a r => r = .dat (.tuple ((sumL a.1 a.2).map ruleD)))
abbrev qAdd (C : Addr) : Sp := spD (fun a : List Rule × List Rule => RulesOk 12 a.1 ∧ RulesOk 12 a.2 ∧ (sumL a.1 a.2).length ≤ 12) (fun a => [.ins C a.1, .ins C a.2]) (fun a r => r = .ins C (sumL a.1 a.2))
abbrev ruleSort (rs : List Rule) : List Rule := rs.mergeSort (PySem.W.dataLe false ruleD)
abbrev qEqR (C : Addr) : Sp := spD (fun _ : List Rule × List Rule => True) (fun a => [.ins C a.1, .ins C a.2]) (fun a r => r = .dat (.bool (decide (ruleSort a.1 = ruleSort a.2))))
theorem sum_ok {rs ss : List Rule} (h1 : RulesOk 12 rs) (h2 : RulesOk 12 ss) (h : (sumL rs ss).length ≤ 12) : RulesOk 12 (sumL rs ss) := by
  refine ⟨fun r hr => ?_, ?_, h⟩
  · rcases List.mem_append.mp hr with z | z
    · exact h1.each r z
    · exact h2.each r (List.mem_filter.mp z).1
  · refine List.nodup_append.mpr ⟨h1.nd, h2.nd.filter _, fun a ha b hb e => ?_⟩
    have := (List.mem_filter.mp hb).2
    rw [decide_eq_true_eq] at this
    exact this (e ▸ ha)
theorem eqv_rulesT (a b : List Rule) : PyData.eqv (.tuple (a.map ruleD)) (.tuple (b.map ruleD)) = decide (a = b) := by
  have key : ∀ a b : List Rule, PyData.eqvAll (a.map ruleD) (b.map ruleD) = decide (a = b) := fun a => by
    induction a with
    | nil => intro b; cases b <;> simp [PyData.eqvAll]
    | cons x a ih =>
      intro b
      cases b with
      | nil => simp [PyData.eqvAll]
      | cons y b =>
        rw [List.map_cons, List.map_cons]
        simp only [PyData.eqvAll, eqv_rule, ih b]
        by_cases h1 : x = y <;> by_cases h2 : a = b <;> simp [h1, h2]
  simp only [PyData.eqv, key]
theorem eqv_rulesL (a b : List Rule) : PyData.eqv (.list (a.map ruleD)) (.list (b.map ruleD)) = decide (a = b) := by
  have h := eqv_rulesT a b
  simp only [PyData.eqv] at h ⊢
  exact h
end Cr

set_option synthInstance.maxSize 4000
set_option synthInstance.maxHeartbeats 1000000
namespace Cr
open PySem PySem.Spec PyProof.Rows L2
variable [Tbl]
section
variable {P : Program} {w : World} {K : PySem.W.Frag} {mg : Str → Option Value} {base : Heap} {f : Addr} {fd : FuncData}
abbrev n_hasR : List Str := ["rules", "thing"]
theorem sc_hasR : FnScope n_hasR ["rules", "thing"] (defScope s_has_rule) := ⟨rfl, rfl, rfl, by decide +kernel, rfl, by decide +kernel, by decide +kernel⟩
theorem ok_hasR (F : Fun K "has_rule" "has_rule" s_has_rule f fd) (hIsRule : Has P w K mg base 4 "is_rule" ["thing"] qIsRule) : FnOk P w K mg base CX0 5 f fd ["rules", "thing"] qHasRule := by
  refine fnD F sc_hasR (fun _ => rfl) fun cdv A outer s H E hr => ⟨_, _, (pss_one (ps_ret (pe_and (pe_callH hIsRule (hr.mono (by decide)) rfl (pa_cons (pv 1) pa_nil)) (pe_one (pe_cmpR (show OpR _ (compareOp .In) (rInT K) from op_inT hr.u65) (pv 1) (pv 0) (by rfl)))))), inferInstance, fun a ha => ?_⟩
  obtain ⟨rs, r⟩ := a
  refine ⟨r, ha.2, ⟨rfl, trivial⟩, fun x hx => ?_⟩
  subst hx
  refine ⟨shaped_rule r, shaped_rulesT rs, _, ⟨rfl, rfl⟩, ?_⟩
  show R.dat (.bool _) = R.dat (.bool _)
  rw [any_rule]
  rfl
abbrev n_join : List Str := ["one", "other", "both", "rule"]
theorem sc_join : FnScope n_join ["one", "other"] (defScope s_joined) := ⟨rfl, rfl, rfl, by decide +kernel, rfl, by decide +kernel, by decide +kernel⟩
theorem ok_join (F : Fun K "joined" "joined" s_joined f fd) (B : Blt mg) (N : Nums mg) : FnOk P w K mg base CX0 1 f fd ["one", "other"] qJoined := by
  obtain ⟨t12, n12⟩ := N.rules
  refine fnD F sc_join (fun _ => rfl) fun cdv A outer s H E hr => ⟨_, _, (pss_cons (ps_set (i := 2) sc_join.nd rfl (.inl rfl) (pe_op (show OpR _ (binaryOp .Add) (rCatF K) from op_catF) (pv 0) (pe_callTy (show CallR _ (.type "tuple") (rTupE K) from call_tupF) (by rfl) B.tuple (by decide +kernel) (pa_cons (pe_lc (own := [("rule", 3)]) (g := (gName 3)) rfl sc_join.nd (pi_tup (pv 1)) (blkOk_by (own := [("rule", 3)]) (N := n_join) (sc := defScope s_joined) (by decide +kernel)) (fun _ _ _ _ _ => (pg_name (i := 3) sc_join.nd rfl (Or.inl rfl))) (fun _ _ _ _ _ => (pts_one (pt_cmpR (show OpR _ (compareOp .NotIn) (rNotInT K) from op_notInT hr.u65) (pv 3) (pv 0) (by rfl)))) (fun _ _ _ _ _ => (pv 3))) pa_nil))))
      (pss_cons (ps_if (pt_cmpR op_gt (pe_callB (show CallR _ (.builtin "len") (rLenE K) from call_len_seq) (by rfl) B.len PySem.boot_len (pa_cons (pv 2) pa_nil)) (pe_glob (v := .int 12) rfl n12 ⟨_, rfl⟩) (nomark _)) (pss_one ps_never) pss_nil)
      (pss_one (ps_ret (pv 2))))), inferInstance, fun a ha => ?_⟩
  obtain ⟨rs, ss⟩ := a
  obtain ⟨h1, h2, h3⟩ := ha
  dsimp only at h1 h2 h3
  have l1 := h1.few
  have l2 := h2.few
  refine dLc_pure (as := ss) (enc := ruleD) (fun r => decide (r ∉ rs)) ruleD (st := true) (fun q h => h) (by omega) (fun r hr k hk => ?_) ?_
  · refine ⟨shaped_rule r, shaped_rulesT rs, ?_⟩
    show if (!((rs.map ruleD).any fun z => PyData.eqv z (ruleD r))) = true then _ else _
    rw [any_rule]
    by_cases h : r ∈ rs
    · rw [show (!decide (r ∈ rs)) = false by simp [h]]
      rw [if_neg (by simp [h])] at hk
      exact hk
    · rw [show (!decide (r ∈ rs)) = true by simp [h]]
      rw [if_pos (by simp [h])] at hk
      exact hk
  · have e : rs.map ruleD ++ (ss.filter fun r => decide (r ∉ rs)).map ruleD = (sumL rs ss).map ruleD := by unfold sumL; rw [List.map_append]
    have hl : (rs.map ruleD).length + ((ss.filter fun r => decide (r ∉ rs)).map ruleD).length ≤ 1000000 := by
      have := List.length_filter_le (fun r => decide (r ∉ rs)) ss
      simp only [List.length_map]
      omega
    refine ⟨hl, _, rfl, ?_⟩
    rw [e]
    show if decide ((12 : Int) < (((sumL rs ss).map ruleD).length : Nat)) = true then False else _
    rw [if_neg (by rw [List.length_map]; simp; omega)]
    exact ⟨_, ⟨noLs_map rule_noL _, rfl⟩, rfl⟩
abbrev n_cont : List Str := ["self", "x"]
theorem sc_cont : FnScope n_cont ["self", "x"] (defScope s_K_contains) := ⟨rfl, rfl, rfl, by decide +kernel, rfl, by decide +kernel, by decide +kernel⟩
theorem ok_cont {C : Addr} {qc : Str} (F : Fun K "__contains__" qc s_K_contains f fd) (c : Cls K C) (nh : NoAttr K C "held") (hHasR : Has P w K mg base 5 "has_rule" ["rules", "thing"] qHasRule) : FnOk P w K mg base CX0 6 f fd ["self", "x"] (qContains C) := by
  refine fnD F sc_cont (fun _ => rfl) fun cdv A outer s H E hr => ⟨_, _, (pss_one (ps_ret (pe_callH hHasR (hr.mono (by decide)) rfl (pa_cons (pe_fld (pv 0) rfl) (pa_cons (pv 1) pa_nil))))), inferInstance, fun a ha => ?_⟩
  obtain ⟨rs, r⟩ := a
  refine ⟨c, nh, rfl, (rs, r), ha, ⟨rfl, rfl, trivial⟩, fun x hx => ?_⟩
  subst hx
  exact ⟨_, ⟨rfl, rfl⟩, rfl⟩
/-- what makes a list of rules -/
def MkR (P : Program) (w : World) (K : PySem.W.Frag) (mg : Str → Option Value) (base : Heap) (n : Nat) (C fO : Addr) : Prop := Mk K C fO ∧ FnR P w K mg base CX0 n fO (spMk C)
abbrev n_addR : List Str := ["self", "other", "both"]
theorem sc_addR : FnScope n_addR ["self", "other"] (defScope s_K_add) := ⟨rfl, rfl, rfl, by decide +kernel, rfl, by decide +kernel, by decide +kernel⟩
theorem ok_addR {C fO : Addr} {qc : Str} (F : Fun K "__add__" qc s_K_add f fd) (c : Cls K C) (nh : NoAttr K C "held") (hC : mg "Rules" = some (.ref C)) (hMk : MkR P w K mg base 7 C fO) (hNeedR : Has P w K mg base 1 "need_rules" ["thing"] (qNeedR C)) (hJoin : Has P w K mg base 1 "joined" ["one", "other"] qJoined) :
    FnOk P w K mg base CX0 9 f fd ["self", "other"] (qAdd C) := by
  refine fnD F sc_addR (fun _ => rfl) fun cdv A outer s H E hr => ⟨_, _, (pss_cons (ps_expr (pe_callH hNeedR (hr.mono (by decide)) rfl (pa_cons (pv 1) pa_nil)))
      (pss_cons (ps_set (i := 2) sc_addR.nd rfl (.inl rfl) (pe_callH hJoin (hr.mono (by decide)) rfl (pa_cons (pe_fld (pv 0) rfl) (pa_cons (pe_fld (pv 1) rfl) pa_nil))))
      (pss_one (ps_ret (pe_makeLS (E := E0) (pe_glob (v := .ref C) rfl hC rfl) hMk.1 hMk.2 (hr.mono (by decide)) passE0 (pv 2)))))), inferInstance, fun a ha => ?_⟩
  obtain ⟨rs, ss⟩ := a
  obtain ⟨h1, h2, h3⟩ := ha
  refine ⟨ss, trivial, ⟨⟨rfl, rfl⟩, trivial⟩, fun x _ => ?_⟩
  refine ⟨c, nh, rfl, c, nh, rfl, (rs, ss), ⟨h1, h2, h3⟩, ⟨rfl, rfl, trivial⟩, fun y hy => ?_⟩
  subst hy
  refine ⟨_, rfl, ?_⟩
  exact ⟨sumL rs ss, rfl, sum_ok h1 h2 h3, _, rfl, rfl⟩
abbrev n_eqR : List Str := ["self", "other"]
theorem sc_eqR : FnScope n_eqR ["self", "other"] (defScope s_K_eq) := ⟨rfl, rfl, rfl, by decide +kernel, rfl, by decide +kernel, by decide +kernel⟩
theorem ok_eqR {C : Addr} {qc : Str} (F : Fun K "__eq__" qc s_K_eq f fd) (B : Blt mg) (c : Cls K C) (nh : NoAttr K C "held") (hC : mg "Rules" = some (.ref C)) (T : InsT K C) : FnOk P w K mg base CX0 1 f fd ["self", "other"] (qEqR C) := by
  refine fnD F sc_eqR (fun _ => rfl) fun cdv A outer s H E hr => ⟨_, _, (pss_one (ps_ret (pe_and (pe_callB (show CallR _ (.builtin "isinstance") (rIsi K) from call_isi) (by rfl) B.isinstance boot_isinstance' (pa_cons (pv 1) (pa_cons (pe_glob (v := .ref C) rfl hC rfl) pa_nil))) (pe_one (pe_cmpR (show OpR _ (compareOp .Eq) (rEqD K) from op_eqD hr.units) (pe_callB (cr_sortedE (enc := ruleD) hr.u66) (by rfl) B.sorted (by decide +kernel) (pa_cons (pe_fld (pv 0) rfl) pa_nil)) (pe_callB (cr_sortedE (enc := ruleD) hr.u66) (by rfl) B.sorted (by decide +kernel) (pa_cons (pe_fld (pv 1) rfl) pa_nil)) (nomark _)))))), inferInstance, fun a ha => ?_⟩
  obtain ⟨rs, ss⟩ := a
  refine ⟨T, true, if_pos (beq_self_eq_true _), ?_⟩
  have al : ∀ l : List Rule, PySem.W.AllAlike (l.map ruleD) := fun l => PySem.W.AllAlike.of alike_rule
  have so : ∀ l : List Rule, PySem.W.Sortable (l.map ruleD) := fun l => PySem.W.Sortable.tuples fun b => ⟨_, _, rfl⟩
  have dp : ∀ l : List Rule, ∀ b ∈ l, (ruleD b).depth ≤ 60 := fun l b _ => Nat.le_trans (rule_dep b) (by decide)
  refine ⟨c, nh, rfl, rs, rfl, al _, so _, dp _, c, nh, rfl, ss, rfl, al _, so _, dp _, shaped_rulesL _, shaped_rulesL _, _, ⟨rfl, rfl⟩, ?_⟩
  show R.dat (.bool _) = R.dat (.bool _)
  rw [show (if false = true then !PyData.eqv (.list ((ruleSort rs).map ruleD)) (.list ((ruleSort ss).map ruleD)) else PyData.eqv (.list ((ruleSort rs).map ruleD)) (.list ((ruleSort ss).map ruleD))) = PyData.eqv (.list ((ruleSort rs).map ruleD)) (.list ((ruleSort ss).map ruleD)) from rfl, eqv_rulesL]
end
/-! ### what the answers are -/
def namedC (rs : List Rule) (cs : Case) : Case := cs.filter fun c => decide (c ∈ rs.flatMap (·.1))
theorem CaseOk.filter {cs : Case} (h : CaseOk cs) (p : Cond → Bool) : CaseOk (cs.filter p) := ⟨fun x hx => h.each x (List.mem_filter.mp hx).1, h.asc.filter p⟩
theorem inB_named {rs : List Rule} {cs : Case} {r : Rule} (hr : r ∈ rs) : inB r.1 (namedC rs cs) = inB r.1 cs := by
  unfold inB namedC
  rw [Bool.eq_iff_iff, List.all_eq_true, List.all_eq_true]
  constructor
  · intro h c hc
    have := h c hc
    rw [decide_eq_true_eq] at this ⊢
    exact (List.mem_filter.mp this).1
  · intro h c hc
    have := h c hc
    rw [decide_eq_true_eq] at this ⊢
    exact List.mem_filter.mpr ⟨this, by rw [decide_eq_true_eq]; exact List.mem_flatMap.mpr ⟨r, hr, hc⟩⟩
theorem unb_named (rs : List Rule) (cs : Case) : unb rs (namedC rs cs) = unb rs cs := by
  have e : rs.filter (fun r => inB r.1 (namedC rs cs)) = rs.filter fun r => inB r.1 cs := List.filter_congr fun r hr => inB_named hr
  unfold unb
  rw [e]
theorem resL_named (rs : List Rule) (cs : Case) : resL rs (namedC rs cs) = resL rs cs := by unfold resL; rw [unb_named]
theorem eqv_intsT (a b : List Int) : PyData.eqv (.tuple (a.map PyData.int)) (.tuple (b.map PyData.int)) = decide (a = b) := by
  have key : ∀ a b : List Int, PyData.eqvAll (a.map PyData.int) (b.map PyData.int) = decide (a = b) := fun a => by
    induction a with
    | nil => intro b; cases b <;> simp [PyData.eqvAll]
    | cons x a ih =>
      intro b
      cases b with
      | nil => simp [PyData.eqvAll]
      | cons y b =>
        rw [List.map_cons, List.map_cons]
        simp only [PyData.eqvAll, PyData.eqv, ih b]
        by_cases h1 : x = y <;> by_cases h2 : a = b <;> simp [h1, h2]
  simp only [PyData.eqv, key]
theorem eqv_intsL (a b : List Int) : PyData.eqv (.list (a.map PyData.int)) (.list (b.map PyData.int)) = decide (a = b) := by
  have h := eqv_intsT a b
  simp only [PyData.eqv] at h ⊢
  exact h
theorem any_int (ns : List Int) (k : Int) : ((ns.map PyData.int).any fun z => PyData.eqv z (.int k)) = decide (k ∈ ns) := by
  induction ns with
  | nil => simp
  | cons n ns ih =>
    rw [List.map_cons, List.any_cons, ih]
    simp only [PyData.eqv]
    by_cases h : n = k
    · simp [h]
    · have h' : ¬ k = n := fun e => h e.symm
      simp [h, h']
theorem sort_ints {ns : List Int} (h : ns.Pairwise (· < ·)) : ns.mergeSort (PySem.W.dataLe false PyData.int) = ns := by
  have e : PySem.W.dataLe false PyData.int = fun a b : Int => decide (a ≤ b) := PySem.W.dataLe_int (fun b : Int => b)
  refine List.mergeSort_of_pairwise ?_
  rw [e]
  exact h.imp fun {a b} hab => by simp; omega
theorem shaped_intsL (ns : List Int) : SeqAt.shaped (.list (ns.map PyData.int)) = true := by
  have h := shaped_ints ns
  revert h
  simp only [SeqAt.shaped, PyData.canLay0, PyData.depth]
  exact id
theorem resL_nil {rs : List Rule} (ok : ∀ r ∈ rs, RuleOk r) (cs : Case) : (resL rs cs = []) ↔ unb rs cs = [] := by
  constructor
  · intro h
    cases e : unb rs cs with
    | nil => rfl
    | cons r l =>
      have : r.2 ∈ resL rs cs := (resL_mem ok cs r.2).mpr ⟨r, by rw [e]; exact List.mem_cons_self, rfl⟩
      rw [h] at this
      cases this
  · intro h
    cases e : resL rs cs with
    | nil => rfl
    | cons k l =>
      obtain ⟨r, hr, _⟩ := (resL_mem ok cs k).mp (by rw [e]; exact List.mem_cons_self)
      rw [h] at hr
      cases hr
/-! ### sums -/
theorem mem_sum {rs ss : List Rule} {r : Rule} : r ∈ sumL rs ss ↔ r ∈ rs ∨ r ∈ ss := by
  unfold sumL
  rw [List.mem_append, List.mem_filter, decide_eq_true_eq]
  constructor
  · rintro (h | ⟨h, _⟩)
    · exact .inl h
    · exact .inr h
  · rintro (h | h)
    · exact .inl h
    · by_cases q : r ∈ rs
      · exact .inl q
      · exact .inr ⟨h, q⟩
theorem mem_unb {rs : List Rule} {cs : Case} {r : Rule} : r ∈ unb rs cs ↔ r ∈ rs ∧ inB r.1 cs = true ∧ ∀ q ∈ rs, inB q.1 cs = true → strictB r.1 q.1 = false := by
  unfold unb beatB
  rw [List.mem_filter, List.mem_filter, Bool.not_eq_true', List.any_eq_false]
  constructor
  · rintro ⟨⟨h1, h2⟩, h3⟩
    exact ⟨h1, h2, fun q hq hi => by
      have := h3 q (List.mem_filter.mpr ⟨hq, hi⟩)
      simpa using this⟩
  · rintro ⟨h1, h2, h3⟩
    exact ⟨⟨h1, h2⟩, fun q hq => by
      obtain ⟨a, b⟩ := List.mem_filter.mp hq
      simpa using h3 q a b⟩
theorem unb_sum {rs ss : List Rule} {cs : Case} {r : Rule} (h : r ∈ unb (sumL rs ss) cs) : r ∈ unb rs cs ∨ r ∈ unb ss cs := by
  obtain ⟨h1, h2, h3⟩ := mem_unb.mp h
  rcases mem_sum.mp h1 with q | q
  · exact .inl (mem_unb.mpr ⟨q, h2, fun p hp hi => h3 p (mem_sum.mpr (.inl hp)) hi⟩)
  · exact .inr (mem_unb.mpr ⟨q, h2, fun p hp hi => h3 p (mem_sum.mpr (.inr hp)) hi⟩)
theorem sum_mem_comm (rs ss : List Rule) (r : Rule) : r ∈ sumL rs ss ↔ r ∈ sumL ss rs := by rw [mem_sum, mem_sum]; exact Or.comm
theorem unb_ext {rs ss : List Rule} (h : ∀ r, r ∈ rs ↔ r ∈ ss) (cs : Case) (r : Rule) : r ∈ unb rs cs ↔ r ∈ unb ss cs := by
  rw [mem_unb, mem_unb]
  exact ⟨fun ⟨a, b, c⟩ => ⟨(h r).mp a, b, fun q hq => c q ((h q).mpr hq)⟩, fun ⟨a, b, c⟩ => ⟨(h r).mpr a, b, fun q hq => c q ((h q).mp hq)⟩⟩
theorem resL_ext {rs ss : List Rule} (o1 : ∀ r ∈ rs, RuleOk r) (o2 : ∀ r ∈ ss, RuleOk r) (h : ∀ r, r ∈ rs ↔ r ∈ ss) (cs : Case) : resL rs cs = resL ss cs := by
  refine asc_eq (resL_asc _ _) (resL_asc _ _) fun k => ?_
  rw [resL_mem o1, resL_mem o2]
  exact ⟨fun ⟨r, a, b⟩ => ⟨r, (unb_ext h cs r).mp a, b⟩, fun ⟨r, a, b⟩ => ⟨r, (unb_ext h cs r).mpr a, b⟩⟩
theorem toks_inj {x y : PyData} (h : PySem.W.alike x y = true) (e : PySem.W.keyToks x = PySem.W.keyToks y) : PyData.eqv x y = true := by
  cases q : PyData.eqv x y with
  | true => rfl
  | false =>
    have k := (PySem.W.toks_eqv x y h).2 q [] [.inl 0]
    rw [← e, PySem.W.lex_pre] at k
    have z : PyProof.Rows.lexLt PyProof.Rows.itemOrd (PySem.W.keyToks x) (PySem.W.keyToks x) = false := PyProof.Rows.lex_irrefl _
    rw [z] at k
    cases k
theorem rule_le_anti (a b : Rule) (h1 : PySem.W.dataLe false ruleD a b = true) (h2 : PySem.W.dataLe false ruleD b a = true) : a = b := by
  have h1' : (!(PyProof.Rows.listOrd PyProof.Rows.itemOrd).blt (PySem.W.keyToks (ruleD b)) (PySem.W.keyToks (ruleD a))) = true := h1
  have h2' : (!(PyProof.Rows.listOrd PyProof.Rows.itemOrd).blt (PySem.W.keyToks (ruleD a)) (PySem.W.keyToks (ruleD b))) = true := h2
  rw [Bool.not_eq_true'] at h1' h2'
  have e := (PyProof.Rows.listOrd PyProof.Rows.itemOrd).total _ _ h2' h1'
  have := toks_inj (alike_rule a b) e
  rw [eqv_rule, decide_eq_true_eq] at this
  exact this
theorem ruleSort_perm {a b : List Rule} (h : a.Perm b) : ruleSort a = ruleSort b := by
  have T := PySem.W.sortLe_total (PyProof.Rows.listOrd PyProof.Rows.itemOrd) false fun r : Rule => PySem.W.keyToks (ruleD r)
  have s : ∀ l : List Rule, (ruleSort l).Pairwise fun x y => PySem.W.dataLe false ruleD x y = true := fun l => PySem.W.sort_pairwise T l
  exact List.Perm.eq_of_pairwise (fun x y _ _ => rule_le_anti x y) (s a) (s b) ((List.mergeSort_perm a _).trans (h.trans (List.mergeSort_perm b _).symm))
theorem ruleSort_ext {a b : List Rule} (n1 : a.Nodup) (n2 : b.Nodup) (h : ∀ r, r ∈ a ↔ r ∈ b) : ruleSort a = ruleSort b := ruleSort_perm ((List.perm_ext_iff_of_nodup n1 n2).mpr h)
theorem unb_nodup {rs : List Rule} (h : rs.Nodup) (cs : Case) : (unb rs cs).Nodup := (h.filter _).filter _
/-! ### a rule's own case -/
theorem inB_refl (cs : Case) : inB cs cs = true := by unfold inB; rw [List.all_eq_true]; intro c hc; rw [decide_eq_true_eq]; exact hc
theorem CaseOk.nodup {cs : Case} (h : CaseOk cs) : cs.Nodup := h.asc.imp fun {x y} hxy e => by rw [e] at hxy; omega
theorem nsub_len {α : Type} [DecidableEq α] : ∀ {a b : List α}, a.Nodup → (∀ x ∈ a, x ∈ b) → a.length ≤ b.length
  | [], _, _, _ => Nat.zero_le _
  | x :: a, b, hn, h => by
    have hx := h x List.mem_cons_self
    obtain ⟨n1, n2⟩ := List.nodup_cons.mp hn
    have := nsub_len (b := b.erase x) n2 fun y hy => (List.mem_erase_of_ne (a := y) (b := x) (l := b) (fun e : y = x => n1 (e ▸ hy))).mpr (h y (List.mem_cons_of_mem _ hy))
    rw [List.length_erase_of_mem hx] at this
    have p := List.length_pos_of_mem hx
    rw [List.length_cons]
    omega
theorem inB_len {a b : Case} (ha : a.Nodup) (h : inB a b = true) : a.length ≤ b.length := by
  unfold inB at h
  rw [List.all_eq_true] at h
  exact nsub_len ha fun c hc => by have := h c hc; rw [decide_eq_true_eq] at this; exact this
theorem unb_own {rs : List Rule} (ok : ∀ r ∈ rs, RuleOk r) {r : Rule} (hr : r ∈ rs) : r ∈ unb rs r.1 := by
  refine mem_unb.mpr ⟨hr, inB_refl _, fun q hq hi => ?_⟩
  have l := inB_len (ok q hq).case.nodup hi
  unfold strictB
  rw [decide_eq_false (by omega)]
  rfl
theorem unb_one (r : Rule) : unb [r] r.1 = [r] := by
  unfold unb
  have e : [r].filter (fun q => inB q.1 r.1) = [r] := by rw [List.filter_cons, if_pos (inB_refl _)]; rfl
  rw [e]
  have b : beatB [r] r = false := by
    unfold beatB strictB
    rw [List.any_cons, decide_eq_false (by omega)]
    rfl
  rw [List.filter_cons, if_pos (by rw [b]; rfl)]
  rfl
theorem resL_one {r : Rule} (ok : RuleOk r) : resL [r] r.1 = [r.2] := by
  have o : ∀ q ∈ [r], RuleOk q := fun q hq => by rw [List.mem_singleton.mp hq]; exact ok
  refine asc_eq (resL_asc _ _) (List.pairwise_singleton _ _) fun k => ?_
  rw [resL_mem o, unb_one]
  simp only [List.mem_singleton, exists_eq_left]
  exact eq_comm
end Cr

namespace Cr
open PySem PySem.Spec PyProof.Rows L2
variable [Tbl]
/-! ### sets of nested tuples, made of lists in which some stand twice -/
structure SetM (w : World) (h : Heap) (a : Addr) (L : List (Addr × NestedKey)) (es : Array (Int × Value)) (ep : Nat) (t : SetTable) : Prop extends SetN w h a L es ep t where
  nd : (L.map (·.2)).Nodup
  led : w.params.followText "set-order" = true ∨ t.led = true
section
variable {P : Program} {w : World} {A : Around} {E : Value → Shared → Prop} {s : Shared} {a x : Addr} {L : List (Addr × NestedKey)} {es : Array (Int × Value)} {ep : Nat} {t : SetTable} {k : NestedKey}
/-- a key looked for: it is there, or the first empty slot of its way is found -/
theorem search_m (R : SetN w s.heap a L es ep t) (kL : ∀ p ∈ L, KeyAt s.heap p.2 p.1) (kx : KeyAt s.heap k x) (hu : A.units + 8 < cLine) {K : Nat} (hKf : K < 10 * SetTable.turns t.mask)
    (hK : way t.mask (k.hash w) K ∉ t.place.toList) (hKb : ∀ c, c < K → way t.mask (k.hash w) c ∈ t.place.toList) {Q : SetFound → Shared → Prop} (hin : k ∈ L.map (·.2) → Q (.there none) s) (q : k ∉ L.map (·.2) → Q (.free (way t.mask (k.hash w) K) false) s) :
    ∀ (f c : Nat) (stand : Option SetTable.Probe), stand.getD (t.probeStart (k.hash w)) = nth t.mask (road w t k) c → c ≤ K → K - c < f → (∀ (i : Nat) p, L[i]? = some p → p.2 = k → ∃ c', c ≤ c' ∧ c' < K ∧ t.place.toList[i]? = some (way t.mask (k.hash w) c')) → wpAny (model P w) A (setSearchFrom a (.ref x) (k.hash w) true f stand) Q E s
  | 0, c, stand, _, _, hf, _ => absurd hf (Nat.not_lt_zero _)
  | f + 1, c, stand, hst, hc, hf, hre => by
    obtain ⟨o, ho, hex, hd⟩ := R.ob
    have hgw : ¬ t.gaveWay = true := by unfold SetTable.gaveWay; rw [mask_odd R.tab.mok]; decide
    rw [setSearchFrom_succ]
    refine wpAny_bind (wpAny_setState_of ho hd R.fits ?_)
    dsimp only
    refine wp_if_neg hgw ?_
    try refine wpAny_bind (wpAny_pure ?_)
    have sh : ∀ j, nth t.mask (nth t.mask (road w t k) c) j = nth t.mask (road w t k) (c + j) := fun j => (nth_add t.mask c _ j).symm
    have sj : ∀ j, (nth t.mask (nth t.mask (road w t k) c) j).j = way t.mask (k.hash w) (c + j) := fun j => congrArg SetTable.Probe.j (sh j)
    have spec := go_spec t R.tab.ris R.tab.dm (fun i => (es[i]?.map (·.1)).getD 0) (k.hash w) (10 * SetTable.turns t.mask) (K - c) _ (no_dummy t.mask c (road w t k) rfl) (by omega)
      (fun j hj => by rw [sj]; exact hKb (c + j) (by omega)) (by rw [sj, show c + (K - c) = K by omega]; exact hK)
    have hashAt : ∀ (i : Nat) p, L[i]? = some p → (es[i]?.map (·.1)).getD 0 = p.2.hash w := fun i p hp => by rw [R.row hp]; rfl
    rcases spec with ⟨j, i, hj, hi, hh, hno, hpr⟩ | ⟨hno, hpr⟩
    · have e1 : t.probe (fun i => (es[i]?.map (·.1)).getD 0) (k.hash w) (stand.getD (t.probeStart (k.hash w))) = some (.candidate (way t.mask (k.hash w) (c + j)) i (nth t.mask (road w t k) (c + (j + 1)))) := by
        rw [hst, ← sj, ← sh]
        exact hpr
      rw [e1]
      dsimp only
      rw [sj] at hi
      have hil : i < L.length := by
        have h1 : i < t.place.toList.length := (List.getElem?_eq_some_iff.mp hi).1
        have h2 := R.tab.sz
        rw [List.length_map] at h2
        rw [Array.length_toList] at h1
        omega
      have hp : L[i]? = some L[i] := List.getElem?_eq_getElem hil
      generalize L[i] = p at hp
      have hm : p ∈ L := List.mem_of_getElem? hp
      have on : wpAny (model P w) A (searchRest a (.ref x) (k.hash w) true f es t (way t.mask (k.hash w) (c + j)) i (nth t.mask (road w t k) (c + (j + 1)))) Q E s := by
        unfold searchRest
        rw [R.row hp]
        dsimp only
        refine wpAny_bind (wpAny_holding ((nestedKind P w).eqBool hu ⟨(kL p hm).is, (kL p hm).dp⟩ ⟨kx.is, kx.dp⟩ ?_))
        refine wpAny_bind (wpAny_setState_of ho hd R.fits ?_)
        dsimp only
        by_cases hkk : p.2 = k
        · refine wp_if_pos (by simp [hkk]) ?_
          exact wpAny_pure (hin (List.mem_map.mpr ⟨p, hm, hkk⟩))
        have hneq : decide (p.2 = k) = false := decide_eq_false hkk
        refine wp_if_neg (by rw [hneq]; decide) ?_
        try refine wpAny_bind (wpAny_pure ?_)
        rw [sameMem]
        dsimp only
        have hsl : t.slot (way t.mask (k.hash w) (c + j)) = .live i := slot_live R.tab.ris hi
        simp only [if_true, hsl, R.row hp]
        refine wpAny_bind (wpAny_isSame_ref_self (wpAny_bind (wpAny_pure ?_)))
        simp only [if_true]
        refine wp_if_neg (by rw [hneq]; decide) ?_
        refine search_m R kL kx hu hKf hK hKb hin q f (c + (j + 1)) _ rfl (by omega) (by omega) fun i0 p0 h0 hk0 => ?_
        obtain ⟨c', a1, a2, a3⟩ := hre i0 p0 h0 hk0
        refine ⟨c', Classical.byContradiction fun lt => ?_, a2, a3⟩
        by_cases ec : c' = c + j
        · subst ec
          have s0 := slot_live R.tab.ris a3
          rw [hsl] at s0
          injection s0 with s0
          rw [← s0, hp] at h0
          exact hkk ((congrArg Prod.snd (Option.some.inj h0)).trans hk0)
        · refine hno (c' - c) i0 (by omega) (by rw [sj, show c + (c' - c) = c' by omega]; exact a3) ?_
          exact (hashAt i0 p0 h0).trans (by rw [hk0])
      by_cases hl : t.led = true
      · refine wp_if_neg (by rw [hl]; decide) ?_
        try refine wpAny_bind (wpAny_pure ?_)
        exact on
      · have hl' : t.led = false := by cases q : t.led <;> simp_all
        refine wp_if_pos (by rw [hl']; decide) ?_
        refine wpAny_bind (unseen kx (fun y hy => ?_) ?_)
        · obtain ⟨e, he, ee⟩ := List.mem_map.mp hy
          have he2 : e ∈ es.toList := by have z : e ∈ es ∧ e.1 = k.hash w := by simpa using he
                                         simpa using z.1
          rw [R.rows] at he2
          obtain ⟨p2, hp2, e2⟩ := List.mem_map.mp he2
          exact ⟨p2.2, p2.1, by rw [← ee, ← e2], kL p2 hp2⟩
        · refine wp_if_neg (by decide) ?_
          try refine wpAny_bind (wpAny_pure ?_)
          exact on
    · have e1 : t.probe (fun i => (es[i]?.map (·.1)).getD 0) (k.hash w) (stand.getD (t.probeStart (k.hash w))) = some (.empty (way t.mask (k.hash w) K) none) := by
        have e2 : way t.mask (k.hash w) K = (nth t.mask (nth t.mask (road w t k) c) (K - c)).j := by rw [sj, show c + (K - c) = K by omega]
        rw [hst, e2]
        exact hpr
      rw [e1]
      refine wpAny_pure (q fun hm => ?_)
      obtain ⟨p0, h0, hk0⟩ := List.mem_map.mp hm
      obtain ⟨i0, hi0⟩ := List.mem_iff_getElem?.mp h0
      obtain ⟨c', a1, a2, a3⟩ := hre i0 p0 hi0 hk0
      refine hno (c' - c) i0 (by omega) (by rw [sj, show c + (c' - c) = c' by omega]; exact a3) ?_
      exact (hashAt i0 p0 hi0).trans (by rw [hk0])
end
section
variable {P : Program} {w : World} {A : Around} {E : Value → Shared → Prop} {s : Shared} {a x : Addr} {L : List (Addr × NestedKey)} {es : Array (Int × Value)} {ep : Nat} {t : SetTable} {k : NestedKey}
/-- the table laid anew -/
theorem relay_m {o : Obj} (ho : s.heap.get? a = some o) (hex : o.ExactSet) (hd : o.data = .set es ep t) (hr : es.toList = L.map fun p => (hk w p, Value.ref p.1)) (hsz : t.place.size = es.size) (hdm : t.dummies = #[]) (hfl : es.size ≤ t.mask)
    (nd : (L.map (·.2)).Nodup) (ld : w.params.followText "set-order" = true ∨ t.led = true) (pl : t.plain = true) (few : L.length < 64) {wanted M : Nat} (hw : SetTable.sizeAbove wanted - 1 = M) (hM : MaskOk M) (hw2 : SetTable.sizeAbove wanted ≤ 128) (hn : L.length * 5 < M * 3) {Q : Unit → Shared → Prop}
    (q : ∀ h' L' es' ep' t', Heap.SameBut a s.heap h' → SetM w h' a L' es' ep' t' → L'.Perm L → Q () { s with heap := h' }) : wpAny (model P w) A (setRelay a wanted) Q E s := by
  have hsl : es.size = L.length := by rw [← Array.length_toList, hr, List.length_map]
  have hfits : t.fits es.size = true := by
    unfold SetTable.fits SetTable.fill
    rw [hdm, Bool.and_eq_true, beq_iff_eq, decide_eq_true_eq]
    exact ⟨hsz, show t.place.size + 0 ≤ t.mask by omega⟩
  obtain ⟨t', order, e, hp, T, em, el, ep', ed⟩ := relaid_ok t (hs := es.map (·.1)) (wanted := wanted) hw hM (by rw [Array.size_map, hsl]; omega)
  rw [Array.size_map, hsl] at hp
  obtain ⟨L2, r1, r2, r3⟩ := reorder hr hp
  rw [← r3] at T
  have hs2 : (order.filterMap (es[·]?)).size = es.size := by rw [← Array.length_toList, r1, List.length_map, r2.length_eq, hsl]
  rw [setRelay_eq]
  refine wpAny_bind (wpAny_setState_of ho hd hfits ?_)
  dsimp only
  refine wp_if_neg (by rw [sizeLine_eq]; omega) ?_
  try refine wpAny_bind (wpAny_pure ?_)
  rw [e]
  dsimp only
  refine wpAny_bind (wp_if_neg (by rw [hs2]; simp) ?_)
  try refine wpAny_bind (wpAny_pure ?_)
  refine wpAny_pure ?_
  dsimp only
  refine wpAny_storeSet_of ho hd ?_ (by rw [hs2, hsl, sizeLine_eq]; omega)
  have sb : Heap.SameBut a s.heap (s.heap.update a (Obj.putSet (order.filterMap (es[·]?)) t')) := Heap.SameBut.update ..
  refine q _ L2 (order.filterMap (es[·]?)) (ep + 1) t' sb ⟨⟨⟨_, store_at ho hd, ⟨hex.1, hex.2.1, hex.2.2⟩, rfl⟩, r1, T, by rw [ep']; exact pl, by rw [r2.length_eq, em]; exact hn, by rw [r2.length_eq]; exact few⟩, (r2.map (·.2)).nodup_iff.mpr nd, by rw [el]; exact ld⟩ r2
/-- one more key -/
theorem add_m (R : SetM w s.heap a L es ep t) (kL : ∀ p ∈ L, KeyAt s.heap p.2 p.1) (kx : KeyAt s.heap k x) (hu : A.units + 8 < cLine) (hfew : L.length + 1 < 64) {Q : Bool → Shared → Prop}
    (q : ∀ b h' L' es' ep' t', Heap.SameBut a s.heap h' → SetM w h' a L' es' ep' t' → (k ∈ L.map (·.2) → L' = L) → (k ∉ L.map (·.2) → L'.Perm ((x, k) :: L)) → Q b { s with heap := h' }) : wpAny (model P w) A (setAddHashed a (.ref x) (k.hash w)) Q E s := by
  obtain ⟨o, ho, hex, hd⟩ := R.ob
  have hsl := R.toSetN.count
  have hroom := R.room
  obtain ⟨K, hKf, hK, hKb⟩ := R.tab.first (by rw [List.length_map]; omega) (k.hash w)
  have hbig : K < 100000 := by
    have z : 10 * SetTable.turns t.mask ≤ 1420 := by
      unfold SetTable.turns
      rcases R.tab.mok with e | e | e <;> omega
    omega
  unfold setAddHashed
  refine wpAny_holding ?_
  rw [show (100000 : Nat) = 99999 + 1 from rfl, setAddHashedIn_succ]
  refine wpAny_bind (wpAny_setState_of ho hd R.toSetN.fits ?_)
  dsimp only
  refine wp_if_neg (by simp [byScan, Value.scannable]) ?_
  try refine wpAny_bind (wpAny_pure ?_)
  unfold setSearch
  refine wpAny_bind (search_m R.toSetN kL kx hu hKf hK hKb (fun hm => ?_) (fun hm => ?_) 100000 0 none rfl (Nat.zero_le _) (by omega) fun i p hp hkp => ?_)
  rotate_left 2
  · have hi : (L.map (hk w))[i]? = some (k.hash w) := by rw [List.getElem?_map, hp, ← hkp]; rfl
    have hil : i < t.place.toList.length := by
      have h1 : i < L.length := (List.getElem?_eq_some_iff.mp hp).1
      have h2 := R.tab.sz
      rw [List.length_map] at h2
      rw [Array.length_toList]
      omega
    have hj := List.getElem?_eq_getElem hil
    obtain ⟨c, hc, e⟩ := R.tab.before hK hi hj
    exact ⟨c, Nat.zero_le _, hc, by rw [hj, e]⟩
  · dsimp only
    exact wpAny_pure (q false s.heap L es ep t (Heap.SameBut.refl a s.heap) R (fun _ => rfl) fun z => absurd hm z)
  dsimp only
  refine wpAny_bind (wpAny_setState_of ho hd R.toSetN.fits ?_)
  dsimp only
  obtain ⟨q1, q2, q3, q4, q5, q6, q7, q8, q9⟩ := R.tab.put hK hKb
  have hp1 : (t.put (way t.mask (k.hash w) K)).1.plain = true := by rw [q6]; exact R.plain
  generalize hpt : t.put (way t.mask (k.hash w) K) = pt at q1 q3 q4 q5 q6 q7 q8 q9 hp1 ⊢
  obtain ⟨t1, p⟩ := pt
  dsimp only at q1 q3 q4 q5 q6 q7 q8 q9 hp1 ⊢
  subst q1
  first
    | (refine wpAny_bind ?_; refine wp_if_pos hp1 ?_; refine by_value 8 _ kx.pl _ _ _ ?_)
    | refine wp_if_pos hp1 (wpAny_bind (by_value 8 _ kx.pl _ _ _ ?_))
  simp only [if_true]
  generalize hpp : SetTable.below t.place (way t.mask (k.hash w) K) = p at q2 q3 ⊢
  have hin : (SetTable.insertAt es p (k.hash w, Value.ref x)).toList = (L.take p ++ (x, k) :: L.drop p).map fun p => (hk w p, Value.ref p.1) := by
    rw [SetTable.toList_insertAt, R.rows, List.map_append, List.map_cons, List.map_take, List.map_drop]
  have pm : (L.take p ++ (x, k) :: L.drop p).Perm ((x, k) :: L) := put_perm L p (x, k)
  have hhs : (L.take p ++ (x, k) :: L.drop p).map (hk w) = (L.map (hk w)).take p ++ k.hash w :: (L.map (hk w)).drop p := by rw [List.map_append, List.map_cons, List.map_take, List.map_drop]
  rw [← hhs] at q3
  have hlen : (L.take p ++ (x, k) :: L.drop p).length = L.length + 1 := pm.length_eq
  have hes : (SetTable.insertAt es p (k.hash w, Value.ref x)).size = L.length + 1 := by rw [← Array.length_toList, hin, List.length_map, hlen]
  generalize SetTable.insertAt es p (k.hash w, Value.ref x) = es1 at hin hes ⊢
  generalize L.take p ++ (x, k) :: L.drop p = L1 at pm hlen q3 hin
  have nd1 : (L1.map (·.2)).Nodup := (pm.map (·.2)).nodup_iff.mpr (List.nodup_cons.mpr ⟨hm, R.nd⟩)
  have ld1 : w.params.followText "set-order" = true ∨ t1.led = true := by rw [q5]; exact R.led
  refine wpAny_bind (wpAny_storeSet_of ho hd ?_ (by rw [hes, sizeLine_eq]; omega))
  have sb : Heap.SameBut a s.heap (s.heap.update a (Obj.putSet es1 t1)) := Heap.SameBut.update ..
  have ho1 := store_at (es' := es1) (t' := t1) ho hd
  generalize s.heap.update a (Obj.putSet es1 t1) = h1 at sb ho1 ⊢
  by_cases hf : t1.tooFull = true
  · first
      | (refine wpAny_bind ?_; refine wp_if_pos (by simp [hf]) ?_)
      | (refine wp_if_pos (by simp [hf]) ?_; refine wpAny_bind ?_)
    have hfull : (L.length + 1) * 5 ≥ t1.mask * 3 := by
      unfold SetTable.tooFull at hf
      rw [decide_eq_true_eq, q9, List.length_map] at hf
      exact hf
    rw [hsl]
    have hsz1 : t1.place.size = es1.size := by rw [q3.sz, List.length_map, hlen, hes]
    have two : (t.mask = 7 ∧ L.length = 4) ∨ (t.mask = 31 ∧ L.length = 18) := by
      rcases R.tab.mok with e | e | e
      · left; rw [q4, e] at hfull; rw [e] at hroom; exact ⟨e, by omega⟩
      · right; rw [q4, e] at hfull; rw [e] at hroom; exact ⟨e, by omega⟩
      · exfalso; rw [q4, e] at hfull; omega
    have go : ∀ M, SetTable.sizeAbove (SetTable.grown (L.length + 1)) - 1 = M → MaskOk M → SetTable.sizeAbove (SetTable.grown (L.length + 1)) ≤ 128 → (L.length + 1) * 5 < M * 3 →
        wpAny (model P w) A (setRelay a (SetTable.grown (L.length + 1))) (fun _ s' => wpAny (model P w) A (pure true) Q E s') E { s with heap := h1 } := fun M y1 y2 y3 y4 => by
      refine relay_m (s := { s with heap := h1 }) ho1 ⟨hex.1, hex.2.1, hex.2.2⟩ rfl hin hsz1 q3.dm (by rw [hes, q4]; rcases two with ⟨e, e2⟩ | ⟨e, e2⟩ <;> omega) nd1 ld1 hp1 (by rw [hlen]; exact hfew) y1 y2 y3 (by rw [hlen]; exact y4) ?_
      intro h2 L2 es2 ep2 t2 sb2 R2 pm2
      exact wpAny_pure (q true h2 L2 es2 ep2 t2 (sb.trans sb2) R2 (fun z => absurd z hm) fun _ => pm2.trans pm)
    rcases two with ⟨_, e2⟩ | ⟨_, e2⟩
    · exact go 31 (by rw [e2, size_20]) (.inr (.inl rfl)) (by rw [e2, size_20]; decide) (by omega)
    · exact go 127 (by rw [e2, size_76]) (.inr (.inr rfl)) (by rw [e2, size_76]; decide) (by omega)
  · first
      | refine wp_if_neg (by simp [hf]) ?_
      | (refine wpAny_bind ?_; refine wp_if_neg (by simp [hf]) ?_; refine wpAny_pure ?_)
    refine wpAny_pure (q true h1 L1 es1 (ep + 1) t1 sb ⟨⟨⟨_, ho1, ⟨hex.1, hex.2.1, hex.2.2⟩, rfl⟩, hin, q3, hp1, ?_, by rw [hlen]; exact hfew⟩, nd1, ld1⟩ (fun z => absurd z hm) fun _ => pm)
    unfold SetTable.tooFull at hf
    rw [decide_eq_true_eq, q9, List.length_map] at hf
    rw [hlen]
    omega
end
/-- what the set has of the first i items -/
structure GotM (ks : List (Addr × NestedKey)) (i : Nat) (L : List (Addr × NestedKey)) : Prop where
  sub : ∀ p ∈ L, p ∈ ks.take i
  all : ∀ p ∈ ks.take i, p.2 ∈ L.map (·.2)
  len : L.length ≤ i
theorem GotM.zero (ks : List (Addr × NestedKey)) : GotM ks 0 [] where
  sub := fun _ z => (nomatch z)
  all := fun _ z => by rw [List.take_zero] at z; cases z
  len := Nat.le_refl 0
theorem GotM.same {ks L : List (Addr × NestedKey)} {i : Nat} {y : Addr × NestedKey} (g : GotM ks i L) (hy : ks[i]? = some y) (old : y.2 ∈ L.map (·.2)) : GotM ks (i + 1) L := by
  have tk : ks.take (i + 1) = ks.take i ++ [y] := by rw [List.take_succ, hy]; rfl
  exact { sub := fun p hp => by rw [tk]; exact List.mem_append_left _ (g.sub p hp)
          all := fun p hp => by
            rw [tk, List.mem_append, List.mem_singleton] at hp
            exact hp.elim (g.all p) fun e => by rw [e]; exact old
          len := Nat.le_succ_of_le g.len }
theorem GotM.more {ks L L' : List (Addr × NestedKey)} {i : Nat} {y : Addr × NestedKey} (g : GotM ks i L) (hy : ks[i]? = some y) (pm : L'.Perm (y :: L)) : GotM ks (i + 1) L' := by
  have tk : ks.take (i + 1) = ks.take i ++ [y] := by rw [List.take_succ, hy]; rfl
  exact { sub := fun p hp => by
            rw [tk, List.mem_append, List.mem_singleton]
            exact (List.mem_cons.mp (pm.mem_iff.mp hp)).elim .inr fun q => .inl (g.sub p q)
          all := fun p hp => by
            rw [(pm.map (·.2)).mem_iff, List.map_cons, List.mem_cons]
            rw [tk, List.mem_append, List.mem_singleton] at hp
            exact hp.elim (fun q => .inr (g.all p q)) fun e => .inl (by rw [e])
          len := by
            have := pm.length_eq
            have := g.len
            rw [List.length_cons] at *
            omega }
theorem setM_none {w : World} {h : Heap} {a : Addr} (ho : h.get? a = some (set0 w)) : SetM w h a [] #[] 0 (.fresh 0 0 (!w.params.followText "set-order")) := ⟨setN_none ho, List.nodup_nil, by
  show _ ∨ (!w.params.followText "set-order") = true
  cases w.params.followText "set-order"
  · exact .inr rfl
  · exact .inl rfl⟩
theorem SetM.keep {w : World} {h h' : Heap} {a : Addr} {L : List (Addr × NestedKey)} {es : Array (Int × Value)} {ep : Nat} {t : SetTable} (R : SetM w h a L es ep t) (kp : ∀ o, h.get? a = some o → h'.get? a = some o) : SetM w h' a L es ep t := ⟨SetN.keep R.toSetN kp, R.nd, R.led⟩
section
variable {P : Program} {w : World} {A : Around} {E : Value → Shared → Prop} {s : Shared}
/-- the loop that fills the set, from the i-th item on -/
theorem fill_m {I : Addr} {fp wr : List Addr} {G : Array GenState → Array GenState → Prop} {n : Nat} {Pv : Nat → Value → Prop} {St : Nat → Shared → Prop} {R : Result → Shared → Prop}
    (W : WalksS P w A.in1 I fp wr G n Pv St) (S : Addr) (hSf : S ∉ fp) (ks : List (Addr × NestedKey)) (hn : n = ks.length) (hfew : ks.length < 64) (hval : ∀ i v, Pv i v → ∃ p, ks[i]? = some p ∧ v = .ref p.1)
    (h0 : Heap) (hkey : ∀ p ∈ ks, KeyAt h0 p.2 p.1) (hS0 : h0.get? S = none) (hw0 : ∀ b ∈ wr, h0.get? b = none) (hu : A.in1.units + 8 < cLine) :
    ∀ (m i : Nat) (s : Shared), n - i = m → i ≤ n → St i s → (∀ b o, h0.get? b = some o → s.heap.get? b = some o) → (∃ L es ep t, SetM w s.heap S L es ep t ∧ GotM ks i L) →
      (∀ s' L es ep t, Moved (S :: wr) G s s' → SetM w s'.heap S L es ep t → GotM ks n L → (∀ b o, h0.get? b = some o → s'.heap.get? b = some o) → R (.ok (.ret .none)) s') →
      codeAny (model P w) A (.builtin "set.update.loop" ⟨[.ref S, .ref I], []⟩) R s := by
  have hSw : S ∉ wr := fun h => hSf (W.sub _ h)
  have sub1 : ∀ b ∈ wr, b ∈ S :: wr := fun b hb => List.mem_cons_of_mem _ hb
  have stay : ∀ {s s' : Shared}, Moved wr G s s' → (∀ b o, h0.get? b = some o → s.heap.get? b = some o) → ∀ b o, h0.get? b = some o → s'.heap.get? b = some o := fun hm hkp b o e =>
    hm.heap b o (fun hb => by rw [hw0 b hb] at e; cases e) (hkp b o e)
  intro m
  induction m with
  | zero =>
    intro i s hm0 hi hst hkp ⟨L, es, ep, t, hS, g⟩ hR
    obtain rfl : i = n := by omega
    refine codeAny_builtin F.entry_set_update_loop ?_
    rw [Around.under_plainId F.plain_set_update_loop _]
    show wpAny _ A.in1 (pyNext (.ref I) >>= _) _ _ s
    refine wpAny_bind (W.done s _ _ hst fun s' hm => ?_)
    show wpAny _ A.in1 (ret Value.none) _ _ s'
    exact wpAny_pure (hR s' L es ep t (hm.mono sub1) (hS.keep fun o e => hm.heap S o hSw e) g (stay hm hkp))
  | succ m ih =>
    intro i s hm0 hi hst hkp ⟨L, es, ep, t, hS, g⟩ hR
    have hlt : i < n := by omega
    refine codeAny_builtin F.entry_set_update_loop ?_
    rw [Around.under_plainId F.plain_set_update_loop _]
    show wpAny _ A.in1 (pyNext (.ref I) >>= _) _ _ s
    refine wpAny_bind (W.item i s _ _ hlt hst fun v s' hP hst' hm => ?_)
    obtain ⟨p, hp, rfl⟩ := hval i v hP
    have hkp' := stay hm hkp
    have hmem : ∀ q ∈ L, q ∈ ks := fun q hq => List.mem_of_mem_take (g.sub q hq)
    have kat : ∀ q ∈ ks, KeyAt s'.heap q.2 q.1 := fun q hq => (hkey q hq).at fun b o _ _ e _ => hkp' b o e
    have hS' : SetM w s'.heap S L es ep t := hS.keep fun o e => hm.heap S o hSw e
    have hpk : p ∈ ks := List.mem_of_getElem? hp
    show wpAny _ A.in1 (holding [Value.ref p.1] (setAdd S (.ref p.1)) >>= _) _ _ s'
    refine wpAny_bind (wpAny_holding ?_)
    unfold setAdd
    refine wpAny_holding (wpAny_bind ((nestedKind P w).pyHash hu ⟨(kat p hpk).is, (kat p hpk).dp⟩ ?_))
    have hll := g.len
    refine add_m (s := { s' with toks := s'.toks + p.2.draws }) hS' (fun q hq => kat q (hmem q hq)) (kat p hpk) hu (by omega) fun b h' L' es' ep' t' hsb hS2 c1 c2 => ?_
    have g' : GotM ks (i + 1) L' := by
      by_cases c : p.2 ∈ L.map (·.2)
      · rw [c1 c]; exact g.same hp c
      · exact g.more hp (c2 c)
    have hkp2 : ∀ b o, h0.get? b = some o → h'.get? b = some o := fun b o e => (hsb.2 b (fun z => by rw [z, hS0] at e; cases e)).trans (hkp' b o e)
    refine wpAny_pure ⟨plainId_quiet F.plain_set_update_loop _, ih (i + 1) _ (by omega) hlt (W.frame _ s' _ _ hst' (Nat.le_add_right _ _) fun b hb o e => ?_) hkp2 ⟨L', es', ep', t', hS2, g'⟩ fun s'' L2 es2 ep2 t2 hm'' hS'' g'' hkp'' => ?_⟩
    · rw [hsb.2 b (fun h : b = S => hSf (by rw [← h]; exact hb))]; exact e
    · refine hR s'' L2 es2 ep2 t2 (Moved.trans W.gtrans ((hm.mono sub1).then_heap (Nat.le_add_right _ _) fun b o hb e => ?_) hm'') hS'' g'' hkp''
      rw [hsb.2 b (fun h : b = S => hb (by rw [h]; exact List.mem_cons_self))]; exact e
end
section
variable {P : Program} {w : World} {A : Around} {E : Value → Shared → Prop} {s : Shared}
/-- what set.__init__ does with a list of keys -/
theorem init_m {l : Addr} {items : Array Value} (ks : List (Addr × NestedKey)) (hh : A.handled = none) (hl : s.heap.IsList l items) (hit : items.toList = ks.map fun p => Value.ref p.1) (hkey : ∀ p ∈ ks, KeyAt s.heap p.2 p.1)
    (hfew : ks.length < 64) (hu : A.units + 20 < cLine) :
    wpAny (model P w) A.in1.in1 (Builtin.«set.__init__» ⟨[.ref s.heap.objs.size, .ref l], []⟩)
      (fun fin s' => match fin with
        | .done f => wants (fun r s2 => r = .none ∧ ∃ h' tk L es ep t, s2 = { s with heap := h', toks := tk } ∧ SetM w h' s.heap.objs.size L es ep t ∧ GotM ks ks.length L ∧ ∀ b o, s.heap.get? b = some o → h'.get? b = some o) E (.ok f) s'
        | .again c' => c'.quiet = true ∧ codeAny (model P w) A.in1 c' (wants (fun r s2 => r = .none ∧ ∃ h' tk L es ep t, s2 = { s with heap := h', toks := tk } ∧ SetM w h' s.heap.objs.size L es ep t ∧ GotM ks ks.length L ∧ ∀ b o, s.heap.get? b = some o → h'.get? b = some o) E) s')
      (fun e s' => wants (fun r s2 => r = .none ∧ ∃ h' tk L es ep t, s2 = { s with heap := h', toks := tk } ∧ SetM w h' s.heap.objs.size L es ep t ∧ GotM ks ks.length L ∧ ∀ b o, s.heap.get? b = some o → h'.get? b = some o) E (.error e) s')
      { s with heap := s.heap.push (set0 w) } := by
  have hisz : items.size = ks.length := by rw [← Array.length_toList, hit, List.length_map]
  obtain ⟨ol, hol, hcl, nl, hdl⟩ := hl
  obtain ⟨ocls, odict, odata, oslots⟩ := ol
  simp only at hcl hdl
  subst hcl; subst hdl
  have hS : (s.heap.push (set0 w)).get? s.heap.objs.size = some (set0 w) := Heap.get?_push_size _ rfl
  have hol' : (s.heap.push (set0 w)).get? l = some { cls := .type "list", dict := odict, data := .seq items nl, slots := oslots } := Heap.get?_push_of_some _ hol
  have hsls := F.sub_list_set
  have hslf := F.sub_list_frozenset
  have hne : (Value.type "list" == Value.type "dict") = false := by decide
  have hl1 : (s.heap.push (set0 w)).IsList l items := ⟨_, hol', rfl, nl, rfl⟩
  have hlS : l < s.heap.objs.size := Heap.lt_size hol
  have hz1 : (s.heap.push (set0 w)).objs.size = s.heap.objs.size + 1 := Heap.size_push ..
  unfold Builtin.«set.__init__» noKeywords Builtin.Frozenset.updateFrom
  generalize hPI : pyIter = PI
  wp_walk
  subst hPI
  refine wpAny_pyIter_list hl1 (wpAny_bind (wpAny_runValue ?_))
  have hh3 : A.in1.in1.in1.handled = none := by simp [hh]
  have hneI : l ≠ (s.heap.push (set0 w)).objs.size := by rw [hz1]; exact Nat.ne_of_lt (Nat.lt_succ_of_lt hlS)
  have hSf : s.heap.objs.size ∉ [(s.heap.push (set0 w)).objs.size, l] := by
    rw [hz1]
    simp only [List.mem_cons, List.mem_singleton, List.not_mem_nil, or_false, not_or]
    exact ⟨Nat.ne_of_lt (Nat.lt_succ_self _), Nat.ne_of_gt hlS⟩
  have hval : ∀ (i : Nat) (v : Value), items[i]? = some v → ∃ p, ks[i]? = some p ∧ v = .ref p.1 := fun i v hv => by
    rw [← Array.getElem?_toList, hit, List.getElem?_map] at hv
    cases hq : ks[i]? with
    | none => rw [hq] at hv; cases hv
    | some p => rw [hq] at hv; exact ⟨p, rfl, (Option.some.inj hv).symm⟩
  refine fill_m ((Walks.list hh3 _ l hneI items).toS) s.heap.objs.size hSf ks hisz hfew hval s.heap hkey (absent_from (Nat.le_refl _))
    (fun b hb => absent_from (by rw [List.mem_singleton.mp hb, hz1]; omega)) (by show A.units + 3 + 8 < cLine; omega) (items.size - 0) 0 _ (by omega) (Nat.zero_le _)
    ⟨⟨_, Heap.get?_push_size _ rfl, rfl, rfl⟩, (hl1.push _)⟩ (fun b o e => Heap.get?_push_of_some _ (Heap.get?_push_of_some _ e)) ⟨[], #[], 0, _, setM_none (Heap.get?_push_of_some _ hS), GotM.zero ks⟩ fun s' L es ep t hm hS' g' hkp => ?_
  obtain ⟨h', g2, d', tk', os'⟩ := s'
  have eg : g2 = s.gens := hm.gens
  have ed : d' = s.drawn := hm.drawn
  have eo : os' = s.os := hm.os
  subst eg; subst ed; subst eo
  rw [hisz] at g'
  show wpAny _ _ _ _ _ _
  refine wpAny_pure ?_
  show wpAny _ _ (ret Value.none) _ _ _
  exact wpAny_pure ⟨rfl, h', tk', L, es, ep, t, rfl, hS', g', hkp⟩
/-- set(l), l a list of keys -/
theorem call_setM {l : Addr} {items : Array Value} (ks : List (Addr × NestedKey)) {Q : Value → Shared → Prop} (hh : A.handled = none) (hl : s.heap.IsList l items) (hit : items.toList = ks.map fun p => Value.ref p.1) (hkey : ∀ p ∈ ks, KeyAt s.heap p.2 p.1)
    (hfew : ks.length < 64) (hu : A.units + 30 < cLine)
    (q : ∀ (h' : Heap) (tk : Nat) L es ep t, SetM w h' s.heap.objs.size L es ep t → GotM ks ks.length L → (∀ b o, s.heap.get? b = some o → h'.get? b = some o) → Q (.ref s.heap.objs.size) { s with heap := h', toks := tk }) :
    wpAny (model P w) A (call (.type "set") [.ref l]) Q E s := by
  obtain ⟨c, tl, hmro⟩ := F.called_set.mro
  have hmade := F.called_set.made
  have hsub := F.called_set.sub
  refine wpAny_call (codeAny_of_tree ?_)
  show wpAny _ _ (callAny (.type "set") _) _ _ _
  refine wpAny_pure ⟨Code.quiet_builtin _ (by decide +kernel), codeAny_builtin F.entry_type_call ?_⟩
  rw [Around.under_plain (weight_type_call_type "set" [.ref l] []) rfl]
  have h1 := F.called_set.notType
  have h2 := F.called_set.canCreate
  have hct := F.typeCall_set_1 (.ref l)
  repeat (any_goals (first | assumption | wp_step))
  refine codeAny_mono (code_set_led1 (.ref l) (E := E) (Q₁ := fun obj s1 => obj = .ref s.heap.objs.size ∧ s1 = { s with heap := s.heap.push (set0 w) }) ⟨rfl, rfl⟩) fun r s1 hr => ?_
  cases r with
  | error e => exact hr
  | ok fl =>
    cases fl with
    | ret obj =>
      obtain ⟨rfl, rfl⟩ := hr
      have hT : Shared.TypeIs { s with heap := s.heap.push (set0 w) } (.ref s.heap.objs.size) "set" := ⟨_, Heap.get?_push_size _ rfl, rfl⟩
      have hli := F.called_set.init.lookup
      have hbi := F.called_set.init.bind (.ref s.heap.objs.size)
      repeat (any_goals (first | assumption | wp_step))
      refine codeAny_mono (codeAny_call_builtin F.called_set.init.plain F.entry_set_init (check_set_init_1 hT (init_m (A := A) (E := E) ks hh hl hit hkey hfew (by omega)))) fun r2 s2 hr2 => ?_
      cases r2 with
      | error e => exact hr2
      | ok fl2 =>
        cases fl2 with
        | ret r =>
          obtain ⟨rfl, h', tk, L, es, ep, t, rfl, hS', g', hk'⟩ := hr2
          repeat (any_goals (first | assumption | wp_step))
          exact q _ _ _ _ _ _ hS' g' hk'
        | _ => exact hr2.elim
    | _ => exact hr.elim
end
end Cr

set_option exponentiation.threshold 4096
namespace Cr
open PySem PySem.Spec PyProof.Rows L2
/-! ### tables of sets with up to 2048 slots -/
def MkG (m : Nat) : Prop := MaskOk m ∨ m = 511 ∨ m = 2047
/-- the slots that the round meets, as the bits of a number -/
def orb (m : Nat) : Nat → Nat → Nat → Nat
  | 0, _, acc => acc
  | k + 1, v, acc => orb m k ((v * 5 + 1) % (m + 1)) (acc ||| 2 ^ v)
theorem orb_bit (m : Nat) {j : Nat} : ∀ (k b acc : Nat), (orb m k (lcgN m b) acc).testBit j = true → acc.testBit j = true ∨ ∃ c, b ≤ c ∧ c < b + k ∧ lcgN m c = j
  | 0, b, acc, h => .inl h
  | k + 1, b, acc, h => by
    have h : (orb m k (lcgN m (b + 1)) (acc ||| 2 ^ lcgN m b)).testBit j = true := h
    rcases orb_bit m k (b + 1) _ h with q | ⟨c, c1, c2, c3⟩
    · rw [Nat.testBit_or, Bool.or_eq_true] at q
      rcases q with q | q
      · exact .inl q
      · rw [Nat.testBit_two_pow, decide_eq_true_eq] at q
        exact .inr ⟨b, Nat.le_refl _, by omega, q⟩
    · exact .inr ⟨c, by omega, by omega, c3⟩
theorem orb_511 : orb 511 512 0 0 = 2 ^ 512 - 1 := by decide +kernel
theorem orb_2047 : orb 2047 2048 0 0 = 2 ^ 2048 - 1 := by decide +kernel
theorem round_511 : lcgN 511 512 = 0 := by decide +kernel
theorem round_2047 : lcgN 2047 2048 = 0 := by decide +kernel
theorem met_of {m : Nat} (e : orb m (m + 1) 0 0 = 2 ^ (m + 1) - 1) {j : Nat} (hj : j ≤ m) : ∃ c, c ≤ m ∧ lcgN m c = j := by
  have h : (orb m (m + 1) (lcgN m 0) 0).testBit j = true := by
    show (orb m (m + 1) 0 0).testBit j = true
    rw [e, Nat.testBit_two_pow_sub_one]
    exact decide_eq_true (by omega)
  rcases orb_bit m (m + 1) 0 0 h with q | ⟨c, _, c2, c3⟩
  · rw [Nat.zero_testBit] at q
    cases q
  · exact ⟨c, by omega, c3⟩
theorem again_of {m : Nat} (e : lcgN m (m + 1) = 0) : ∀ k, lcgN m (m + 1 + k) = lcgN m k
  | 0 => e
  | k + 1 => by
    have ih := again_of e k
    show (lcgN m (m + 1 + k) * 5 + 1) % (m + 1) = (lcgN m k * 5 + 1) % (m + 1)
    rw [ih]
theorem far_of {m : Nat} (e : orb m (m + 1) 0 0 = 2 ^ (m + 1) - 1) (e0 : lcgN m (m + 1) = 0) {i j : Nat} (hi : i ≤ m) (hj : j ≤ m) : ∃ k, k ≤ m ∧ lcgI m i k = j := by
  obtain ⟨x, hx, rfl⟩ := met_of e hi
  obtain ⟨y, hy, rfl⟩ := met_of e hj
  by_cases c : x ≤ y
  · exact ⟨y - x, by omega, by rw [lcgN_add, show x + (y - x) = y by omega]⟩
  · exact ⟨y + (m + 1) - x, by omega, by rw [lcgN_add, show x + (y + (m + 1) - x) = m + 1 + y by omega, again_of e0]⟩
theorem far_g {m : Nat} (hm : MkG m) {i j : Nat} (hi : i ≤ m) (hj : j ≤ m) : ∃ k, k ≤ m ∧ lcgI m i k = j := by
  rcases hm with hm | rfl | rfl
  · exact lcgI_all hm hi hj
  · exact far_of orb_511 round_511 hi hj
  · exact far_of orb_2047 round_2047 hi hj
theorem starts_g {m : Nat} (hm : MkG m) (h : Int) {j : Nat} (hj : j ≤ m) : ∃ n, n ≤ m + 12 ∧ runI m (SetTable.bits h) n = j := by
  obtain ⟨k, hk, e⟩ := far_g hm (runI_le m (SetTable.bits h) 12) hj
  exact ⟨12 + k, by omega, (runI_tail (bits_lt h) k).trans e⟩
theorem odd_g {m : Nat} (hm : MkG m) : m % 2 = 1 := by
  rcases hm with hm | rfl | rfl
  · exact mask_odd hm
  · rfl
  · rfl
theorem big_g {m : Nat} (hm : MkG m) : m ≤ 2047 := by
  rcases hm with hm | rfl | rfl
  · rcases hm with rfl | rfl | rfl <;> decide
  · decide
  · decide
theorem way_g (m : Nat) (h : Int) (k : Nat) : way m h k ≤ m := by
  have a : SetTable.bits h % (m + 1) ≤ m := Nat.le_of_lt_succ (Nat.mod_lt _ (Nat.succ_pos _))
  have b := runEnd_bd a
  have c := nth_in (m := m) k (runAt m (SetTable.bits h % (m + 1)) (SetTable.bits h)) (by unfold runAt; dsimp only; omega)
  exact Nat.le_trans (Nat.le_add_right _ _) c
/-- the place of each hash is found on its way -/
structure TabG (t : SetTable) (hs : List Int) : Prop where
  up : Ris t.place.toList
  no : t.dummies = #[]
  cnt : t.place.size = hs.length
  msk : MkG t.mask
  le : ∀ x ∈ t.place.toList, x ≤ t.mask
  on : ∀ (i : Nat) (h : Int) (j : Nat), hs[i]? = some h → t.place.toList[i]? = some j → ∃ k, way t.mask h k = j ∧ ∀ c, c < k → way t.mask h c ∈ t.place.toList
/-- where a new one goes -/
theorem TabG.gap {t : SetTable} {hs : List Int} (G : TabG t hs) (l : hs.length ≤ t.mask) (h : Int) : ∃ K, K < 10 * SetTable.turns t.mask ∧ way t.mask h K ∉ t.place.toList ∧ ∀ c, c < K → way t.mask h c ∈ t.place.toList := by
  obtain ⟨j, j1, j2⟩ := st_missing t.place.toList (t.mask + 1) (by rw [Array.length_toList, G.cnt]; omega)
  obtain ⟨n, n1, n2⟩ := starts_g G.msk h (Nat.le_of_lt_succ j1)
  obtain ⟨k, k1, k2⟩ := run_nth t.mask (SetTable.bits h) n
  have wk : way t.mask h k = j := by
    show (nth t.mask _ k).j = j
    rw [k2]
    exact n2
  obtain ⟨K, a, b, c⟩ := st_least (p := fun k => way t.mask h k ∉ t.place.toList) k (by rw [← wk] at j2; exact j2)
  refine ⟨K, ?_, b, fun d hd => Classical.byContradiction fun z => c d hd z⟩
  unfold SetTable.turns
  omega
theorem TabG.past {t : SetTable} {hs : List Int} (G : TabG t hs) {h : Int} {K i j : Nat} (hK : way t.mask h K ∉ t.place.toList) (hi : hs[i]? = some h) (hj : t.place.toList[i]? = some j) : ∃ k, k < K ∧ way t.mask h k = j := by
  obtain ⟨k, rfl, b⟩ := G.on i h j hi hj
  refine ⟨k, Classical.byContradiction fun z => ?_, rfl⟩
  by_cases c : k = K
  · exact hK (c ▸ List.mem_of_getElem? hj)
  · exact hK (b K (by omega))
/-- one more sits in its gap -/
theorem TabG.add {t : SetTable} {hs : List Int} (G : TabG t hs) {h : Int} {K : Nat} (hK : way t.mask h K ∉ t.place.toList) (hb : ∀ c, c < K → way t.mask h c ∈ t.place.toList) :
    (t.put (way t.mask h K)).2 = SetTable.below t.place (way t.mask h K) ∧ TabG (t.put (way t.mask h K)).1 (hs.take (SetTable.below t.place (way t.mask h K)) ++ h :: hs.drop (SetTable.below t.place (way t.mask h K))) ∧
    (t.put (way t.mask h K)).1.mask = t.mask ∧ (t.put (way t.mask h K)).1.led = t.led ∧ (t.put (way t.mask h K)).1.plain = t.plain ∧ (t.put (way t.mask h K)).1.fill = hs.length + 1 := by
  have wm := way_g t.mask h K
  obtain ⟨q, hq⟩ : ∃ q, q = way t.mask h K := ⟨_, rfl⟩
  rw [← hq] at hK wm ⊢
  have b1 := (below_cut G.up q).1
  have l1 : SetTable.below t.place q ≤ t.place.toList.length := by rw [Array.length_toList]; exact b1
  have l2 : SetTable.below t.place q ≤ hs.length := by rw [← G.cnt]; exact b1
  have ll : t.place.toList.length = hs.length := by rw [Array.length_toList, G.cnt]
  have fresh : t.place[SetTable.below t.place q]? ≠ some q := fun z => hK (List.mem_of_getElem? (by rw [Array.getElem?_toList]; exact z))
  have pp := put_place t q
  have sz : (t.put q).1.place.size = hs.length + 1 := by rw [← Array.length_toList, pp, len_ins _ l1, ll]
  have keep : ∀ {x : Nat}, x ∈ t.place.toList → x ∈ (t.put q).1.place.toList := fun {x} hx => by rw [pp]; exact mem_ins.mpr (.inr hx)
  have nd := put_dm G.no q
  refine ⟨rfl, ⟨ris_insert G.up fresh, nd, by rw [sz, len_ins _ l2], G.msk, fun x hx => ?_, fun i h' j' e1 e2 => ?_⟩, rfl, rfl, rfl, ?_⟩
  · rw [pp] at hx
    exact (mem_ins.mp hx).elim (fun z => by rw [z]; exact wm) (G.le x)
  · rw [tins_get hs l2] at e1
    rw [pp, tins_get _ l1] at e2
    have lift : (∃ k, way t.mask h' k = j' ∧ ∀ c, c < k → way t.mask h' c ∈ t.place.toList) → ∃ k, way t.mask h' k = j' ∧ ∀ c, c < k → way t.mask h' c ∈ (t.put q).1.place.toList := fun ⟨k, a, b⟩ => ⟨k, a, fun c hc => keep (b c hc)⟩
    by_cases c1 : i < SetTable.below t.place q
    · rw [if_pos c1] at e1 e2
      exact lift (G.on i h' j' e1 e2)
    · by_cases c2 : i = SetTable.below t.place q
      · rw [if_neg c1, if_pos c2] at e1 e2
        cases e1
        cases e2
        exact ⟨K, hq.symm, fun c hc => keep (hb c hc)⟩
      · rw [if_neg c1, if_neg c2] at e1 e2
        exact lift (G.on (i - 1) h' j' e1 e2)
  · show (t.put q).1.place.size + (t.put q).1.dummies.size = _
    rw [sz, nd]
    rfl
/-! laid anew -/
theorem seat_g {m : Nat} (hm : MkG m) (owner : Array (Option Nat)) (h : Int) {j : Nat} (hj : j ≤ m) (hf : oAt owner j = none) :
    ∃ K, SetTable.layClean.free m owner (SetTable.turns m) (SetTable.bits h % (m + 1)) (SetTable.bits h) = some (way m h K) ∧ oAt owner (way m h K) = none ∧ ∀ c, c < K → oAt owner (way m h c) ≠ none := by
  obtain ⟨n, n1, n2⟩ := starts_g hm h hj
  have at_ : way m h (off m (SetTable.bits h % (m + 1)) (SetTable.bits h) n) = j := by
    unfold way
    rw [nth_off, itL_run]
    exact n2
  obtain ⟨K, a, b, c⟩ := st_least (p := fun k => oAt owner (way m h k) = none) (off m (SetTable.bits h % (m + 1)) (SetTable.bits h) n) (by rw [at_]; exact hf)
  refine ⟨K, free_spec m owner (SetTable.turns m) n _ _ K (by unfold SetTable.turns; omega) a (fun k hk => ?_) (by have b : oAt owner (nth m _ K).j = none := b; rw [b]; rfl), b, c⟩
  have c := c k hk
  have c : ¬ oAt owner (nth m _ k).j = none := c
  cases z : oAt owner (nth m (runAt m (SetTable.bits h % (m + 1)) (SetTable.bits h)) k).j with
  | none => exact absurd z c
  | some _ => rfl
theorem own_g {m : Nat} (hm : MkG m) {done : List Int} {owner : Array (Option Nat)} (W : Own m done owner) (l : done.length ≤ m) (h : Int) :
    ∃ j, SetTable.layClean.free m owner (SetTable.turns m) (SetTable.bits h % (m + 1)) (SetTable.bits h) = some j ∧ Own m (done ++ [h]) (owner.setIfInBounds j (some done.length)) := by
  obtain ⟨ps, p1, p2⟩ := W.ps
  obtain ⟨j0, a0, b0⟩ := st_missing ps (m + 1) (by omega)
  have free0 : oAt owner j0 = none := Classical.byContradiction fun z => b0 (p2 j0 (Nat.le_of_lt_succ a0) z)
  obtain ⟨K, e1, e2, e3⟩ := seat_g hm owner h (Nat.le_of_lt_succ a0) free0
  have wm := way_g m h K
  obtain ⟨q, hq⟩ : ∃ q, q = way m h K := ⟨_, rfl⟩
  rw [← hq] at e1 e2 wm
  have me : oAt (owner.setIfInBounds q (some done.length)) q = some done.length := oAt_set_self _ (by rw [W.sz]; omega)
  have more : ∀ {i : Nat}, oAt owner i ≠ none → oAt (owner.setIfInBounds q (some done.length)) i ≠ none := fun {i} z => by
    by_cases c : i = q
    · rw [c, me]; exact fun y => by cases y
    · rw [oAt_set_ne _ c]; exact z
  refine ⟨q, e1, by rw [Array.size_setIfInBounds]; exact W.sz, fun j k hj z => ?_, fun k hk => ?_, q :: ps, by rw [List.length_cons, p1, List.length_append]; rfl, fun j hj z => ?_⟩
  · by_cases c : j = q
    · rw [c, me] at z
      cases z
      exact ⟨h, K, by simp, by rw [c, hq], fun k' hk' => more (e3 k' hk')⟩
    · rw [oAt_set_ne _ c] at z
      obtain ⟨h', K', r1, r2, r3⟩ := W.at_ j k hj z
      exact ⟨h', K', by rw [List.getElem?_append_left (List.getElem?_eq_some_iff.mp r1).1]; exact r1, r2, fun k' hk' => more (r3 k' hk')⟩
  · rw [List.length_append, List.length_singleton] at hk
    by_cases c : k = done.length
    · exact ⟨q, wm, by rw [c]; exact me⟩
    · obtain ⟨j, r1, r2⟩ := W.all k (by omega)
      refine ⟨j, r1, ?_⟩
      rw [oAt_set_ne _ (fun y => by rw [y, e2] at r2; cases r2)]
      exact r2
  · by_cases c : j = q
    · rw [c]; exact List.mem_cons_self
    · rw [oAt_set_ne _ c] at z
      exact List.mem_cons_of_mem _ (p2 j hj z)
theorem fold_g {m : Nat} (hm : MkG m) : ∀ (rest done : List Int) (owner : Array (Option Nat)), Own m done owner → done.length + rest.length ≤ m →
    ∃ owner', rest.foldl (stepF m) (some (owner, done.length)) = some (owner', (done ++ rest).length) ∧ Own m (done ++ rest) owner'
  | [], done, owner, W, _ => ⟨owner, by rw [List.append_nil]; rfl, by rw [List.append_nil]; exact W⟩
  | h :: rest, done, owner, W, l => by
    rw [List.length_cons] at l
    obtain ⟨j, e, W2⟩ := own_g hm W (by omega) h
    have len : (done ++ [h]).length = done.length + 1 := by simp
    obtain ⟨o2, r1, r2⟩ := fold_g hm rest (done ++ [h]) _ W2 (by omega)
    rw [List.append_assoc, List.singleton_append, len] at r1
    rw [List.append_assoc, List.singleton_append] at r2
    exact ⟨o2, by rw [List.foldl_cons, stepF_some e]; exact r1, r2⟩
theorem lay_g {m : Nat} (hm : MkG m) {hs : Array Int} (hn : hs.size ≤ m) : ∃ owner, SetTable.layClean m hs = some owner ∧ Own m hs.toList owner := by
  obtain ⟨owner, f, W⟩ := fold_g hm hs.toList [] _ (Own.init m) (by simpa using hn)
  refine ⟨owner, ?_, by simpa using W⟩
  rw [layClean_eq]
  have f : hs.toList.foldl (stepF m) (some (Array.replicate (m + 1) none, 0)) = _ := f
  rw [f]
  rfl
theorem anew_g (t : SetTable) {hs : Array Int} {wanted M : Nat} (hw : SetTable.sizeAbove wanted - 1 = M) (hM : MkG M) (hn : hs.size ≤ M) :
    ∃ t' order, t.relaid hs wanted = some (t', order) ∧ order.toList.Perm (List.range hs.size) ∧ TabG t' (order.toList.map fun i => hs.getD i 0) ∧ t'.mask = M ∧ t'.led = t.led ∧ t'.plain = t.plain := by
  obtain ⟨owner, e, W⟩ := lay_g hM hn
  have hr : t.relaid hs wanted = some (tabOf t M owner, ((liveOf M owner).map (·.2)).toArray) := by
    rw [relaid_eq, hw, e]
    rfl
  obtain ⟨r1, r2⟩ := ris_live (fun j => owner.getD j none) (List.range (M + 1)) (by unfold Ris; exact List.pairwise_lt_range)
  have r1 : Ris ((liveOf M owner).map (·.1)) := r1
  have r2 : ∀ x ∈ (liveOf M owner).map (·.1), x ∈ List.range (M + 1) := r2
  have nd : ((liveOf M owner).map (·.1)).Nodup := r1.imp fun z => Nat.ne_of_lt z
  have len : (liveOf M owner).length = hs.size := by
    obtain ⟨ps, p1, p2⟩ := W.ps
    have a := nat_nodup_len ((liveOf M owner).map (·.1)) ps nd fun x hx => by
      obtain ⟨⟨y, k⟩, hy, rfl⟩ := List.mem_map.mp hx
      obtain ⟨b1, b2⟩ := (mem_live W.sz).mp hy
      exact p2 y b1 (by rw [b2]; exact fun z => by cases z)
    have b := nat_nodup_len (List.range hs.size) ((liveOf M owner).map (·.2)) List.nodup_range fun k hk => by
      obtain ⟨j, b1, b2⟩ := W.all k (by rw [Array.length_toList]; exact List.mem_range.mp hk)
      exact List.mem_map.mpr ⟨(j, k), (mem_live W.sz).mpr ⟨b1, b2⟩, rfl⟩
    simp only [List.length_map, List.length_range, p1, Array.length_toList] at a b
    omega
  refine ⟨_, _, hr, perm_range hs.size _ (by show ((liveOf M owner).map (·.2)).length = _; rw [List.length_map, len]) fun k hk => ?_, ⟨r1, rfl, ?_, hM, fun x hx => Nat.le_of_lt_succ (List.mem_range.mp (r2 x hx)), fun i h j h1 h2 => ?_⟩, rfl, rfl, rfl⟩
  · obtain ⟨j, b1, b2⟩ := W.all k (by rw [Array.length_toList]; exact hk)
    exact List.mem_map.mpr ⟨(j, k), (mem_live W.sz).mpr ⟨b1, b2⟩, rfl⟩
  · show ((liveOf M owner).map (·.1)).toArray.size = (((liveOf M owner).map (·.2)).map fun i => hs.getD i 0).length
    simp
  · have h1 : (((liveOf M owner).map (·.2)).map fun i => hs.getD i 0)[i]? = some h := h1
    have h2 : ((liveOf M owner).map (·.1))[i]? = some j := h2
    rw [List.getElem?_map, List.getElem?_map] at h1
    rw [List.getElem?_map] at h2
    cases hq : (liveOf M owner)[i]? with
    | none => rw [hq] at h2; cases h2
    | some q =>
      obtain ⟨y, k⟩ := q
      rw [hq] at h1 h2
      cases h2
      obtain ⟨b1, b2⟩ := (mem_live W.sz).mp (List.mem_of_getElem? hq)
      obtain ⟨h0, K, s1, s2, s3⟩ := W.at_ y k b1 b2
      have e0 : hs.getD k 0 = h0 := by
        rw [Array.getD_eq_getD_getElem?, ← Array.getElem?_toList, s1]
        rfl
      have eh : hs.getD k 0 = h := Option.some.inj h1
      rw [← eh, e0]
      refine ⟨K, s2, fun c hc => ?_⟩
      show way M h0 c ∈ (liveOf M owner).map (·.1)
      cases z : oAt owner (way M h0 c) with
      | none => exact absurd z (s3 c hc)
      | some k2 => exact List.mem_map.mpr ⟨(way M h0 c, k2), (mem_live W.sz).mpr ⟨way_g M h0 c, z⟩, rfl⟩
theorem size_77 : SetTable.sizeAbove (SetTable.grown 77) = 512 := by decide +kernel
theorem size_307 : SetTable.sizeAbove (SetTable.grown 307) = 2048 := by decide +kernel
end Cr

namespace Cr
open PySem PySem.Spec PyProof.Rows L2
variable [Tbl]
/-! ### tuples are sorted, the empty one too -/
section
open PySem.W PySem.SeqAt PySem.Calls
variable {prog : Program} {w : World} {A : Around} {s : Shared} {E : Value → Shared → Prop}
theorem call_tuple_lt {Q : Value → Shared → Prop} {l b : Addr} {items items2 : Array Value} {e r : Nat → Bool} (hl : s.heap.IsTuple l items) (hb : s.heap.IsTuple b items2)
    (he : ∀ j (h1 : j < items.size) (h2 : j < items2.size), EqAt A.in1 s items[j] items2[j] (e j)) (hr : ∀ j (h1 : j < items.size) (h2 : j < items2.size), e j = false → RcLt A.in1 s items[j] items2[j] (r j))
    (h : Q (.bool (firstLt e r (decide (items.size < items2.size)) (List.range (min items.size items2.size)))) s) : wpAny (model prog w) A (call (.builtin "tuple.__lt__") [.ref l, .ref b]) Q E s := by
  obtain ⟨⟨cls, dd, data, sl⟩, ho, hc, n, hd⟩ := id hl
  obtain ⟨⟨cls2, dd2, data2, sl2⟩, ho2, hc2, n2, hd2⟩ := id hb
  simp only at hc hd hc2 hd2
  subst hc hd hc2 hd2
  exact call_meets F.slot_tuple_lt ⟨_, ho, rfl⟩ F.entry_tuple_lt (F.args_tuple_lt_2 _ _) (tuple_ltAt l b items items2 n n2 dd dd2 sl sl2 e r) ⟨ho, ho2, he, hr, h⟩
theorem oneLt_tup {xs ys : List PyData} {a b : Value} {as bs : List Addr} {Q : Bool → Shared → Prop} (ra : Reads s.heap a (.tuple xs) as) (rb : Reads s.heap b (.tuple ys) bs) (h : alike (.tuple xs) (.tuple ys) = true)
    (hu : A.units + min (PyData.tuple xs).depth (PyData.tuple ys).depth < cLine) (hq : Q (dataLt (.tuple xs) (.tuple ys)) s) : wpAny (model prog w) A (oneLt' true a b) Q E s := by
  have hal : alikeAll xs ys = true := by simpa [alike] using h
  cases ra with
  | @tuple l o vs n _ as₁ h1 h2 h3 h4 =>
    cases rb with
    | @tuple l' o' vs' n' _ bs₁ k1 k2 k3 k4 =>
      have n1 : vs.size = xs.length := by simpa using SeqAt.ReadsAll.length _ _ _ h4
      have n2 : vs'.size = ys.length := by simpa using SeqAt.ReadsAll.length _ _ _ k4
      rw [dataLt_tuple, ← firstLt_toks xs ys hal, ← n1, ← n2] at hq
      rw [oneLt'_eq]
      simp only [if_true]
      refine wpAny_bind (wpAny_cRoomFor (room_here hu) ?_)
      refine wpAny_bind (wpAny_callSpecialIfBound?_slot (T := "tuple") ⟨_, h1, h2⟩ F.slot_tuple_lt (call_tuple_lt (e := pairEq xs ys) (r := fun j => dataLt (xs.getD j .none) (ys.getD j .none)) ⟨_, h1, h2, _, h3⟩ ⟨_, k1, k2, _, k3⟩ (fun j j1 j2 => ?_) (fun j j1 j2 hj => ?_) ?_))
      · have := eqAt_alikeAll xs ys A.in1 s vs.toList vs'.toList _ _ h4 k4 hal (room_in hu) j (by simpa using j1) (by simpa using j2)
        simpa using this
      · have := rcLt_alikeAll xs ys A.in1 s vs.toList vs'.toList _ _ h4 k4 hal (room_in hu) j (by simpa using j1) (by simpa using j2) hj
        simpa using this
      · exact wpAny_truthy_bool hq
def nonE : PyData → Bool
  | .tuple [] => false
  | _ => true
theorem nonE_ne {d : PyData} (h : nonE d = true) : d ≠ .tuple [] := fun e => by rw [e] at h; cases h
theorem ne_nonE {xs : List PyData} (h : PyData.tuple xs ≠ .tuple []) : nonE (.tuple xs) = true := by
  cases xs with
  | nil => exact absurd rfl h
  | cons _ _ => rfl
/-- the first items, where there are some -/
theorem firsts_any {M : Model} : ∀ {vs : List Value} {ds : List PyData} {Q : List (Option Value) → Shared → Prop}, EachIs (fun v d => ∃ as, Reads s.heap v d as) vs ds → (∀ d, d ∈ ds → ∃ xs, d = .tuple xs) →
    (∀ os : List (Option Value), os.map Option.isSome = ds.map nonE → Q os s) → wpAny M A (vs.mapM firstOfTuple') Q E s
  | _, _, Q, .nil, _, h => by rw [List.mapM_nil]; exact wpAny_pure (h [] rfl)
  | _, _, Q, .cons (b := d) (as := vs) (bs := ds) ⟨as, r⟩ t, ht, h => by
    obtain ⟨xs, rfl⟩ := ht d (List.mem_cons_self ..)
    cases r with
    | @tuple a o its n _ _ ho hc hd hr =>
      rw [List.mapM_cons]
      refine wpAny_bind ?_
      rw [kas_first_eq]
      refine wpAny_bind (Looks.here (show Looks M s.heap (typeOf (.ref a)) o.cls from (Looks.ld ho).andThen .now) ?_)
      rw [hc, if_neg (by first | decide | simp)]
      refine wpAny_bind (listItems_at ho hd (wpAny_pure ?_))
      refine wpAny_bind (firsts_any (Q := fun bs s' => wpAny M A (pure (its[0]? :: bs)) Q E s') t (fun d hd => ht d (List.mem_cons_of_mem _ hd)) fun os ho' => wpAny_pure (h _ ?_))
      rw [List.map_cons, List.map_cons, ho']
      congr 1
      have n1 : its.size = xs.length := by simpa using SeqAt.ReadsAll.length _ _ _ hr
      cases xs with
      | nil =>
        have : its[0]? = none := by
          have n0 : its.size = 0 := n1
          exact Array.getElem?_eq_none (by omega)
        rw [this]; rfl
      | cons x r =>
        have : (its[0]?).isSome = true := by
          have : 0 < its.size := by rw [n1]; exact Nat.succ_pos _
          simp [this]
        rw [this]; rfl
/-- tuples that are alike can be sorted -/
theorem sortsTups {vs : List Value} {ds : List PyData} (e : EachIs (fun v d => ∃ as, Reads s.heap v d as) vs ds) (hal : AllAlike ds) (ht : ∀ d, d ∈ ds → ∃ xs, d = .tuple xs) (hu : ∀ d, d ∈ ds → A.units + d.depth < cLine) : SortsAt prog w A s (dataKind s.heap ds) vs := by
  by_cases hne : ∀ d, d ∈ ds → d ≠ .tuple []
  · refine SortsAt.data e hal (.inl fun d hd => ?_) hu
    obtain ⟨xs, rfl⟩ := ht d hd
    cases xs with
    | nil => exact absurd rfl (hne _ hd)
    | cons x r => exact ⟨x, r, rfl⟩
  have room : ∀ {d d' : PyData}, d ∈ ds → A.units + min d.depth d'.depth < cLine := fun {d d'} hd => Nat.lt_of_le_of_lt (Nat.add_le_add_left (Nat.min_le_left _ _) _) (hu d hd)
  have some_ : ¬ ((ds.map nonE).all id = true) := fun z => hne fun d hd => by
    have := List.all_eq_true.mp z _ (List.mem_map_of_mem hd)
    exact nonE_ne this
  refine ⟨fun v hv => ?_, ?_⟩
  · obtain ⟨d, hd, as, r⟩ := e.left v hv
    exact ⟨_, dataKind_some hal hd r⟩
  cases ds with
  | nil => exact absurd (fun d hd => by cases hd) hne
  | cons d₀ ds₀ =>
    by_cases h0 : d₀ = .tuple []
    · refine ⟨oneType', ?_, fun h2 E Q hq => ?_⟩
      · intro E x y a b Q ha hb hq
        obtain ⟨d, as, hd, ra, rfl⟩ := dataKind_inv ha
        obtain ⟨d', as', hd', rb, rfl⟩ := dataKind_inv hb
        have hal' := hal d hd d' hd'
        have hr := room (d' := d') hd
        obtain ⟨xs, rfl⟩ := ht d hd
        obtain ⟨ys, rfl⟩ := ht d' hd'
        rw [keyLt'_oneType]
        exact oneLt_tup ra rb hal' hr hq
      · rw [keyKind'_eq, List.mapM_toArray, map_eq_pure_bind]
        refine wpAny_bind (wpAny_bind (firsts_any e ht fun os ho => wpAny_pure ?_))
        have a1 : ¬ ((os.toArray.all fun x => x.isSome) = true) := fun z => some_ (by
          rw [← ho]
          simpa [List.all_map] using z)
        have a2 : ¬ ((os.toArray[0]?.bind id).isSome = true) := by
          cases os with
          | nil => simp
          | cons o os =>
            rw [List.map_cons, List.map_cons, h0] at ho
            have : o.isSome = false := (List.cons.inj ho).1
            simpa using this
        rw [if_neg a1, if_neg a2, oneTypeOnly'_eq, List.mapM_toArray, map_eq_pure_bind]
        refine wpAny_bind (wpAny_bind (wpAny_bind (kas_mapM (r := Value.type "tuple") _ (fun v hv Q' hq => ?_) (wpAny_pure ?_))))
        · obtain ⟨d, hd, as, r⟩ := e.left v hv
          obtain ⟨xs, rfl⟩ := ht d hd
          exact (looks_reads r).here hq
        · have hv : vs ≠ [] := fun z => by rw [z] at h2; simp at h2
          obtain ⟨v, vr, rfl⟩ := List.exists_cons_of_ne_nil hv
          have hall : ((List.map (fun _ => Value.type "tuple") (v :: vr)).toArray.all fun x => x == Value.type "tuple") = true := by simp
          have h0' : (List.map (fun _ => Value.type "tuple") (v :: vr)).toArray[0]? = some (Value.type "tuple") := by simp
          rw [h0']
          simp only [hall, if_true]
          exact wpAny_pure (wpAny_pure hq)
    · refine ⟨general', ?_, fun h2 E Q hq => ?_⟩
      · intro E x y a b Q ha hb hq
        obtain ⟨d, as, hd, ra, rfl⟩ := dataKind_inv ha
        obtain ⟨d', as', hd', rb, rfl⟩ := dataKind_inv hb
        obtain ⟨xs, ex⟩ := ht d hd
        show wpAny _ _ (oneLt' false x y) _ _ _
        exact oneLt_alike (fun q => by cases q) ra rb (hal d hd d' hd') (by rw [ex]; exact fun q => by cases q) (room hd) hq
      · rw [keyKind'_eq, List.mapM_toArray, map_eq_pure_bind]
        refine wpAny_bind (wpAny_bind (firsts_any e ht fun os ho => wpAny_pure ?_))
        have a1 : ¬ ((os.toArray.all fun x => x.isSome) = true) := fun z => some_ (by
          rw [← ho]
          simpa [List.all_map] using z)
        have a2 : (os.toArray[0]?.bind id).isSome = true := by
          cases os with
          | nil => simp at ho
          | cons o os =>
            rw [List.map_cons, List.map_cons] at ho
            obtain ⟨xs, ex⟩ := ht d₀ (List.mem_cons_self ..)
            have h3 : nonE d₀ = true := by rw [ex]; exact ne_nonE (by rw [← ex]; exact h0)
            have : o.isSome = true := (List.cons.inj ho).1.trans h3
            simpa using this
        rw [if_neg a1, if_pos a2]
        exact wpAny_pure hq
end
end Cr

namespace Cr
open PySem PySem.Spec PyProof.Rows L2
variable [Tbl]
/-! ### sorted(set(list)) of nested tuples -/
open PySem.W in
theorem each_perm {α : Type} {R : Value → α → Prop} {us vs : List Value} (p : vs.Perm us) : ∀ {bs : List α}, EachIs R us bs → ∃ bs', EachIs R vs bs' ∧ bs'.Perm bs := by
  induction p with
  | nil => intro bs h; exact ⟨bs, h, List.Perm.refl _⟩
  | cons x p ih =>
    intro bs h
    cases h with
    | cons h1 h2 =>
      obtain ⟨bs', e, q⟩ := ih h2
      exact ⟨_ :: bs', .cons h1 e, q.cons _⟩
  | swap x y l =>
    intro bs h
    cases h with
    | cons h1 h2 =>
      cases h2 with
      | cons h2 h3 => exact ⟨_ :: _ :: _, .cons h2 (.cons h1 h3), List.Perm.swap _ _ _⟩
  | trans p q ih1 ih2 =>
    intro bs h
    obtain ⟨b1, e1, q1⟩ := ih2 h
    obtain ⟨b2, e2, q2⟩ := ih1 e1
    exact ⟨b2, e2, q2.trans q1⟩
section
variable {P : Program} {w : World} {A : Around} {E : Value → Shared → Prop} {s : Shared}
open PySem.W in
theorem sorted_setM {β : Type} {a : Addr} {L : List (Addr × NestedKey)} {es : Array (Int × Value)} {ep : Nat} {t : SetTable} {bs : List β} {enc : β → PyData} {Rl : Value → β → Prop} {Q : Value → Shared → Prop} (R : SetM w s.heap a L es ep t) (hh : A.handled = none)
    (e : EachIs (fun v b => Rl v b ∧ ∃ as, Reads s.heap v (enc b) as) (L.map fun p => Value.ref p.1) bs) (hal : ∀ l : List β, AllAlike (l.map enc)) (hk : ∀ b, ∃ es, enc b = .tuple es) (hu : ∀ b, A.units + 2 + (enc b).depth < cLine)
    (h : ∀ s' p (out : List Value) (c : Nat) (bs' : List β), (∀ b o, s.heap.get? b = some o → s'.heap.get? b = some o) → s'.gens = s.gens → s'.os = s.os → s.heap.objs.size ≤ p → s'.heap.get? p = some (seqObj "list" out.toArray c) → bs'.Perm bs → EachIs Rl out (bs'.mergeSort (dataLe false enc)) → Q (.ref p) s') :
    wpAny (model P w) A (call (.builtin "sorted") [.ref a]) Q E s := by
  obtain ⟨o, ho, hex, hd⟩ := R.ob
  have hsz := SetN.count (s := s) R.toSetN
  have hfew := R.few
  refine Calls.call_function_entry kind_sorted plain_sorted entry_sorted (args_sorted1 _) ?_
  unfold Builtin.«sorted»
  refine wpAny_bind (m := checkCount "sorted" 1 1 _) (wpAny_pure ?_)
  refine wpAny_bind (collect_set (A := A.in1) hh ⟨o, ho, hex.1, hd⟩ (SetN.fits (s := s) R.toSetN) (by unfold scanBound; omega) R.tab.ris R.led fun s1 vs k1 hz g1 o1 pm => ?_)
  have hes : es.toList.map (·.2) = L.map fun q => Value.ref q.1 := by
    rw [R.rows, List.map_map]
    rfl
  rw [hes] at pm
  obtain ⟨bs', e', pb⟩ := each_perm pm e
  have hvl : vs.length ≤ sizeLine := by rw [pm.length_eq, List.length_map, sizeLine_eq]; omega
  refine wpAny_bind (wpAny_newList ?_ hvl)
  have hoL : (s1.heap.push (seqObj "list" vs.toArray 0)).get? s1.heap.objs.size = some (seqObj "list" vs.toArray 0) := Heap.get?_push_size _ rfl
  have old : ∀ b u, s.heap.get? b = some u → (sortingHeap (s1.heap.push (seqObj "list" vs.toArray 0)) s1.heap.objs.size vs).get? b = some u := fun b u q =>
    sortingHeap_old (Nat.ne_of_lt (Heap.lt_size (k1 b u q))) (Heap.get?_push_of_some _ (k1 b u q))
  have er : EachIs (fun v b => ∃ as, Reads (sortingHeap (s1.heap.push (seqObj "list" vs.toArray 0)) s1.heap.objs.size vs) v (enc b) as) vs bs' := e'.mono fun _ _ ⟨_, as, r⟩ => ⟨as, PyProof.Rows.Reads.keeps old r⟩
  refine wpAny_bind (wpAny_holding (wpAny_call_entry_kw slot_list_sort ⟨_, hoL, rfl⟩ entry_list_sort ?body (args_list_sort _)))
  case body =>
    show wpAny (model P w) A.in1.in1 (Builtin.«list.sort» ⟨[.ref s1.heap.objs.size], []⟩) _ _ _
    refine list_sort_vals (κ := dataKind (sortingHeap (s1.heap.push (seqObj "list" vs.toArray 0)) s1.heap.objs.size vs) (bs'.map enc)) (s := { s1 with heap := s1.heap.push (seqObj "list" vs.toArray 0) }) hoL (sortsTups (s := { s1 with heap := sortingHeap (s1.heap.push (seqObj "list" vs.toArray 0)) s1.heap.objs.size vs }) (each_map (R := fun v d => ∃ as, Reads (sortingHeap (s1.heap.push (seqObj "list" vs.toArray 0)) s1.heap.objs.size vs) v d as) enc er) (hal _) (fun d hd => by
      obtain ⟨b, _, rfl⟩ := List.mem_map.mp hd
      exact hk b) (bound_map (A := A.in1.in1) fun b _ => hu b)) hvl ?_
    have el : EachIs Rl (sortVals (dataKind (sortingHeap (s1.heap.push (seqObj "list" vs.toArray 0)) s1.heap.objs.size vs) (bs'.map enc)) false vs vs) (bs'.mergeSort (dataLe false enc)) := sortVals_data false (e'.mono fun _ _ z => z.1) er (hal _)
    generalize sortVals (dataKind (sortingHeap (s1.heap.push (seqObj "list" vs.toArray 0)) s1.heap.objs.size vs) (bs'.map enc)) false vs vs = out at el
    obtain ⟨c, hc⟩ := sortedHeap_at (vs := vs) (out := out.toArray) hoL
    refine ⟨_, rfl, wpAny_pure ⟨_, rfl, h _ s1.heap.objs.size out c bs' (fun b u q => ?_) g1 o1 hz hc pb el⟩⟩
    have lt := Heap.lt_size (k1 b u q)
    show (sortedHeap (s1.heap.push (seqObj "list" vs.toArray 0)) s1.heap.objs.size vs out.toArray).get? b = some u
    rw [sortedHeap_old (Nat.ne_of_lt lt) (by rw [size_push']; exact Nat.lt_succ_of_lt lt)]
    exact Heap.get?_push_of_some _ (k1 b u q)
end
def tSortSet {β : Type} (K : PySem.W.Frag) (enc : β → PyData) (ta : TE) : TE := fun σ H Q => ta σ H fun x H1 => ∃ (N : Addr → Prop) (l : Addr) (xs : List V) (bs : List β), x = V.ref l ∧ SqL K H1 l xs ∧ RDs N H1 xs (bs.map enc) ∧ bs.length < 64 ∧
  ∀ (ys : List V) (p : Addr) (L : List β), H1 p = none → L.Nodup → (∀ b, b ∈ L ↔ b ∈ bs) → RDs N H1 ys ((L.mergeSort (PySem.W.dataLe false enc)).map enc) → Q (.ref p) (upd H1 p (.lst ys))
/-- what such sets ask of the items -/
structure KeyE {β : Type} (enc : β → PyData) : Prop where
  key : ∀ b, KeyD 8 (enc b) ∧ ∃ es, enc b = .tuple es
  inj : ∀ a b, toKey (enc a) = toKey (enc b) → a = b
  al : ∀ l : List β, PySem.W.AllAlike (l.map enc)
  dp : ∀ b, (enc b).depth ≤ 60
theorem each_right {α β : Type} {R : α → β → Prop} {as : List α} {bs : List β} (e : PySem.W.EachIs R as bs) : ∀ b ∈ bs, ∃ a ∈ as, R a b := by
  induction e with
  | nil => exact fun b hb => (nomatch hb)
  | cons h _ ih =>
    intro b hb
    rcases List.mem_cons.mp hb with rfl | hb
    · exact ⟨_, List.mem_cons_self, h⟩
    · obtain ⟨a, ha, r⟩ := ih b hb
      exact ⟨a, List.mem_cons_of_mem _ ha, r⟩
section
variable {X : Cx} {pins : List (Addr × Obj)} {σ : L2.St} {H : Hp} {s : Shared}
/-- the rows of keys beside the things themselves -/
theorem keys_each {β : Type} {enc : β → PyData} {N : Addr → Prop} (I : Inv X pins σ H s) : ∀ {xs : List V} {us : List Value} {bs : List β}, Vals xs us → RDs N H xs (bs.map enc) → (∀ b, KeyD 8 (enc b) ∧ ∃ es, enc b = .tuple es) →
    ∃ ks : List (Addr × NestedKey), us = ks.map (fun p => Value.ref p.1) ∧ PySem.W.EachIs (fun (p : Addr × NestedKey) b => p.2 = toKey (enc b) ∧ RD N H (.ref p.1) (enc b)) ks bs ∧ ∀ p ∈ ks, KeyAt s.heap p.2 p.1
  | _, _, [], r, h, _ => by cases h; cases r; exact ⟨[], rfl, .nil, fun p hp => (nomatch hp)⟩
  | _, _, b :: bs, r, h, hk => by
    rw [List.map_cons] at h
    cases h with
    | cons h1 h2 =>
      cases r with
      | cons r1 r2 =>
        obtain ⟨ks, e1, e2, e3⟩ := keys_each I r2 h2 hk
        obtain ⟨k1, es, ee⟩ := hk b
        obtain ⟨g1, g2, g3⟩ := key_of I 8 _ _ _ k1 h1.dp r1
        have h1' := h1
        rw [ee] at h1'
        cases h1' with
        | tup hs ha =>
          cases r1
          refine ⟨(_, toKey (enc b)) :: ks, by rw [e1]; rfl, .cons ⟨rfl, h1⟩ e2, fun p hp => ?_⟩
          rcases List.mem_cons.mp hp with rfl | hp
          · exact ⟨g1, g3, g2⟩
          · exact e3 p hp
theorem each_sub {β : Type} {enc : β → PyData} {N : Addr → Prop} {ks : List (Addr × NestedKey)} {bs : List β} (inj : ∀ a b, toKey (enc a) = toKey (enc b) → a = b) (e : PySem.W.EachIs (fun (p : Addr × NestedKey) b => p.2 = toKey (enc b) ∧ RD N H (.ref p.1) (enc b)) ks bs) :
    ∀ {L : List (Addr × NestedKey)}, (∀ p ∈ L, p ∈ ks) → (L.map (·.2)).Nodup → ∃ cs : List β, PySem.W.EachIs (fun (p : Addr × NestedKey) b => p.2 = toKey (enc b) ∧ RD N H (.ref p.1) (enc b)) L cs ∧ cs.Nodup ∧ (∀ c ∈ cs, c ∈ bs) ∧ L.map (·.2) = cs.map fun c => toKey (enc c)
  | [], _, _ => ⟨[], .nil, List.nodup_nil, fun c hc => (nomatch hc), rfl⟩
  | p :: L, h, nd => by
    obtain ⟨n1, n2⟩ := List.nodup_cons.mp nd
    obtain ⟨cs, e1, e2, e3, e4⟩ := each_sub inj e (L := L) (fun q hq => h q (List.mem_cons_of_mem _ hq)) n2
    obtain ⟨b, hb, hr⟩ := e.left p (h p List.mem_cons_self)
    refine ⟨b :: cs, .cons hr e1, List.nodup_cons.mpr ⟨fun z => n1 ?_, e2⟩, fun c hc => ?_, by rw [List.map_cons, List.map_cons, e4, hr.1]⟩
    · rw [e4]
      exact List.mem_map.mpr ⟨b, z, hr.1.symm⟩
    · rcases List.mem_cons.mp hc with rfl | hc
      · exact hb
      · exact e3 c hc
theorem pe_sortSet {β : Type} {enc : β → PyData} {a : Expr} {ta : TE} {p p2 q pos : Pos} (KE : KeyE enc) (hg : Gl X "sorted") (hm : X.mg "sorted" = none) (hg2 : Gl X "set") (hm2 : X.mg "set" = none) (ha : PE X a ta) (hu : X.A.units + 66 < cLine) (hc : X.calm = true := by rfl)
    (na : starEach [a] X.env = (false, eval a X.env) :: starEach [] X.env := by rfl) : PE X (.Call (.Name "sorted" p) [.Call (.Name "set" p2) [a] [] q] [] pos) (tSortSet X.K enc ta) := by
  refine ⟨fun pn st σ H Q inv need => Call_ (ld_blt inv hg hm PyProof.Rows.boot_sorted (PyProof.Rows.callWith_builtin1 (PyProof.Rows.args_cons (Call_ (ld_blt inv hg2 hm2 PyProof.Rows.boot_set (PyProof.Rows.callWith_type1 (PyProof.Rows.args_cons (thn (ha.run pn st σ H _ inv need) fun v s1 got => PyProof.Rows.args_nil ?_) na) na rfl))) rfl) rfl rfl))⟩
  obtain ⟨x, H1, I1, r1, N, l, xs, bs, rfl, hl, rs, few, q1⟩ := got
  cases r1
  obtain ⟨its, rv, pl, z⟩ := I1.list hl
  obtain ⟨ks, e1, e2, e3⟩ := keys_each I1 rv rs KE.key
  have hlen : ks.length = bs.length := e2.length
  refine call_setM (A := X.A) ks (I1.ok.hd hc) pl.isList (by simpa using e1) e3 (by omega) (by omega) fun h' tk L es ep t R g hk => PyProof.Rows.args_nil ?_
  have I2 : Inv X pn σ H1 { s1 with heap := h', toks := tk } := I1.kept hk
  have sub : ∀ p ∈ L, p ∈ ks := fun p hp => List.mem_of_mem_take (g.sub p hp)
  obtain ⟨cs, c1, c2, c3, c4⟩ := each_sub KE.inj e2 sub R.nd
  have mem : ∀ b, b ∈ cs ↔ b ∈ bs := fun b => ⟨c3 b, fun hb => by
    obtain ⟨p, hp, hr⟩ := each_right e2 b hb
    have : p.2 ∈ L.map (·.2) := g.all p (by rw [List.take_length]; exact hp)
    rw [c4] at this
    obtain ⟨c, hc', ec⟩ := List.mem_map.mp this
    rw [← KE.inj c b (ec.trans hr.1)]
    exact hc'⟩
  have each : PySem.W.EachIs (fun (u : Value) b => (∃ x, RelV x u ∧ RD N H1 x (enc b)) ∧ ∃ as, Reads h' u (enc b) as) (L.map fun p => Value.ref p.1) cs := by
    clear q1 mem c4 c3 c2 R g sub
    induction c1 with
    | nil => exact .nil
    | cons hr _ ih => exact .cons ⟨⟨.ref _, rfl, hr.2⟩, Dp.reads I2 _ _ _ hr.2.dp rfl⟩ ih
  refine sorted_setM (s := { s1 with heap := h', toks := tk }) R (I1.ok.hd hc) each KE.al (fun b => (KE.key b).2) (fun b => by have := KE.dp b; omega) fun s' p out c bs' k gg oo hp hg' pb hout => ?_
  obtain ⟨ys, ry, hy⟩ := rd_each hout
  have hyl : ys.length ≤ sizeLine := by
    have h1 := hy.length
    rw [List.length_map, List.length_mergeSort, pb.length_eq] at h1
    have h2 := c1.length
    have h3 := R.few
    rw [h1, sizeLine_eq]
    omega
  have hn : H1 p = none := I2.hok.fresh hp
  have J : Inv X pn σ (upd H1 p (.lst ys)) { ({ s1 with heap := h', toks := tk } : Shared) with heap := s'.heap, gens := s'.gens, drawn := s'.drawn, toks := s'.toks } :=
    I2.call (s := { s1 with heap := h', toks := tk }) (ch := []) (Un.laid k hp hn) (I2.hok.laid k hp ⟨hyl, out, c, ry, hg'⟩) (by rw [gg]; exact I2.bare) (fun _ z => nomatch z)
  have e : s' = { s1 with heap := s'.heap, gens := s'.gens, drawn := s'.drawn, toks := s'.toks } := by
    cases s'
    cases s1
    cases oo
    rfl
  rw [e]
  exact ⟨.ref p, _, J, rfl, q1 ys p bs' hn (pb.nodup_iff.mpr c2) (fun b => pb.mem_iff.trans (mem b)) hy⟩
end
/-- .. over data -/
def dSortSet {β : Type} (enc : β → PyData) (Ta : DTE) : DTE := fun env Qd => Ta env fun r => ∃ bs : List β, r.data = some (.list (bs.map enc)) ∧ bs.length < 64 ∧ ∀ L : List β, L.Nodup → (∀ b, b ∈ L ↔ b ∈ bs) → Qd (.new ((L.mergeSort (PySem.W.dataLe false enc)).map enc))
instance {β : Type} {K : PySem.W.Frag} {enc : β → PyData} {ta : TE} {Ta : DTE} [DL ta Ta] : DL (tSortSet K enc ta) (dSortSet enc Ta) := ⟨fun z σ env Q Qd o e h q =>
  DL.run (t := ta) z σ env _ _ o e h fun v H1 r g1 r1 h1 => by
    obtain ⟨bs, hd, few, h1⟩ := h1
    obtain ⟨a, xs, rfl, ha, rs⟩ := r1.items hd
    exact ⟨z.N, a, xs, bs, rfl, SqL.of ha, rs, few, fun ys p L hp nd mem hy => q _ _ (.new _) (new_ge o g1 hp) ⟨p, _, rfl, g1.fresh hp, upd_same, RDs.mono (new_keepP o g1 hp) hy⟩ (h1 L nd mem)⟩⟩
end Cr

namespace Cr
open PySem PySem.Spec PyProof.Rows L2
variable [Tbl]
/-! ### sets of nested tuples with up to some 1100 items -/
structure SetNG (w : World) (h : Heap) (a : Addr) (L : List (Addr × NestedKey)) (es : Array (Int × Value)) (ep : Nat) (t : SetTable) : Prop where
  ob : ∃ o, h.get? a = some o ∧ o.ExactSet ∧ o.data = .set es ep t
  rows : es.toList = L.map fun p => (hk w p, Value.ref p.1)
  tab : TabG t (L.map (hk w))
  plain : t.plain = true
  room : L.length * 5 < t.mask * 3
  few : L.length < 1100
section
variable {P : Program} {w : World} {A : Around} {E : Value → Shared → Prop} {s : Shared} {a x : Addr} {L : List (Addr × NestedKey)} {es : Array (Int × Value)} {ep : Nat} {t : SetTable} {k : NestedKey}
theorem SetNG.count (R : SetNG w s.heap a L es ep t) : es.size = L.length := by
  rw [← Array.length_toList, R.rows, List.length_map]
theorem SetNG.fits (R : SetNG w s.heap a L es ep t) : t.fits es.size = true := by
  have e1 : t.place.size = L.length := by rw [R.tab.cnt, List.length_map]
  have e2 := R.count
  have e3 := R.room
  unfold SetTable.fits SetTable.fill
  rw [R.tab.no, Bool.and_eq_true, beq_iff_eq, decide_eq_true_eq]
  exact ⟨by omega, show t.place.size + 0 ≤ t.mask by omega⟩
theorem SetNG.row (R : SetNG w s.heap a L es ep t) {i : Nat} {p : Addr × NestedKey} (e : L[i]? = some p) : es[i]? = some (hk w p, Value.ref p.1) := by
  rw [← Array.getElem?_toList, R.rows, List.getElem?_map, e]
  rfl
end
section
variable {P : Program} {w : World} {A : Around} {E : Value → Shared → Prop} {s : Shared}
theorem setNG_none {h : Heap} {a : Addr} (ho : h.get? a = some (set0 w)) : SetNG w h a [] #[] 0 (.fresh 0 0 (!w.params.followText "set-order")) :=
  ⟨⟨_, ho, ⟨rfl, rfl, rfl⟩, rfl⟩, rfl, ⟨List.Pairwise.nil, rfl, rfl, .inl (.inl rfl), fun x hx => (by cases hx), fun i h j hi => (by simp at hi)⟩, rfl, (show 0 * 5 < 7 * 3 by decide), (show 0 < 1100 by decide)⟩
theorem SetNG.keep {h h' : Heap} {a : Addr} {L : List (Addr × NestedKey)} {es : Array (Int × Value)} {ep : Nat} {t : SetTable} (R : SetNG w h a L es ep t) (kp : ∀ o, h.get? a = some o → h'.get? a = some o) : SetNG w h' a L es ep t := by
  obtain ⟨o, ho, r⟩ := R.ob
  exact ⟨⟨o, kp o ho, r⟩, R.rows, R.tab, R.plain, R.room, R.few⟩
end
structure SetMG (w : World) (h : Heap) (a : Addr) (L : List (Addr × NestedKey)) (es : Array (Int × Value)) (ep : Nat) (t : SetTable) : Prop extends SetNG w h a L es ep t where
  nd : (L.map (·.2)).Nodup
  led : w.params.followText "set-order" = true ∨ t.led = true
section
variable {P : Program} {w : World} {A : Around} {E : Value → Shared → Prop} {s : Shared} {a x : Addr} {L : List (Addr × NestedKey)} {es : Array (Int × Value)} {ep : Nat} {t : SetTable} {k : NestedKey}
/-- a key looked for: it is there, or the first empty slot of its way is found -/
theorem search_g (R : SetNG w s.heap a L es ep t) (kL : ∀ p ∈ L, KeyAt s.heap p.2 p.1) (kx : KeyAt s.heap k x) (hu : A.units + 8 < cLine) {K : Nat} (hKf : K < 10 * SetTable.turns t.mask)
    (hK : way t.mask (k.hash w) K ∉ t.place.toList) (hKb : ∀ c, c < K → way t.mask (k.hash w) c ∈ t.place.toList) {Q : SetFound → Shared → Prop} (hin : k ∈ L.map (·.2) → Q (.there none) s) (q : k ∉ L.map (·.2) → Q (.free (way t.mask (k.hash w) K) false) s) :
    ∀ (f c : Nat) (stand : Option SetTable.Probe), stand.getD (t.probeStart (k.hash w)) = nth t.mask (road w t k) c → c ≤ K → K - c < f → (∀ (i : Nat) p, L[i]? = some p → p.2 = k → ∃ c', c ≤ c' ∧ c' < K ∧ t.place.toList[i]? = some (way t.mask (k.hash w) c')) → wpAny (model P w) A (setSearchFrom a (.ref x) (k.hash w) true f stand) Q E s
  | 0, c, stand, _, _, hf, _ => absurd hf (Nat.not_lt_zero _)
  | f + 1, c, stand, hst, hc, hf, hre => by
    obtain ⟨o, ho, hex, hd⟩ := R.ob
    have hgw : ¬ t.gaveWay = true := by unfold SetTable.gaveWay; rw [odd_g R.tab.msk]; decide
    rw [setSearchFrom_succ]
    refine wpAny_bind (wpAny_setState_of ho hd R.fits ?_)
    dsimp only
    refine wp_if_neg hgw ?_
    try refine wpAny_bind (wpAny_pure ?_)
    have sh : ∀ j, nth t.mask (nth t.mask (road w t k) c) j = nth t.mask (road w t k) (c + j) := fun j => (nth_add t.mask c _ j).symm
    have sj : ∀ j, (nth t.mask (nth t.mask (road w t k) c) j).j = way t.mask (k.hash w) (c + j) := fun j => congrArg SetTable.Probe.j (sh j)
    have spec := go_spec t R.tab.up R.tab.no (fun i => (es[i]?.map (·.1)).getD 0) (k.hash w) (10 * SetTable.turns t.mask) (K - c) _ (no_dummy t.mask c (road w t k) rfl) (by omega)
      (fun j hj => by rw [sj]; exact hKb (c + j) (by omega)) (by rw [sj, show c + (K - c) = K by omega]; exact hK)
    have hashAt : ∀ (i : Nat) p, L[i]? = some p → (es[i]?.map (·.1)).getD 0 = p.2.hash w := fun i p hp => by rw [R.row hp]; rfl
    rcases spec with ⟨j, i, hj, hi, hh, hno, hpr⟩ | ⟨hno, hpr⟩
    · have e1 : t.probe (fun i => (es[i]?.map (·.1)).getD 0) (k.hash w) (stand.getD (t.probeStart (k.hash w))) = some (.candidate (way t.mask (k.hash w) (c + j)) i (nth t.mask (road w t k) (c + (j + 1)))) := by
        rw [hst, ← sj, ← sh]
        exact hpr
      rw [e1]
      dsimp only
      rw [sj] at hi
      have hil : i < L.length := by
        have h1 : i < t.place.toList.length := (List.getElem?_eq_some_iff.mp hi).1
        have h2 := R.tab.cnt
        rw [List.length_map] at h2
        rw [Array.length_toList] at h1
        omega
      have hp : L[i]? = some L[i] := List.getElem?_eq_getElem hil
      generalize L[i] = p at hp
      have hm : p ∈ L := List.mem_of_getElem? hp
      have on : wpAny (model P w) A (searchRest a (.ref x) (k.hash w) true f es t (way t.mask (k.hash w) (c + j)) i (nth t.mask (road w t k) (c + (j + 1)))) Q E s := by
        unfold searchRest
        rw [R.row hp]
        dsimp only
        refine wpAny_bind (wpAny_holding ((nestedKind P w).eqBool hu ⟨(kL p hm).is, (kL p hm).dp⟩ ⟨kx.is, kx.dp⟩ ?_))
        refine wpAny_bind (wpAny_setState_of ho hd R.fits ?_)
        dsimp only
        by_cases hkk : p.2 = k
        · refine wp_if_pos (by simp [hkk]) ?_
          exact wpAny_pure (hin (List.mem_map.mpr ⟨p, hm, hkk⟩))
        have hneq : decide (p.2 = k) = false := decide_eq_false hkk
        refine wp_if_neg (by rw [hneq]; decide) ?_
        try refine wpAny_bind (wpAny_pure ?_)
        rw [sameMem]
        dsimp only
        have hsl : t.slot (way t.mask (k.hash w) (c + j)) = .live i := slot_live R.tab.up hi
        simp only [if_true, hsl, R.row hp]
        refine wpAny_bind (wpAny_isSame_ref_self (wpAny_bind (wpAny_pure ?_)))
        simp only [if_true]
        refine wp_if_neg (by rw [hneq]; decide) ?_
        refine search_g R kL kx hu hKf hK hKb hin q f (c + (j + 1)) _ rfl (by omega) (by omega) fun i0 p0 h0 hk0 => ?_
        obtain ⟨c', a1, a2, a3⟩ := hre i0 p0 h0 hk0
        refine ⟨c', Classical.byContradiction fun lt => ?_, a2, a3⟩
        by_cases ec : c' = c + j
        · subst ec
          have s0 := slot_live R.tab.up a3
          rw [hsl] at s0
          injection s0 with s0
          rw [← s0, hp] at h0
          exact hkk ((congrArg Prod.snd (Option.some.inj h0)).trans hk0)
        · refine hno (c' - c) i0 (by omega) (by rw [sj, show c + (c' - c) = c' by omega]; exact a3) ?_
          exact (hashAt i0 p0 h0).trans (by rw [hk0])
      by_cases hl : t.led = true
      · refine wp_if_neg (by rw [hl]; decide) ?_
        try refine wpAny_bind (wpAny_pure ?_)
        exact on
      · have hl' : t.led = false := by cases q : t.led <;> simp_all
        refine wp_if_pos (by rw [hl']; decide) ?_
        refine wpAny_bind (unseen kx (fun y hy => ?_) ?_)
        · obtain ⟨e, he, ee⟩ := List.mem_map.mp hy
          have he2 : e ∈ es.toList := by have z : e ∈ es ∧ e.1 = k.hash w := by simpa using he
                                         simpa using z.1
          rw [R.rows] at he2
          obtain ⟨p2, hp2, e2⟩ := List.mem_map.mp he2
          exact ⟨p2.2, p2.1, by rw [← ee, ← e2], kL p2 hp2⟩
        · refine wp_if_neg (by decide) ?_
          try refine wpAny_bind (wpAny_pure ?_)
          exact on
    · have e1 : t.probe (fun i => (es[i]?.map (·.1)).getD 0) (k.hash w) (stand.getD (t.probeStart (k.hash w))) = some (.empty (way t.mask (k.hash w) K) none) := by
        have e2 : way t.mask (k.hash w) K = (nth t.mask (nth t.mask (road w t k) c) (K - c)).j := by rw [sj, show c + (K - c) = K by omega]
        rw [hst, e2]
        exact hpr
      rw [e1]
      refine wpAny_pure (q fun hm => ?_)
      obtain ⟨p0, h0, hk0⟩ := List.mem_map.mp hm
      obtain ⟨i0, hi0⟩ := List.mem_iff_getElem?.mp h0
      obtain ⟨c', a1, a2, a3⟩ := hre i0 p0 hi0 hk0
      refine hno (c' - c) i0 (by omega) (by rw [sj, show c + (c' - c) = c' by omega]; exact a3) ?_
      exact (hashAt i0 p0 hi0).trans (by rw [hk0])
end
section
variable {P : Program} {w : World} {A : Around} {E : Value → Shared → Prop} {s : Shared} {a x : Addr} {L : List (Addr × NestedKey)} {es : Array (Int × Value)} {ep : Nat} {t : SetTable} {k : NestedKey}
/-- the table laid anew -/
theorem relay_g {o : Obj} (ho : s.heap.get? a = some o) (hex : o.ExactSet) (hd : o.data = .set es ep t) (hr : es.toList = L.map fun p => (hk w p, Value.ref p.1)) (hsz : t.place.size = es.size) (hdm : t.dummies = #[]) (hfl : es.size ≤ t.mask)
    (nd : (L.map (·.2)).Nodup) (ld : w.params.followText "set-order" = true ∨ t.led = true) (pl : t.plain = true) (few : L.length < 1100) {wanted M : Nat} (hw : SetTable.sizeAbove wanted - 1 = M) (hM : MkG M) (hw2 : SetTable.sizeAbove wanted ≤ 2048) (hn : L.length * 5 < M * 3) {Q : Unit → Shared → Prop}
    (q : ∀ h' L' es' ep' t', Heap.SameBut a s.heap h' → SetMG w h' a L' es' ep' t' → L'.Perm L → Q () { s with heap := h' }) : wpAny (model P w) A (setRelay a wanted) Q E s := by
  have hsl : es.size = L.length := by rw [← Array.length_toList, hr, List.length_map]
  have hfits : t.fits es.size = true := by
    unfold SetTable.fits SetTable.fill
    rw [hdm, Bool.and_eq_true, beq_iff_eq, decide_eq_true_eq]
    exact ⟨hsz, show t.place.size + 0 ≤ t.mask by omega⟩
  obtain ⟨t', order, e, hp, T, em, el, ep'⟩ := anew_g t (hs := es.map (·.1)) (wanted := wanted) hw hM (by rw [Array.size_map, hsl]; omega)
  rw [Array.size_map, hsl] at hp
  obtain ⟨L2, r1, r2, r3⟩ := reorder hr hp
  rw [← r3] at T
  have hs2 : (order.filterMap (es[·]?)).size = es.size := by rw [← Array.length_toList, r1, List.length_map, r2.length_eq, hsl]
  rw [setRelay_eq]
  refine wpAny_bind (wpAny_setState_of ho hd hfits ?_)
  dsimp only
  refine wp_if_neg (by rw [sizeLine_eq]; omega) ?_
  try refine wpAny_bind (wpAny_pure ?_)
  rw [e]
  dsimp only
  refine wpAny_bind (wp_if_neg (by rw [hs2]; simp) ?_)
  try refine wpAny_bind (wpAny_pure ?_)
  refine wpAny_pure ?_
  dsimp only
  refine wpAny_storeSet_of ho hd ?_ (by rw [hs2, hsl, sizeLine_eq]; omega)
  have sb : Heap.SameBut a s.heap (s.heap.update a (Obj.putSet (order.filterMap (es[·]?)) t')) := Heap.SameBut.update ..
  refine q _ L2 (order.filterMap (es[·]?)) (ep + 1) t' sb ⟨⟨⟨_, store_at ho hd, ⟨hex.1, hex.2.1, hex.2.2⟩, rfl⟩, r1, T, by rw [ep']; exact pl, by rw [r2.length_eq, em]; exact hn, by rw [r2.length_eq]; exact few⟩, (r2.map (·.2)).nodup_iff.mpr nd, by rw [el]; exact ld⟩ r2
/-- one more key -/
theorem add_g (R : SetMG w s.heap a L es ep t) (kL : ∀ p ∈ L, KeyAt s.heap p.2 p.1) (kx : KeyAt s.heap k x) (hu : A.units + 8 < cLine) (hfew : L.length + 1 < 1100) {Q : Bool → Shared → Prop}
    (q : ∀ b h' L' es' ep' t', Heap.SameBut a s.heap h' → SetMG w h' a L' es' ep' t' → (k ∈ L.map (·.2) → L' = L) → (k ∉ L.map (·.2) → L'.Perm ((x, k) :: L)) → Q b { s with heap := h' }) : wpAny (model P w) A (setAddHashed a (.ref x) (k.hash w)) Q E s := by
  obtain ⟨o, ho, hex, hd⟩ := R.ob
  have hsl := R.toSetNG.count
  have hroom := R.room
  obtain ⟨K, hKf, hK, hKb⟩ := R.tab.gap (by rw [List.length_map]; omega) (k.hash w)
  have hbig : K < 100000 := by
    have z : 10 * SetTable.turns t.mask ≤ 20620 := by
      have := big_g R.tab.msk
      unfold SetTable.turns
      omega
    omega
  unfold setAddHashed
  refine wpAny_holding ?_
  rw [show (100000 : Nat) = 99999 + 1 from rfl, setAddHashedIn_succ]
  refine wpAny_bind (wpAny_setState_of ho hd R.toSetNG.fits ?_)
  dsimp only
  refine wp_if_neg (by simp [byScan, Value.scannable]) ?_
  try refine wpAny_bind (wpAny_pure ?_)
  unfold setSearch
  refine wpAny_bind (search_g R.toSetNG kL kx hu hKf hK hKb (fun hm => ?_) (fun hm => ?_) 100000 0 none rfl (Nat.zero_le _) (by omega) fun i p hp hkp => ?_)
  rotate_left 2
  · have hi : (L.map (hk w))[i]? = some (k.hash w) := by rw [List.getElem?_map, hp, ← hkp]; rfl
    have hil : i < t.place.toList.length := by
      have h1 : i < L.length := (List.getElem?_eq_some_iff.mp hp).1
      have h2 := R.tab.cnt
      rw [List.length_map] at h2
      rw [Array.length_toList]
      omega
    have hj := List.getElem?_eq_getElem hil
    obtain ⟨c, hc, e⟩ := R.tab.past hK hi hj
    exact ⟨c, Nat.zero_le _, hc, by rw [hj, e]⟩
  · dsimp only
    exact wpAny_pure (q false s.heap L es ep t (Heap.SameBut.refl a s.heap) R (fun _ => rfl) fun z => absurd hm z)
  dsimp only
  refine wpAny_bind (wpAny_setState_of ho hd R.toSetNG.fits ?_)
  dsimp only
  obtain ⟨q1, q3, q4, q5, q6, q9⟩ := R.tab.add hK hKb
  have hp1 : (t.put (way t.mask (k.hash w) K)).1.plain = true := by rw [q6]; exact R.plain
  generalize hpt : t.put (way t.mask (k.hash w) K) = pt at q1 q3 q4 q5 q6 q9 hp1 ⊢
  obtain ⟨t1, p⟩ := pt
  dsimp only at q1 q3 q4 q5 q6 q9 hp1 ⊢
  subst q1
  first
    | (refine wpAny_bind ?_; refine wp_if_pos hp1 ?_; refine by_value 8 _ kx.pl _ _ _ ?_)
    | refine wp_if_pos hp1 (wpAny_bind (by_value 8 _ kx.pl _ _ _ ?_))
  simp only [if_true]
  generalize hpp : SetTable.below t.place (way t.mask (k.hash w) K) = p at q3 ⊢
  have hin : (SetTable.insertAt es p (k.hash w, Value.ref x)).toList = (L.take p ++ (x, k) :: L.drop p).map fun p => (hk w p, Value.ref p.1) := by
    rw [SetTable.toList_insertAt, R.rows, List.map_append, List.map_cons, List.map_take, List.map_drop]
  have pm : (L.take p ++ (x, k) :: L.drop p).Perm ((x, k) :: L) := put_perm L p (x, k)
  have hhs : (L.take p ++ (x, k) :: L.drop p).map (hk w) = (L.map (hk w)).take p ++ k.hash w :: (L.map (hk w)).drop p := by rw [List.map_append, List.map_cons, List.map_take, List.map_drop]
  rw [← hhs] at q3
  have hlen : (L.take p ++ (x, k) :: L.drop p).length = L.length + 1 := pm.length_eq
  have hes : (SetTable.insertAt es p (k.hash w, Value.ref x)).size = L.length + 1 := by rw [← Array.length_toList, hin, List.length_map, hlen]
  generalize SetTable.insertAt es p (k.hash w, Value.ref x) = es1 at hin hes ⊢
  generalize L.take p ++ (x, k) :: L.drop p = L1 at pm hlen q3 hin
  have nd1 : (L1.map (·.2)).Nodup := (pm.map (·.2)).nodup_iff.mpr (List.nodup_cons.mpr ⟨hm, R.nd⟩)
  have ld1 : w.params.followText "set-order" = true ∨ t1.led = true := by rw [q5]; exact R.led
  refine wpAny_bind (wpAny_storeSet_of ho hd ?_ (by rw [hes, sizeLine_eq]; omega))
  have sb : Heap.SameBut a s.heap (s.heap.update a (Obj.putSet es1 t1)) := Heap.SameBut.update ..
  have ho1 := store_at (es' := es1) (t' := t1) ho hd
  generalize s.heap.update a (Obj.putSet es1 t1) = h1 at sb ho1 ⊢
  by_cases hf : t1.tooFull = true
  · first
      | (refine wpAny_bind ?_; refine wp_if_pos (by simp [hf]) ?_)
      | (refine wp_if_pos (by simp [hf]) ?_; refine wpAny_bind ?_)
    have hfull : (L.length + 1) * 5 ≥ t1.mask * 3 := by
      unfold SetTable.tooFull at hf
      rw [decide_eq_true_eq, q9, List.length_map] at hf
      exact hf
    rw [hsl]
    have hsz1 : t1.place.size = es1.size := by rw [q3.cnt, List.length_map, hlen, hes]
    have two : (t.mask = 7 ∧ L.length = 4) ∨ (t.mask = 31 ∧ L.length = 18) ∨ (t.mask = 127 ∧ L.length = 76) ∨ (t.mask = 511 ∧ L.length = 306) := by
      rcases R.tab.msk with (e | e | e) | e | e <;> (rw [q4, e] at hfull; rw [e] at hroom; rw [e]; omega)
    have go : ∀ M, SetTable.sizeAbove (SetTable.grown (L.length + 1)) - 1 = M → MkG M → SetTable.sizeAbove (SetTable.grown (L.length + 1)) ≤ 2048 → (L.length + 1) * 5 < M * 3 →
        wpAny (model P w) A (setRelay a (SetTable.grown (L.length + 1))) (fun _ s' => wpAny (model P w) A (pure true) Q E s') E { s with heap := h1 } := fun M y1 y2 y3 y4 => by
      refine relay_g (s := { s with heap := h1 }) ho1 ⟨hex.1, hex.2.1, hex.2.2⟩ rfl hin hsz1 q3.no (by rw [hes, q4]; rcases two with ⟨e, e2⟩ | ⟨e, e2⟩ | ⟨e, e2⟩ | ⟨e, e2⟩ <;> omega) nd1 ld1 hp1 (by rw [hlen]; exact hfew) y1 y2 y3 (by rw [hlen]; exact y4) ?_
      intro h2 L2 es2 ep2 t2 sb2 R2 pm2
      exact wpAny_pure (q true h2 L2 es2 ep2 t2 (sb.trans sb2) R2 (fun z => absurd z hm) fun _ => pm2.trans pm)
    rcases two with ⟨_, e2⟩ | ⟨_, e2⟩ | ⟨_, e2⟩ | ⟨_, e2⟩
    · exact go 31 (by rw [e2, size_20]) (.inl (.inr (.inl rfl))) (by rw [e2, size_20]; decide) (by omega)
    · exact go 127 (by rw [e2, size_76]) (.inl (.inr (.inr rfl))) (by rw [e2, size_76]; decide) (by omega)
    · exact go 511 (by rw [e2, size_77]) (.inr (.inl rfl)) (by rw [e2, size_77]; decide) (by omega)
    · exact go 2047 (by rw [e2, size_307]) (.inr (.inr rfl)) (by rw [e2, size_307]; decide) (by omega)
  · first
      | refine wp_if_neg (by simp [hf]) ?_
      | (refine wpAny_bind ?_; refine wp_if_neg (by simp [hf]) ?_; refine wpAny_pure ?_)
    refine wpAny_pure (q true h1 L1 es1 (ep + 1) t1 sb ⟨⟨⟨_, ho1, ⟨hex.1, hex.2.1, hex.2.2⟩, rfl⟩, hin, q3, hp1, ?_, by rw [hlen]; exact hfew⟩, nd1, ld1⟩ (fun z => absurd z hm) fun _ => pm)
    unfold SetTable.tooFull at hf
    rw [decide_eq_true_eq, q9, List.length_map] at hf
    rw [hlen]
    omega
end
theorem setMG_none {w : World} {h : Heap} {a : Addr} (ho : h.get? a = some (set0 w)) : SetMG w h a [] #[] 0 (.fresh 0 0 (!w.params.followText "set-order")) := ⟨setNG_none ho, List.nodup_nil, by
  show _ ∨ (!w.params.followText "set-order") = true
  cases w.params.followText "set-order"
  · exact .inr rfl
  · exact .inl rfl⟩
theorem SetMG.keep {w : World} {h h' : Heap} {a : Addr} {L : List (Addr × NestedKey)} {es : Array (Int × Value)} {ep : Nat} {t : SetTable} (R : SetMG w h a L es ep t) (kp : ∀ o, h.get? a = some o → h'.get? a = some o) : SetMG w h' a L es ep t := ⟨SetNG.keep R.toSetNG kp, R.nd, R.led⟩
section
variable {P : Program} {w : World} {A : Around} {E : Value → Shared → Prop} {s : Shared}
/-- the loop that fills the set, from the i-th item on -/
theorem fill_g {I : Addr} {fp wr : List Addr} {G : Array GenState → Array GenState → Prop} {n : Nat} {Pv : Nat → Value → Prop} {St : Nat → Shared → Prop} {R : Result → Shared → Prop}
    (W : WalksS P w A.in1 I fp wr G n Pv St) (S : Addr) (hSf : S ∉ fp) (ks : List (Addr × NestedKey)) (hn : n = ks.length) (hfew : ks.length < 1100) (hval : ∀ i v, Pv i v → ∃ p, ks[i]? = some p ∧ v = .ref p.1)
    (h0 : Heap) (hkey : ∀ p ∈ ks, KeyAt h0 p.2 p.1) (hS0 : h0.get? S = none) (hw0 : ∀ b ∈ wr, h0.get? b = none) (hu : A.in1.units + 8 < cLine) :
    ∀ (m i : Nat) (s : Shared), n - i = m → i ≤ n → St i s → (∀ b o, h0.get? b = some o → s.heap.get? b = some o) → (∃ L es ep t, SetMG w s.heap S L es ep t ∧ GotM ks i L) →
      (∀ s' L es ep t, Moved (S :: wr) G s s' → SetMG w s'.heap S L es ep t → GotM ks n L → (∀ b o, h0.get? b = some o → s'.heap.get? b = some o) → R (.ok (.ret .none)) s') →
      codeAny (model P w) A (.builtin "set.update.loop" ⟨[.ref S, .ref I], []⟩) R s := by
  have hSw : S ∉ wr := fun h => hSf (W.sub _ h)
  have sub1 : ∀ b ∈ wr, b ∈ S :: wr := fun b hb => List.mem_cons_of_mem _ hb
  have stay : ∀ {s s' : Shared}, Moved wr G s s' → (∀ b o, h0.get? b = some o → s.heap.get? b = some o) → ∀ b o, h0.get? b = some o → s'.heap.get? b = some o := fun hm hkp b o e =>
    hm.heap b o (fun hb => by rw [hw0 b hb] at e; cases e) (hkp b o e)
  intro m
  induction m with
  | zero =>
    intro i s hm0 hi hst hkp ⟨L, es, ep, t, hS, g⟩ hR
    obtain rfl : i = n := by omega
    refine codeAny_builtin F.entry_set_update_loop ?_
    rw [Around.under_plainId F.plain_set_update_loop _]
    show wpAny _ A.in1 (pyNext (.ref I) >>= _) _ _ s
    refine wpAny_bind (W.done s _ _ hst fun s' hm => ?_)
    show wpAny _ A.in1 (ret Value.none) _ _ s'
    exact wpAny_pure (hR s' L es ep t (hm.mono sub1) (hS.keep fun o e => hm.heap S o hSw e) g (stay hm hkp))
  | succ m ih =>
    intro i s hm0 hi hst hkp ⟨L, es, ep, t, hS, g⟩ hR
    have hlt : i < n := by omega
    refine codeAny_builtin F.entry_set_update_loop ?_
    rw [Around.under_plainId F.plain_set_update_loop _]
    show wpAny _ A.in1 (pyNext (.ref I) >>= _) _ _ s
    refine wpAny_bind (W.item i s _ _ hlt hst fun v s' hP hst' hm => ?_)
    obtain ⟨p, hp, rfl⟩ := hval i v hP
    have hkp' := stay hm hkp
    have hmem : ∀ q ∈ L, q ∈ ks := fun q hq => List.mem_of_mem_take (g.sub q hq)
    have kat : ∀ q ∈ ks, KeyAt s'.heap q.2 q.1 := fun q hq => (hkey q hq).at fun b o _ _ e _ => hkp' b o e
    have hS' : SetMG w s'.heap S L es ep t := hS.keep fun o e => hm.heap S o hSw e
    have hpk : p ∈ ks := List.mem_of_getElem? hp
    show wpAny _ A.in1 (holding [Value.ref p.1] (setAdd S (.ref p.1)) >>= _) _ _ s'
    refine wpAny_bind (wpAny_holding ?_)
    unfold setAdd
    refine wpAny_holding (wpAny_bind ((nestedKind P w).pyHash hu ⟨(kat p hpk).is, (kat p hpk).dp⟩ ?_))
    have hll := g.len
    refine add_g (s := { s' with toks := s'.toks + p.2.draws }) hS' (fun q hq => kat q (hmem q hq)) (kat p hpk) hu (by omega) fun b h' L' es' ep' t' hsb hS2 c1 c2 => ?_
    have g' : GotM ks (i + 1) L' := by
      by_cases c : p.2 ∈ L.map (·.2)
      · rw [c1 c]; exact g.same hp c
      · exact g.more hp (c2 c)
    have hkp2 : ∀ b o, h0.get? b = some o → h'.get? b = some o := fun b o e => (hsb.2 b (fun z => by rw [z, hS0] at e; cases e)).trans (hkp' b o e)
    refine wpAny_pure ⟨plainId_quiet F.plain_set_update_loop _, ih (i + 1) _ (by omega) hlt (W.frame _ s' _ _ hst' (Nat.le_add_right _ _) fun b hb o e => ?_) hkp2 ⟨L', es', ep', t', hS2, g'⟩ fun s'' L2 es2 ep2 t2 hm'' hS'' g'' hkp'' => ?_⟩
    · rw [hsb.2 b (fun h : b = S => hSf (by rw [← h]; exact hb))]; exact e
    · refine hR s'' L2 es2 ep2 t2 (Moved.trans W.gtrans ((hm.mono sub1).then_heap (Nat.le_add_right _ _) fun b o hb e => ?_) hm'') hS'' g'' hkp''
      rw [hsb.2 b (fun h : b = S => hb (by rw [h]; exact List.mem_cons_self))]; exact e
end
section
variable {P : Program} {w : World} {A : Around} {E : Value → Shared → Prop} {s : Shared}
/-- what set.__init__ does with a list of keys -/
theorem init_g {l : Addr} {items : Array Value} (ks : List (Addr × NestedKey)) (hh : A.handled = none) (hl : s.heap.IsList l items) (hit : items.toList = ks.map fun p => Value.ref p.1) (hkey : ∀ p ∈ ks, KeyAt s.heap p.2 p.1)
    (hfew : ks.length < 1100) (hu : A.units + 20 < cLine) :
    wpAny (model P w) A.in1.in1 (Builtin.«set.__init__» ⟨[.ref s.heap.objs.size, .ref l], []⟩)
      (fun fin s' => match fin with
        | .done f => wants (fun r s2 => r = .none ∧ ∃ h' tk L es ep t, s2 = { s with heap := h', toks := tk } ∧ SetMG w h' s.heap.objs.size L es ep t ∧ GotM ks ks.length L ∧ ∀ b o, s.heap.get? b = some o → h'.get? b = some o) E (.ok f) s'
        | .again c' => c'.quiet = true ∧ codeAny (model P w) A.in1 c' (wants (fun r s2 => r = .none ∧ ∃ h' tk L es ep t, s2 = { s with heap := h', toks := tk } ∧ SetMG w h' s.heap.objs.size L es ep t ∧ GotM ks ks.length L ∧ ∀ b o, s.heap.get? b = some o → h'.get? b = some o) E) s')
      (fun e s' => wants (fun r s2 => r = .none ∧ ∃ h' tk L es ep t, s2 = { s with heap := h', toks := tk } ∧ SetMG w h' s.heap.objs.size L es ep t ∧ GotM ks ks.length L ∧ ∀ b o, s.heap.get? b = some o → h'.get? b = some o) E (.error e) s')
      { s with heap := s.heap.push (set0 w) } := by
  have hisz : items.size = ks.length := by rw [← Array.length_toList, hit, List.length_map]
  obtain ⟨ol, hol, hcl, nl, hdl⟩ := hl
  obtain ⟨ocls, odict, odata, oslots⟩ := ol
  simp only at hcl hdl
  subst hcl; subst hdl
  have hS : (s.heap.push (set0 w)).get? s.heap.objs.size = some (set0 w) := Heap.get?_push_size _ rfl
  have hol' : (s.heap.push (set0 w)).get? l = some { cls := .type "list", dict := odict, data := .seq items nl, slots := oslots } := Heap.get?_push_of_some _ hol
  have hsls := F.sub_list_set
  have hslf := F.sub_list_frozenset
  have hne : (Value.type "list" == Value.type "dict") = false := by decide
  have hl1 : (s.heap.push (set0 w)).IsList l items := ⟨_, hol', rfl, nl, rfl⟩
  have hlS : l < s.heap.objs.size := Heap.lt_size hol
  have hz1 : (s.heap.push (set0 w)).objs.size = s.heap.objs.size + 1 := Heap.size_push ..
  unfold Builtin.«set.__init__» noKeywords Builtin.Frozenset.updateFrom
  generalize hPI : pyIter = PI
  wp_walk
  subst hPI
  refine wpAny_pyIter_list hl1 (wpAny_bind (wpAny_runValue ?_))
  have hh3 : A.in1.in1.in1.handled = none := by simp [hh]
  have hneI : l ≠ (s.heap.push (set0 w)).objs.size := by rw [hz1]; exact Nat.ne_of_lt (Nat.lt_succ_of_lt hlS)
  have hSf : s.heap.objs.size ∉ [(s.heap.push (set0 w)).objs.size, l] := by
    rw [hz1]
    simp only [List.mem_cons, List.mem_singleton, List.not_mem_nil, or_false, not_or]
    exact ⟨Nat.ne_of_lt (Nat.lt_succ_self _), Nat.ne_of_gt hlS⟩
  have hval : ∀ (i : Nat) (v : Value), items[i]? = some v → ∃ p, ks[i]? = some p ∧ v = .ref p.1 := fun i v hv => by
    rw [← Array.getElem?_toList, hit, List.getElem?_map] at hv
    cases hq : ks[i]? with
    | none => rw [hq] at hv; cases hv
    | some p => rw [hq] at hv; exact ⟨p, rfl, (Option.some.inj hv).symm⟩
  refine fill_g ((Walks.list hh3 _ l hneI items).toS) s.heap.objs.size hSf ks hisz hfew hval s.heap hkey (absent_from (Nat.le_refl _))
    (fun b hb => absent_from (by rw [List.mem_singleton.mp hb, hz1]; omega)) (by show A.units + 3 + 8 < cLine; omega) (items.size - 0) 0 _ (by omega) (Nat.zero_le _)
    ⟨⟨_, Heap.get?_push_size _ rfl, rfl, rfl⟩, (hl1.push _)⟩ (fun b o e => Heap.get?_push_of_some _ (Heap.get?_push_of_some _ e)) ⟨[], #[], 0, _, setMG_none (Heap.get?_push_of_some _ hS), GotM.zero ks⟩ fun s' L es ep t hm hS' g' hkp => ?_
  obtain ⟨h', g2, d', tk', os'⟩ := s'
  have eg : g2 = s.gens := hm.gens
  have ed : d' = s.drawn := hm.drawn
  have eo : os' = s.os := hm.os
  subst eg; subst ed; subst eo
  rw [hisz] at g'
  show wpAny _ _ _ _ _ _
  refine wpAny_pure ?_
  show wpAny _ _ (ret Value.none) _ _ _
  exact wpAny_pure ⟨rfl, h', tk', L, es, ep, t, rfl, hS', g', hkp⟩
/-- set(l), l a list of keys -/
theorem call_setG {l : Addr} {items : Array Value} (ks : List (Addr × NestedKey)) {Q : Value → Shared → Prop} (hh : A.handled = none) (hl : s.heap.IsList l items) (hit : items.toList = ks.map fun p => Value.ref p.1) (hkey : ∀ p ∈ ks, KeyAt s.heap p.2 p.1)
    (hfew : ks.length < 1100) (hu : A.units + 30 < cLine)
    (q : ∀ (h' : Heap) (tk : Nat) L es ep t, SetMG w h' s.heap.objs.size L es ep t → GotM ks ks.length L → (∀ b o, s.heap.get? b = some o → h'.get? b = some o) → Q (.ref s.heap.objs.size) { s with heap := h', toks := tk }) :
    wpAny (model P w) A (call (.type "set") [.ref l]) Q E s := by
  obtain ⟨c, tl, hmro⟩ := F.called_set.mro
  have hmade := F.called_set.made
  have hsub := F.called_set.sub
  refine wpAny_call (codeAny_of_tree ?_)
  show wpAny _ _ (callAny (.type "set") _) _ _ _
  refine wpAny_pure ⟨Code.quiet_builtin _ (by decide +kernel), codeAny_builtin F.entry_type_call ?_⟩
  rw [Around.under_plain (weight_type_call_type "set" [.ref l] []) rfl]
  have h1 := F.called_set.notType
  have h2 := F.called_set.canCreate
  have hct := F.typeCall_set_1 (.ref l)
  repeat (any_goals (first | assumption | wp_step))
  refine codeAny_mono (code_set_led1 (.ref l) (E := E) (Q₁ := fun obj s1 => obj = .ref s.heap.objs.size ∧ s1 = { s with heap := s.heap.push (set0 w) }) ⟨rfl, rfl⟩) fun r s1 hr => ?_
  cases r with
  | error e => exact hr
  | ok fl =>
    cases fl with
    | ret obj =>
      obtain ⟨rfl, rfl⟩ := hr
      have hT : Shared.TypeIs { s with heap := s.heap.push (set0 w) } (.ref s.heap.objs.size) "set" := ⟨_, Heap.get?_push_size _ rfl, rfl⟩
      have hli := F.called_set.init.lookup
      have hbi := F.called_set.init.bind (.ref s.heap.objs.size)
      repeat (any_goals (first | assumption | wp_step))
      refine codeAny_mono (codeAny_call_builtin F.called_set.init.plain F.entry_set_init (check_set_init_1 hT (init_g (A := A) (E := E) ks hh hl hit hkey hfew (by omega)))) fun r2 s2 hr2 => ?_
      cases r2 with
      | error e => exact hr2
      | ok fl2 =>
        cases fl2 with
        | ret r =>
          obtain ⟨rfl, h', tk, L, es, ep, t, rfl, hS', g', hk'⟩ := hr2
          repeat (any_goals (first | assumption | wp_step))
          exact q _ _ _ _ _ _ hS' g' hk'
        | _ => exact hr2.elim
    | _ => exact hr.elim
end
section
variable {P : Program} {w : World} {A : Around} {E : Value → Shared → Prop} {s : Shared}
open PySem.W in
theorem sorted_setG {β : Type} {a : Addr} {L : List (Addr × NestedKey)} {es : Array (Int × Value)} {ep : Nat} {t : SetTable} {bs : List β} {enc : β → PyData} {Rl : Value → β → Prop} {Q : Value → Shared → Prop} (R : SetMG w s.heap a L es ep t) (hh : A.handled = none)
    (e : EachIs (fun v b => Rl v b ∧ ∃ as, Reads s.heap v (enc b) as) (L.map fun p => Value.ref p.1) bs) (hal : ∀ l : List β, AllAlike (l.map enc)) (hk : ∀ b, ∃ es, enc b = .tuple es) (hu : ∀ b, A.units + 2 + (enc b).depth < cLine)
    (h : ∀ s' p (out : List Value) (c : Nat) (bs' : List β), (∀ b o, s.heap.get? b = some o → s'.heap.get? b = some o) → s'.gens = s.gens → s'.os = s.os → s.heap.objs.size ≤ p → s'.heap.get? p = some (seqObj "list" out.toArray c) → bs'.Perm bs → EachIs Rl out (bs'.mergeSort (dataLe false enc)) → Q (.ref p) s') :
    wpAny (model P w) A (call (.builtin "sorted") [.ref a]) Q E s := by
  obtain ⟨o, ho, hex, hd⟩ := R.ob
  have hsz := SetNG.count (s := s) R.toSetNG
  have hfew := R.few
  refine Calls.call_function_entry kind_sorted plain_sorted entry_sorted (args_sorted1 _) ?_
  unfold Builtin.«sorted»
  refine wpAny_bind (m := checkCount "sorted" 1 1 _) (wpAny_pure ?_)
  refine wpAny_bind (collect_set (A := A.in1) hh ⟨o, ho, hex.1, hd⟩ (SetNG.fits (s := s) R.toSetNG) (by unfold scanBound; omega) R.tab.up R.led fun s1 vs k1 hz g1 o1 pm => ?_)
  have hes : es.toList.map (·.2) = L.map fun q => Value.ref q.1 := by
    rw [R.rows, List.map_map]
    rfl
  rw [hes] at pm
  obtain ⟨bs', e', pb⟩ := each_perm pm e
  have hvl : vs.length ≤ sizeLine := by rw [pm.length_eq, List.length_map, sizeLine_eq]; omega
  refine wpAny_bind (wpAny_newList ?_ hvl)
  have hoL : (s1.heap.push (seqObj "list" vs.toArray 0)).get? s1.heap.objs.size = some (seqObj "list" vs.toArray 0) := Heap.get?_push_size _ rfl
  have old : ∀ b u, s.heap.get? b = some u → (sortingHeap (s1.heap.push (seqObj "list" vs.toArray 0)) s1.heap.objs.size vs).get? b = some u := fun b u q =>
    sortingHeap_old (Nat.ne_of_lt (Heap.lt_size (k1 b u q))) (Heap.get?_push_of_some _ (k1 b u q))
  have er : EachIs (fun v b => ∃ as, Reads (sortingHeap (s1.heap.push (seqObj "list" vs.toArray 0)) s1.heap.objs.size vs) v (enc b) as) vs bs' := e'.mono fun _ _ ⟨_, as, r⟩ => ⟨as, PyProof.Rows.Reads.keeps old r⟩
  refine wpAny_bind (wpAny_holding (wpAny_call_entry_kw slot_list_sort ⟨_, hoL, rfl⟩ entry_list_sort ?body (args_list_sort _)))
  case body =>
    show wpAny (model P w) A.in1.in1 (Builtin.«list.sort» ⟨[.ref s1.heap.objs.size], []⟩) _ _ _
    refine list_sort_vals (κ := dataKind (sortingHeap (s1.heap.push (seqObj "list" vs.toArray 0)) s1.heap.objs.size vs) (bs'.map enc)) (s := { s1 with heap := s1.heap.push (seqObj "list" vs.toArray 0) }) hoL (sortsTups (s := { s1 with heap := sortingHeap (s1.heap.push (seqObj "list" vs.toArray 0)) s1.heap.objs.size vs }) (each_map (R := fun v d => ∃ as, Reads (sortingHeap (s1.heap.push (seqObj "list" vs.toArray 0)) s1.heap.objs.size vs) v d as) enc er) (hal _) (fun d hd => by
      obtain ⟨b, _, rfl⟩ := List.mem_map.mp hd
      exact hk b) (bound_map (A := A.in1.in1) fun b _ => hu b)) hvl ?_
    have el : EachIs Rl (sortVals (dataKind (sortingHeap (s1.heap.push (seqObj "list" vs.toArray 0)) s1.heap.objs.size vs) (bs'.map enc)) false vs vs) (bs'.mergeSort (dataLe false enc)) := sortVals_data false (e'.mono fun _ _ z => z.1) er (hal _)
    generalize sortVals (dataKind (sortingHeap (s1.heap.push (seqObj "list" vs.toArray 0)) s1.heap.objs.size vs) (bs'.map enc)) false vs vs = out at el
    obtain ⟨c, hc⟩ := sortedHeap_at (vs := vs) (out := out.toArray) hoL
    refine ⟨_, rfl, wpAny_pure ⟨_, rfl, h _ s1.heap.objs.size out c bs' (fun b u q => ?_) g1 o1 hz hc pb el⟩⟩
    have lt := Heap.lt_size (k1 b u q)
    show (sortedHeap (s1.heap.push (seqObj "list" vs.toArray 0)) s1.heap.objs.size vs out.toArray).get? b = some u
    rw [sortedHeap_old (Nat.ne_of_lt lt) (by rw [size_push']; exact Nat.lt_succ_of_lt lt)]
    exact Heap.get?_push_of_some _ (k1 b u q)
end
def tSortSetG {β : Type} (K : PySem.W.Frag) (enc : β → PyData) (ta : TE) : TE := fun σ H Q => ta σ H fun x H1 => ∃ (N : Addr → Prop) (l : Addr) (xs : List V) (bs : List β), x = V.ref l ∧ SqL K H1 l xs ∧ RDs N H1 xs (bs.map enc) ∧ bs.length < 1100 ∧
  ∀ (ys : List V) (p : Addr) (L : List β), H1 p = none → L.Nodup → (∀ b, b ∈ L ↔ b ∈ bs) → RDs N H1 ys ((L.mergeSort (PySem.W.dataLe false enc)).map enc) → Q (.ref p) (upd H1 p (.lst ys))
section
variable {X : Cx} {pins : List (Addr × Obj)} {σ : L2.St} {H : Hp} {s : Shared}
theorem pe_sortSetG {β : Type} {enc : β → PyData} {a : Expr} {ta : TE} {p p2 q pos : Pos} (KE : KeyE enc) (hg : Gl X "sorted") (hm : X.mg "sorted" = none) (hg2 : Gl X "set") (hm2 : X.mg "set" = none) (ha : PE X a ta) (hu : X.A.units + 66 < cLine) (hc : X.calm = true := by rfl)
    (na : starEach [a] X.env = (false, eval a X.env) :: starEach [] X.env := by rfl) : PE X (.Call (.Name "sorted" p) [.Call (.Name "set" p2) [a] [] q] [] pos) (tSortSetG X.K enc ta) := by
  refine ⟨fun pn st σ H Q inv need => Call_ (ld_blt inv hg hm PyProof.Rows.boot_sorted (PyProof.Rows.callWith_builtin1 (PyProof.Rows.args_cons (Call_ (ld_blt inv hg2 hm2 PyProof.Rows.boot_set (PyProof.Rows.callWith_type1 (PyProof.Rows.args_cons (thn (ha.run pn st σ H _ inv need) fun v s1 got => PyProof.Rows.args_nil ?_) na) na rfl))) rfl) rfl rfl))⟩
  obtain ⟨x, H1, I1, r1, N, l, xs, bs, rfl, hl, rs, few, q1⟩ := got
  cases r1
  obtain ⟨its, rv, pl, z⟩ := I1.list hl
  obtain ⟨ks, e1, e2, e3⟩ := keys_each I1 rv rs KE.key
  have hlen : ks.length = bs.length := e2.length
  refine call_setG (A := X.A) ks (I1.ok.hd hc) pl.isList (by simpa using e1) e3 (by omega) (by omega) fun h' tk L es ep t R g hk => PyProof.Rows.args_nil ?_
  have I2 : Inv X pn σ H1 { s1 with heap := h', toks := tk } := I1.kept hk
  have sub : ∀ p ∈ L, p ∈ ks := fun p hp => List.mem_of_mem_take (g.sub p hp)
  obtain ⟨cs, c1, c2, c3, c4⟩ := each_sub KE.inj e2 sub R.nd
  have mem : ∀ b, b ∈ cs ↔ b ∈ bs := fun b => ⟨c3 b, fun hb => by
    obtain ⟨p, hp, hr⟩ := each_right e2 b hb
    have : p.2 ∈ L.map (·.2) := g.all p (by rw [List.take_length]; exact hp)
    rw [c4] at this
    obtain ⟨c, hc', ec⟩ := List.mem_map.mp this
    rw [← KE.inj c b (ec.trans hr.1)]
    exact hc'⟩
  have each : PySem.W.EachIs (fun (u : Value) b => (∃ x, RelV x u ∧ RD N H1 x (enc b)) ∧ ∃ as, Reads h' u (enc b) as) (L.map fun p => Value.ref p.1) cs := by
    clear q1 mem c4 c3 c2 R g sub
    induction c1 with
    | nil => exact .nil
    | cons hr _ ih => exact .cons ⟨⟨.ref _, rfl, hr.2⟩, Dp.reads I2 _ _ _ hr.2.dp rfl⟩ ih
  refine sorted_setG (s := { s1 with heap := h', toks := tk }) R (I1.ok.hd hc) each KE.al (fun b => (KE.key b).2) (fun b => by have := KE.dp b; omega) fun s' p out c bs' k gg oo hp hg' pb hout => ?_
  obtain ⟨ys, ry, hy⟩ := rd_each hout
  have hyl : ys.length ≤ sizeLine := by
    have h1 := hy.length
    rw [List.length_map, List.length_mergeSort, pb.length_eq] at h1
    have h2 := c1.length
    have h3 := R.few
    rw [h1, sizeLine_eq]
    omega
  have hn : H1 p = none := I2.hok.fresh hp
  have J : Inv X pn σ (upd H1 p (.lst ys)) { ({ s1 with heap := h', toks := tk } : Shared) with heap := s'.heap, gens := s'.gens, drawn := s'.drawn, toks := s'.toks } :=
    I2.call (s := { s1 with heap := h', toks := tk }) (ch := []) (Un.laid k hp hn) (I2.hok.laid k hp ⟨hyl, out, c, ry, hg'⟩) (by rw [gg]; exact I2.bare) (fun _ z => nomatch z)
  have e : s' = { s1 with heap := s'.heap, gens := s'.gens, drawn := s'.drawn, toks := s'.toks } := by
    cases s'
    cases s1
    cases oo
    rfl
  rw [e]
  exact ⟨.ref p, _, J, rfl, q1 ys p bs' hn (pb.nodup_iff.mpr c2) (fun b => pb.mem_iff.trans (mem b)) hy⟩
end
/-- .. over data -/
def dSortSetG {β : Type} (enc : β → PyData) (Ta : DTE) : DTE := fun env Qd => Ta env fun r => ∃ bs : List β, r.data = some (.list (bs.map enc)) ∧ bs.length < 1100 ∧ ∀ L : List β, L.Nodup → (∀ b, b ∈ L ↔ b ∈ bs) → Qd (.new ((L.mergeSort (PySem.W.dataLe false enc)).map enc))
instance {β : Type} {K : PySem.W.Frag} {enc : β → PyData} {ta : TE} {Ta : DTE} [DL ta Ta] : DL (tSortSetG K enc ta) (dSortSetG enc Ta) := ⟨fun z σ env Q Qd o e h q =>
  DL.run (t := ta) z σ env _ _ o e h fun v H1 r g1 r1 h1 => by
    obtain ⟨bs, hd, few, h1⟩ := h1
    obtain ⟨a, xs, rfl, ha, rs⟩ := r1.items hd
    exact ⟨z.N, a, xs, bs, rfl, SqL.of ha, rs, few, fun ys p L hp nd mem hy => q _ _ (.new _) (new_ge o g1 hp) ⟨p, _, rfl, g1.fresh hp, upd_same, RDs.mono (new_keepP o g1 hp) hy⟩ (h1 L nd mem)⟩⟩
end Cr

namespace Cr
open PySem PySem.Spec PyProof.Rows L2
variable [Tbl]
/-! ### whole cases say all: the mathematics of k69 -/
/-- what rules within c name of c -/
def uni9 (rs : List Rule) (c : Case) : Case := c.filter fun x => rs.any fun r => inB r.1 c && decide (x ∈ r.1)
theorem uni9_mem {rs : List Rule} {c : Case} {x : Cond} : x ∈ uni9 rs c ↔ x ∈ c ∧ ∃ r ∈ rs, inB r.1 c = true ∧ x ∈ r.1 := by
  unfold uni9
  rw [List.mem_filter, List.any_eq_true]
  refine and_congr_right fun _ => exists_congr fun r => and_congr_right fun _ => ?_
  rw [Bool.and_eq_true, decide_eq_true_eq]
theorem uni9_in (rs : List Rule) (c : Case) : inB (uni9 rs c) c = true := inB_iff.mpr fun x hx => (uni9_mem.mp hx).1
/-- the same rules match -/
theorem uni9_same {rs : List Rule} {c : Case} {r : Rule} (hr : r ∈ rs) : inB r.1 (uni9 rs c) = inB r.1 c := by
  cases h : inB r.1 c with
  | true => exact inB_iff.mpr fun x hx => uni9_mem.mpr ⟨inB_iff.mp h x hx, r, hr, h, hx⟩
  | false =>
    cases q : inB r.1 (uni9 rs c) with
    | false => rfl
    | true =>
      have : inB r.1 c = true := inB_iff.mpr fun x hx => inB_iff.mp (uni9_in rs c) x (inB_iff.mp q x hx)
      rw [h] at this
      cases this
theorem match_uni9 (rs : List Rule) (c : Case) : (rs.filter fun r => inB r.1 (uni9 rs c)) = rs.filter fun r => inB r.1 c := List.filter_congr fun r hr => uni9_same hr
/-- .. and the same decide, with the same results -/
theorem unb_uni9 (rs : List Rule) (c : Case) : unb rs (uni9 rs c) = unb rs c := by
  unfold unb
  rw [match_uni9]
theorem resL_uni9 (rs : List Rule) (c : Case) : resL rs (uni9 rs c) = resL rs c := by
  unfold resL
  rw [unb_uni9]
theorem matter9 {rs : List Rule} (ok : ∀ r ∈ rs, CaseOk r.1) (c : Case) : c ∈ casesM rs ↔ CaseOk c ∧ GoodC rs c := ((List.mergeSort_perm _ _).mem_iff).trans (matter_mem ok c)
theorem uni9_matters {rs : List Rule} (ok : ∀ r ∈ rs, CaseOk r.1) {c : Case} (okc : CaseOk c) : uni9 rs c ∈ casesM rs := (matter9 ok _).mpr ⟨sub_case okc _, fun x hx => by
  obtain ⟨_, r, hr, hi, hx⟩ := uni9_mem.mp hx
  exact ⟨r, hr, fun y hy => uni9_mem.mpr ⟨inB_iff.mp hi y hy, r, hr, hi, hy⟩, hx⟩⟩
theorem own9 {rs : List Rule} (ok : ∀ r ∈ rs, CaseOk r.1) {r : Rule} (hr : r ∈ rs) : r.1 ∈ casesM rs := (matter9 ok _).mpr ⟨ok r hr, fun x hx => ⟨r, hr, fun y hy => hy, hx⟩⟩
/-- two that meet, put together -/
theorem tog9 {rs : List Rule} (ok : ∀ r ∈ rs, CaseOk r.1) {a b : Case} (ha : a ∈ casesM rs) (hb : b ∈ casesM rs) (m : meetB a b = true) : togC a b ∈ casesM rs := by
  obtain ⟨oa, ga⟩ := (matter9 ok a).mp ha
  obtain ⟨ob, gb⟩ := (matter9 ok b).mp hb
  refine (matter9 ok _).mpr ⟨tog_ok oa ob m, fun x hx => ?_⟩
  rcases tog_mem.mp hx with h | h
  · obtain ⟨r, hr, k, hx⟩ := ga x h
    exact ⟨r, hr, fun y hy => tog_mem.mpr (.inl (k y hy)), hx⟩
  · obtain ⟨r, hr, k, hx⟩ := gb x h
    exact ⟨r, hr, fun y hy => tog_mem.mpr (.inr (k y hy)), hx⟩
theorem matter_nd9 (rs : List Rule) : (casesM rs).Nodup := (List.mergeSort_perm _ _).nodup_iff.mpr (matter_nd rs _)
theorem nil9 {rs : List Rule} (ok : ∀ r ∈ rs, CaseOk r.1) : [] ∈ casesM rs := (matter9 ok _).mpr ⟨CaseOk.nil, fun x hx => (nomatch hx)⟩
/-! sorted -/
theorem sort_pw9 {β : Type} (k : β → PyData) (inj : ∀ a b, PySem.W.keyToks (k a) = PySem.W.keyToks (k b) → a = b) {l : List β} (nd : l.Nodup) : (l.mergeSort (PySem.W.dataLe false k)).Pairwise fun a b => PySem.W.dataLt (k a) (k b) = true := by
  let O := PyProof.Rows.listOrd PyProof.Rows.itemOrd
  have T := PySem.W.sortLe_total O false fun b => PySem.W.keyToks (k b)
  have s : (l.mergeSort (PySem.W.dataLe false k)).Pairwise fun a b => PySem.W.dataLe false k a b = true := List.pairwise_mergeSort (fun a b c h1 h2 => T.trans a b c h1 h2) (fun a b => by have := T.total a b; simpa [PySem.W.dataLe] using this) l
  have nd' : (l.mergeSort (PySem.W.dataLe false k)).Nodup := (List.mergeSort_perm _ _).nodup_iff.mpr nd
  refine s.imp₂ (fun a b h1 h2 => ?_) nd'
  have h1 : (!O.blt (PySem.W.keyToks (k b)) (PySem.W.keyToks (k a))) = true := h1
  have h2 : a ≠ b := h2
  show O.blt (PySem.W.keyToks (k a)) (PySem.W.keyToks (k b)) = true
  cases e : O.blt (PySem.W.keyToks (k a)) (PySem.W.keyToks (k b)) with
  | true => rfl
  | false => exact absurd (inj a b (O.total _ _ e (by simpa using h1))) h2
theorem head9 {rs : List Rule} (ok : ∀ r ∈ rs, CaseOk r.1) : ∃ l, casesM rs = [] :: l := by
  have pw : (casesM rs).Pairwise fun a b => PySem.W.dataLt (sizeD a) (sizeD b) = true := sort_pw9 sizeD size_inj (matter_nd rs rs.length)
  have hn := nil9 ok
  cases e : casesM rs with
  | nil => rw [e] at hn; cases hn
  | cons c l =>
    rw [e] at pw hn
    obtain ⟨h1, _⟩ := List.pairwise_cons.mp pw
    rcases List.mem_cons.mp hn with h | h
    · exact ⟨l, by rw [← h]⟩
    · have z := h1 [] h
      unfold sizeD at z
      rw [PySem.W.dataLt_pair (by simp [PySem.W.alike]) (alike_case c []), eqv_int, eqv_case, PySem.W.dataLt_int] at z
      cases c with
      | nil => exact ⟨l, rfl⟩
      | cons x c =>
        rw [List.length_cons, List.length_nil] at z
        rw [if_neg (by simp; omega)] at z
        exact absurd (of_decide_eq_true z) (by omega)
def row9 (c : Case) : Nat × Case := (c.length, c)
theorem row_inj9 (a b : Nat × Case) (h : PySem.W.keyToks (rowD a) = PySem.W.keyToks (rowD b)) : a = b := by
  unfold rowD caseD at h
  simp only [PySem.W.keyToks, PySem.W.keyToksAll, List.cons_append, List.nil_append, List.cons.injEq, Sum.inl.injEq, true_and] at h
  have h1 : a.1 = b.1 := by have := h.1; omega
  exact Prod.ext h1 (toks_case a.2 b.2 _ _ h.2).1
theorem sorted_twice (rs : List Rule) : (casesM rs).mergeSort (PySem.W.dataLe false sizeD) = casesM rs := sort_same sizeD size_inj (matter_nd9 rs) (matter_nd rs rs.length) fun c => (List.mergeSort_perm _ _).mem_iff
/-- the rows of size and case, each once, sorted: as they are -/
theorem rows9 {rs : List Rule} {L : List (Nat × Case)} (nd : L.Nodup) (h : ∀ b, b ∈ L ↔ b ∈ (casesM rs).map row9) : (L.mergeSort (PySem.W.dataLe false rowD)).map rowD = ((casesM rs).map row9).map rowD := by
  have nr : ((casesM rs).map row9).Nodup := List.pairwise_map.mpr ((matter_nd9 rs).imp fun ne e => ne (congrArg Prod.snd e))
  rw [sort_same rowD row_inj9 nd nr h]
  have e : ((casesM rs).map row9).mergeSort (PySem.W.dataLe false rowD) = (casesM rs).map row9 := by
    have h1 : (((casesM rs).map row9).mergeSort (PySem.W.dataLe false rowD)).map (·.2) = casesM rs := (rows_sorted (casesM rs)).trans (sorted_twice rs)
    have h2 : ∀ p ∈ ((casesM rs).map row9).mergeSort (PySem.W.dataLe false rowD), row9 p.2 = p := fun p hp => by
      obtain ⟨c, _, rfl⟩ := List.mem_map.mp ((List.mergeSort_perm _ _).mem_iff.mp hp)
      rfl
    have h3 : (((casesM rs).map row9).mergeSort (PySem.W.dataLe false rowD)).map (fun p => row9 p.2) = ((casesM rs).map row9).mergeSort (PySem.W.dataLe false rowD) := (List.map_congr_left h2).trans (List.map_id' _)
    rw [← h3]
    have h4 := congrArg (List.map row9) h1
    rw [List.map_map] at h4
    exact h4
  rw [e]
theorem keyE_len : KeyE rowD := ⟨fun p => ⟨.inr ⟨_, rfl, fun e he => by
  rcases List.mem_cons.mp he with rfl | he
  · exact .inl ⟨_, rfl⟩
  · rw [List.mem_singleton.mp he]
    refine .inr ⟨_, rfl, fun e he => ?_⟩
    obtain ⟨x, _, rfl⟩ := List.mem_map.mp he
    refine .inr ⟨_, rfl, fun e he => ?_⟩
    rcases List.mem_cons.mp he with rfl | he
    · exact .inl ⟨_, rfl⟩
    · rw [List.mem_singleton.mp he]; exact .inl ⟨_, rfl⟩⟩, _, rfl⟩, fun a b h => by
    have h : toKey (.tuple [.int (a.1 : Nat), .tuple (a.2.map condD)]) = toKey (.tuple [.int (b.1 : Nat), .tuple (b.2.map condD)]) := h
    simp only [toKey, toKeys] at h
    injection h with h
    injection h with h1 h
    injection h with h2 h
    injection h1 with h1
    injection h2 with h2
    exact Prod.ext (by omega) (key_conds h2), fun l => PySem.W.AllAlike.of fun a b => by
    unfold rowD caseD
    simp [PySem.W.alike, PySem.W.alikeAll, alikeAll_conds], fun p => by
    have := case_dep p.2
    unfold rowD
    simp only [PyData.depth, PyData.depthAll]
    omega⟩
/-! few -/
def all15 : List Cond := ((List.range 5).map fun a : Nat => (List.range 3).map fun v : Nat => (((a : Nat) : Int), ((v : Nat) : Int))).flatten
theorem at15 : ∀ k, k < 5 → (atK all15 k).length ≤ 3 := by decide +kernel
theorem every15 : ∀ k, k ≤ 5 → (everyTo all15 k).length ≤ 4 ^ k
  | 0, _ => Nat.le_refl _
  | k + 1, hk => by
    have ih := every15 k (by omega)
    have := flat_len (f := longer all15 k) (n := 4) (l := everyTo all15 k) fun c _ => by
      unfold longer
      rw [List.length_cons, List.length_map]
      have := at15 k (by omega)
      omega
    show ((everyTo all15 k).flatMap (longer all15 k)).length ≤ _
    rw [Nat.pow_succ]
    omega
theorem few9 {rs : List Rule} (ok : ∀ r ∈ rs, CaseOk r.1) (lo : ∀ r ∈ rs, ∀ x ∈ r.1, x.2 ≤ 2) : (casesM rs).length ≤ 1024 := by
  have h := nd_len (b := everyTo all15 5) (matter_nd9 rs) fun c hc => by
    obtain ⟨o, g⟩ := (matter9 ok c).mp hc
    have := every_below (N := all15) o.asc (fun d hd => (o.each d hd).1) (fun d hd => by
      obtain ⟨r, hr, _, hx⟩ := g d hd
      have h1 := lo r hr d hx
      have h2 := o.each d hd
      refine List.mem_flatten.mpr ⟨_, List.mem_map.mpr ⟨d.1.toNat, List.mem_range.mpr (show d.1.toNat < 5 by omega), rfl⟩, List.mem_map.mpr ⟨d.2.toNat, List.mem_range.mpr (show d.2.toNat < 3 by omega), ?_⟩⟩
      exact Prod.ext (by show ((d.1.toNat : Nat) : Int) = d.1; omega) (by show ((d.2.toNat : Nat) : Int) = d.2; omega)) 5
    rw [List.filter_eq_self.mpr fun d hd => by have := (o.each d hd).2.1; simp; omega] at this
    exact this
  have := every15 5 (Nat.le_refl _)
  omega
end Cr

set_option synthInstance.maxSize 4000
set_option synthInstance.maxHeartbeats 1000000
namespace Cr
open PySem PySem.Spec PyProof.Rows L2
variable [Tbl]
def spChooseW : Sp := fun vs H Q _ => ∃ (S l : Addr) (xs : List V), vs = [.ref S, .ref l] ∧ Src H S ∧ l ≠ S ∧ H l = some (.lst xs) ∧ 0 < xs.length ∧ xs.length < 1073741824 ∧ ∀ H' v, SB S H H' → Src H' S → v ∈ xs → Q v H'
abbrev qChooseW : Sp := spD (fun ds : List PyData => 0 < ds.length ∧ ds.length < 1073741824 ∧ noLs ds = true) (fun ds => [.src, .dat (.list ds)]) (fun ds r => ∃ d ∈ ds, r = .dat d)
theorem toChooseW (vs : List V) (H : Hp) (Q : VK) (E : XK) (h : qChooseW vs H Q E) : spChooseW vs H Q E := by
  obtain ⟨ds, S, ⟨h0, h1, hn⟩, hS, hv, q⟩ := h
  have o : (⟨S, S, H⟩ : Zs).Ok := ⟨fun _ s => s, hS.s, fun b s => let ⟨x, y, w, e⟩ := hS.s b s; ⟨_, e⟩, hS.tb⟩
  match vs, hv with
  | [v1, v2], ⟨⟨a, e, ha⟩, h2, _⟩ =>
    subst e
    have h2 : RD S H v2 (.list ds) := h2
    cases h2 with
    | lst n hl rr =>
      have len := rr.length
      refine ⟨a, _, _, rfl, hS.s a ha, fun w => n (by rw [w]; exact ha), hl, by omega, by omega, fun H' v sb src hv => ?_⟩
      obtain ⟨d, hd, hr⟩ := rds_mem rr hv
      have g := sbGe hS ha sb src
      exact q v H' (.dat d) g (RD.free (noLs_mem hn hd) (RD.mono (g.keepN o) hr)) ⟨d, hd, rfl⟩
abbrev LowR (rs : List Rule) : Prop := ∀ r ∈ rs, ∀ x ∈ r.1, x.2 ≤ 2
theorem merged_low {a b : Case} (ha : ∀ x ∈ a, x.2 ≤ 2) (hb : ∀ x ∈ b, x.2 ≤ 2) : ∀ x ∈ (mergeC [] (a ++ b)).mergeSort (PySem.W.dataLe false condD), x.2 ≤ 2 := fun x hx => by
  rcases mergeC_mem ((List.mergeSort_perm _ _).mem_iff.mp hx) with h | h
  · cases h
  · exact (List.mem_append.mp h).elim (ha x) (hb x)
theorem any_case9 (l : List Case) (c : Case) : ((l.map caseD).any fun z => PyData.eqv z (caseD c)) = decide (c ∈ l) := by
  rw [List.any_map]
  induction l with
  | nil => rfl
  | cons x l ih =>
    rw [List.any_cons, ih]
    show (PyData.eqv (caseD x) (caseD c) || decide (c ∈ l)) = decide (c ∈ x :: l)
    rw [eqv_case]
    by_cases h1 : x = c
    · simp [h1]
    · have : c ≠ x := fun e => h1 e.symm
      simp [h1, this]
theorem eqv_rows9 : ∀ l : List (Nat × Case), PyData.eqvAll (l.map rowD) (l.map rowD) = true
  | [] => by simp [PyData.eqvAll]
  | p :: l => by
    have h := eqv_case p.2 p.2
    rw [List.map_cons, PyData.eqvAll, eqv_rows9 l]
    unfold rowD
    simp [PyData.eqv, PyData.eqvAll, h]
theorem shaped_rows9 (l : List (Nat × Case)) : SeqAt.shaped (.list (l.map rowD)) = true := shaped_of (by
  simp only [PyData.canLay0]
  exact lay_all (fun p => by
    have := case_lay p.2
    unfold rowD
    simp [PyData.canLay0, PyData.canLayAll0, this]) l) (by
  have h := dep_all (f := rowD) (n := 4) (fun p => by
    have := case_dep p.2
    unfold rowD
    simp only [PyData.depth, PyData.depthAll]
    omega) l
  simp only [PyData.depth]
  omega)
section
variable {P : Program} {w : World} {K : PySem.W.Frag} {mg : Str → Option Value} {base : Heap} {f : Addr} {fd : FuncData}
theorem ok_chooseW {fD : Addr} {fdD : FuncData} (F : Fun K "_law_choose" "_law_choose" s_law_choose f fd) (B : Blt mg) (mD : mg "_law_draw" = some (.ref fD)) (FD : Fun K "_law_draw" "_law_draw" s_law_draw fD fdD) (bD : Binds K fdD ["_law_source_here", "_law_many"] []) :
    FnOk P w K mg base CX0 2 f fd ["_law_source_here", "_law_values"] spChooseW := by
  have GD : FnOk P w K mg base CX0 1 fD fdD ["_law_source_here", "_law_many"] spDraw := ok_draw FD
  refine F.ok sc_choose (fun vs H Q E h => ?_) (fun cdv A outer s H vs Q E hr h => ?_)
  · obtain ⟨S, l, xs, rfl, _⟩ := h
    rfl
  · obtain ⟨S, l, xs, rfl, hS, hl, hx, h0, h1, q⟩ := h
    refine ⟨_, pss_one (ps_ret (pe_ix ix_list (pv 1) (pe_call GD hr rfl mD FD.kp bD .nil pass0 (pa_cons (pv 0) (pa_cons (pe_callB call_len_seq (by rfl) B.len PySem.boot_len (pa_cons (pv 1) pa_nil)) pa_nil))) (fun _ _ => rfl))), ?_⟩
    refine ⟨_, rfl, _, rfl, _, rfl, l, _, rfl, .inl (SqL.of hx), S, _, rfl, hS, by omega, by omega, fun H' r sb hS' r0 r1 => ?_⟩
    have hr2 : r.toNat < xs.length := by omega
    refine ⟨l, xs, r, xs[r.toNat], rfl, rfl, SqL.of (sb _ _ hl hx), at_of (by omega) (List.getElem?_eq_getElem hr2), ?_⟩
    exact q _ _ sb hS' (List.getElem_mem hr2)
abbrev qCaseV : Sp := spD (fun a : Int × Int => 0 < a.2 ∧ a.2 ≤ 10) (fun a => [.src, .dat (.int a.1), .dat (.int a.2)]) (fun a r => ∃ cs, r = .dat (caseD cs) ∧ CaseOk cs ∧ ∀ x ∈ cs, x.2 < a.2)
theorem ok_caseV (F : Fun K "_law_case" "_law_case" s_law_case f fd) (B : Blt mg) (hDraw : Has P w K mg base 1 "_law_draw" ["_law_source_here", "_law_many"] qDraw) : FnOk P w K mg base CX0 2 f fd ["_law_source_here", "_law_most", "_law_values"] qCaseV := by
  refine fnD F sc_case6 (fun _ => rfl) fun cdv A outer s H E hr => ⟨_, _, (pss_cons (ps_set (i := 3) sc_case6.nd rfl (.inl rfl) (pe_lst pa_nil))
      (pss_cons (ps_for PassesOwn.never rfl (pi_range1 (by rfl) B.range (pa_cons pe_int pa_nil)) (pg_name (i := 4) sc_case6.nd rfl (.inl rfl))
      (pss_one (ps_if (PW.pt (pw_and (pt_cmpR op_lt (pe_callB (show CallR _ (.builtin "len") (rLenE K) from call_len_seq) (by rfl) B.len PySem.boot_len (pa_cons (pv 3) pa_nil)) (pv 1) (nomark _)) (pw_and1 (pt_cmpR op_lt (pe_callH hDraw (hr.mono (by decide)) rfl (pa_cons (pv 0) (pa_cons pe_int pa_nil))) pe_int (nomark _))))) (pss_one (ps_expr (pe_bm PySem.F.plainAttrs_list PySem.F.slot_list_append PySem.F.type_list_append mt_append (pv 3) (pa_cons (pe_tupF (pa_cons (pv 4) (pa_cons (pe_callH hDraw (hr.mono (by decide)) rfl (pa_cons (pv 0) (pa_cons (pv 2) pa_nil))) pa_nil))) pa_nil)))) pss_nil)))
      (pss_one (ps_ret (pe_callTy (show CallR _ (.type "tuple") (rTupE K) from call_tupF) (by rfl) B.tuple (by decide +kernel) (pa_cons (pv 3) pa_nil)))))), inferInstance, fun a ha => ?_⟩
  obtain ⟨m, n⟩ := a
  obtain ⟨h0, h1⟩ := ha
  dsimp only at h0 h1
  refine ⟨by show (0 : Nat) ≤ 1000000; decide, _, .inl rfl, ?_⟩
  refine ⟨⟨by decide, by decide⟩, rfl, ?_⟩
  refine loop_range (lo := 0) (n := 5) (fun i env => ∃ (a : Option SV) (cs : Case), env = [some .src, some (.dat (.int m)), some (.dat (.int n)), some (.own (cs.map condD)), a] ∧ CaseOk cs ∧ (∀ c ∈ cs, c.1 < i) ∧ ∀ c ∈ cs, c.2 < n) ⟨_, [], rfl, CaseOk.nil, fun c hc => (nomatch hc), fun c hc => (nomatch hc)⟩ (fun i env' hi he => ?_) fun env' he => ?_
  · obtain ⟨a, cs, rfl, ok, lt, lv⟩ := he
    have stay : ∀ c ∈ cs, c.1 < ((i + 1 : Nat) : Int) := fun c hc => by have := lt c hc; omega
    show if decide ((((cs.map condD).length : Nat) : Int) < m) = true then _ else _
    split
    · refine ⟨5, ⟨by decide, by decide⟩, ⟨trivial, rfl, trivial⟩, fun x hx => ?_⟩
      obtain ⟨k, rfl, k0, k1⟩ := hx
      show if decide (k < 2) = true then _ else _
      split
      · refine ⟨n, ⟨h0, by omega⟩, ⟨trivial, rfl, trivial⟩, fun x hx => ?_⟩
        obtain ⟨v, rfl, v0, v1⟩ := hx
        refine ⟨by show (2 : Nat) ≤ 1000000; decide, ?_, some (.dat (.int (0 + (i : Int)))), cs ++ [((i : Int), v)], ?_, case_snoc ok hi v0 (by omega) lt, fun c hc => ?_, fun c hc => ?_⟩
        · rw [List.length_map]
          have := ok.len
          omega
        · rw [List.map_append, Int.zero_add]
          rfl
        · rcases List.mem_append.mp hc with h | h
          · exact stay c h
          · rw [List.mem_singleton.mp h]
            show (i : Int) < ((i + 1 : Nat) : Int)
            omega
        · rcases List.mem_append.mp hc with h | h
          · exact lv c h
          · rw [List.mem_singleton.mp h]
            exact v1
      · exact ⟨_, cs, rfl, ok, stay, lv⟩
    · exact no_if rfl ⟨_, cs, rfl, ok, stay, lv⟩
  · obtain ⟨a, cs, rfl, ok, lt, lv⟩ := he
    exact ⟨_, ⟨noLs_map cond_noL _, rfl⟩, cs, rfl, ok, lv⟩
abbrev qGivenV : Sp := spD (fun m : Int => 0 ≤ m ∧ m ≤ 12) (fun m => [.src, .dat (.int m)]) (fun m r => ∃ rs : List Rule, r = .new (rs.map ruleD) ∧ RulesOk 12 rs ∧ LowR rs)
theorem ok_givenV (F : Fun K "_law_given" "_law_given" s_law_given f fd) (B : Blt mg) (hDict : mg "dict" = none) (hDraw : Has P w K mg base 1 "_law_draw" ["_law_source_here", "_law_many"] qDraw) (hChoose : Has P w K mg base 2 "_law_choose" ["_law_source_here", "_law_values"] qChooseW)
    (hCase : Has P w K mg base 2 "_law_case" ["_law_source_here", "_law_most", "_law_values"] qCaseV) : FnOk P w K mg base CX0 4 f fd ["_law_source_here", "_law_most"] qGivenV := by
  refine fnD F sc_given6 (fun _ => rfl) fun cdv A outer s H E hr => ⟨_, _, (pss_cons (ps_par3 (i := 2) (j := 3) (l := 4) rfl sc_given6.nd rfl rfl rfl (by decide) (by decide) (by decide) rfl rfl rfl (pa_cons (pe_op op_add pe_int (pe_callH hDraw (hr.mono (by decide)) rfl (pa_cons (pv 0) (pa_cons pe_int pa_nil)))) (pa_cons (pe_callH hDraw (hr.mono (by decide)) rfl (pa_cons (pv 0) (pa_cons (pe_op op_add (pv 1) pe_int) pa_nil))) (pa_cons (pe_lst pa_nil) pa_nil))) rfl)
      (pss_cons (ps_par (i := 5) (j := 6) rfl sc_given6.nd rfl rfl (by decide) rfl rfl (pa_cons (pe_ix (show IxR _ (rIxL K) from ix_list) (pe_lst (pa_cons pe_int (pa_cons pe_int (pa_cons pe_int (pa_cons pe_int (pa_cons pe_int pa_nil)))))) (pe_callH hDraw (hr.mono (by decide)) rfl (pa_cons (pv 0) (pa_cons pe_int pa_nil))) (fun _ _ => rfl)) (pa_cons (pe_op op_add pe_int (pe_callH hDraw (hr.mono (by decide)) rfl (pa_cons (pv 0) (pa_cons pe_int pa_nil)))) pa_nil)) rfl)
      (pss_cons (ps_for PassesOwn.never rfl (pi_range1 (by rfl) B.range (pa_cons (pe_op op_mul pe_int (pv 3)) pa_nil)) (pg_name (i := 7) sc_given6.nd rfl (.inl rfl))
      (pss_cons (ps_set (i := 8) sc_given6.nd rfl (.inl rfl) (pe_callH hCase (hr.mono (by decide)) rfl (pa_cons (pv 0) (pa_cons (pv 5) (pa_cons (pv 2) pa_nil)))))
      (C8.pss_cut (ps_if (PW.pt (pw_and (pt_cmpR (show OpR _ (compareOp .NotEq) (rNeD K) from op_neD hr.units) (pv 4) (pe_lst pa_nil) (nomark _)) (pw_and1 (pt_cmpR (show OpR _ (compareOp .Eq) (rEqD K) from op_eqD hr.units) (pe_callH hDraw (hr.mono (by decide)) rfl (pa_cons (pv 0) (pa_cons pe_int pa_nil))) pe_int (nomark _))))) (pss_cons (ps_par (i := 9) (j := 10) rfl sc_given6.nd rfl rfl (by decide) rfl rfl (pa_cons (pe_ix (show IxR _ (rIxT K) from ix_tup) (pe_callH hChoose (hr.mono (by decide)) rfl (pa_cons (pv 0) (pa_cons (pv 4) pa_nil))) pe_int (fun _ _ => rfl)) (pa_cons (pe_ix (show IxR _ (rIxT K) from ix_tup) (pe_callH hChoose (hr.mono (by decide)) rfl (pa_cons (pv 0) (pa_cons (pv 4) pa_nil))) pe_int (fun _ _ => rfl)) pa_nil)) rfl)
      (pss_cons (ps_set (i := 11) sc_given6.nd rfl (.inl rfl) (pe_callTy (cr_dictC rfl) (by rfl) hDict (by decide +kernel) (pa_cons (pe_op (show OpR _ (binaryOp .Add) (rCatF K) from op_catF) (pv 9) (pv 10)) pa_nil)))
      (pss_one (ps_set (i := 8) sc_given6.nd rfl (.inl rfl) (pe_callTy (show CallR _ (.type "tuple") (rTupE K) from call_tupF) (by rfl) B.tuple (by decide +kernel) (pa_cons (pe_callB (cr_sortedItC rfl hr.u66) (by rfl) B.sorted (by decide +kernel) (pa_cons (pe_bm0 PySem.F.plainAttrs_dict PySem.F.slot_dict_items PySem.F.type_dict_items mt_itemsK (pv 11)) pa_nil)) pa_nil)))))) pss_nil)
      (pss_cons (ps_set (i := 12) sc_given6.nd rfl (.inl rfl) (pe_tupF (pa_cons (pv 8) (pa_cons (pe_callH hDraw (hr.mono (by decide)) rfl (pa_cons (pv 0) (pa_cons (pv 6) pa_nil))) pa_nil))))
      (pss_one (ps_if (PW.pt (pw_and (pt_cmpR (show OpR _ (compareOp .NotIn) (rNotInD K) from op_notInD hr.u65) (pv 12) (pv 4) (by rfl)) (pw_and1 (pt_cmpR op_lt (pe_callB (show CallR _ (.builtin "len") (rLenE K) from call_len_seq) (by rfl) B.len PySem.boot_len (pa_cons (pv 4) pa_nil)) (pv 3) (nomark _))))) (pss_one (ps_expr (pe_bm PySem.F.plainAttrs_list PySem.F.slot_list_append PySem.F.type_list_append mt_append (pv 4) (pa_cons (pv 12) pa_nil)))) pss_nil))))))
      (pss_one (ps_ret (pv 4)))))), inferInstance, fun m ha => ?_⟩
  obtain ⟨h0, h1⟩ := ha
  refine ⟨3, ⟨by decide, by decide⟩, ⟨trivial, rfl, trivial⟩, fun x hx => ?_⟩
  obtain ⟨v, rfl, v0, v1⟩ := hx
  refine ⟨_, rfl, ?_⟩
  refine ⟨m + 1, ⟨by omega, by omega⟩, ⟨trivial, rfl, trivial⟩, fun x hx => ?_⟩
  obtain ⟨n, rfl, n0, n1⟩ := hx
  refine ⟨_, rfl, by show (0 : Nat) ≤ 1000000; decide, .own [], .inl rfl, ?_⟩
  refine ⟨by show (5 : Nat) ≤ 1000000; decide, 5, ⟨by decide, by decide⟩, ⟨trivial, rfl, trivial⟩, fun x hx => ?_⟩
  obtain ⟨k, rfl, k0, k1⟩ := hx
  refine oIx_new k0 (by show k < 5; exact k1) fun d hd => ?_
  obtain ⟨z, rfl⟩ : ∃ z, d = .int z := by
    rcases List.mem_cons.mp hd with rfl | hd; · exact ⟨_, rfl⟩
    rcases List.mem_cons.mp hd with rfl | hd; · exact ⟨_, rfl⟩
    rcases List.mem_cons.mp hd with rfl | hd; · exact ⟨_, rfl⟩
    rcases List.mem_cons.mp hd with rfl | hd; · exact ⟨_, rfl⟩
    rcases List.mem_cons.mp hd with rfl | hd; · exact ⟨_, rfl⟩
    exact (nomatch hd)
  refine ⟨_, rfl, ?_⟩
  refine ⟨3, ⟨by decide, by decide⟩, ⟨trivial, rfl, trivial⟩, fun x hx => ?_⟩
  obtain ⟨y, rfl, y0, y1⟩ := hx
  refine ⟨_, rfl, ?_⟩
  refine ⟨.inl ⟨by decide, by decide⟩, ⟨by omega, by omega⟩, rfl, ?_⟩
  refine loop_range (lo := 0) (fun _ env => ∃ (a7 a8 a9 a10 a11 a12 : Option SV) (rs : List Rule), env = [some .src, some (.dat (.int m)), some (.dat (.int (1 + v))), some (.dat (.int n)), some (.own (rs.map ruleD)), some (.dat (.int z)), some (.dat (.int (2 + y))), a7, a8, a9, a10, a11, a12] ∧ RulesOk 12 rs ∧ LowR rs ∧ (rs.length : Int) ≤ n)
    ⟨_, _, _, _, _, _, [], rfl, ⟨fun r h => (nomatch h), List.nodup_nil, by decide⟩, fun r h => (nomatch h), n0⟩ (fun i env' hi he => ?_) fun env' he => ?_
  · obtain ⟨a7, a8, a9, a10, a11, a12, rs, rfl, ok, low, len⟩ := he
    refine ⟨(z, 1 + v), ⟨by show 0 < 1 + v; omega, by show 1 + v ≤ 10; omega⟩, ⟨trivial, rfl, rfl, trivial⟩, fun x hx => ?_⟩
    obtain ⟨cs, rfl, okc, lv⟩ := hx
    have lc : ∀ x ∈ cs, x.2 ≤ 2 := fun x hx => by have h : x.2 < 1 + v := lv x hx; omega
    refine ⟨_, rfl, ?_⟩
    refine cut_by (fun env => ∃ (a7 a9 a10 a11 : Option SV) (cs : Case), env = [some .src, some (.dat (.int m)), some (.dat (.int (1 + v))), some (.dat (.int n)), some (.own (rs.map ruleD)), some (.dat (.int z)), some (.dat (.int (2 + y))), a7, some (.dat (caseD cs)), a9, a10, a11, a12] ∧ CaseOk cs ∧ ∀ x ∈ cs, x.2 ≤ 2) ?_ fun env' he => ?_
    · refine ⟨by show (0 : Nat) ≤ 1000000; decide, shaped_rulesL rs, rfl, ?_⟩
      show if (!PyData.eqv (.list (rs.map ruleD)) (.list [])) = true then _ else _
      rw [eqv_nil]
      by_cases hne : rs = []
      · subst hne
        exact no_if rfl (no_if rfl ⟨_, _, _, _, cs, rfl, okc, lc⟩)
      · have e : (!(rs.map ruleD).isEmpty) = true := by
          cases rs with
          | nil => exact absurd rfl hne
          | cons _ _ => rfl
        rw [if_pos e]
        refine ⟨3, ⟨by decide, by decide⟩, ⟨trivial, rfl, trivial⟩, fun x hx => ?_⟩
        obtain ⟨q, rfl, q0, q1⟩ := hx
        refine ⟨rfl, rfl, ?_⟩
        have pos : 0 < (rs.map ruleD).length := by rw [List.length_map]; exact List.length_pos_iff.mpr hne
        have few := ok.few
        show if PyData.eqv (.int q) (.int 0) = true then _ else _
        split
        · refine ⟨rs.map ruleD, ⟨pos, by rw [List.length_map]; omega, noLs_map rule_noL _⟩, ⟨trivial, rfl, trivial⟩, fun x hx => ?_⟩
          obtain ⟨d1, hd1, rfl⟩ := hx
          obtain ⟨r1, hr1, rfl⟩ := List.mem_map.mp hd1
          refine ⟨_, rfl, ?_⟩
          refine ⟨rs.map ruleD, ⟨pos, by rw [List.length_map]; omega, noLs_map rule_noL _⟩, ⟨trivial, rfl, trivial⟩, fun x hx => ?_⟩
          obtain ⟨d2, hd2, rfl⟩ := hx
          obtain ⟨r2, hr2, rfl⟩ := List.mem_map.mp hd2
          have o1 := (ok.each r1 hr1).case
          have o2 := (ok.each r2 hr2).case
          have l1 := o1.len
          have l2 := o2.len
          refine ⟨_, rfl, ?_⟩
          refine ⟨by rw [List.length_map, List.length_map]; omega, r1.1 ++ r2.1, ?_, _, rfl, ?_⟩
          · show some (PyData.tuple (r1.1.map condD ++ r2.1.map condD)) = some (PyData.tuple ((r1.1 ++ r2.1).map condD))
            rw [List.map_append]
          · refine ⟨_, rfl, ?_, _, rfl, _, _, _, _, _, rfl, mergedC_ok o1 o2, merged_low (low r1 hr1) (low r2 hr2)⟩
            have := mergeC_len (r1.1 ++ r2.1) []
            rw [List.length_append, List.length_nil] at this
            omega
        · exact ⟨_, _, _, _, cs, rfl, okc, lc⟩
    · obtain ⟨a7, a9, a10, a11, cs, rfl, okc, lc⟩ := he
      refine ⟨2 + y, ⟨by omega, by omega⟩, ⟨trivial, rfl, trivial⟩, fun x hx => ?_⟩
      obtain ⟨q, rfl, q0, q1⟩ := hx
      refine ⟨by show (2 : Nat) ≤ 1000000; decide, _, rfl, ?_⟩
      refine ⟨shaped_rule (cs, q), shaped_rulesL rs, ?_⟩
      show if (!((rs.map ruleD).any fun z => PyData.eqv z (ruleD (cs, q)))) = true then _ else _
      rw [any_rule]
      split
      · rename_i hn
        have nr : (cs, q) ∉ rs := by simpa using hn
        show if decide ((((rs.map ruleD).length : Nat) : Int) < n) = true then _ else _
        split
        · rename_i hl
          have hl : (((rs.map ruleD).length : Nat) : Int) < n := of_decide_eq_true hl
          rw [List.length_map] at hl
          refine ⟨by rw [List.length_map]; have := ok.few; omega, a7, some (.dat (caseD cs)), a9, a10, a11, some (.dat (ruleD (cs, q))), rs ++ [(cs, q)], ?_, rules_snoc ok (by omega) ⟨okc, q0, by show q ≤ 99; omega⟩ nr, fun r hr => ?_, by rw [List.length_append]; show ((rs.length + 1 : Nat) : Int) ≤ n; omega⟩
          · rw [List.map_append]
            rfl
          · rcases List.mem_append.mp hr with h | h
            · exact low r h
            · rw [List.mem_singleton.mp h]
              exact lc
        · exact ⟨_, _, _, _, _, _, rs, rfl, ok, low, len⟩
      · exact no_if rfl ⟨_, _, _, _, _, _, rs, rfl, ok, low, len⟩
  · obtain ⟨a7, a8, a9, a10, a11, a12, rs, rfl, ok, low, len⟩ := he
    exact ⟨_, ⟨noLs_map rule_noL _, rfl⟩, rs, rfl, ok, low⟩
end
end Cr

set_option synthInstance.maxSize 4000
set_option synthInstance.maxHeartbeats 1000000
namespace Cr
open PySem PySem.Spec PyProof.Rows L2
variable [Tbl]
theorem sIf_or9 {Ta : DTE} {U : DEnv → (Bool → Prop) → Prop} {V W : DTS} {Dd : DEnds} {env : DEnv} (h : Ta env fun r => match r with | .dat (.bool b) => if b = true then V Dd env else sIf U V W Dd env | _ => False) : sIf (dOr (dTest Ta) U) V W Dd env := h
theorem sSeq_intro9 {A B : DTS} {Dd : DEnds} {env : DEnv} (h : A { Dd with nx := fun e => B Dd e } env) : sSeq A B Dd env := h
theorem oIxL9 {ds : List PyData} {i : Nat} {d : PyData} {Qd : R → Prop} (h : ds[i]? = some d) (q : Qd (.dat d)) : oIx false (.dat (.list ds)) (.dat (.int (i : Nat))) Qd := by
  have e : atI ds (i : Int) = some d := by
    have l : i < ds.length := (List.getElem?_eq_some_iff.mp h).1
    have k : ixN ds.length (i : Int) = some i := by
      unfold ixN
      rw [if_pos (by omega)]
      first
        | (rw [if_pos (by omega)]; simp)
        | simp [l]
    unfold atI
    rw [k]
    exact h
  unfold oIx
  simp only [R.data]
  rw [e]
  exact q
theorem dC_int9 {i : Int} {env : DEnv} {Qd : R → Prop} (q : Qd (.dat (.int i))) : dC (V.int i) env Qd := q
section
variable {P : Program} {w : World} {K : PySem.W.Frag} {mg : Str → Option Value} {base : Heap} {f : Addr} {fd : FuncData}
abbrev qClosed : Sp := spD (fun rs : List Rule => RulesOk 12 rs ∧ LowR rs) (fun rs => [.src, .dat (.list (rs.map ruleD)), .dat (.list ((casesM rs).map caseD))]) (fun _ r => r = .dat (.bool true))
abbrev n_closed : List Str := ["_law_source_here", "_law_rules_here", "_law_found", "_law_turn", "_law_union_here", "_law_rule", "_law_case_here"]
theorem sc_closed : FnScope n_closed ["_law_source_here", "_law_rules_here", "_law_found"] (defScope s_law_are_closed) := ⟨rfl, rfl, rfl, by decide +kernel, rfl, by decide +kernel, by decide +kernel⟩
theorem ok_closed (F : Fun K "_law_are_closed" "_law_are_closed" s_law_are_closed f fd) (B : Blt mg) (hUnion : Has P w K mg base 1 "_law_union" ["_law_case_here", "_law_other"] qUnion) (hChooseC : Has P w K mg base 2 "_law_choose" ["_law_source_here", "_law_values"] qChooseW) :
    FnOk P w K mg base CX0 3 f fd ["_law_source_here", "_law_rules_here", "_law_found"] qClosed := by
  refine fnD F sc_closed (fun _ => rfl) fun cdv A outer s H E hr => ⟨_, _, (pss_cons (ps_if (PW.pt (pw_or (pt_cmpR (show OpR _ (compareOp .NotEq) (rNeD K) from op_neD hr.units) (pe_ix (show IxR _ (rIxL K) from ix_list) (pv 2) pe_int (fun _ _ => rfl)) (pe_tupF pa_nil) (nomark _)) (pw_or1 (pt_cmpR (show OpR _ (compareOp .NotEq) (rNeD K) from op_neD hr.units) (pe_lc (own := [("_law_rule", 5)]) (g := (gName 5)) rfl sc_closed.nd (pi_list (pv 1)) (blkOk_by (own := [("_law_rule", 5)]) (N := n_closed) (sc := defScope s_law_are_closed) (by decide +kernel)) (fun _ _ _ _ _ => (pg_name (i := 5) sc_closed.nd rfl (Or.inl rfl))) (fun _ _ _ _ _ => (pts_one (pt_cmpR (show OpR _ (compareOp .NotIn) (rNotInD K) from op_notInD hr.u65) (pe_ix (show IxR _ (rIxT K) from ix_tup) (pv 5) pe_int (fun _ _ => rfl)) (pv 2) (by rfl)))) (fun _ _ _ _ _ => pe_int)) (pe_lst pa_nil) (nomark _))))) (pss_one (ps_ret pe_bl)) pss_nil)
      (pss_cons (ps_if (pt_cmpR (show OpR _ (compareOp .NotEq) (rNeD K) from op_neD hr.units) (pe_lc (own := [("_law_case_here", 6)]) (g := (gName 6)) (tt := tYes) rfl sc_closed.nd (pi_list (pv 2)) (blkOk_by (own := [("_law_case_here", 6)]) (N := n_closed) (sc := defScope s_law_are_closed) (by decide +kernel)) (fun _ _ _ _ _ => (pg_name (i := 6) sc_closed.nd rfl (Or.inl rfl))) (fun _ _ _ _ _ => pts_nil) (fun _ _ _ _ _ => (pe_tupF (pa_cons (pe_callB (show CallR _ (.builtin "len") (rLenE K) from call_len_seq) (by rfl) B.len PySem.boot_len (pa_cons (pv 6) pa_nil)) (pa_cons (pv 6) pa_nil))))) (pe_sortSetG keyE_len (by rfl) B.sorted (by rfl) B.set (pe_lc (own := [("_law_case_here", 6)]) (g := (gName 6)) (tt := tYes) rfl sc_closed.nd (pi_list (pv 2)) (blkOk_by (own := [("_law_case_here", 6)]) (N := n_closed) (sc := defScope s_law_are_closed) (by decide +kernel)) (fun _ _ _ _ _ => (pg_name (i := 6) sc_closed.nd rfl (Or.inl rfl))) (fun _ _ _ _ _ => pts_nil) (fun _ _ _ _ _ => (pe_tupF (pa_cons (pe_callB (show CallR _ (.builtin "len") (rLenE K) from call_len_seq) (by rfl) B.len PySem.boot_len (pa_cons (pv 6) pa_nil)) (pa_cons (pv 6) pa_nil))))) hr.u66) (nomark _)) (pss_one (ps_ret pe_bl)) pss_nil)
      (pss_cons (ps_for PassesOwn.never rfl (pi_range1 (by rfl) B.range (pa_cons pe_int pa_nil)) (pg_name (i := 3) sc_closed.nd rfl (.inl rfl))
      (pss_cons (ps_set (i := 4) sc_closed.nd rfl (.inl rfl) (pe_callH hUnion (hr.mono (by decide)) rfl (pa_cons (pe_callH hChooseC (hr.mono (by decide)) rfl (pa_cons (pv 0) (pa_cons (pv 2) pa_nil))) (pa_cons (pe_callH hChooseC (hr.mono (by decide)) rfl (pa_cons (pv 0) (pa_cons (pv 2) pa_nil))) pa_nil))))
      (pss_one (ps_if (PW.pt (pw_and (pt_cmpR op_notN (pv 4) pe_non (nomark _)) (pw_and1 (pt_cmpR (show OpR _ (compareOp .NotIn) (rNotInD K) from op_notInD hr.u65) (pv 4) (pv 2) (by rfl))))) (pss_one (ps_ret pe_bl)) pss_nil))))
      (pss_one (ps_ret pe_bl))))), inferInstance, fun rs ha => ?_⟩
  obtain ⟨ok, low⟩ := ha
  have okr : ∀ r ∈ rs, CaseOk r.1 := fun r hr => (ok.each r hr).case
  have few := ok.few
  have fc := few9 okr low
  obtain ⟨tl, e0⟩ := head9 okr
  have okm : ∀ c ∈ casesM rs, CaseOk c := fun c hc => ((matter9 okr c).mp hc).1
  refine sSeq_intro9 (sIf_or9 (dOp_intro (dOp_intro (dVar_at rfl (dC_int9 (oIxL9 (i := 0) (d := caseD []) (by rw [e0]; rfl) ?_))))))
  refine ⟨by show (0 : Nat) ≤ 1000000; decide, shaped_case [], shaped_case [], no_if rfl ?_⟩
  refine sIf_intro (dOp_intro ?_)
  refine dLc_pure (as := rs) (enc := ruleD) (fun _ => false) (fun _ => .int 1) (st := true) (fun q h => h) (by omega) (fun r hr k hk => ?_) ?_
  · refine ⟨shaped_case r.1, shaped_casesL _, no_if ?_ hk⟩
    show (!((casesM rs).map caseD).any fun z => PyData.eqv z (caseD r.1)) = false
    rw [any_case9, decide_eq_true (own9 okr hr)]
    rfl
  rw [List.filter_eq_nil_iff.mpr fun _ _ => Bool.false_ne_true]
  refine ⟨by show (0 : Nat) ≤ 1000000; decide, shaped_ones [], rfl, no_if rfl ?_⟩
  refine sSeq_intro9 (sIf_intro (dOp_intro ?_))
  refine dLc_pure (as := casesM rs) (enc := caseD) (fun _ => true) (fun c => rowD (row9 c)) (st := true) (fun q h => h) (by omega) (fun c hc k hk => ?_) ?_
  · refine ⟨by show (2 : Nat) ≤ 1000000; decide, ?_⟩
    have e : PyData.tuple [.int (((c.map condD).length : Nat) : Int), caseD c] = rowD (row9 c) := by rw [List.length_map]; rfl
    show k (some (PyData.tuple [.int (((c.map condD).length : Nat) : Int), caseD c]))
    rw [e]
    exact hk
  rw [List.filter_eq_self.mpr fun _ _ => rfl]
  refine dLc_pure (as := casesM rs) (enc := caseD) (fun _ => true) (fun c => rowD (row9 c)) (st := true) (fun q h => h) (by omega) (fun c hc k hk => ?_) ?_
  · refine ⟨by show (2 : Nat) ≤ 1000000; decide, ?_⟩
    have e : PyData.tuple [.int (((c.map condD).length : Nat) : Int), caseD c] = rowD (row9 c) := by rw [List.length_map]; rfl
    show k (some (PyData.tuple [.int (((c.map condD).length : Nat) : Int), caseD c]))
    rw [e]
    exact hk
  rw [List.filter_eq_self.mpr fun _ _ => rfl]
  have em : ((casesM rs).map fun c => rowD (row9 c)) = ((casesM rs).map row9).map rowD := by rw [List.map_map]; rfl
  rw [em]
  refine ⟨(casesM rs).map row9, rfl, by rw [List.length_map]; omega, fun L nd mem => ?_⟩
  rw [rows9 nd mem]
  refine ⟨shaped_rows9 _, shaped_rows9 _, no_if ?_ ?_⟩
  · show (!PyData.eqv (.list (((casesM rs).map row9).map rowD)) (.list (((casesM rs).map row9).map rowD))) = false
    simp only [PyData.eqv]
    rw [eqv_rows9]
    rfl
  refine ⟨⟨by decide, by decide⟩, rfl, ?_⟩
  refine loop_range (lo := 0) (n := 12) (fun _ env => ∃ a b, env = [some .src, some (.dat (.list (rs.map ruleD))), some (.dat (.list ((casesM rs).map caseD))), a, b, none, none]) ⟨_, _, rfl⟩ (fun i env' hi he => ?_) fun env' he => ?_
  · obtain ⟨a, b, rfl⟩ := he
    have pos : 0 < ((casesM rs).map caseD).length := by rw [e0]; simp
    have big : ((casesM rs).map caseD).length < 1073741824 := by rw [List.length_map]; omega
    refine ⟨(casesM rs).map caseD, ⟨pos, big, noLs_map case_noL _⟩, ⟨trivial, rfl, trivial⟩, fun x hx => ?_⟩
    obtain ⟨d, hd, rfl⟩ := hx
    obtain ⟨c1, m1, rfl⟩ := List.mem_map.mp hd
    refine ⟨(casesM rs).map caseD, ⟨pos, big, noLs_map case_noL _⟩, ⟨trivial, rfl, trivial⟩, fun x hx => ?_⟩
    obtain ⟨d, hd, rfl⟩ := hx
    obtain ⟨c2, m2, rfl⟩ := List.mem_map.mp hd
    refine ⟨(c1, c2), ⟨okm c1 m1, okm c2 m2⟩, ⟨rfl, rfl, trivial⟩, fun x hx => ?_⟩
    subst hx
    unfold unionD
    by_cases m : meetB c1 c2 = true
    · rw [if_pos m]
      refine ⟨_, rfl, ?_⟩
      refine ⟨shaped_case (togC c1 c2), shaped_casesL _, no_if ?_ ?_⟩
      · show (!((casesM rs).map caseD).any fun z => PyData.eqv z (caseD (togC c1 c2))) = false
        rw [any_case9, decide_eq_true (tog9 okr m1 m2 m)]
        rfl
      · exact ⟨_, _, rfl⟩
    · rw [if_neg m]
      exact ⟨_, rfl, _, _, rfl⟩
  · obtain ⟨a, b, rfl⟩ := he
    exact ⟨_, ⟨rfl, rfl⟩, rfl⟩
end
end Cr

set_option synthInstance.maxSize 4000
set_option synthInstance.maxHeartbeats 1000000
namespace Cr
open PySem PySem.Spec PyProof.Rows L2
variable [Tbl]
theorem shaped_unbs (rs : List Rule) (l : List Case) : SeqAt.shaped (.list (l.map fun d => .tuple ((unb rs d).map ruleD))) = true := shaped_of (by simp only [PyData.canLay0]; exact lay_all (fun d => by simp only [PyData.canLay0]; exact lay_all rule_lay _) l) (by
  have h := dep_all (f := fun d => PyData.tuple ((unb rs d).map ruleD)) (n := 10) (fun d => by have h := dep_all rule_dep (unb rs d); simp only [PyData.depth]; omega) l
  simp only [PyData.depth]
  omega)
section
variable {P : Program} {w : World} {K : PySem.W.Frag} {mg : Str → Option Value} {base : Heap} {f : Addr} {fd : FuncData}
abbrev n_law69 : List Str := ["_law_script", "_law_index", "_law_source_here", "_law_lap", "_law_rules_here", "_law_made", "_law_found", "_law_rule", "_law_turn", "_law_case_here", "_law_here", "_law_one"]
theorem sc_law69 : FnScope n_law69 ["_law_script"] (defScope s_law) := ⟨rfl, rfl, rfl, by decide +kernel, rfl, by decide +kernel, by decide +kernel⟩
theorem ok_law69 {C : Addr} (F : Fun K "law" "law" s_law f fd) (b : Binds K fd ["_law_script"] []) (B : Blt mg) (hSrc : Has P w K mg base 1 "_law_source" ["_law_cell_here"] qSource) (hCell : Has P w K mg base 1 "_law_cell" ["_law_script", "_law_index"] (qCell K)) (hDraw : Has P w K mg base 1 "_law_draw" ["_law_source_here", "_law_many"] qDraw)
    (hGiven : Has P w K mg base 4 "_law_given" ["_law_source_here", "_law_most"] qGivenV) (hCase : Has P w K mg base 2 "_law_case" ["_law_source_here", "_law_most", "_law_values"] qCaseV)
    (hRulesL : Has P w K mg base 10 "_law_rules" ["_law_rules_here"] (qRulesL C)) (hCases : HasGen P w K mg base 6 "cases" ["rules"] (qCases C)) (hClosed : Has P w K mg base 3 "_law_are_closed" ["_law_source_here", "_law_rules_here", "_law_found"] qClosed)
    (hDec : Has P w K mg base 5 "deciding" ["rules", "case"] (qDecides C)) (hI : HasI P w K mg base 6 C (qCallR C)) (hHas : Has P w K mg base 1 "_law_has" ["_law_case_here", "_law_part"] qHas) :
    FnG P w K mg base CX0 11 f (qLaw K 63) := by
  refine fnGD F sc_law69 b (fun _ => rfl) fun cdv A outer s H E hg hr => ?_
  refine ⟨_, _, PSs.nox (pss_cons (ps_for PassesOwn.never rfl (pi_range1 (by rfl) B.range (pa_cons (pe_callB (call_max2 rfl) (by rfl) B.max (by decide +kernel) (pa_cons pe_int (pa_cons (pe_callB (call_min2 rfl) (by rfl) B.min (by decide +kernel) (pa_cons (pe_callB (show CallR _ (.builtin "len") (rLenE K) from call_len_seq) (by rfl) B.len PySem.boot_len (pa_cons (pv 0) pa_nil)) (pa_cons pe_int pa_nil))) pa_nil))) pa_nil)) (pg_name (i := 1) sc_law69.nd rfl (.inl rfl))
      (pss_cons (ps_set (i := 2) sc_law69.nd rfl (.inl rfl) (pe_callH hSrc (hr.mono (by decide)) rfl (pa_cons (pe_callH hCell (hr.mono (by decide)) rfl (pa_cons (pv 0) (pa_cons (pv 1) pa_nil))) pa_nil)))
      (pss_one (ps_for PassesOwn.never rfl (pi_range1 (by rfl) B.range (pa_cons pe_int pa_nil)) (pg_name (i := 3) sc_law69.nd rfl (.inl rfl))
      (pss_cons (ps_set (i := 4) sc_law69.nd rfl (.inl rfl) (pe_callH hGiven (hr.mono (by decide)) rfl (pa_cons (pv 2) (pa_cons (pe_ix (show IxR _ (rIxL K) from ix_list) (pe_lst (pa_cons pe_int (pa_cons pe_int (pa_cons pe_int (pa_cons pe_int pa_nil))))) (pv 3) (fun _ _ => rfl)) pa_nil))))
      (pss_cons (ps_set (i := 5) sc_law69.nd rfl (.inr rfl) (pe_callH hRulesL (hr.mono (by decide)) rfl (pa_cons (pv 4) pa_nil)))
      (pss_cons (ps_set (i := 6) sc_law69.nd rfl (.inl rfl) (pe_listGen hCases (hr.mono (by decide)) rfl rfl B.list (pa_cons (pv 5) pa_nil)))
      (pss_cons (ps_if (pt_not (pt_val (pe_callH hClosed (hr.mono (by decide)) rfl (pa_cons (pv 2) (pa_cons (pv 4) (pa_cons (pv 6) pa_nil)))))) (pss_one (ps_ret pe_bl)) pss_nil)
      (pss_cons (ps_for PassesOwn.never rfl (pi_list (pv 4)) (pg_name (i := 7) sc_law69.nd rfl (.inl rfl))
      (pss_one (ps_if (PW.pt (pw_or (pt_cmpR (show OpR _ (compareOp .NotIn) (rNotInT K) from op_notInT hr.u65) (pv 7) (pe_callH hDec (hr.mono (by decide)) rfl (pa_cons (pv 5) (pa_cons (pe_ix (show IxR _ (rIxT K) from ix_tup) (pv 7) pe_int (fun _ _ => rfl)) pa_nil))) (by rfl)) (pw_or1 (pt_cmpR (show OpR _ (compareOp .NotIn) (rNotInT K) from op_notInT hr.u65) (pe_ix (show IxR _ (rIxT K) from ix_tup) (pv 7) pe_int (fun _ _ => rfl)) (pe_callI hI (hr.mono (by decide)) (pv 5) (pa_cons (pe_ix (show IxR _ (rIxT K) from ix_tup) (pv 7) pe_int (fun _ _ => rfl)) pa_nil)) (by rfl))))) (pss_one (ps_ret pe_bl)) pss_nil)))
      (pss_one (ps_for PassesOwn.never rfl (pi_range1 (by rfl) B.range (pa_cons pe_int pa_nil)) (pg_name (i := 8) sc_law69.nd rfl (.inl rfl))
      (pss_cons (ps_set (i := 9) sc_law69.nd rfl (.inr rfl) (pe_callH hCase (hr.mono (by decide)) rfl (pa_cons (pv 2) (pa_cons pe_int (pa_cons (pe_op op_add pe_int (pe_callH hDraw (hr.mono (by decide)) rfl (pa_cons (pv 2) (pa_cons pe_int pa_nil)))) pa_nil)))))
      (pss_cons (ps_setLc (i := 10) (own := [("_law_one", 11)]) (g := (gName 11)) rfl sc_law69.nd rfl rfl (sw_true rfl rfl rfl (by decide +kernel)) (pi_list (pv 6)) (blkOk_by (own := [("_law_one", 11)]) (N := n_law69) (sc := defScope s_law) (by decide +kernel)) (fun _ _ _ _ _ => (pg_name (i := 11) sc_law69.nd rfl (Or.inl rfl))) (fun _ _ _ _ _ => (pts_one (PW.pt (pw_and (pt_val (pe_callH hHas (hr.mono (by decide)) rfl (pa_cons (pv 9) (pa_cons (pv 11) pa_nil)))) (pw_and1 (pt_cmpR (show OpR _ (compareOp .Eq) (rEqD K) from op_eqD hr.units) (pe_callI hI (hr.mono (by decide)) (pv 5) (pa_cons (pv 11) pa_nil)) (pe_callI hI (hr.mono (by decide)) (pv 5) (pa_cons (pv 9) pa_nil)) (nomark _))))))) (fun _ _ _ _ _ => (pe_callH hDec (hr.mono (by decide)) rfl (pa_cons (pv 5) (pa_cons (pv 11) pa_nil)))))
      (pss_one (ps_if (pt_cmpR (show OpR _ (compareOp .NotIn) (rNotInD K) from op_notInD hr.u65) (pe_callH hDec (hr.mono (by decide)) rfl (pa_cons (pv 5) (pa_cons (pv 9) pa_nil))) (pv 10) (by rfl)) (pss_one (ps_ret pe_bl)) pss_nil)))))))))))))))
      (pss_one (ps_ret pe_bl))), inferInstance, fun ns ha => ?_⟩
  refine ⟨rfl, turns2 _, rfl, ?_⟩
  refine loop_range (lo := 0) (fun _ env => ∃ a1 a2 a3 a4 a5 a6 a7 a8 a9 a10, env = [some (.scr K ns), a1, a2, a3, a4, a5, a6, a7, a8, a9, a10, none]) ⟨_, _, _, _, _, _, _, _, _, _, rfl⟩ (fun i env' hi he => ?_) fun env' he => ?_
  · obtain ⟨a1, a2, a3, a4, a5, a6, a7, a8, a9, a10, rfl⟩ := he
    refine ⟨(ns, i), trivial, ⟨⟨rfl, rfl⟩, congrArg some (congrArg PyData.int (Int.zero_add _)), trivial⟩, fun x hx => ?_⟩
    obtain ⟨q, rfl⟩ := hx
    refine ⟨q, trivial, ⟨rfl, trivial⟩, fun x hx => ?_⟩
    subst hx
    refine ⟨_, rfl, ?_⟩
    refine ⟨⟨by decide, by decide⟩, rfl, ?_⟩
    refine loop_range (lo := 0) (n := 4) (fun _ env => ∃ a1 a3 a4 a5 a6 a7 a8 a9 a10, env = [some (.scr K ns), a1, some .src, a3, a4, a5, a6, a7, a8, a9, a10, none]) ⟨_, _, _, _, _, _, _, _, _, rfl⟩ (fun j env' hj he => ?_) fun env' he => ?_
    · obtain ⟨a1, a3, a4, a5, a6, a7, a8, a9, a10, rfl⟩ := he
      refine ⟨by show (4 : Nat) ≤ 1000000; decide, ?_⟩
      refine dVar_at (sv := .dat (.int (0 + (j : Int)))) rfl (oIx_new (i := 0 + (j : Int)) (by omega) (by show (0 + (j : Int)) < 4; omega) fun d hd => ?_)
      obtain ⟨m, rfl, m0, m1⟩ : ∃ m : Int, d = .int m ∧ 0 ≤ m ∧ m ≤ 12 := by
        rcases List.mem_cons.mp hd with rfl | hd; · exact ⟨_, rfl, by decide, by decide⟩
        rcases List.mem_cons.mp hd with rfl | hd; · exact ⟨_, rfl, by decide, by decide⟩
        rcases List.mem_cons.mp hd with rfl | hd; · exact ⟨_, rfl, by decide, by decide⟩
        rcases List.mem_cons.mp hd with rfl | hd; · exact ⟨_, rfl, by decide, by decide⟩
        exact (nomatch hd)
      refine ⟨m, ⟨m0, m1⟩, ⟨trivial, rfl, trivial⟩, fun x hx => ?_⟩
      obtain ⟨rs, rfl, ok, low⟩ := hx
      have okr : ∀ r ∈ rs, CaseOk r.1 := fun r hr => (ok.each r hr).case
      have few := ok.few
      have fc := few9 okr low
      have okm : ∀ c ∈ casesM rs, CaseOk c := fun c hc => ((matter9 okr c).mp hc).1
      refine ⟨.dat (.list (rs.map ruleD)), .inr rfl, ?_⟩
      refine ⟨rs, ok, ⟨rfl, trivial⟩, fun x hx => ?_⟩
      subst hx
      refine ⟨_, rfl, ?_⟩
      refine ⟨rs, ok, ⟨⟨rfl, rfl⟩, trivial⟩, ?_⟩
      refine ⟨.dat (.list ((casesM rs).map caseD)), .inr rfl, ?_⟩
      refine ⟨rs, ⟨ok, low⟩, ⟨trivial, rfl, rfl, trivial⟩, fun x hx => ?_⟩
      subst hx
      refine no_if rfl ?_
      refine loop_typed (as := rs) (enc := ruleD) (fun _ env => ∃ a7, env = [some (.scr K ns), a1, some .src, some (.dat (.int (0 + (j : Int)))), some (.dat (.list (rs.map ruleD))), some (.ins C rs), some (.dat (.list ((casesM rs).map caseD))), a7, a8, a9, a10, none]) ⟨_, rfl⟩ (fun t r env' hrt he => ?_) fun env' he => ?_
      · obtain ⟨a7, rfl⟩ := he
        have hr := List.mem_of_getElem? hrt
        refine sIf_or9 (dOp_intro (dVar_at rfl ?_))
        refine ⟨(rs, r.1), ⟨ok, okr r hr⟩, ⟨⟨rfl, rfl⟩, rfl, trivial⟩, fun x hx => ?_⟩
        subst hx
        refine ⟨shaped_rule r, shaped_rulesT _, no_if ?_ ?_⟩
        · show (!((unb rs r.1).map ruleD).any fun z => PyData.eqv z (ruleD r)) = false
          rw [any_rule, decide_eq_true (unb_own ok.each hr)]
          rfl
        refine sIf_intro (dOp_intro ?_)
        refine ⟨rfl, (rs, r.1), ⟨ok, okr r hr⟩, ⟨⟨rfl, rfl⟩, rfl, trivial⟩, fun x hx => ?_⟩
        subst hx
        refine ⟨rfl, shaped_ints _, no_if ?_ ?_⟩
        · show (!((resL rs r.1).map PyData.int).any fun z => PyData.eqv z (.int r.2)) = false
          rw [any_int, decide_eq_true ((resL_mem ok.each r.1 r.2).mpr ⟨r, unb_own ok.each hr, rfl⟩)]
          rfl
        exact ⟨_, rfl⟩
      obtain ⟨a7, rfl⟩ := he
      refine ⟨⟨by decide, by decide⟩, rfl, ?_⟩
      refine loop_range (lo := 0) (n := 8) (fun _ env => ∃ a8 a9 a10, env = [some (.scr K ns), a1, some .src, some (.dat (.int (0 + (j : Int)))), some (.dat (.list (rs.map ruleD))), some (.ins C rs), some (.dat (.list ((casesM rs).map caseD))), a7, a8, a9, a10, none]) ⟨_, _, _, rfl⟩ (fun t env' ht he => ?_) fun env' he => ?_
      · obtain ⟨a8, a9, a10, rfl⟩ := he
        refine ⟨5, ⟨by decide, by decide⟩, ⟨trivial, rfl, trivial⟩, fun x hx => ?_⟩
        obtain ⟨q, rfl, q0, q1⟩ := hx
        refine ⟨(5, 1 + q), ⟨by show 0 < 1 + q; omega, by show 1 + q ≤ 10; omega⟩, ⟨trivial, rfl, rfl, trivial⟩, fun x hx => ?_⟩
        obtain ⟨c, rfl, okc, _⟩ := hx
        refine ⟨_, rfl, ?_⟩
        refine dLc_pure (as := casesM rs) (enc := caseD) (fun d => inB d c && decide (resL rs d = resL rs c)) (fun d => .tuple ((unb rs d).map ruleD)) (st := true) (fun q h => h) (by omega) (fun d hd k hk => ?_) ?_
        · have okd := okm d hd
          refine ⟨(c, d), by show d.length ≤ 1000; have := okd.len; omega, ⟨rfl, rfl, trivial⟩, fun x hx => ?_⟩
          subst hx
          show if inB d c = true then _ else _
          cases hi : inB d c with
          | false =>
            rw [hi] at hk
            exact no_if rfl hk
          | true =>
            rw [hi] at hk
            refine yes_if rfl ?_
            refine ⟨rfl, (rs, d), ⟨ok, okd⟩, ⟨⟨rfl, rfl⟩, rfl, trivial⟩, fun x hx => ?_⟩
            subst hx
            refine ⟨rfl, (rs, c), ⟨ok, okc⟩, ⟨⟨rfl, rfl⟩, rfl, trivial⟩, fun x hx => ?_⟩
            subst hx
            refine ⟨shaped_ints _, shaped_ints _, ?_⟩
            show if PyData.eqv (.tuple ((resL rs d).map PyData.int)) (.tuple ((resL rs c).map PyData.int)) = true then _ else _
            rw [eqv_intsT]
            by_cases e : resL rs d = resL rs c
            · rw [decide_eq_true e] at hk
              refine yes_if (decide_eq_true e) ?_
              refine ⟨(rs, d), ⟨ok, okd⟩, ⟨⟨rfl, rfl⟩, rfl, trivial⟩, fun x hx => ?_⟩
              subst hx
              exact hk
            · rw [decide_eq_false e] at hk
              exact no_if (decide_eq_false e) hk
        refine ⟨.dat (.list (((casesM rs).filter fun d => inB d c && decide (resL rs d = resL rs c)).map fun d => .tuple ((unb rs d).map ruleD))), .inr rfl, ?_⟩
        refine ⟨(rs, c), ⟨ok, okc⟩, ⟨⟨rfl, rfl⟩, rfl, trivial⟩, fun x hx => ?_⟩
        subst hx
        refine ⟨shaped_rulesT _, ?_, no_if ?_ ?_⟩
        · exact shaped_unbs rs _
        · show (!(((casesM rs).filter fun d => inB d c && decide (resL rs d = resL rs c)).map fun d => PyData.tuple ((unb rs d).map ruleD)).any fun z => PyData.eqv z (.tuple ((unb rs c).map ruleD))) = false
          rw [List.any_eq_true.mpr ⟨.tuple ((unb rs (uni9 rs c)).map ruleD), List.mem_map.mpr ⟨uni9 rs c, List.mem_filter.mpr ⟨uni9_matters okr okc, by rw [uni9_in, resL_uni9]; simp⟩, rfl⟩, by rw [unb_uni9, eqv_rulesT]; exact decide_eq_true rfl⟩]
          rfl
        exact ⟨_, _, _, rfl⟩
      · obtain ⟨a8, a9, a10, rfl⟩ := he
        exact ⟨_, _, _, _, _, _, _, _, _, rfl⟩
    · obtain ⟨a1, a3, a4, a5, a6, a7, a8, a9, a10, rfl⟩ := he
      exact ⟨_, _, _, _, _, _, _, _, _, _, rfl⟩
  · obtain ⟨a1, a2, a3, a4, a5, a6, a7, a8, a9, a10, rfl⟩ := he
    exact ⟨_, ⟨rfl, rfl⟩, rfl⟩
end
end Cr

namespace Cr
open PySem PySem.Spec PyProof.Rows L2
variable [Tbl]
/-! ### a lambda that captures nothing, made and called -/
/-- the lambda of `_; _; x = f(.., k=lambda ..); ..` -/
def keyE : List Stmt → Expr
  | _ :: _ :: .Assign _ (.Call _ _ (k :: _) _) _ :: _ => k.value
  | _ => .Constant .none 0 ⟨0, 0, 0, 0⟩
def lamSc : Expr → Scope
  | .Lambda _ _ s _ => s
  | _ => defScope (.Pass ⟨0, 0, 0, 0⟩)
def lamBo : Expr → Expr
  | .Lambda _ b _ _ => b
  | e => e
/-- the object at f is such a function, its code object at c' -/
def LamO (f : Addr) (q : Str) (params : Arguments) (body : Expr) (scope : Scope) (c' : Addr) : HO := .ext fun h => ∃ pm ctv : Value, h.get? f = some (PySem.W.kla_obj "<lambda>" q params body scope [] pm c' ctv)
/-- f is such a function, and its code object is known -/
def LamG (q : Str) (params : Arguments) (body : Expr) (scope : Scope) (f : Addr) (H : Hp) : Prop := ∃ c', H f = some (LamO f q params body scope c') ∧ H c' = some (LamX.CodeO c' q)
theorem lamO_fx {f c' : Addr} {q : Str} {params : Arguments} {body : Expr} {scope : Scope} : Fx (LamO f q params body scope c') := fun ps z => by
  unfold LamO at z
  cases z
theorem LamG.ext {q : Str} {params : Arguments} {body : Expr} {scope : Scope} {f : Addr} {H H' : Hp} (e : ExtT H H') (h : LamG q params body scope f H) : LamG q params body scope f H' := let ⟨c', h1, h2⟩ := h; ⟨c', e.k _ _ h1 lamO_fx, e.k _ _ h2 LamX.codeO_ne⟩
section
variable {X : Cx} {pins : List (Addr × Obj)} {σ : L2.St} {H : Hp} {s : Shared}
/-- the new function, followed from now on -/
theorem lam_obj {H1 : Hp} {h1 : Heap} {t1 t2 : Nat} {q : Str} {params : Arguments} {body : Expr} {scope : Scope} {pm ctv : Value} {c' : Addr} (I : Inv X pins σ H1 { s with heap := h1, toks := t1 }) (hc : H1 c' = some (LamX.CodeO c' q)) :
    Inv X pins σ (upd H1 h1.objs.size (LamO h1.objs.size q params body scope c')) { s with heap := h1.push (PySem.W.kla_obj "<lambda>" q params body scope [] pm c' ctv), toks := t2 } ∧ H1 h1.objs.size = none ∧ LamG q params body scope h1.objs.size (upd H1 h1.objs.size (LamO h1.objs.size q params body scope c')) := by
  have n0 : H1 h1.objs.size = none := I.hok.fresh (Nat.le_refl _)
  have he : (h1.push (PySem.W.kla_obj "<lambda>" q params body scope [] pm c' ctv)).get? h1.objs.size = some (PySem.W.kla_obj "<lambda>" q params body scope [] pm c' ctv) := Heap.get?_push_size _ rfl
  refine ⟨inv_take (s := { s with heap := h1, toks := t1 }) (t' := t2) (ch := [h1.objs.size]) I (List.mem_singleton.mpr rfl) (fun b o _ e => Heap.get?_push_of_some _ e) (fun b hb => ?_) ⟨⟨pm, ctv, he⟩, ⟨_, he⟩, fun g1 g2 ⟨a, b, e⟩ st => ⟨a, b, st _ e⟩⟩, n0, c', upd_same, ?_⟩
  · rw [List.mem_singleton.mp hb]
    exact I.fpOk (Nat.le_refl _) n0
  · rw [upd_ne (fun z => by rw [z, n0] at hc; cases hc)]
    exact hc
theorem ext_new {H1 H2 : Hp} {p : Addr} {u : HO} (e : ExtT H1 H2) (n : H2 p = none) : ExtT H1 (upd H2 p u) := e.trans (.of (Same.new n))
/-- the lambda is made -/
theorem lam_made {c P : Addr} {params : Arguments} {body : Expr} {scope : Scope} {pos : Pos} {E Q : Value → Shared → Prop} (I : Inv X pins σ H s) (TB : LamX.TabB X.base X.mg c P) (hcode : X.env.code = .ref c)
    (hm : (P, X.env.qual ++ "<lambda>") ∈ Tbl.T) (hu : ∀ q, (P, q) ∈ Tbl.T → q = X.env.qual ++ "<lambda>") (tb : TabsH H) (hdef : defaultsOf params X.env = ([], [])) (hclo : closureFor scope X.env = pure [])
    (h : ∀ (f : Addr) (H1 : Hp) (s' : Shared), Inv X pins σ H1 s' → ExtT H H1 → LamG (X.env.qual ++ "<lambda>") params body scope f H1 → Q (.ref f) s') :
    wpAny (model X.prog X.w) X.A (eval (.Lambda params body scope pos) X.env) Q E s := by
  obtain ⟨ps, hP, ht, known⟩ := tb _ hm
  have tab : s.heap.get? P = some { cls := .none, data := .fields ps } := I.hok P _ hP
  refine PySem.W.kla_eval hdef ?_
  by_cases hit : ∃ cv, codeAmong pos ps.toList = some cv
  · obtain ⟨cv, hf⟩ := hit
    obtain ⟨c', rfl, hc⟩ := known _ _ hf
    refine PySem.W.kla_makeFunctionHit hclo I.ok.glob (I.mod.glob.keeps I.bk) hcode (TB.code.keeps I.bk) tab ht hf (TB.bm.keeps I.bk) fun ctv h' tk kp _ => ?_
    have ⟨I2, n2, g2⟩ := lam_obj (t2 := tk) (pm := (X.mg "__name__").getD .none) (ctv := ctv) (params := params) (body := body) (scope := scope) (I.kept (t' := tk) kp) hc
    exact h _ _ _ I2 (ext_new (.refl H) n2) g2
  · have miss : codeAmong pos ps.toList = none := by
      cases z : codeAmong pos ps.toList with
      | none => rfl
      | some cv => exact absurd ⟨cv, z⟩ hit
    refine PySem.W.kla_makeFunction hclo I.ok.glob (I.mod.glob.keeps I.bk) hcode (TB.code.keeps I.bk) tab ht miss TB.gP (TB.bm.keeps I.bk) fun c' ctv h' tk other ge lt rec' wr => ?_
    obtain ⟨c2, oc, vs, t, ec, e1, e2, e3⟩ := rec'
    cases ec
    have n1 : H c' = none := I.hok.fresh ge
    have pc : P ≠ c' := fun z => by rw [z, n1] at hP; cases hP
    have I1 := LamX.inv_table (t' := tk) (q := X.env.qual ++ "<lambda>") (more := #[rawInt pos.line, rawInt pos.col, .ref c']) I hP other wr ge ⟨oc, vs, t, e1, e2, e3⟩
    have at_ : ∀ b o, H b = some o → b ≠ P → upd (upd H P (.tbl (ps ++ #[rawInt pos.line, rawInt pos.col, .ref c']))) c' (LamX.CodeO c' (X.env.qual ++ "<lambda>")) b = some o := fun b o e n => by
      rw [upd_ne (fun z => by rw [z, n1] at e; cases e), upd_ne n]
      exact e
    have atP : upd (upd H P (.tbl (ps ++ #[rawInt pos.line, rawInt pos.col, .ref c']))) c' (LamX.CodeO c' (X.env.qual ++ "<lambda>")) P = some (.tbl (ps ++ #[rawInt pos.line, rawInt pos.col, .ref c'])) := by rw [upd_ne pc, upd_same]
    have stay : ∀ b o, H b = some o → Fx o → upd (upd H P (.tbl (ps ++ #[rawInt pos.line, rawInt pos.col, .ref c']))) c' (LamX.CodeO c' (X.env.qual ++ "<lambda>")) b = some o := fun b o e n => at_ b o e fun z => n ps (by rw [z, hP] at e; exact (Option.some.inj e).symm)
    have eT : ExtT H (upd (upd H P (.tbl (ps ++ #[rawInt pos.line, rawInt pos.col, .ref c']))) c' (LamX.CodeO c' (X.env.qual ++ "<lambda>"))) := by
      refine ⟨fun b o e n => stay b o e n, fun old p hp => ?_, fun b qs e => ?_⟩
      · obtain ⟨p1, q1⟩ := p
        obtain ⟨qs, a1, a2, a3⟩ := old (p1, q1) hp
        by_cases hb : p1 = P
        · subst hb
          obtain rfl := hu q1 hp
          refine ⟨_, atP, ?_, fun p' cv hcv => ?_⟩
          · rw [Array.toList_append]
            exact PySem.TriplesOk_snoc _ _ _ _ ht
          · rw [Array.toList_append] at hcv
            rcases LamX.among_app _ ht hcv with z | z
            · obtain ⟨c0, f1, f2⟩ := known p' cv z
              exact ⟨c0, f1, stay _ _ f2 LamX.codeO_ne⟩
            · exact ⟨c', z, upd_same⟩
        · refine ⟨qs, at_ _ _ a1 hb, a2, fun p' cv hcv => ?_⟩
          obtain ⟨c0, f1, f2⟩ := a3 p' cv hcv
          exact ⟨c0, f1, stay _ _ f2 LamX.codeO_ne⟩
      · by_cases hb : b = P
        · exact ⟨_, by rw [hb]; exact atP⟩
        · exact ⟨qs, at_ b _ e hb⟩
    have ⟨I2, n2, g2⟩ := lam_obj (t2 := tk) (pm := (X.mg "__name__").getD .none) (ctv := ctv) (params := params) (body := body) (scope := scope) I1 upd_same
    exact h _ _ _ I2 (ext_new eT n2) g2
/-- what the lambda's expression gives -/
def tLamF (q : Str) (params : Arguments) (body : Expr) (scope : Scope) : TE := fun _ H Q => TabsH H ∧ ∀ f H1, ExtT H H1 → LamG q params body scope f H1 → Q (.ref f) H1
theorem pe_lam {c P : Addr} {params : Arguments} {body : Expr} {scope : Scope} {pos : Pos} (TB : LamX.TabB X.base X.mg c P) (hcode : X.env.code = .ref c) (hm : (P, X.env.qual ++ "<lambda>") ∈ Tbl.T) (hu : ∀ q, (P, q) ∈ Tbl.T → q = X.env.qual ++ "<lambda>")
    (hdef : defaultsOf params X.env = ([], [])) (hclo : closureFor scope X.env = pure []) : PE X (.Lambda params body scope pos) (tLamF (X.env.qual ++ "<lambda>") params body scope) := ⟨fun pins s σ H Q I h =>
  lam_made I TB hcode hm hu h.1 hdef hclo fun f H1 s' I1 e g => ⟨.ref f, H1, I1, rfl, h.2 f H1 e g⟩⟩
end
/-- its body, called with one value -/
theorem key_lam {X : Cx} {β : Type} {n : Nat} {f : Addr} {q p : Str} {params : Arguments} {body : Expr} {scope : Scope} {N : List Str} {dom : β → Prop} {enc k : β → PyData} (he : ∀ b, noL (enc b) = true) (hk : ∀ b, noL (k b) = true) (S : FnScope N [p] scope)
    (hbind : ∀ (pm cv ctv u : Value), bindArgs (PySem.W.kla_fn "<lambda>" q params body scope [] pm cv ctv) ⟨[u], []⟩ = pure [(p, u)])
    (hb : ∀ (c' : Addr) (A : Around) (outer : List Env) (s : Shared) (H : Hp), Room n (A.deeper (envOfC q scope s.heap.objs.size f (.ref c'))) → ∃ t T, PE (cxOf CX0 X.prog X.w X.K X.mg X.base N q scope f (.ref c') A outer s H E0) body t ∧ DL t T ∧ ∀ b, dom b → T (env0 N [.dat (enc b)]) fun r => r = .dat (k b)) :
    KeyG X (LamG q params body scope f) (n + 1) (.ref f) dom enc k := by
  intro A pins s σ H M x u b sb I tb g rx rd db
  obtain ⟨c', hf, hc⟩ := g
  obtain ⟨⟨pm, ctv, of⟩, _, _⟩ := I.hok f _ hf
  obtain ⟨⟨oc, vs, t, hoc, hdc, hvc⟩, _, _⟩ := I.hok c' _ hc
  have e0 := I.env0
  have e1 : Env0 X.prog X.w X.K X.mg X.base A X.stack s H := ⟨sb.fr.trans e0.frames, e0.mod, e0.bs, e0.bsz, e0.funs, e0.frf, e0.hok, e0.bare⟩
  have r1 : Vals [x] [u] := .cons rx .nil
  have rc : codeAny (model X.prog X.w) A (.call (.ref f) ⟨[u], []⟩) (CR CX0 X.stack X.prog X.w H s (fun v H' => ExtT H H' ∧ RD M H' v (k b)) E0) s := by
    refine PySem.W.kla_callFunE sb.room.depth of rfl S.co S.gen rfl ⟨c', oc, vs, t, rfl, hoc, hdc, hvc⟩ ?_
    rw [hbind]
    refine wpAny_pure (wpAny_newFunctionEnv_cells S.kind (fun y hy => ?_) fun env he' s1 x1 => ?_)
    · rw [List.mem_singleton.mp hy]
      rcases S.par p (List.mem_singleton.mpr rfl) with z | z
      · exact .inl z
      · exact .inr ⟨z, PySem.W.cellsFrom_some _ _ _ (.inl z)⟩
    subst he'
    refine ⟨I.nolimit.keeps x1.toInCall.keep, PySem.W.kla_codeExpr ?_⟩
    obtain ⟨t, T, ht, hd, hT⟩ := hb c' A X.stack s H (sb.room.deeper _)
    have J : Inv (cxOf CX0 X.prog X.w X.K X.mg X.base N q scope f (.ref c') A X.stack s H E0) [] (L2.start N [x]) H s1 := inv_start S sb.room.hd e1 rfl r1 x1
    have z : EnvS ⟨fun _ => False, fun _ => False, H⟩ (L2.start N [x]) (env0 N [.dat (enc b)]) := env0_ok (ss := [.dat (enc b)]) ⟨show RD _ H x (enc b) from RD.free (he b) rd, trivial⟩
    refine wpAny_mono (ht.run [] s1 (L2.start N [x]) H (fun v H' => ExtT H H' ∧ RD M H' v (k b)) J (DL.run (t := t) ⟨fun _ => False, fun _ => False, H⟩ _ _ _ _ ⟨fun _ w => w, fun _ w => w.elim, fun _ w => w.elim, tb⟩ z (hT b db) fun v H' r ge rr e => ?_)) (fun v s' ⟨w, H', J', rv, q'⟩ => ?_) fun e s' hq => hq
    · subst e
      exact ⟨⟨fun c o h t => ge.k c o (fun z => z) h t, ge.t⟩, RD.free (hk b) rr⟩
    · exact ⟨w, H', J'.os, J'.bare, J'.base, J'.hok, rv, q'⟩
  refine wpAny_call (codeAny_mono rc fun r s' hq => ?_)
  cases r with
  | error e => exact False.elim hq
  | ok fl =>
    cases fl with
    | ret u' =>
      obtain ⟨v, H', I', rv, ex, rd'⟩ := I.after hq
      exact ⟨v, H', I', ex, rv, rd'⟩
    | next => exact False.elim hq
    | brk => exact False.elim hq
    | cont => exact False.elim hq
/-- sorted(xs, key=lambda ..) over data -/
instance {β : Type} {K : PySem.W.Frag} {q : Str} {params : Arguments} {body : Expr} {scope : Scope} {dom : β → Prop} {enc k : β → PyData} {ta : TE} {Ta : DTE} [DL ta Ta] : DL (tCKw (rSortG K (LamG q params body scope) dom enc k) (tCons ta tNil) (tCons (tLamF q params body scope) tNil)) (dSortBy dom enc k Ta) := ⟨fun z σ env Q Qd o e h qq =>
  DL.run (t := ta) z σ env _ _ o e h fun v H1 r g1 r1 h1 => by
    obtain ⟨bs, hd, hdm, hal, hk, hdep, h2⟩ := h1
    refine ⟨(g1.ok o).tb, fun f H2 ex2 g2 => ?_⟩
    have ge2 : Ge (z.at H1) H2 := ⟨fun b u _ w t => ex2.k b u w t, fun b s => let ⟨a1, a2, a3, w⟩ := g1.s b s; ⟨a1, a2, a3, ex2.k _ _ w⟩, ex2.t⟩
    obtain ⟨a, xs, rfl, ha, rs⟩ := seq_rr K (r1.on o g1 ge2) hd
    have o1 := g1.ok o
    refine ⟨z.N, a, f, xs, bs, rfl, rfl, g2, ha, rs, (ge2.ok o1).tb, (ge2.ok o1).lst, hdm, hal, hk, hdep, fun ys p H' hp ex hl hr => ?_⟩
    have gg := g1.trans ge2
    have ge : Ge (z.at H2) H' := ⟨fun b u _ w t => ex.k b u w t, fun b s => let ⟨a1, a2, a3, w⟩ := gg.s b s; ⟨a1, a2, a3, ex.k _ _ w⟩, ex.t⟩
    exact qq _ _ (.new _) (gg.trans ge) ⟨p, ys, rfl, gg.fresh hp, hl, RDs.mono ⟨fun b o _ h t => ex.k b o h t, fun b n => n.imp id fun w => by rw [w]; exact hp, (gg.ok o).lst⟩ hr⟩ h2⟩
/-- the rule -/
theorem pe_sortLam {X : Cx} {β : Type} {n : Nat} {c P : Addr} {p q : Str} {N : List Str} {params : Arguments} {body : Expr} {scope : Scope} {dom : β → Prop} {enc k : β → PyData} {nm : Option Str} {e : Expr} {t : TE} {lpos p1 pos kpos : Pos} (TB : LamX.TabB X.base X.mg c P) (hcode : X.env.code = .ref c) (hq : X.env.qual ++ "<lambda>" = q) (hm : (P, q) ∈ Tbl.T) (hu : ∀ q', (P, q') ∈ Tbl.T → q' = q)
    (hdef : defaultsOf params X.env = ([], [])) (hclo : closureFor scope X.env = pure []) (he : ∀ b, noL (enc b) = true) (hk : ∀ b, noL (k b) = true) (S : FnScope N [p] scope) (hbind : ∀ (pm cv ctv u : Value), bindArgs (PySem.W.kla_fn "<lambda>" q params body scope [] pm cv ctv) ⟨[u], []⟩ = pure [(p, u)])
    (hb : ∀ (f c' : Addr) (A : Around) (outer : List Env) (s : Shared) (H : Hp), Room n (A.deeper (envOfC q scope s.heap.objs.size f (.ref c'))) → ∃ t T, PE (cxOf CX0 X.prog X.w X.K X.mg X.base N q scope f (.ref c') A outer s H E0) body t ∧ DL t T ∧ ∀ b, dom b → T (env0 N [.dat (enc b)]) fun r => r = .dat (k b))
    (hr : Room (n + 3) X.A) (hu6 : X.A.units + 66 < cLine) (hg : Gl X "sorted") (hs : X.mg "sorted" = none) (ha : PA X [e] (tCons t tNil))
    (h1 : backTo pos (starEach [e] X.env) = (false, eval e X.env) :: backTo pos (starEach [] X.env) := by rfl) (h2 : (backTo pos (starEach [e] X.env)).any (·.1) = false := by rfl)
    (h3 : (backToKw pos (keywordEach [⟨nm, .Lambda params body scope lpos, kpos⟩] X.env)).all (·.1.isSome) = true := by rfl) (h4 : (backToKw pos (keywordEach [⟨nm, .Lambda params body scope lpos, kpos⟩] X.env)).any (·.1.isNone) = false := by rfl) (h5 : (backToKw pos (keywordEach [⟨nm, .Lambda params body scope lpos, kpos⟩] X.env)).filterMap (·.1) = [Str.ofString "key"] := by rfl) :
    PE X (.Call (.Name "sorted" p1) [e] [⟨nm, .Lambda params body scope lpos, kpos⟩] pos) (tCKw (rSortG X.K (LamG q params body scope) dom enc k) (tCons t tNil) (tCons (tLamF q params body scope) tNil)) := by
  subst hq
  exact pe_callBK (cr_sortedG (Gf := LamG (X.env.qual ++ "<lambda>") params body scope) (fun f => key_lam he hk S hbind (hb f)) (fun f H H' e g => g.ext e) ⟨hr.in1.in1, rfl⟩ hu6) hg hs (by decide +kernel) ha (pk_cons (pe_lam TB hcode hm hu hdef hclo) pk_nil) (by decide) (by decide) h1 h2 h3 h4 h5
end Cr

namespace Cr
open PySem PySem.Spec PyProof.Rows L2
/-! ### the law's end, with tables of code objects: ts holds for each table its maker's code object c, the table P and the name q of what is made -/
abbrev TabR := Addr × Addr × Str
@[reducible] def tblOf (ts : List TabR) : Tbl := ⟨ts.map fun t => (t.2.1, t.2.2)⟩
/-- the tables alone -/
def tabsOf (ts : List TabR) : Hp := fun b => if ∃ t ∈ ts, t.2.1 = b then some (.tbl #[]) else none
theorem law_runsT {P : Program} {w : World} {K : PySem.W.Frag} {mg mb : Str → Option Value} {bm : Addr} {ob : Obj} {CX : CXT} {k : Nat} {fa a : Addr} {sp : Sp} {s : Shared} {vs : List Value} {ns : List Int} (ts : List TabR)
    (KX : K.In s.heap) (hns : s.heap.Ns mainGlobals mg) (hb : s.heap.Ns builtinsNs mb) (hbb : ∀ x : Str, x ≠ "__name__" → mb x = bootBuiltins x) (hlim : s.heap.NoLimit) (hg : s.gens = #[])
    (tab : ∀ t ∈ ts, s.heap.get? t.2.1 = some { cls := .none, data := .fields #[] }) (tabK : ∀ t ∈ ts, K.lookup t.2.1 = none) (hd : ∀ t ∈ ts, PySem.W.CodeHd s.heap t.1 t.2.1)
    (b1 : mg "__builtins__" = some (.ref bm)) (b2 : bm ≠ builtinsNs) (b3 : s.heap.get? bm = some ob) (b4 : ob.cls = .type "module") (b5 : ob.dict = some builtinsNs) (b6 : ob.data = .plain)
    (ha : s.heap.get? a = some { cls := .type "list", data := .seq vs.toArray }) (hi : IntsAre vs ns) (hl : ns.length ≤ sizeLine) (hr : Room k callerA)
    (F : ∀ base : Heap, K.In base → base.Ns mainGlobals mg → (∀ t ∈ ts, LamX.TabB base mg t.1 t.2.1) → FnG P w K mg base CX k fa sp)
    (hsp : ∀ H : Hp, OnlyT H → (∀ t ∈ ts, H t.2.1 = some (.tbl #[])) → SqL K H a (ns.map V.int) → sp [.ref a] H (fun v _ => v = .bl true) fun _ _ _ => False)
    (hCX : ∀ H e s', CX [] H s (fun _ _ _ => False) e s' → False) :
    codeAny (model P w) callerA (.call (.ref fa) ⟨[.ref a], []⟩) (fun r s' => r = .ok (.ret (.bool true)) ∧ OldK s.heap s'.heap ∧ s'.os = s.os ∧ AllBare s'.gens) s := by
  have at_tab : ∀ {b : Addr}, (∃ t ∈ ts, t.2.1 = b) → s.heap.get? b = some { cls := .none, data := .fields #[] } := fun ⟨t, m, e⟩ => e ▸ tab t m
  have a_no : ¬ ∃ t ∈ ts, t.2.1 = a := fun z => by
    have e := at_tab z
    rw [ha] at e
    exact nomatch (show Data.seq vs.toArray _ = Data.fields #[] from congrArg Obj.data (Option.some.inj e))
  have main : ∀ H : Hp, (∀ b u, H b = some u → ((∃ t ∈ ts, t.2.1 = b) ∧ u = .tbl #[]) ∨ (b = a ∧ K.lookup a = none ∧ u = .frz { cls := .type "list", data := .seq vs.toArray } (.lst (ns.map V.int)))) → (∀ t ∈ ts, H t.2.1 = some (.tbl #[])) → SqL K H a (ns.map V.int) →
      codeAny (model P w) callerA (.call (.ref fa) ⟨[.ref a], []⟩) (fun r s' => r = .ok (.ret (.bool true)) ∧ OldK s.heap s'.heap ∧ s'.os = s.os ∧ AllBare s'.gens) s := by
    intro H look tabH hS
    have free : ∀ {b : Addr}, b ≠ a → (¬ ∃ t ∈ ts, t.2.1 = b) → H b = none := fun {b} n1 n2 => by
      cases q : H b with
      | none => rfl
      | some u => exact (look b u q).elim (fun z => absurd z.1 n2) fun z => absurd z.1 n1
    have onlyT : OnlyT H := fun b => by
      cases q : H b with
      | none => exact .inl rfl
      | some u =>
        rcases look b u q with ⟨_, rfl⟩ | ⟨_, _, rfl⟩
        · exact .inr (.inl ⟨_, rfl⟩)
        · exact .inr (.inr ⟨_, _, rfl⟩)
    have hok : HOk P w H s.heap := fun b u q => by
      rcases look b u q with ⟨m, rfl⟩ | ⟨rfl, _, rfl⟩
      · exact at_tab m
      · exact ⟨ha, by rw [List.length_map]; exact hl, vs, _, vals_ints hi, ha⟩
    -- an object of another kind is hidden from no one
    have seen : ∀ {b : Addr} {o : Obj}, s.heap.get? b = some o → (∀ l n, o.data ≠ .seq l n) → o.data ≠ .fields #[] → (hidT s.heap H).get? b = some o := fun {b o} e n1 n2 => hidT_get e (free (fun z => by
      rw [z, ha] at e
      cases e
      exact n1 _ _ rfl) fun z => by
      rw [at_tab z] at e
      cases e
      exact n2 rfl)
    have nsB : ∀ {b : Addr} {m : Str → Option Value}, s.heap.Ns b m → (hidT s.heap H).Ns b m := fun ⟨o, es, ep, e, d, r⟩ => ⟨o, es, ep, seen e (fun l n z => by rw [d] at z; cases z) (fun z => by rw [d] at z; cases z), d, r⟩
    have kB : K.In (hidT s.heap H) := fun b o e => hidT_get (KX b o e) (by
      cases q : H b with
      | none => rfl
      | some u =>
        rcases look b u q with ⟨⟨t, m, rfl⟩, _⟩ | ⟨rfl, hk, _⟩
        · rw [tabK t m] at e
          cases e
        · rw [hk] at e
          cases e)
    have tbB : ∀ t ∈ ts, LamX.TabB (hidT s.heap H) mg t.1 t.2.1 := fun t m => by
      obtain ⟨o, us, file, tf, flags, tg, inF, text, tt, e1, r1, r2, r3, r⟩ := hd t m
      have nG : bm ≠ mainGlobals := fun q => by
        obtain ⟨_, _, _, e, d, _⟩ := hns
        rw [q, e] at b3
        cases b3
        rw [d] at b6
        cases b6
      refine ⟨⟨o, us, file, tf, flags, tg, inF, text, tt, seen e1 (fun l n z => by rw [r2] at z; cases z) (fun z => by rw [r2] at z; cases z; simp at r3), r1, r2, r3, r⟩,
        ⟨bm, ob, b1, b2, nG, fun q => ?_, seen b3 (fun l n z => by rw [b6] at z; cases z) (fun z => by rw [b6] at z; cases z), b4, b5, b6⟩, fun q => ?_⟩
      · rw [q, tab t m] at b3
        cases b3
        cases b4
      · obtain ⟨_, _, _, e, d, _⟩ := hns
        rw [q, tab t m] at e
        cases e
        cases d
    obtain ⟨mc, l1, l2⟩ := hlim
    have none_ : ∀ b : Addr, b ∉ ([] : List Addr) := fun b => by simp
    have e0 : Env0 P w K mg (hidT s.heap H) callerA [] s H := ⟨rfl, ⟨kB, nsB hns, ⟨mb, nsB hb, hbb⟩, ⟨mc, nsB l1, l2⟩⟩, fun b o e => of_hidT e, Nat.le_of_eq (hidT_size _ _), trivial, fun b z => absurd (show b ∈ ([] : List Addr) from z) (none_ b), hok, .of_eq hg⟩
    refine codeAny_mono (F _ kB (nsB hns) tbB callerA [] s _ [.ref a] [.ref a] _ _ rfl hr e0 (.cons rfl .nil) (hsp _ onlyT tabH hS)) fun r s' h => ?_
    cases r with
    | error e => exact (hCX _ e s' h).elim
    | ok fl =>
      cases fl with
      | next => exact False.elim h
      | brk => exact False.elim h
      | cont => exact False.elim h
      | ret u =>
        obtain ⟨v, H', os, bare, un, hok', rv, rfl⟩ := h
        cases rv
        have grown : ∀ t ∈ ts, ∃ more : Array Value, s'.heap.get? t.2.1 = some { cls := .none, data := .fields more } := fun t m => by
          obtain ⟨more, z⟩ := un.tbls t.2.1 #[] (tabH t m)
          exact ⟨_, hok' t.2.1 _ z⟩
        have kept : ∀ b o, (¬ ∃ t ∈ ts, t.2.1 = b) → s.heap.get? b = some o → s'.heap.get? b = some o := fun b o n e => by
          cases q : H b with
          | none => exact un.keep b o e q (none_ b) (none_ b)
          | some u =>
            rcases look b u q with ⟨z, _⟩ | ⟨rfl, _, rfl⟩
            · exact absurd z n
            · obtain ⟨z, _⟩ := hok' b _ (un.frzs b _ _ q)
              rw [ha] at e
              cases e
              exact z
        refine ⟨rfl, ⟨fun b o e => ?_, fun b o e => ?_⟩, os, bare⟩
        · by_cases z : ∃ t ∈ ts, t.2.1 = b
          · obtain ⟨t, m, rfl⟩ := z
            obtain ⟨more, hm⟩ := grown t m
            rw [tab t m] at e
            cases e
            exact .inr (.inl ⟨((hd t m).tab (tab t m)).isCodeTable, rfl, #[], more, rfl, by rw [Array.empty_append]; exact hm⟩)
          · exact .inl (kept b o z e)
        · by_cases z : ∃ t ∈ ts, t.2.1 = b
          · obtain ⟨t, m, rfl⟩ := z
            obtain ⟨more, hm⟩ := grown t m
            exact ⟨_, hm⟩
          · exact ⟨o, kept b o z e⟩
  have rv := vals_ints hi
  have ln := hi.length
  cases hk : K.lookup a with
  | some o =>
    have e := KX a o hk
    rw [ha] at e
    cases e
    refine main (tabsOf ts) (fun b u q => ?_) (fun t m => if_pos ⟨t, m, rfl⟩) (.inr ⟨_, vs.toArray, _, hk, rfl, rfl, rfl, by rw [List.size_toArray, ln]; exact hl, by simpa using rv⟩)
    by_cases m : ∃ t ∈ ts, t.2.1 = b
    · exact .inl ⟨m, Option.some.inj (q.symm.trans (if_pos m))⟩
    · cases q.symm.trans (if_neg m)
  | none =>
    refine main (fun b => if b = a then some (.frz { cls := .type "list", data := .seq vs.toArray } (.lst (ns.map V.int))) else tabsOf ts b) (fun b u q => ?_) (fun t m => (if_neg fun z => a_no ⟨t, m, z⟩).trans (if_pos ⟨t, m, rfl⟩)) (.inl (.inr ⟨_, if_pos rfl⟩))
    by_cases n : b = a
    · exact .inr ⟨n, hk, Option.some.inj (q.symm.trans (if_pos n))⟩
    · have q := (if_neg n).symm.trans q
      by_cases m : ∃ t ∈ ts, t.2.1 = b
      · exact .inl ⟨m, Option.some.inj (q.symm.trans (if_pos m))⟩
      · cases q.symm.trans (if_neg m)
theorem walk_GT {l : PySem.W.OpenLaw} {n k : Nat} {q : Program} {loose : List Str} {XP : (Str → Option Value) → Heap → Prop} {YP : World → Heap → Prop} {d : DefRec} {K : Params → PySem.W.Frag} {CX : World → CXT}
    (hn : l.most = some n) (hn2 : n ≤ sizeLine) (hdf : d.params.defaults = []) (hr : Room k callerA) (hY : ∀ (w : World) (h : Heap), YP w h → (K w.params).In h)
    (hCX : ∀ (w : World) (H : Hp) (s : Shared) (e : Value) (s' : Shared), CX w [] H s (fun _ _ _ => False) e s' → False)
    (F : ∀ (w : World) (s0 : Shared) (mg mb : Str → Option Value) (fa : Addr) (h : Heap), PySem.W.Ground q loose [] XP w s0 mg mb h → (K w.params).In h → mg d.name = some (.ref fa) →
      ∃ (ts : List TabR) (sp : Sp), (∀ t ∈ ts, h.get? t.2.1 = some { cls := .none, data := .fields #[] }) ∧ (∀ t ∈ ts, (K w.params).lookup t.2.1 = none) ∧ (∀ t ∈ ts, PySem.W.CodeHd h t.1 t.2.1) ∧
        (∀ (H : Hp) (a : Addr) (ns : List Int), ns.length ≤ n → OnlyT H → (∀ t ∈ ts, H t.2.1 = some (.tbl #[])) → SqL (K w.params) H a (ns.map V.int) → sp [.ref a] H (fun v _ => v = .bl true) fun _ _ _ => False) ∧
        ∀ base : Heap, (K w.params).In base → base.Ns mainGlobals mg → (∀ t ∈ ts, LamX.TabB base mg t.1 t.2.1) → FnG l.prog w (K w.params) mg base (CX w) k fa sp) :
    PySem.W.WalkO q loose XP YP l.row.toRowW d [] (fun f vs => PySem.call f vs) := by
  refine Att.attach_call hn hdf fun w s0 s1 mg mb fa o pm cd doc a vs ns G Y ho hd hcd hmg hobj hints hlen hg => ?_
  have KX := hY w _ Y
  obtain ⟨ts, sp, t1, t2, t3, hsp, hF⟩ := F w s0 mg mb fa _ G KX hmg
  obtain ⟨bm, ob, b1, b2, b3, b4, b5, b6⟩ := G.T.bmain
  exact law_runsT ts KX G.T.g G.T.b G.T.builtins G.T.nolimit hg t1 t2 t3 b1 b2 b3 b4 b5 b6 hobj hints (Nat.le_trans hlen hn2) hr hF (fun H O hT hS => hsp H a ns hlen O hT hS) fun H e s' => hCX w H s1 e s'
end Cr

namespace Cr
open PySem PySem.Spec PyProof.Rows L2
/-! ### the law's end -/
theorem tabIn_of {K : PySem.W.Frag} {x : Str} {f c P : Addr} {fd : FuncData} {oc cl : Value} {od ce : Option Addr} {sl sc : Array (Option Value)} {vs : Array Value} (h1 : PySem.W.nsIn K mainGlobals x = some (some (.ref f))) (h2 : K.lookup f = some ⟨oc, od, .func fd, sl⟩) (h3 : fd.code = .ref c) (h4 : K.lookup c = some ⟨cl, ce, .fields vs, sc⟩) (h5 : vs[11]? = some (.ref P)) :
    PySem.W.tabIn K x = some (c, P) := by
  unfold PySem.W.tabIn
  simp only [h1, h2, h3, h4, h5]
section
variable {P : Program} {w : World} {K : PySem.W.Frag} {mg mb : Str → Option Value} {fa : Addr} {h : Heap} {k n : Nat}
/-- without tables -/
theorem fin_tab0 (m : ∀ (tbl : Tbl) (base : Heap), K.In base → base.Ns mainGlobals mg → FnG P w K mg base CX0 k fa (qLaw K n)) :
    ∃ (ts : List TabR) (sp : Sp), (∀ t ∈ ts, h.get? t.2.1 = some { cls := .none, data := .fields #[] }) ∧ (∀ t ∈ ts, K.lookup t.2.1 = none) ∧ (∀ t ∈ ts, PySem.W.CodeHd h t.1 t.2.1) ∧
        (∀ (H : Hp) (a : Addr) (ns : List Int), ns.length ≤ n → OnlyT H → (∀ t ∈ ts, H t.2.1 = some (.tbl #[])) → SqL K H a (ns.map V.int) → sp [.ref a] H (fun v _ => v = .bl true) fun _ _ _ => False) ∧
        ∀ base : Heap, K.In base → base.Ns mainGlobals mg → (∀ t ∈ ts, LamX.TabB base mg t.1 t.2.1) → FnG P w K mg base CX0 k fa sp :=
  ⟨[], @qLaw (tblOf []) K n, fun _ z => (nomatch z), fun _ z => (nomatch z), fun _ z => (nomatch z), fun H a ns hl O _ hS => @law_of (tblOf []) K n H a ns _ hl O (fun _ z => (nomatch z)) hS, fun base h1 h2 _ => m (tblOf []) base h1 h2⟩
/-- with one -/
theorem fin_tab1 {q : Program} {loose : List Str} {XP : (Str → Option Value) → Heap → Prop} {s0 : Shared} {ca pt : Addr} {x qn : Str} {d : DefRec} (G : PySem.W.Ground q loose [] XP w s0 mg mb h) (KX : K.In h) (nt : K.lookup pt = none) (hr : (recsOf q).find? (fun e => e.name == x) = some d)
    (m : PySem.W.tabIn K x = some (ca, pt) ∧ ∀ (tbl : Tbl), (pt, qn) ∈ tbl.T → (∀ q, (pt, q) ∈ tbl.T → q = qn) → ∀ base : Heap, K.In base → base.Ns mainGlobals mg → LamX.TabB base mg ca pt → FnG P w K mg base CX0 k fa (qLaw K n)) :
    ∃ (ts : List TabR) (sp : Sp), (∀ t ∈ ts, h.get? t.2.1 = some { cls := .none, data := .fields #[] }) ∧ (∀ t ∈ ts, K.lookup t.2.1 = none) ∧ (∀ t ∈ ts, PySem.W.CodeHd h t.1 t.2.1) ∧
        (∀ (H : Hp) (a : Addr) (ns : List Int), ns.length ≤ n → OnlyT H → (∀ t ∈ ts, H t.2.1 = some (.tbl #[])) → SqL K H a (ns.map V.int) → sp [.ref a] H (fun v _ => v = .bl true) fun _ _ _ => False) ∧
        ∀ base : Heap, K.In base → base.Ns mainGlobals mg → (∀ t ∈ ts, LamX.TabB base mg t.1 t.2.1) → FnG P w K mg base CX0 k fa sp := by
  obtain ⟨hc, ht⟩ := PySem.W.tab_of G.T KX hr m.1
  have one : ∀ {p : TabR → Prop}, p (ca, pt, qn) → ∀ t ∈ [(ca, pt, qn)], p t := fun hp t z => by rw [List.mem_singleton.mp z]; exact hp
  refine ⟨[(ca, pt, qn)], @qLaw (tblOf [(ca, pt, qn)]) K n, one ht, one nt, one hc, fun H a ns hl O hT hS => @law_of (tblOf [(ca, pt, qn)]) K n H a ns _ hl O (fun p z => ?_) hS, fun base h1 h2 h3 => m.2 (tblOf [(ca, pt, qn)]) (List.mem_singleton.mpr rfl) (fun q z => ?_) base h1 h2 (h3 _ (List.mem_singleton.mpr rfl))⟩
  · have e : p = (pt, qn) := List.mem_singleton.mp z
    subst e
    exact LamX.TabS.nil (hT _ (List.mem_singleton.mpr rfl))
  · have e : (pt, q) = (pt, qn) := List.mem_singleton.mp z
    exact congrArg Prod.snd e
end
end Cr

namespace Cr
open PySem PySem.Spec PyProof.Rows L2
theorem lookup_free : ∀ {l : List (Str × NameKind)}, (∀ p ∈ l, p.2 = .free → p.1 = ("__class__" : Str)) → ∀ y, l.lookup y = some .free → y = ("__class__" : Str)
  | [], _, y, h => by cases h
  | (a, b) :: l, hl, y, h => by
    rw [List.lookup_cons] at h
    cases e : y == a with
    | true =>
      rw [e] at h
      obtain rfl := eq_of_beq e
      exact hl _ List.mem_cons_self (Option.some.inj h)
    | false =>
      rw [e] at h
      exact lookup_free (fun p hp => hl p (List.mem_cons_of_mem _ hp)) y h
theorem all_mk69 {P : Program} {w : World} {K : PySem.W.Frag} {h : Heap} {mg : Str → Option Value} {fa : Addr} (X : K.In h) (G : h.Ns mainGlobals mg) (hfa : mg "law" = some (.ref fa))
    {fis_number : Addr} {ocis_number kVis_number dcis_number pmis_number cdis_number ctis_number : Value} {odis_number anis_number : Option Addr} {slis_number : Array (Option Value)}
    {fis_condition : Addr} {ocis_condition kVis_condition dcis_condition pmis_condition cdis_condition ctis_condition : Value} {odis_condition anis_condition : Option Addr} {slis_condition : Array (Option Value)}
    {fis_case : Addr} {ocis_case kVis_case dcis_case pmis_case cdis_case ctis_case : Value} {odis_case anis_case : Option Addr} {slis_case : Array (Option Value)}
    {fis_rule : Addr} {ocis_rule kVis_rule dcis_rule pmis_rule cdis_rule ctis_rule : Value} {odis_rule anis_rule : Option Addr} {slis_rule : Array (Option Value)}
    {fare_rules : Addr} {ocare_rules kVare_rules dcare_rules pmare_rules cdare_rules ctare_rules : Value} {odare_rules anare_rules : Option Addr} {slare_rules : Array (Option Value)}
    {fneed_case : Addr} {ocneed_case kVneed_case dcneed_case pmneed_case cdneed_case ctneed_case : Value} {odneed_case anneed_case : Option Addr} {slneed_case : Array (Option Value)}
    {fread_number : Addr} {ocread_number kVread_number dcread_number pmread_number cdread_number ctread_number : Value} {odread_number anread_number : Option Addr} {slread_number : Array (Option Value)}
    {fread_condition : Addr} {ocread_condition kVread_condition dcread_condition pmread_condition cdread_condition ctread_condition : Value} {odread_condition anread_condition : Option Addr} {slread_condition : Array (Option Value)}
    {fread_rule : Addr} {ocread_rule kVread_rule dcread_rule pmread_rule cdread_rule ctread_rule : Value} {odread_rule anread_rule : Option Addr} {slread_rule : Array (Option Value)}
    {fread_rules : Addr} {ocread_rules kVread_rules dcread_rules pmread_rules cdread_rules ctread_rules : Value} {odread_rules anread_rules : Option Addr} {slread_rules : Array (Option Value)}
    {flies_within : Addr} {oclies_within kVlies_within dclies_within pmlies_within cdlies_within ctlies_within : Value} {odlies_within anlies_within : Option Addr} {sllies_within : Array (Option Value)}
    {flies_strictly_within : Addr} {oclies_strictly_within kVlies_strictly_within dclies_strictly_within pmlies_strictly_within cdlies_strictly_within ctlies_strictly_within : Value} {odlies_strictly_within anlies_strictly_within : Option Addr} {sllies_strictly_within : Array (Option Value)}
    {fmeet : Addr} {ocmeet kVmeet dcmeet pmmeet cdmeet ctmeet : Value} {odmeet anmeet : Option Addr} {slmeet : Array (Option Value)}
    {ftogether : Addr} {octogether kVtogether dctogether pmtogether cdtogether cttogether : Value} {odtogether antogether : Option Addr} {sltogether : Array (Option Value)}
    {flaw_cell : Addr} {oclaw_cell kVlaw_cell dclaw_cell pmlaw_cell cdlaw_cell ctlaw_cell : Value} {odlaw_cell anlaw_cell : Option Addr} {sllaw_cell : Array (Option Value)}
    {flaw_source : Addr} {oclaw_source kVlaw_source dclaw_source pmlaw_source cdlaw_source ctlaw_source : Value} {odlaw_source anlaw_source : Option Addr} {sllaw_source : Array (Option Value)}
    {flaw_draw : Addr} {oclaw_draw kVlaw_draw dclaw_draw pmlaw_draw cdlaw_draw ctlaw_draw : Value} {odlaw_draw anlaw_draw : Option Addr} {sllaw_draw : Array (Option Value)}
    {flaw_choose : Addr} {oclaw_choose kVlaw_choose dclaw_choose pmlaw_choose cdlaw_choose ctlaw_choose : Value} {odlaw_choose anlaw_choose : Option Addr} {sllaw_choose : Array (Option Value)}
    {flaw_case : Addr} {oclaw_case kVlaw_case dclaw_case pmlaw_case cdlaw_case ctlaw_case : Value} {odlaw_case anlaw_case : Option Addr} {sllaw_case : Array (Option Value)}
    {flaw_given : Addr} {oclaw_given kVlaw_given dclaw_given pmlaw_given cdlaw_given ctlaw_given : Value} {odlaw_given anlaw_given : Option Addr} {sllaw_given : Array (Option Value)}
    {flaw_text : Addr} {oclaw_text kVlaw_text dclaw_text pmlaw_text cdlaw_text ctlaw_text : Value} {odlaw_text anlaw_text : Option Addr} {sllaw_text : Array (Option Value)}
    {flaw_has : Addr} {oclaw_has kVlaw_has dclaw_has pmlaw_has cdlaw_has ctlaw_has : Value} {odlaw_has anlaw_has : Option Addr} {sllaw_has : Array (Option Value)}
    {flaw_union : Addr} {oclaw_union kVlaw_union dclaw_union pmlaw_union cdlaw_union ctlaw_union : Value} {odlaw_union anlaw_union : Option Addr} {sllaw_union : Array (Option Value)}
    {fmatching_rules : Addr} {ocmatching_rules kVmatching_rules dcmatching_rules pmmatching_rules cdmatching_rules ctmatching_rules : Value} {odmatching_rules anmatching_rules : Option Addr} {slmatching_rules : Array (Option Value)}
    {fis_beaten : Addr} {ocis_beaten kVis_beaten dcis_beaten pmis_beaten cdis_beaten ctis_beaten : Value} {odis_beaten anis_beaten : Option Addr} {slis_beaten : Array (Option Value)}
    {fdeciding_rules : Addr} {ocdeciding_rules kVdeciding_rules dcdeciding_rules pmdeciding_rules cddeciding_rules ctdeciding_rules : Value} {oddeciding_rules andeciding_rules : Option Addr} {sldeciding_rules : Array (Option Value)}
    {fresults_for : Addr} {ocresults_for kVresults_for dcresults_for pmresults_for cdresults_for ctresults_for : Value} {odresults_for anresults_for : Option Addr} {slresults_for : Array (Option Value)}
    {fneed_rules : Addr} {ocneed_rules kVneed_rules dcneed_rules pmneed_rules cdneed_rules ctneed_rules : Value} {odneed_rules anneed_rules : Option Addr} {slneed_rules : Array (Option Value)}
    {fdeciding : Addr} {ocdeciding kVdeciding dcdeciding pmdeciding cddeciding ctdeciding : Value} {oddeciding andeciding : Option Addr} {sldeciding : Array (Option Value)}
    {fby_size : Addr} {ocby_size kVby_size dcby_size pmby_size cdby_size ctby_size : Value} {odby_size anby_size : Option Addr} {slby_size : Array (Option Value)}
    {fcases_that_matter : Addr} {occases_that_matter kVcases_that_matter dccases_that_matter pmcases_that_matter cdcases_that_matter ctcases_that_matter : Value} {odcases_that_matter ancases_that_matter : Option Addr} {slcases_that_matter : Array (Option Value)}
    {fcases : Addr} {occases kVcases dccases pmcases cdcases ctcases : Value} {odcases ancases : Option Addr} {slcases : Array (Option Value)}
    {flaw_rules : Addr} {oclaw_rules kVlaw_rules dclaw_rules pmlaw_rules cdlaw_rules ctlaw_rules : Value} {odlaw_rules anlaw_rules : Option Addr} {sllaw_rules : Array (Option Value)}
    {flaw_are_closed : Addr} {oclaw_are_closed kVlaw_are_closed dclaw_are_closed pmlaw_are_closed cdlaw_are_closed ctlaw_are_closed : Value} {odlaw_are_closed anlaw_are_closed : Option Addr} {sllaw_are_closed : Array (Option Value)}
    {flaw : Addr} {oclaw kVlaw dclaw pmlaw cdlaw ctlaw : Value} {odlaw anlaw : Option Addr} {sllaw : Array (Option Value)}
    {CR fOR cdaR ccR : Addr} {cdCR : ClassData}
    {ocOR kVOR dcOR pmOR ctOR cclR cl0R : Value} {odOR anOR cddR cldR : Option Addr} {slOR ccsR cslR : Array (Option Value)} {vsR : Array Value} {fileR : Str} {tfR : Tok}
    {fI : Addr}
    {ocI kVI dcI pmI cdI ctI : Value} {odI anI : Option Addr} {slI : Array (Option Value)}
    {pRR : Addr} {mcR : Value} {restRR : List Value}
    {fmR_read : Addr} {ocmR_read kVmR_read dcmR_read pmmR_read cdmR_read ctmR_read : Value} {odmR_read anmR_read : Option Addr} {slmR_read : Array (Option Value)}
    {pPmR_rules : Addr} {restPmR_rules : List Value}
    {fmR_rules : Addr} {ocmR_rules kVmR_rules dcmR_rules pmmR_rules cdmR_rules ctmR_rules : Value} {odmR_rules anmR_rules : Option Addr} {slmR_rules : Array (Option Value)}
    {fmR_call : Addr} {ocmR_call kVmR_call dcmR_call pmmR_call cdmR_call ctmR_call : Value} {odmR_call anmR_call : Option Addr} {slmR_call : Array (Option Value)}
    {t_attr : Tok}
    {t_val : Tok}
    {t_res : Tok}
    {t_rules : Tok}
    (a_is_number : PySem.W.nsIn K mainGlobals "is_number" = some (some (.ref fis_number)))
    (l_is_number : K.lookup fis_number = some ⟨ocis_number, odis_number, .func (PySem.W.fnOf "is_number" "is_number" (defArgs s_is_number) (defBody s_is_number) (defScope s_is_number) .none kVis_number dcis_number pmis_number anis_number cdis_number ctis_number), slis_number⟩)
    (c_is_number : PySem.W.codeIn K cdis_number "is_number" = true)
    (k_is_number : PySem.W.keepIn K (.ref fis_number) = true)
    (a_is_condition : PySem.W.nsIn K mainGlobals "is_condition" = some (some (.ref fis_condition)))
    (l_is_condition : K.lookup fis_condition = some ⟨ocis_condition, odis_condition, .func (PySem.W.fnOf "is_condition" "is_condition" (defArgs s_is_condition) (defBody s_is_condition) (defScope s_is_condition) .none kVis_condition dcis_condition pmis_condition anis_condition cdis_condition ctis_condition), slis_condition⟩)
    (c_is_condition : PySem.W.codeIn K cdis_condition "is_condition" = true)
    (k_is_condition : PySem.W.keepIn K (.ref fis_condition) = true)
    (a_is_case : PySem.W.nsIn K mainGlobals "is_case" = some (some (.ref fis_case)))
    (l_is_case : K.lookup fis_case = some ⟨ocis_case, odis_case, .func (PySem.W.fnOf "is_case" "is_case" (defArgs s_is_case) (defBody s_is_case) (defScope s_is_case) .none kVis_case dcis_case pmis_case anis_case cdis_case ctis_case), slis_case⟩)
    (c_is_case : PySem.W.codeIn K cdis_case "is_case" = true)
    (k_is_case : PySem.W.keepIn K (.ref fis_case) = true)
    (a_is_rule : PySem.W.nsIn K mainGlobals "is_rule" = some (some (.ref fis_rule)))
    (l_is_rule : K.lookup fis_rule = some ⟨ocis_rule, odis_rule, .func (PySem.W.fnOf "is_rule" "is_rule" (defArgs s_is_rule) (defBody s_is_rule) (defScope s_is_rule) .none kVis_rule dcis_rule pmis_rule anis_rule cdis_rule ctis_rule), slis_rule⟩)
    (c_is_rule : PySem.W.codeIn K cdis_rule "is_rule" = true)
    (k_is_rule : PySem.W.keepIn K (.ref fis_rule) = true)
    (a_are_rules : PySem.W.nsIn K mainGlobals "are_rules" = some (some (.ref fare_rules)))
    (l_are_rules : K.lookup fare_rules = some ⟨ocare_rules, odare_rules, .func (PySem.W.fnOf "are_rules" "are_rules" (defArgs s_are_rules) (defBody s_are_rules) (defScope s_are_rules) .none kVare_rules dcare_rules pmare_rules anare_rules cdare_rules ctare_rules), slare_rules⟩)
    (c_are_rules : PySem.W.codeIn K cdare_rules "are_rules" = true)
    (k_are_rules : PySem.W.keepIn K (.ref fare_rules) = true)
    (a_need_case : PySem.W.nsIn K mainGlobals "need_case" = some (some (.ref fneed_case)))
    (l_need_case : K.lookup fneed_case = some ⟨ocneed_case, odneed_case, .func (PySem.W.fnOf "need_case" "need_case" (defArgs s_need_case) (defBody s_need_case) (defScope s_need_case) .none kVneed_case dcneed_case pmneed_case anneed_case cdneed_case ctneed_case), slneed_case⟩)
    (c_need_case : PySem.W.codeIn K cdneed_case "need_case" = true)
    (k_need_case : PySem.W.keepIn K (.ref fneed_case) = true)
    (a_read_number : PySem.W.nsIn K mainGlobals "read_number" = some (some (.ref fread_number)))
    (l_read_number : K.lookup fread_number = some ⟨ocread_number, odread_number, .func (PySem.W.fnOf "read_number" "read_number" (defArgs s_read_number) (defBody s_read_number) (defScope s_read_number) .none kVread_number dcread_number pmread_number anread_number cdread_number ctread_number), slread_number⟩)
    (c_read_number : PySem.W.codeIn K cdread_number "read_number" = true)
    (k_read_number : PySem.W.keepIn K (.ref fread_number) = true)
    (a_read_condition : PySem.W.nsIn K mainGlobals "read_condition" = some (some (.ref fread_condition)))
    (l_read_condition : K.lookup fread_condition = some ⟨ocread_condition, odread_condition, .func (PySem.W.fnOf "read_condition" "read_condition" (defArgs s_read_condition) (defBody s_read_condition) (defScope s_read_condition) .none kVread_condition dcread_condition pmread_condition anread_condition cdread_condition ctread_condition), slread_condition⟩)
    (c_read_condition : PySem.W.codeIn K cdread_condition "read_condition" = true)
    (k_read_condition : PySem.W.keepIn K (.ref fread_condition) = true)
    (a_read_rule : PySem.W.nsIn K mainGlobals "read_rule" = some (some (.ref fread_rule)))
    (l_read_rule : K.lookup fread_rule = some ⟨ocread_rule, odread_rule, .func (PySem.W.fnOf "read_rule" "read_rule" (defArgs s_read_rule) (defBody s_read_rule) (defScope s_read_rule) .none kVread_rule dcread_rule pmread_rule anread_rule cdread_rule ctread_rule), slread_rule⟩)
    (c_read_rule : PySem.W.codeIn K cdread_rule "read_rule" = true)
    (k_read_rule : PySem.W.keepIn K (.ref fread_rule) = true)
    (a_read_rules : PySem.W.nsIn K mainGlobals "read_rules" = some (some (.ref fread_rules)))
    (l_read_rules : K.lookup fread_rules = some ⟨ocread_rules, odread_rules, .func (PySem.W.fnOf "read_rules" "read_rules" (defArgs s_read_rules) (defBody s_read_rules) (defScope s_read_rules) .none kVread_rules dcread_rules pmread_rules anread_rules cdread_rules ctread_rules), slread_rules⟩)
    (c_read_rules : PySem.W.codeIn K cdread_rules "read_rules" = true)
    (k_read_rules : PySem.W.keepIn K (.ref fread_rules) = true)
    (a_lies_within : PySem.W.nsIn K mainGlobals "lies_within" = some (some (.ref flies_within)))
    (l_lies_within : K.lookup flies_within = some ⟨oclies_within, odlies_within, .func (PySem.W.fnOf "lies_within" "lies_within" (defArgs s_lies_within) (defBody s_lies_within) (defScope s_lies_within) .none kVlies_within dclies_within pmlies_within anlies_within cdlies_within ctlies_within), sllies_within⟩)
    (c_lies_within : PySem.W.codeIn K cdlies_within "lies_within" = true)
    (k_lies_within : PySem.W.keepIn K (.ref flies_within) = true)
    (a_lies_strictly_within : PySem.W.nsIn K mainGlobals "lies_strictly_within" = some (some (.ref flies_strictly_within)))
    (l_lies_strictly_within : K.lookup flies_strictly_within = some ⟨oclies_strictly_within, odlies_strictly_within, .func (PySem.W.fnOf "lies_strictly_within" "lies_strictly_within" (defArgs s_lies_strictly_within) (defBody s_lies_strictly_within) (defScope s_lies_strictly_within) .none kVlies_strictly_within dclies_strictly_within pmlies_strictly_within anlies_strictly_within cdlies_strictly_within ctlies_strictly_within), sllies_strictly_within⟩)
    (c_lies_strictly_within : PySem.W.codeIn K cdlies_strictly_within "lies_strictly_within" = true)
    (k_lies_strictly_within : PySem.W.keepIn K (.ref flies_strictly_within) = true)
    (a_meet : PySem.W.nsIn K mainGlobals "meet" = some (some (.ref fmeet)))
    (l_meet : K.lookup fmeet = some ⟨ocmeet, odmeet, .func (PySem.W.fnOf "meet" "meet" (defArgs s_meet) (defBody s_meet) (defScope s_meet) .none kVmeet dcmeet pmmeet anmeet cdmeet ctmeet), slmeet⟩)
    (c_meet : PySem.W.codeIn K cdmeet "meet" = true)
    (k_meet : PySem.W.keepIn K (.ref fmeet) = true)
    (a_together : PySem.W.nsIn K mainGlobals "together" = some (some (.ref ftogether)))
    (l_together : K.lookup ftogether = some ⟨octogether, odtogether, .func (PySem.W.fnOf "together" "together" (defArgs s_together) (defBody s_together) (defScope s_together) .none kVtogether dctogether pmtogether antogether cdtogether cttogether), sltogether⟩)
    (c_together : PySem.W.codeIn K cdtogether "together" = true)
    (k_together : PySem.W.keepIn K (.ref ftogether) = true)
    (a_law_cell : PySem.W.nsIn K mainGlobals "_law_cell" = some (some (.ref flaw_cell)))
    (l_law_cell : K.lookup flaw_cell = some ⟨oclaw_cell, odlaw_cell, .func (PySem.W.fnOf "_law_cell" "_law_cell" (defArgs s_law_cell) (defBody s_law_cell) (defScope s_law_cell) .none kVlaw_cell dclaw_cell pmlaw_cell anlaw_cell cdlaw_cell ctlaw_cell), sllaw_cell⟩)
    (c_law_cell : PySem.W.codeIn K cdlaw_cell "_law_cell" = true)
    (k_law_cell : PySem.W.keepIn K (.ref flaw_cell) = true)
    (a_law_source : PySem.W.nsIn K mainGlobals "_law_source" = some (some (.ref flaw_source)))
    (l_law_source : K.lookup flaw_source = some ⟨oclaw_source, odlaw_source, .func (PySem.W.fnOf "_law_source" "_law_source" (defArgs s_law_source) (defBody s_law_source) (defScope s_law_source) .none kVlaw_source dclaw_source pmlaw_source anlaw_source cdlaw_source ctlaw_source), sllaw_source⟩)
    (c_law_source : PySem.W.codeIn K cdlaw_source "_law_source" = true)
    (k_law_source : PySem.W.keepIn K (.ref flaw_source) = true)
    (a_law_draw : PySem.W.nsIn K mainGlobals "_law_draw" = some (some (.ref flaw_draw)))
    (l_law_draw : K.lookup flaw_draw = some ⟨oclaw_draw, odlaw_draw, .func (PySem.W.fnOf "_law_draw" "_law_draw" (defArgs s_law_draw) (defBody s_law_draw) (defScope s_law_draw) .none kVlaw_draw dclaw_draw pmlaw_draw anlaw_draw cdlaw_draw ctlaw_draw), sllaw_draw⟩)
    (c_law_draw : PySem.W.codeIn K cdlaw_draw "_law_draw" = true)
    (k_law_draw : PySem.W.keepIn K (.ref flaw_draw) = true)
    (a_law_choose : PySem.W.nsIn K mainGlobals "_law_choose" = some (some (.ref flaw_choose)))
    (l_law_choose : K.lookup flaw_choose = some ⟨oclaw_choose, odlaw_choose, .func (PySem.W.fnOf "_law_choose" "_law_choose" (defArgs s_law_choose) (defBody s_law_choose) (defScope s_law_choose) .none kVlaw_choose dclaw_choose pmlaw_choose anlaw_choose cdlaw_choose ctlaw_choose), sllaw_choose⟩)
    (c_law_choose : PySem.W.codeIn K cdlaw_choose "_law_choose" = true)
    (k_law_choose : PySem.W.keepIn K (.ref flaw_choose) = true)
    (a_law_case : PySem.W.nsIn K mainGlobals "_law_case" = some (some (.ref flaw_case)))
    (l_law_case : K.lookup flaw_case = some ⟨oclaw_case, odlaw_case, .func (PySem.W.fnOf "_law_case" "_law_case" (defArgs s_law_case) (defBody s_law_case) (defScope s_law_case) .none kVlaw_case dclaw_case pmlaw_case anlaw_case cdlaw_case ctlaw_case), sllaw_case⟩)
    (c_law_case : PySem.W.codeIn K cdlaw_case "_law_case" = true)
    (k_law_case : PySem.W.keepIn K (.ref flaw_case) = true)
    (a_law_given : PySem.W.nsIn K mainGlobals "_law_given" = some (some (.ref flaw_given)))
    (l_law_given : K.lookup flaw_given = some ⟨oclaw_given, odlaw_given, .func (PySem.W.fnOf "_law_given" "_law_given" (defArgs s_law_given) (defBody s_law_given) (defScope s_law_given) .none kVlaw_given dclaw_given pmlaw_given anlaw_given cdlaw_given ctlaw_given), sllaw_given⟩)
    (c_law_given : PySem.W.codeIn K cdlaw_given "_law_given" = true)
    (k_law_given : PySem.W.keepIn K (.ref flaw_given) = true)
    (a_law_text : PySem.W.nsIn K mainGlobals "_law_text" = some (some (.ref flaw_text)))
    (l_law_text : K.lookup flaw_text = some ⟨oclaw_text, odlaw_text, .func (PySem.W.fnOf "_law_text" "_law_text" (defArgs s_law_text) (defBody s_law_text) (defScope s_law_text) .none kVlaw_text dclaw_text pmlaw_text anlaw_text cdlaw_text ctlaw_text), sllaw_text⟩)
    (c_law_text : PySem.W.codeIn K cdlaw_text "_law_text" = true)
    (k_law_text : PySem.W.keepIn K (.ref flaw_text) = true)
    (a_law_has : PySem.W.nsIn K mainGlobals "_law_has" = some (some (.ref flaw_has)))
    (l_law_has : K.lookup flaw_has = some ⟨oclaw_has, odlaw_has, .func (PySem.W.fnOf "_law_has" "_law_has" (defArgs s_law_has) (defBody s_law_has) (defScope s_law_has) .none kVlaw_has dclaw_has pmlaw_has anlaw_has cdlaw_has ctlaw_has), sllaw_has⟩)
    (c_law_has : PySem.W.codeIn K cdlaw_has "_law_has" = true)
    (k_law_has : PySem.W.keepIn K (.ref flaw_has) = true)
    (a_law_union : PySem.W.nsIn K mainGlobals "_law_union" = some (some (.ref flaw_union)))
    (l_law_union : K.lookup flaw_union = some ⟨oclaw_union, odlaw_union, .func (PySem.W.fnOf "_law_union" "_law_union" (defArgs s_law_union) (defBody s_law_union) (defScope s_law_union) .none kVlaw_union dclaw_union pmlaw_union anlaw_union cdlaw_union ctlaw_union), sllaw_union⟩)
    (c_law_union : PySem.W.codeIn K cdlaw_union "_law_union" = true)
    (k_law_union : PySem.W.keepIn K (.ref flaw_union) = true)
    (a_matching_rules : PySem.W.nsIn K mainGlobals "matching_rules" = some (some (.ref fmatching_rules)))
    (l_matching_rules : K.lookup fmatching_rules = some ⟨ocmatching_rules, odmatching_rules, .func (PySem.W.fnOf "matching_rules" "matching_rules" (defArgs s_matching_rules) (defBody s_matching_rules) (defScope s_matching_rules) .none kVmatching_rules dcmatching_rules pmmatching_rules anmatching_rules cdmatching_rules ctmatching_rules), slmatching_rules⟩)
    (c_matching_rules : PySem.W.codeIn K cdmatching_rules "matching_rules" = true)
    (k_matching_rules : PySem.W.keepIn K (.ref fmatching_rules) = true)
    (a_is_beaten : PySem.W.nsIn K mainGlobals "is_beaten" = some (some (.ref fis_beaten)))
    (l_is_beaten : K.lookup fis_beaten = some ⟨ocis_beaten, odis_beaten, .func (PySem.W.fnOf "is_beaten" "is_beaten" (defArgs s_is_beaten) (defBody s_is_beaten) (defScope s_is_beaten) .none kVis_beaten dcis_beaten pmis_beaten anis_beaten cdis_beaten ctis_beaten), slis_beaten⟩)
    (c_is_beaten : PySem.W.codeIn K cdis_beaten "is_beaten" = true)
    (k_is_beaten : PySem.W.keepIn K (.ref fis_beaten) = true)
    (a_deciding_rules : PySem.W.nsIn K mainGlobals "deciding_rules" = some (some (.ref fdeciding_rules)))
    (l_deciding_rules : K.lookup fdeciding_rules = some ⟨ocdeciding_rules, oddeciding_rules, .func (PySem.W.fnOf "deciding_rules" "deciding_rules" (defArgs s_deciding_rules) (defBody s_deciding_rules) (defScope s_deciding_rules) .none kVdeciding_rules dcdeciding_rules pmdeciding_rules andeciding_rules cddeciding_rules ctdeciding_rules), sldeciding_rules⟩)
    (c_deciding_rules : PySem.W.codeIn K cddeciding_rules "deciding_rules" = true)
    (k_deciding_rules : PySem.W.keepIn K (.ref fdeciding_rules) = true)
    (a_results_for : PySem.W.nsIn K mainGlobals "results_for" = some (some (.ref fresults_for)))
    (l_results_for : K.lookup fresults_for = some ⟨ocresults_for, odresults_for, .func (PySem.W.fnOf "results_for" "results_for" (defArgs s_results_for) (defBody s_results_for) (defScope s_results_for) .none kVresults_for dcresults_for pmresults_for anresults_for cdresults_for ctresults_for), slresults_for⟩)
    (c_results_for : PySem.W.codeIn K cdresults_for "results_for" = true)
    (k_results_for : PySem.W.keepIn K (.ref fresults_for) = true)
    (a_need_rules : PySem.W.nsIn K mainGlobals "need_rules" = some (some (.ref fneed_rules)))
    (l_need_rules : K.lookup fneed_rules = some ⟨ocneed_rules, odneed_rules, .func (PySem.W.fnOf "need_rules" "need_rules" (defArgs s_need_rules) (defBody s_need_rules) (defScope s_need_rules) .none kVneed_rules dcneed_rules pmneed_rules anneed_rules cdneed_rules ctneed_rules), slneed_rules⟩)
    (c_need_rules : PySem.W.codeIn K cdneed_rules "need_rules" = true)
    (k_need_rules : PySem.W.keepIn K (.ref fneed_rules) = true)
    (a_deciding : PySem.W.nsIn K mainGlobals "deciding" = some (some (.ref fdeciding)))
    (l_deciding : K.lookup fdeciding = some ⟨ocdeciding, oddeciding, .func (PySem.W.fnOf "deciding" "deciding" (defArgs s_deciding) (defBody s_deciding) (defScope s_deciding) .none kVdeciding dcdeciding pmdeciding andeciding cddeciding ctdeciding), sldeciding⟩)
    (c_deciding : PySem.W.codeIn K cddeciding "deciding" = true)
    (k_deciding : PySem.W.keepIn K (.ref fdeciding) = true)
    (a_by_size : PySem.W.nsIn K mainGlobals "by_size" = some (some (.ref fby_size)))
    (l_by_size : K.lookup fby_size = some ⟨ocby_size, odby_size, .func (PySem.W.fnOf "by_size" "by_size" (defArgs s_by_size) (defBody s_by_size) (defScope s_by_size) .none kVby_size dcby_size pmby_size anby_size cdby_size ctby_size), slby_size⟩)
    (c_by_size : PySem.W.codeIn K cdby_size "by_size" = true)
    (k_by_size : PySem.W.keepIn K (.ref fby_size) = true)
    (a_cases_that_matter : PySem.W.nsIn K mainGlobals "cases_that_matter" = some (some (.ref fcases_that_matter)))
    (l_cases_that_matter : K.lookup fcases_that_matter = some ⟨occases_that_matter, odcases_that_matter, .func (PySem.W.fnOf "cases_that_matter" "cases_that_matter" (defArgs s_cases_that_matter) (defBody s_cases_that_matter) (defScope s_cases_that_matter) .none kVcases_that_matter dccases_that_matter pmcases_that_matter ancases_that_matter cdcases_that_matter ctcases_that_matter), slcases_that_matter⟩)
    (c_cases_that_matter : PySem.W.codeIn K cdcases_that_matter "cases_that_matter" = true)
    (k_cases_that_matter : PySem.W.keepIn K (.ref fcases_that_matter) = true)
    (a_cases : PySem.W.nsIn K mainGlobals "cases" = some (some (.ref fcases)))
    (l_cases : K.lookup fcases = some ⟨occases, odcases, .func (PySem.W.fnOf "cases" "cases" (defArgs s_cases) (defBody s_cases) (defScope s_cases) .none kVcases dccases pmcases ancases cdcases ctcases), slcases⟩)
    (c_cases : PySem.W.codeIn K cdcases "cases" = true)
    (k_cases : PySem.W.keepIn K (.ref fcases) = true)
    (a_law_rules : PySem.W.nsIn K mainGlobals "_law_rules" = some (some (.ref flaw_rules)))
    (l_law_rules : K.lookup flaw_rules = some ⟨oclaw_rules, odlaw_rules, .func (PySem.W.fnOf "_law_rules" "_law_rules" (defArgs s_law_rules) (defBody s_law_rules) (defScope s_law_rules) .none kVlaw_rules dclaw_rules pmlaw_rules anlaw_rules cdlaw_rules ctlaw_rules), sllaw_rules⟩)
    (c_law_rules : PySem.W.codeIn K cdlaw_rules "_law_rules" = true)
    (k_law_rules : PySem.W.keepIn K (.ref flaw_rules) = true)
    (a_law_are_closed : PySem.W.nsIn K mainGlobals "_law_are_closed" = some (some (.ref flaw_are_closed)))
    (l_law_are_closed : K.lookup flaw_are_closed = some ⟨oclaw_are_closed, odlaw_are_closed, .func (PySem.W.fnOf "_law_are_closed" "_law_are_closed" (defArgs s_law_are_closed) (defBody s_law_are_closed) (defScope s_law_are_closed) .none kVlaw_are_closed dclaw_are_closed pmlaw_are_closed anlaw_are_closed cdlaw_are_closed ctlaw_are_closed), sllaw_are_closed⟩)
    (c_law_are_closed : PySem.W.codeIn K cdlaw_are_closed "_law_are_closed" = true)
    (k_law_are_closed : PySem.W.keepIn K (.ref flaw_are_closed) = true)
    (a_law : PySem.W.nsIn K mainGlobals "law" = some (some (.ref flaw)))
    (l_law : K.lookup flaw = some ⟨oclaw, odlaw, .func (PySem.W.fnOf "law" "law" (defArgs s_law) (defBody s_law) (defScope s_law) .none kVlaw dclaw pmlaw anlaw cdlaw ctlaw), sllaw⟩)
    (c_law : PySem.W.codeIn K cdlaw "law" = true)
    (k_law : PySem.W.keepIn K (.ref flaw) = true)
    (aCR : PySem.W.nsIn K mainGlobals "Rules" = some (some (.ref CR)))
    (pgR : PySem.W.plainGet K CR Str.empty = true)
    (hdR : PySem.W.hasDictIn K CR = true)
    (poR : PySem.W.plainOver K CR = true)
    (saR : PySem.W.findIn K (.ref CR) "__setattr__" = some (some (.builtin "object.__setattr__")))
    (nhR : PySem.W.findIn K (.ref CR) "held" = some none)
    (mkR : PySem.W.makesIn K CR = true)
    (aOR : PySem.W.findIn K (.ref CR) "__init__" = some (some (.ref fOR)))
    (iOR : PySem.W.isFn K (.ref fOR) = true)
    (kcR : PySem.W.keepIn K (.ref CR) = true)
    (lOR : K.lookup fOR = some ⟨ocOR, odOR, .func (PySem.W.ksFn "__init__" "Rules.__init__" (defArgs s_Rules_init) (defBody s_Rules_init) (defScope s_Rules_init) .none kVOR dcOR pmOR anOR (.ref cdaR) ctOR ccR), slOR⟩)
    (cOR : PySem.W.codeIn K (.ref cdaR) "Rules.__init__" = true)
    (lcdR : K.lookup cdaR = some ⟨cclR, cddR, .fields vsR, ccsR⟩)
    (hvR : vsR[2]? = some (.str fileR tfR))
    (hfR : ((P.main.file : Str) == fileR) = true)
    (lccR : K.lookup ccR = some ⟨cl0R, cldR, .cell (some (.ref CR)), cslR⟩)
    (kCR : PySem.W.clsIn K CR = some cdCR)
    (subR : PySem.W.mroIn K CR (.ref CR) = some true)
    (sup : PySem.W.nsIn K mainGlobals "super" = some none)
    (top : (P.main.scope.names.lookup ("super" : Str)).isSome = false)
    (opq : PySem.W.nsIn K cStatics "thirdparty.any" = some none)
    (nxtR : PySem.W.ks_superIn K CR CR "__init__" = some (some (.ref fI)))
    (tyI : PySem.W.typeIn K (.ref fI) = some (.type "function"))
    (hfnI : PySem.W.fnIn K fI = true)
    (lI : K.lookup fI = some ⟨ocI, odI, .func (PySem.W.fnOf "__init__" "Listing.__init__" (defArgs s_Listing_init) (defBody s_Listing_init) (defScope s_Listing_init) .none kVI dcI pmI anI cdI ctI), slI⟩)
    (cI : PySem.W.codeIn K cdI "Listing.__init__" = true)
    (hn : PySem.W.specialIn K (.builtin "object.__class__") "__get__" = some (some (.builtin "getset_descriptor.__get__")))
    (htk : PySem.W.takesIn K (.builtin "object.__class__") = some true)
    (haR : PySem.W.findIn K (.ref CR) "__class__" = some (some (.builtin "object.__class__")))
    (hmR : PySem.W.mroIn K CR (.type "object") = some true)
    (sfR : PySem.W.selfFirst K CR = true)
    (gaR : PySem.W.specialIn K (.ref CR) "__getattribute__" = some (some (.builtin "type.__getattribute__")))
    (tyCR : PySem.W.typeIn K (.ref CR) = some mcR)
    (rdR : PySem.W.readsIn K CR mcR = true)
    (fcR : PySem.W.findCls K (.ref CR) mcR "read" = some (.get (.builtin "classmethod.__get__") (.ref pRR) .none (.ref CR)))
    (rcR : PySem.W.recIn K pRR "classmethod" = some (.ref fmR_read :: restRR))
    (hfnRR : PySem.W.fnIn K fmR_read = true)
    (l_mR_read : K.lookup fmR_read = some ⟨ocmR_read, odmR_read, .func (PySem.W.fnOf "read" "Rules.read" (defArgs s_Rules_read) (defBody s_Rules_read) (defScope s_Rules_read) .none kVmR_read dcmR_read pmmR_read anmR_read cdmR_read ctmR_read), slmR_read⟩)
    (c_mR_read : PySem.W.codeIn K cdmR_read "Rules.read" = true)
    (k_mR_read : PySem.W.keepIn K (.ref fmR_read) = true)
    (aPmR_rules : PySem.W.findIn K (.ref CR) "rules" = some (some (.ref pPmR_rules)))
    (gPmR_rules : PySem.W.specialIn K (.ref pPmR_rules) "__get__" = some (some (.builtin "property.__get__")))
    (tPmR_rules : PySem.W.takesIn K (.ref pPmR_rules) = some true)
    (rPmR_rules : PySem.W.recIn K pPmR_rules "property" = some (.ref fmR_rules :: restPmR_rules))
    (l_mR_rules : K.lookup fmR_rules = some ⟨ocmR_rules, odmR_rules, .func (PySem.W.fnOf "rules" "Rules.rules" (defArgs s_Rules_rules) (defBody s_Rules_rules) (defScope s_Rules_rules) .none kVmR_rules dcmR_rules pmmR_rules anmR_rules cdmR_rules ctmR_rules), slmR_rules⟩)
    (c_mR_rules : PySem.W.codeIn K cdmR_rules "Rules.rules" = true)
    (k_mR_rules : PySem.W.keepIn K (.ref fmR_rules) = true)
    (a_mR_call : PySem.W.findIn K (.ref CR) "__call__" = some (some (.ref fmR_call)))
    (in_mR_call : PySem.W.isFn K (.ref fmR_call) = true)
    (hfn_mR_call : PySem.W.fnIn K fmR_call = true)
    (l_mR_call : K.lookup fmR_call = some ⟨ocmR_call, odmR_call, .func (PySem.W.fnOf "__call__" "Rules.__call__" (defArgs s_Rules_call) (defBody s_Rules_call) (defScope s_Rules_call) .none kVmR_call dcmR_call pmmR_call anmR_call cdmR_call ctmR_call), slmR_call⟩)
    (c_mR_call : PySem.W.codeIn K cdmR_call "Rules.__call__" = true)
    (k_mR_call : PySem.W.keepIn K (.ref fmR_call) = true)
    (n_attr : PySem.W.nsIn K mainGlobals "MOST_ATTRIBUTE" = some (some (.int 4 t_attr)))
    (n_val : PySem.W.nsIn K mainGlobals "MOST_VALUE" = some (some (.int 9 t_val)))
    (n_res : PySem.W.nsIn K mainGlobals "MOST_RESULT" = some (some (.int 99 t_res)))
    (n_rules : PySem.W.nsIn K mainGlobals "MOST_RULES" = some (some (.int 12 t_rules)))
    (z_len : PySem.W.nsIn K mainGlobals "len" = some none)
    (z_max : PySem.W.nsIn K mainGlobals "max" = some none)
    (z_min : PySem.W.nsIn K mainGlobals "min" = some none)
    (z_range : PySem.W.nsIn K mainGlobals "range" = some none)
    (z_tuple : PySem.W.nsIn K mainGlobals "tuple" = some none)
    (z_sorted : PySem.W.nsIn K mainGlobals "sorted" = some none)
    (z_list : PySem.W.nsIn K mainGlobals "list" = some none)
    (z_str : PySem.W.nsIn K mainGlobals "str" = some none)
    (z_repr : PySem.W.nsIn K mainGlobals "repr" = some none)
    (z_isinstance : PySem.W.nsIn K mainGlobals "isinstance" = some none)
    (z_set : PySem.W.nsIn K mainGlobals "set" = some none)
    (z_all : PySem.W.nsIn K mainGlobals "all" = some none)
    (z_zip : PySem.W.nsIn K mainGlobals "zip" = some none)
    (z_int : PySem.W.nsIn K mainGlobals "int" = some none)
    (z_bool : PySem.W.nsIn K mainGlobals "bool" = some none)
    (z_any : PySem.W.nsIn K mainGlobals "any" = some none)
    (z_dict : PySem.W.nsIn K mainGlobals "dict" = some none) :
    ∀ (tbl : Tbl) (base : Heap), K.In base → base.Ns mainGlobals mg → FnG P w K mg base CX0 11 fa (qLaw K 63) := by
  have e := hfa.symm.trans (PySem.W.mg_of X G a_law)
  cases e
  intro tbl base _ _
  have Fis_number := fun_mk (st := s_is_number) l_is_number c_is_number k_is_number
  have bis_number := Fis_number.binds (ps := ["thing", "most"]) fun _ _ _ _ _ _ us hl => match us, hl with | [_, _], _ => rfl
  have Dis_number : Df K mg "is_number" s_is_number ["thing", "most"] fis_number _ := ⟨PySem.W.mg_of X G a_is_number, Fis_number, bis_number⟩
  have Fis_condition := fun_mk (st := s_is_condition) l_is_condition c_is_condition k_is_condition
  have bis_condition := Fis_condition.binds (ps := ["thing"]) fun _ _ _ _ _ _ us hl => match us, hl with | [_], _ => rfl
  have Dis_condition : Df K mg "is_condition" s_is_condition ["thing"] fis_condition _ := ⟨PySem.W.mg_of X G a_is_condition, Fis_condition, bis_condition⟩
  have Fis_case := fun_mk (st := s_is_case) l_is_case c_is_case k_is_case
  have bis_case := Fis_case.binds (ps := ["thing"]) fun _ _ _ _ _ _ us hl => match us, hl with | [_], _ => rfl
  have Dis_case : Df K mg "is_case" s_is_case ["thing"] fis_case _ := ⟨PySem.W.mg_of X G a_is_case, Fis_case, bis_case⟩
  have Fis_rule := fun_mk (st := s_is_rule) l_is_rule c_is_rule k_is_rule
  have bis_rule := Fis_rule.binds (ps := ["thing"]) fun _ _ _ _ _ _ us hl => match us, hl with | [_], _ => rfl
  have Dis_rule : Df K mg "is_rule" s_is_rule ["thing"] fis_rule _ := ⟨PySem.W.mg_of X G a_is_rule, Fis_rule, bis_rule⟩
  have Fare_rules := fun_mk (st := s_are_rules) l_are_rules c_are_rules k_are_rules
  have bare_rules := Fare_rules.binds (ps := ["things"]) fun _ _ _ _ _ _ us hl => match us, hl with | [_], _ => rfl
  have Dare_rules : Df K mg "are_rules" s_are_rules ["things"] fare_rules _ := ⟨PySem.W.mg_of X G a_are_rules, Fare_rules, bare_rules⟩
  have Fneed_case := fun_mk (st := s_need_case) l_need_case c_need_case k_need_case
  have bneed_case := Fneed_case.binds (ps := ["thing"]) fun _ _ _ _ _ _ us hl => match us, hl with | [_], _ => rfl
  have Dneed_case : Df K mg "need_case" s_need_case ["thing"] fneed_case _ := ⟨PySem.W.mg_of X G a_need_case, Fneed_case, bneed_case⟩
  have Fread_number := fun_mk (st := s_read_number) l_read_number c_read_number k_read_number
  have bread_number := Fread_number.binds (ps := ["word"]) fun _ _ _ _ _ _ us hl => match us, hl with | [_], _ => rfl
  have Dread_number : Df K mg "read_number" s_read_number ["word"] fread_number _ := ⟨PySem.W.mg_of X G a_read_number, Fread_number, bread_number⟩
  have Fread_condition := fun_mk (st := s_read_condition) l_read_condition c_read_condition k_read_condition
  have bread_condition := Fread_condition.binds (ps := ["word"]) fun _ _ _ _ _ _ us hl => match us, hl with | [_], _ => rfl
  have Dread_condition : Df K mg "read_condition" s_read_condition ["word"] fread_condition _ := ⟨PySem.W.mg_of X G a_read_condition, Fread_condition, bread_condition⟩
  have Fread_rule := fun_mk (st := s_read_rule) l_read_rule c_read_rule k_read_rule
  have bread_rule := Fread_rule.binds (ps := ["line"]) fun _ _ _ _ _ _ us hl => match us, hl with | [_], _ => rfl
  have Dread_rule : Df K mg "read_rule" s_read_rule ["line"] fread_rule _ := ⟨PySem.W.mg_of X G a_read_rule, Fread_rule, bread_rule⟩
  have Fread_rules := fun_mk (st := s_read_rules) l_read_rules c_read_rules k_read_rules
  have bread_rules := Fread_rules.binds (ps := ["text"]) fun _ _ _ _ _ _ us hl => match us, hl with | [_], _ => rfl
  have Dread_rules : Df K mg "read_rules" s_read_rules ["text"] fread_rules _ := ⟨PySem.W.mg_of X G a_read_rules, Fread_rules, bread_rules⟩
  have Flies_within := fun_mk (st := s_lies_within) l_lies_within c_lies_within k_lies_within
  have blies_within := Flies_within.binds (ps := ["inner", "outer"]) fun _ _ _ _ _ _ us hl => match us, hl with | [_, _], _ => rfl
  have Dlies_within : Df K mg "lies_within" s_lies_within ["inner", "outer"] flies_within _ := ⟨PySem.W.mg_of X G a_lies_within, Flies_within, blies_within⟩
  have Flies_strictly_within := fun_mk (st := s_lies_strictly_within) l_lies_strictly_within c_lies_strictly_within k_lies_strictly_within
  have blies_strictly_within := Flies_strictly_within.binds (ps := ["inner", "outer"]) fun _ _ _ _ _ _ us hl => match us, hl with | [_, _], _ => rfl
  have Dlies_strictly_within : Df K mg "lies_strictly_within" s_lies_strictly_within ["inner", "outer"] flies_strictly_within _ := ⟨PySem.W.mg_of X G a_lies_strictly_within, Flies_strictly_within, blies_strictly_within⟩
  have Fmeet := fun_mk (st := s_meet) l_meet c_meet k_meet
  have bmeet := Fmeet.binds (ps := ["one", "other"]) fun _ _ _ _ _ _ us hl => match us, hl with | [_, _], _ => rfl
  have Dmeet : Df K mg "meet" s_meet ["one", "other"] fmeet _ := ⟨PySem.W.mg_of X G a_meet, Fmeet, bmeet⟩
  have Ftogether := fun_mk (st := s_together) l_together c_together k_together
  have btogether := Ftogether.binds (ps := ["one", "other"]) fun _ _ _ _ _ _ us hl => match us, hl with | [_, _], _ => rfl
  have Dtogether : Df K mg "together" s_together ["one", "other"] ftogether _ := ⟨PySem.W.mg_of X G a_together, Ftogether, btogether⟩
  have Flaw_cell := fun_mk (st := s_law_cell) l_law_cell c_law_cell k_law_cell
  have blaw_cell := Flaw_cell.binds (ps := ["_law_script", "_law_index"]) fun _ _ _ _ _ _ us hl => match us, hl with | [_, _], _ => rfl
  have Dlaw_cell : Df K mg "_law_cell" s_law_cell ["_law_script", "_law_index"] flaw_cell _ := ⟨PySem.W.mg_of X G a_law_cell, Flaw_cell, blaw_cell⟩
  have Flaw_source := fun_mk (st := s_law_source) l_law_source c_law_source k_law_source
  have blaw_source := Flaw_source.binds (ps := ["_law_cell_here"]) fun _ _ _ _ _ _ us hl => match us, hl with | [_], _ => rfl
  have Dlaw_source : Df K mg "_law_source" s_law_source ["_law_cell_here"] flaw_source _ := ⟨PySem.W.mg_of X G a_law_source, Flaw_source, blaw_source⟩
  have Flaw_draw := fun_mk (st := s_law_draw) l_law_draw c_law_draw k_law_draw
  have blaw_draw := Flaw_draw.binds (ps := ["_law_source_here", "_law_many"]) fun _ _ _ _ _ _ us hl => match us, hl with | [_, _], _ => rfl
  have Dlaw_draw : Df K mg "_law_draw" s_law_draw ["_law_source_here", "_law_many"] flaw_draw _ := ⟨PySem.W.mg_of X G a_law_draw, Flaw_draw, blaw_draw⟩
  have Flaw_choose := fun_mk (st := s_law_choose) l_law_choose c_law_choose k_law_choose
  have blaw_choose := Flaw_choose.binds (ps := ["_law_source_here", "_law_values"]) fun _ _ _ _ _ _ us hl => match us, hl with | [_, _], _ => rfl
  have Dlaw_choose : Df K mg "_law_choose" s_law_choose ["_law_source_here", "_law_values"] flaw_choose _ := ⟨PySem.W.mg_of X G a_law_choose, Flaw_choose, blaw_choose⟩
  have Flaw_case := fun_mk (st := s_law_case) l_law_case c_law_case k_law_case
  have blaw_case := Flaw_case.binds (ps := ["_law_source_here", "_law_most", "_law_values"]) fun _ _ _ _ _ _ us hl => match us, hl with | [_, _, _], _ => rfl
  have Dlaw_case : Df K mg "_law_case" s_law_case ["_law_source_here", "_law_most", "_law_values"] flaw_case _ := ⟨PySem.W.mg_of X G a_law_case, Flaw_case, blaw_case⟩
  have Flaw_given := fun_mk (st := s_law_given) l_law_given c_law_given k_law_given
  have blaw_given := Flaw_given.binds (ps := ["_law_source_here", "_law_most"]) fun _ _ _ _ _ _ us hl => match us, hl with | [_, _], _ => rfl
  have Dlaw_given : Df K mg "_law_given" s_law_given ["_law_source_here", "_law_most"] flaw_given _ := ⟨PySem.W.mg_of X G a_law_given, Flaw_given, blaw_given⟩
  have Flaw_text := fun_mk (st := s_law_text) l_law_text c_law_text k_law_text
  have blaw_text := Flaw_text.binds (ps := ["_law_rules_here"]) fun _ _ _ _ _ _ us hl => match us, hl with | [_], _ => rfl
  have Dlaw_text : Df K mg "_law_text" s_law_text ["_law_rules_here"] flaw_text _ := ⟨PySem.W.mg_of X G a_law_text, Flaw_text, blaw_text⟩
  have Flaw_has := fun_mk (st := s_law_has) l_law_has c_law_has k_law_has
  have blaw_has := Flaw_has.binds (ps := ["_law_case_here", "_law_part"]) fun _ _ _ _ _ _ us hl => match us, hl with | [_, _], _ => rfl
  have Dlaw_has : Df K mg "_law_has" s_law_has ["_law_case_here", "_law_part"] flaw_has _ := ⟨PySem.W.mg_of X G a_law_has, Flaw_has, blaw_has⟩
  have Flaw_union := fun_mk (st := s_law_union) l_law_union c_law_union k_law_union
  have blaw_union := Flaw_union.binds (ps := ["_law_case_here", "_law_other"]) fun _ _ _ _ _ _ us hl => match us, hl with | [_, _], _ => rfl
  have Dlaw_union : Df K mg "_law_union" s_law_union ["_law_case_here", "_law_other"] flaw_union _ := ⟨PySem.W.mg_of X G a_law_union, Flaw_union, blaw_union⟩
  have Fmatching_rules := fun_mk (st := s_matching_rules) l_matching_rules c_matching_rules k_matching_rules
  have bmatching_rules := Fmatching_rules.binds (ps := ["rules", "case"]) fun _ _ _ _ _ _ us hl => match us, hl with | [_, _], _ => rfl
  have Dmatching_rules : Df K mg "matching_rules" s_matching_rules ["rules", "case"] fmatching_rules _ := ⟨PySem.W.mg_of X G a_matching_rules, Fmatching_rules, bmatching_rules⟩
  have Fis_beaten := fun_mk (st := s_is_beaten) l_is_beaten c_is_beaten k_is_beaten
  have bis_beaten := Fis_beaten.binds (ps := ["rule", "rules"]) fun _ _ _ _ _ _ us hl => match us, hl with | [_, _], _ => rfl
  have Dis_beaten : Df K mg "is_beaten" s_is_beaten ["rule", "rules"] fis_beaten _ := ⟨PySem.W.mg_of X G a_is_beaten, Fis_beaten, bis_beaten⟩
  have Fdeciding_rules := fun_mk (st := s_deciding_rules) l_deciding_rules c_deciding_rules k_deciding_rules
  have bdeciding_rules := Fdeciding_rules.binds (ps := ["rules", "case"]) fun _ _ _ _ _ _ us hl => match us, hl with | [_, _], _ => rfl
  have Ddeciding_rules : Df K mg "deciding_rules" s_deciding_rules ["rules", "case"] fdeciding_rules _ := ⟨PySem.W.mg_of X G a_deciding_rules, Fdeciding_rules, bdeciding_rules⟩
  have Fresults_for := fun_mk (st := s_results_for) l_results_for c_results_for k_results_for
  have bresults_for := Fresults_for.binds (ps := ["rules", "case"]) fun _ _ _ _ _ _ us hl => match us, hl with | [_, _], _ => rfl
  have Dresults_for : Df K mg "results_for" s_results_for ["rules", "case"] fresults_for _ := ⟨PySem.W.mg_of X G a_results_for, Fresults_for, bresults_for⟩
  have Fneed_rules := fun_mk (st := s_need_rules) l_need_rules c_need_rules k_need_rules
  have bneed_rules := Fneed_rules.binds (ps := ["thing"]) fun _ _ _ _ _ _ us hl => match us, hl with | [_], _ => rfl
  have Dneed_rules : Df K mg "need_rules" s_need_rules ["thing"] fneed_rules _ := ⟨PySem.W.mg_of X G a_need_rules, Fneed_rules, bneed_rules⟩
  have Fdeciding := fun_mk (st := s_deciding) l_deciding c_deciding k_deciding
  have bdeciding := Fdeciding.binds (ps := ["rules", "case"]) fun _ _ _ _ _ _ us hl => match us, hl with | [_, _], _ => rfl
  have Ddeciding : Df K mg "deciding" s_deciding ["rules", "case"] fdeciding _ := ⟨PySem.W.mg_of X G a_deciding, Fdeciding, bdeciding⟩
  have Fby_size := fun_mk (st := s_by_size) l_by_size c_by_size k_by_size
  have bby_size := Fby_size.binds (ps := ["conditions"]) fun _ _ _ _ _ _ us hl => match us, hl with | [_], _ => rfl
  have Dby_size : Df K mg "by_size" s_by_size ["conditions"] fby_size _ := ⟨PySem.W.mg_of X G a_by_size, Fby_size, bby_size⟩
  have Fcases_that_matter := fun_mk (st := s_cases_that_matter) l_cases_that_matter c_cases_that_matter k_cases_that_matter
  have bcases_that_matter := Fcases_that_matter.binds (ps := ["rules"]) fun _ _ _ _ _ _ us hl => match us, hl with | [_], _ => rfl
  have Dcases_that_matter : Df K mg "cases_that_matter" s_cases_that_matter ["rules"] fcases_that_matter _ := ⟨PySem.W.mg_of X G a_cases_that_matter, Fcases_that_matter, bcases_that_matter⟩
  have Fcases := fun_mk (st := s_cases) l_cases c_cases k_cases
  have bcases := Fcases.binds (ps := ["rules"]) fun _ _ _ _ _ _ us hl => match us, hl with | [_], _ => rfl
  have Dcases : Df K mg "cases" s_cases ["rules"] fcases _ := ⟨PySem.W.mg_of X G a_cases, Fcases, bcases⟩
  have Flaw_rules := fun_mk (st := s_law_rules) l_law_rules c_law_rules k_law_rules
  have blaw_rules := Flaw_rules.binds (ps := ["_law_rules_here"]) fun _ _ _ _ _ _ us hl => match us, hl with | [_], _ => rfl
  have Dlaw_rules : Df K mg "_law_rules" s_law_rules ["_law_rules_here"] flaw_rules _ := ⟨PySem.W.mg_of X G a_law_rules, Flaw_rules, blaw_rules⟩
  have Flaw_are_closed := fun_mk (st := s_law_are_closed) l_law_are_closed c_law_are_closed k_law_are_closed
  have blaw_are_closed := Flaw_are_closed.binds (ps := ["_law_source_here", "_law_rules_here", "_law_found"]) fun _ _ _ _ _ _ us hl => match us, hl with | [_, _, _], _ => rfl
  have Dlaw_are_closed : Df K mg "_law_are_closed" s_law_are_closed ["_law_source_here", "_law_rules_here", "_law_found"] flaw_are_closed _ := ⟨PySem.W.mg_of X G a_law_are_closed, Flaw_are_closed, blaw_are_closed⟩
  have Flaw := fun_mk (st := s_law) l_law c_law k_law
  have blaw := Flaw.binds (ps := ["_law_script"]) fun _ _ _ _ _ _ us hl => match us, hl with | [_], _ => rfl
  have B : Blt mg := ⟨PySem.W.mg_none_of X G z_len, PySem.W.mg_none_of X G z_max, PySem.W.mg_none_of X G z_min, PySem.W.mg_none_of X G z_range, PySem.W.mg_none_of X G z_tuple, PySem.W.mg_none_of X G z_sorted, PySem.W.mg_none_of X G z_list, PySem.W.mg_none_of X G z_str, PySem.W.mg_none_of X G z_repr, PySem.W.mg_none_of X G z_isinstance, PySem.W.mg_none_of X G z_set, PySem.W.mg_none_of X G z_all, PySem.W.mg_none_of X G z_zip, PySem.W.mg_none_of X G z_int, PySem.W.mg_none_of X G z_bool⟩
  have h_any := PySem.W.mg_none_of X G z_any
  have h_dict := PySem.W.mg_none_of X G z_dict
  have N : Nums mg := ⟨⟨_, PySem.W.mg_of X G n_attr⟩, ⟨_, PySem.W.mg_of X G n_val⟩, ⟨_, PySem.W.mg_of X G n_res⟩, ⟨_, PySem.W.mg_of X G n_rules⟩⟩
  have clR : Cls K CR := ⟨pgR, hdR, poR, saR⟩
  have suR : SupDef P K fOR CR CR fI "rules" := ⟨⟨_, _, _, _, _, _, _, _, _, _, _, _, _, _, _, _, _, _, _, _, _, _, _, _, _, _, _, _, _, _, _, _, lOR, cOR, rfl, rfl, lcdR, hvR, hfR, lccR,
    ⟨rfl, rfl, rfl, rfl, rfl, rfl, rfl, by decide +kernel, lookup_free (by decide +kernel)⟩, fun u rest => by cases rest <;> rfl⟩, ⟨_, kCR⟩, ⟨_, kCR⟩, subR, sup, top, opq, nxtR, tyI, hfnI, by decide⟩
  have OR : OrdC P K CR CR fOR fI := ⟨clR, nhR, ⟨mkR, aOR, iOR, kcR⟩, suR⟩
  have ITR : InsT K CR := ⟨clR, haR, hn, htk, hmR⟩
  have hCR := PySem.W.mg_of X G aCR
  have FmR_read := fun_mk (st := s_Rules_read) l_mR_read c_mR_read k_mR_read
  have bmR_read := FmR_read.binds (ps := ["cls", "text"]) fun _ _ _ _ _ _ us hl => match us, hl with | [_, _], _ => rfl
  have FmR_rules := fun_mk (st := s_Rules_rules) l_mR_rules c_mR_rules k_mR_rules
  have bmR_rules := FmR_rules.binds (ps := ["self"]) fun _ _ _ _ _ _ us hl => match us, hl with | [_], _ => rfl
  have GmR_rules : FnOk P w K mg base CX0 1 fmR_rules _ ["self"] (getSp CR "held") := fn_getter (k := 0) (N := ["self"]) l_mR_rules c_mR_rules ⟨rfl, rfl, rfl, by decide +kernel, rfl, by decide +kernel, by decide +kernel⟩ rfl rfl clR nhR
  have hPR : HasP P w K mg base CR "rules" := ⟨clR, pPmR_rules, fmR_rules, _, ⟨aPmR_rules, gPmR_rules, tPmR_rules, ⟨_, rPmR_rules⟩⟩, GmR_rules, bmR_rules⟩
  have FmR_call := fun_mk (st := s_Rules_call) l_mR_call c_mR_call k_mR_call
  have bmR_call := FmR_call.binds (ps := ["self", "case"]) fun _ _ _ _ _ _ us hl => match us, hl with | [_, _], _ => rfl
  have T : Forms K mg fis_number fis_condition fis_case fis_rule _ _ _ _ := ⟨Dis_number, Dis_condition, Dis_case, Dis_rule⟩
  have R : ReadsF K mg fread_number fread_condition fread_rule fare_rules _ _ _ _ := ⟨Dread_number, Dread_condition, Dread_rule, Dare_rules⟩
  have GRR : FnOk P w K mg base CX0 9 fmR_read _ ["cls", "text"] (spRead CR) := ok_read FmR_read OR lI cI B N T R Dread_rules
  have hReadR : HasC P w K mg base 9 "Rules" CR "read" (spRead CR) := ⟨hCR, mcR, pRR, fmR_read, ⟨rdR, gaR⟩, ⟨fcR, ⟨_, rcR⟩, hfnRR⟩, FnOk.raw0 GRR bmR_read⟩
  have hSrc : Has P w K mg base 1 "_law_source" ["_law_cell_here"] qSource := Dlaw_source.has ((ok_source Flaw_source B).imp toSource)
  have hCell : Has P w K mg base 1 "_law_cell" ["_law_script", "_law_index"] (qCell K) := Dlaw_cell.has ((ok_cell Flaw_cell B).imp (toCell K))
  have hDraw : Has P w K mg base 1 "_law_draw" ["_law_source_here", "_law_many"] qDraw := Dlaw_draw.has ((ok_draw Flaw_draw).imp toDraw)
  have hWithin : Has P w K mg base 1 "lies_within" ["inner", "outer"] qWithin := Dlies_within.has ((ok_within Flies_within B).imp toWithin)
  have hMeet : Has P w K mg base 1 "meet" ["one", "other"] qMeet := Dmeet.has (ok_meet Fmeet B)
  have hTog : Has P w K mg base 1 "together" ["one", "other"] qTog := Dtogether.has (ok_tog Ftogether B)
  have hText : Has P w K mg base 1 "_law_text" ["_law_rules_here"] qText := Dlaw_text.has (ok_text6 Flaw_text B)
  have hHas : Has P w K mg base 1 "_law_has" ["_law_case_here", "_law_part"] qHas := Dlaw_has.has (ok_has Flaw_has B)
  have hUnion : Has P w K mg base 1 "_law_union" ["_law_case_here", "_law_other"] qUnion := Dlaw_union.has (ok_union Flaw_union B)
  have hRulesL : Has P w K mg base 10 "_law_rules" ["_law_rules_here"] (qRulesL CR) := Dlaw_rules.has (ok_rulesL Flaw_rules hText hReadR)
  have U : Close K mg flies_within flies_strictly_within fis_beaten fmatching_rules fdeciding_rules fresults_for _ _ _ _ _ _ := ⟨h_any, Dlies_within, Dlies_strictly_within, Dis_beaten, Dmatching_rules, Ddeciding_rules, Dresults_for⟩
  have GX : FnOk P w K mg base CX0 6 fmR_call _ ["self", "case"] (spCallR CR) := ok_callR FmR_call B N T Dneed_case U clR nhR
  have hI : HasI P w K mg base 6 CR (qCallR CR) := ⟨fmR_call, ⟨a_mR_call, in_mR_call, hfn_mR_call⟩, FnOk.raw0 (GX.imp (toCallR CR)) bmR_call⟩
  have hNeedR : Has P w K mg base 1 "need_rules" ["thing"] (qNeedR CR) := Dneed_rules.has (ok_needR Fneed_rules B hCR ITR)
  have hNeedC : Has P w K mg base 4 "need_case" ["thing"] qNeedC := Dneed_case.has ((ok_needCase Fneed_case B N T).imp toNeedC)
  have hDr : Has P w K mg base 4 "deciding_rules" ["rules", "case"] qDr := Ddeciding_rules.has ((ok_deciding B U).imp toDr)
  have hDec : Has P w K mg base 5 "deciding" ["rules", "case"] (qDecides CR) := Ddeciding.has (ok_dec Fdeciding B hNeedR hNeedC hPR hDr)
  have hCtm : Has P w K mg base 4 "cases_that_matter" ["rules"] qCtm := Dcases_that_matter.has (ok_ctm Fcases_that_matter B hMeet hTog (ok_size Fby_size B) Dby_size.m Dby_size.b)
  have hCases : HasGen P w K mg base 6 "cases" ["rules"] (qCases CR) := ⟨fcases, _, PySem.W.mg_of X G a_cases, k_cases, bcases, ok_cases Fcases B hNeedR hPR hCtm⟩
  have hChooseC : Has P w K mg base 2 "_law_choose" ["_law_source_here", "_law_values"] qChooseW := Dlaw_choose.has ((ok_chooseW Flaw_choose B Dlaw_draw.m Dlaw_draw.F Dlaw_draw.b).imp toChooseW)
  have hCase : Has P w K mg base 2 "_law_case" ["_law_source_here", "_law_most", "_law_values"] qCaseV := Dlaw_case.has (ok_caseV Flaw_case B hDraw)
  have hGiven : Has P w K mg base 4 "_law_given" ["_law_source_here", "_law_most"] qGivenV := Dlaw_given.has (ok_givenV Flaw_given B h_dict hDraw hChooseC hCase)
  have hClosed : Has P w K mg base 3 "_law_are_closed" ["_law_source_here", "_law_rules_here", "_law_found"] qClosed := Dlaw_are_closed.has (ok_closed Flaw_are_closed B hUnion hChooseC)
  exact ok_law69 Flaw blaw B hSrc hCell hDraw hGiven hCase hRulesL hCases hClosed hDec hI hHas
end Cr

open PySem PySem.W PyProof.Rows in
set_option maxHeartbeats 0 in
theorem PySem.Challenge.cw_closestrule_k69_whole_cases_say_all_holds : PySem.Challenge.rw_closestrule_k69_whole_cases_say_all.Holds := by
  w_on; o_law; k_head; (case hw => w_witness2)
  k_fill
  refine Cr.walk_GT (l := PySem.Challenge.rw_closestrule_k69_whole_cases_say_all) (n := 63) (k := 11) (CX := fun _ => L2.CX0) rfl (by decide) rfl ⟨rfl, by decide, by decide⟩ (fun w h Y => PySem.W.kIn_of Y) (fun _ _ _ _ _ z => z) ?F
  case F =>
    intro w s0 mg mb fa h G KX hmg
    refine' Cr.fin_tab0 (Cr.all_mk69 KX G.T.g hmg ?a_is_number ?l_is_number ?c_is_number ?k_is_number ?a_is_condition ?l_is_condition ?c_is_condition ?k_is_condition ?a_is_case ?l_is_case ?c_is_case ?k_is_case ?a_is_rule ?l_is_rule ?c_is_rule ?k_is_rule ?a_are_rules ?l_are_rules ?c_are_rules ?k_are_rules ?a_need_case ?l_need_case ?c_need_case ?k_need_case ?a_read_number ?l_read_number ?c_read_number ?k_read_number ?a_read_condition ?l_read_condition ?c_read_condition ?k_read_condition ?a_read_rule ?l_read_rule ?c_read_rule ?k_read_rule ?a_read_rules ?l_read_rules ?c_read_rules ?k_read_rules ?a_lies_within ?l_lies_within ?c_lies_within ?k_lies_within ?a_lies_strictly_within ?l_lies_strictly_within ?c_lies_strictly_within ?k_lies_strictly_within ?a_meet ?l_meet ?c_meet ?k_meet ?a_together ?l_together ?c_together ?k_together ?a_law_cell ?l_law_cell ?c_law_cell ?k_law_cell ?a_law_source ?l_law_source ?c_law_source ?k_law_source ?a_law_draw ?l_law_draw ?c_law_draw ?k_law_draw ?a_law_choose ?l_law_choose ?c_law_choose ?k_law_choose ?a_law_case ?l_law_case ?c_law_case ?k_law_case ?a_law_given ?l_law_given ?c_law_given ?k_law_given ?a_law_text ?l_law_text ?c_law_text ?k_law_text ?a_law_has ?l_law_has ?c_law_has ?k_law_has ?a_law_union ?l_law_union ?c_law_union ?k_law_union ?a_matching_rules ?l_matching_rules ?c_matching_rules ?k_matching_rules ?a_is_beaten ?l_is_beaten ?c_is_beaten ?k_is_beaten ?a_deciding_rules ?l_deciding_rules ?c_deciding_rules ?k_deciding_rules ?a_results_for ?l_results_for ?c_results_for ?k_results_for ?a_need_rules ?l_need_rules ?c_need_rules ?k_need_rules ?a_deciding ?l_deciding ?c_deciding ?k_deciding ?a_by_size ?l_by_size ?c_by_size ?k_by_size ?a_cases_that_matter ?l_cases_that_matter ?c_cases_that_matter ?k_cases_that_matter ?a_cases ?l_cases ?c_cases ?k_cases ?a_law_rules ?l_law_rules ?c_law_rules ?k_law_rules ?a_law_are_closed ?l_law_are_closed ?c_law_are_closed ?k_law_are_closed ?a_law ?l_law ?c_law ?k_law ?aCR ?pgR ?hdR ?poR ?saR ?nhR ?mkR ?aOR ?iOR ?kcR ?lOR ?cOR ?lcdR ?hvR ?hfR ?lccR ?kCR ?subR ?sup ?top ?opq ?nxtR ?tyI ?hfnI ?lI ?cI ?hn ?htk ?haR ?hmR ?sfR ?gaR ?tyCR ?rdR ?fcR ?rcR ?hfnRR ?l_mR_read ?c_mR_read ?k_mR_read ?aPmR_rules ?gPmR_rules ?tPmR_rules ?rPmR_rules ?l_mR_rules ?c_mR_rules ?k_mR_rules ?a_mR_call ?in_mR_call ?hfn_mR_call ?l_mR_call ?c_mR_call ?k_mR_call ?n_attr ?n_val ?n_res ?n_rules ?z_len ?z_max ?z_min ?z_range ?z_tuple ?z_sorted ?z_list ?z_str ?z_repr ?z_isinstance ?z_set ?z_all ?z_zip ?z_int ?z_bool ?z_any ?z_dict)
    (case a_is_number => k_is)
    (case l_is_number => k_is)
    (case c_is_number => k_is)
    (case k_is_number => k_is)
    (case a_is_condition => k_is)
    (case l_is_condition => k_is)
    (case c_is_condition => k_is)
    (case k_is_condition => k_is)
    (case a_is_case => k_is)
    (case l_is_case => k_is)
    (case c_is_case => k_is)
    (case k_is_case => k_is)
    (case a_is_rule => k_is)
    (case l_is_rule => k_is)
    (case c_is_rule => k_is)
    (case k_is_rule => k_is)
    (case a_are_rules => k_is)
    (case l_are_rules => k_is)
    (case c_are_rules => k_is)
    (case k_are_rules => k_is)
    (case a_need_case => k_is)
    (case l_need_case => k_is)
    (case c_need_case => k_is)
    (case k_need_case => k_is)
    (case a_read_number => k_is)
    (case l_read_number => k_is)
    (case c_read_number => k_is)
    (case k_read_number => k_is)
    (case a_read_condition => k_is)
    (case l_read_condition => k_is)
    (case c_read_condition => k_is)
    (case k_read_condition => k_is)
    (case a_read_rule => k_is)
    (case l_read_rule => k_is)
    (case c_read_rule => k_is)
    (case k_read_rule => k_is)
    (case a_read_rules => k_is)
    (case l_read_rules => k_is)
    (case c_read_rules => k_is)
    (case k_read_rules => k_is)
    (case a_lies_within => k_is)
    (case l_lies_within => k_is)
    (case c_lies_within => k_is)
    (case k_lies_within => k_is)
    (case a_lies_strictly_within => k_is)
    (case l_lies_strictly_within => k_is)
    (case c_lies_strictly_within => k_is)
    (case k_lies_strictly_within => k_is)
    (case a_meet => k_is)
    (case l_meet => k_is)
    (case c_meet => k_is)
    (case k_meet => k_is)
    (case a_together => k_is)
    (case l_together => k_is)
    (case c_together => k_is)
    (case k_together => k_is)
    (case a_law_cell => k_is)
    (case l_law_cell => k_is)
    (case c_law_cell => k_is)
    (case k_law_cell => k_is)
    (case a_law_source => k_is)
    (case l_law_source => k_is)
    (case c_law_source => k_is)
    (case k_law_source => k_is)
    (case a_law_draw => k_is)
    (case l_law_draw => k_is)
    (case c_law_draw => k_is)
    (case k_law_draw => k_is)
    (case a_law_choose => k_is)
    (case l_law_choose => k_is)
    (case c_law_choose => k_is)
    (case k_law_choose => k_is)
    (case a_law_case => k_is)
    (case l_law_case => k_is)
    (case c_law_case => k_is)
    (case k_law_case => k_is)
    (case a_law_given => k_is)
    (case l_law_given => k_is)
    (case c_law_given => k_is)
    (case k_law_given => k_is)
    (case a_law_text => k_is)
    (case l_law_text => k_is)
    (case c_law_text => k_is)
    (case k_law_text => k_is)
    (case a_law_has => k_is)
    (case l_law_has => k_is)
    (case c_law_has => k_is)
    (case k_law_has => k_is)
    (case a_law_union => k_is)
    (case l_law_union => k_is)
    (case c_law_union => k_is)
    (case k_law_union => k_is)
    (case a_matching_rules => k_is)
    (case l_matching_rules => k_is)
    (case c_matching_rules => k_is)
    (case k_matching_rules => k_is)
    (case a_is_beaten => k_is)
    (case l_is_beaten => k_is)
    (case c_is_beaten => k_is)
    (case k_is_beaten => k_is)
    (case a_deciding_rules => k_is)
    (case l_deciding_rules => k_is)
    (case c_deciding_rules => k_is)
    (case k_deciding_rules => k_is)
    (case a_results_for => k_is)
    (case l_results_for => k_is)
    (case c_results_for => k_is)
    (case k_results_for => k_is)
    (case a_need_rules => k_is)
    (case l_need_rules => k_is)
    (case c_need_rules => k_is)
    (case k_need_rules => k_is)
    (case a_deciding => k_is)
    (case l_deciding => k_is)
    (case c_deciding => k_is)
    (case k_deciding => k_is)
    (case a_by_size => k_is)
    (case l_by_size => k_is)
    (case c_by_size => k_is)
    (case k_by_size => k_is)
    (case a_cases_that_matter => k_is)
    (case l_cases_that_matter => k_is)
    (case c_cases_that_matter => k_is)
    (case k_cases_that_matter => k_is)
    (case a_cases => k_is)
    (case l_cases => k_is)
    (case c_cases => k_is)
    (case k_cases => k_is)
    (case a_law_rules => k_is)
    (case l_law_rules => k_is)
    (case c_law_rules => k_is)
    (case k_law_rules => k_is)
    (case a_law_are_closed => k_is)
    (case l_law_are_closed => k_is)
    (case c_law_are_closed => k_is)
    (case k_law_are_closed => k_is)
    (case a_law => k_is)
    (case l_law => k_is)
    (case c_law => k_is)
    (case k_law => k_is)
    (case aCR => k_is)
    (case pgR => k_is)
    (case hdR => k_is)
    (case poR => k_is)
    (case saR => k_is)
    (case nhR => k_is)
    (case mkR => k_is)
    (case aOR => k_is)
    (case iOR => k_is)
    (case kcR => k_is)
    (case lOR => k_is)
    (case cOR => k_is)
    (case lcdR => k_is)
    (case hvR => rfl)
    (case hfR => rfl)
    (case lccR => k_is)
    (case kCR => k_is)
    (case subR => k_is)
    (case sup => k_is)
    (case top => rfl)
    (case opq => k_is)
    (case nxtR => ks_is)
    (case tyI => k_is)
    (case hfnI => k_is)
    (case lI => k_is)
    (case cI => k_is)
    (case hn => k_is)
    (case htk => k_is)
    (case haR => k_is)
    (case hmR => k_is)
    (case sfR => k_is)
    (case gaR => k_is)
    (case tyCR => k_is)
    (case rdR => k_is)
    (case fcR => k_is)
    (case rcR => k_is)
    (case hfnRR => k_is)
    (case l_mR_read => k_is)
    (case c_mR_read => k_is)
    (case k_mR_read => k_is)
    (case aPmR_rules => k_is)
    (case gPmR_rules => k_is)
    (case tPmR_rules => k_is)
    (case rPmR_rules => k_is)
    (case l_mR_rules => k_is)
    (case c_mR_rules => k_is)
    (case k_mR_rules => k_is)
    (case a_mR_call => k_is)
    (case in_mR_call => k_is)
    (case hfn_mR_call => k_is)
    (case l_mR_call => k_is)
    (case c_mR_call => k_is)
    (case k_mR_call => k_is)
    (case n_attr => k_is)
    (case n_val => k_is)
    (case n_res => k_is)
    (case n_rules => k_is)
    (case z_len => k_is)
    (case z_max => k_is)
    (case z_min => k_is)
    (case z_range => k_is)
    (case z_tuple => k_is)
    (case z_sorted => k_is)
    (case z_list => k_is)
    (case z_str => k_is)
    (case z_repr => k_is)
    (case z_isinstance => k_is)
    (case z_set => k_is)
    (case z_all => k_is)
    (case z_zip => k_is)
    (case z_int => k_is)
    (case z_bool => k_is)
    (case z_any => k_is)
    (case z_dict => k_is)
