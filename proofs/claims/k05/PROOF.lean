import PyProof.Rows.All
import Wide.All
import OpenK.AllK
import Wide.FinOn
import PyProof.ReprRoads
import PyProof.P3In
import KE.KUnpackStar
import HandS.ForMost
import HandS.Deep
import HandS.Star
import HandS.ClsMeth
import KE.KSuper
import KE.KeyNested
import HandS.TupSets
import HandS.SetBool
import HandS.Strs
import HandS.SetFor
import HandS.LawCells
import HandS.Sort
import HandS.Conv
import HandS.Zip
import PySem.Challenge.RW_closestrule_k05_results_for_a_case
import HandS.Style
import HandS.Codes
import HandS.SortRule
import HandS.IsInst
import HandS.TupAny
import HandS.StrMore
import HandS.Property
import HandS.SortInts
import KE.RegKSuper
set_option Elab.async false
set_option linter.all false
set_option maxRecDepth 100000
set_option maxHeartbeats 4000000

namespace Cr
open PySem PySem.Spec PyProof.Rows L2

/-! ### repr of data -/
section
variable {X : Cx}
/-- what repr asks: data without dicts, its text not too long -/
def rRepr (K : PySem.W.Frag) : List V → Hp → VK → Prop := fun xs H Q =>
  ∃ a d, xs = [V.ref a] ∧ Dp K H (.ref a) d ∧ d.showable = true ∧ d.hasDict = false ∧ d.depth ≤ 60 ∧ d.shown.length ≤ sizeLine ∧ Q (.str d.shown) H
theorem call_reprD (hgd : X.A.guards = some []) (hun : X.A.units + 64 < cLine) : CallR X (.builtin "repr") (rRepr X.K) := by
  intro pins s σ H xs us Q I rel hq
  obtain ⟨a, d, rfl, hd, h1, h2, h3, h4, q⟩ := hq
  cases rel with
  | cons r0 rt =>
    cases rt
    cases r0
    obtain ⟨as, rd⟩ := Dp.reads I d (.ref a) _ hd rfl
    refine repr_of_reads' (h₀ := s.heap) rd h1 (fun z => by rw [h2] at z; cases z) hgd (by omega) (fun _ _ z => z) (fun h' u tk kp => ?_) h4
    exact ⟨.str d.shown, H, I.kept kp, ⟨_, rfl⟩, q⟩
/-- x in t, t a tuple of data -/
def rInT (K : PySem.W.Frag) : R2 := fun x y H Q => ∃ d ds, Dp K H x d ∧ Dp K H y (.tuple ds) ∧ SeqAt.shaped d = true ∧ SeqAt.shaped (.tuple ds) = true ∧ Q (.bl (ds.any fun z => PyData.eqv z d)) H
theorem op_inT (hu : X.A.units + 65 < cLine) : OpR X (compareOp .In) (rInT X.K) := by
  intro pins s σ H x y v u Q I rx ry hq
  obtain ⟨d, ds, h1, h2, h3, h4, q⟩ := hq
  obtain ⟨as, r1⟩ := Dp.reads I d x v h1 rx
  obtain ⟨bs, r2⟩ := Dp.reads I (.tuple ds) y u h2 ry
  exact SeqAt.in_tuple_reads r2 r1 (SeqAt.canLay_of_shaped h4) (SeqAt.canLay_of_shaped h3) (room_in_shaped h3 hu) ⟨.bl _, H, I, rfl, q⟩
def rNotInT (K : PySem.W.Frag) : R2 := fun x y H Q => ∃ d ds, Dp K H x d ∧ Dp K H y (.tuple ds) ∧ SeqAt.shaped d = true ∧ SeqAt.shaped (.tuple ds) = true ∧ Q (.bl (!ds.any fun z => PyData.eqv z d)) H
theorem op_notInT (hu : X.A.units + 65 < cLine) : OpR X (compareOp .NotIn) (rNotInT X.K) := by
  intro pins s σ H x y v u Q I rx ry hq
  obtain ⟨d, ds, h1, h2, h3, h4, q⟩ := hq
  obtain ⟨as, r1⟩ := Dp.reads I d x v h1 rx
  obtain ⟨bs, r2⟩ := Dp.reads I (.tuple ds) y u h2 ry
  exact SeqAt.notIn_tuple_reads r2 r1 (SeqAt.canLay_of_shaped h4) (SeqAt.canLay_of_shaped h3) (room_in_shaped h3 hu) ⟨.bl _, H, I, rfl, q⟩
end

/-! ### *a, b = a list -/
section
variable {X : Cx} {pos : Pos}
def gStar1 (K : PySem.W.Frag) (t : TGs) : TG := fun v σ H Q => ∃ a xs y, v = .ref a ∧ SqL K H a (xs ++ [y]) ∧ xs.length < 16000 ∧ ∀ p, H p = none → t [.ref p, y] σ (upd H p (.lst xs)) Q
theorem vals_snoc : ∀ {xs : List V} {y : V} {us : List Value}, Vals (xs ++ [y]) us → ∃ ws z, us = ws ++ [z] ∧ Vals xs ws ∧ RelV y z := by
  intro xs
  induction xs with
  | nil =>
    intro y us r
    cases r with
    | cons r0 rt =>
      cases rt
      exact ⟨[], _, rfl, .nil, r0⟩
  | cons x xs ih =>
    intro y us r
    cases r with
    | cons r0 rt =>
      obtain ⟨ws, z, e, r1, r2⟩ := ih rt
      exact ⟨_ :: ws, z, by rw [e]; rfl, .cons r0 r1, r2⟩
/-- the star's list as a new object -/
theorem star_items {prog : Program} {w : World} {A : Around} {E : Value → Shared → Prop} {s : Shared} {l : Addr} {ws : List Value} {z : Value} {Q : List Value → Shared → Prop} (hl : s.heap.IsList l (ws ++ [z]).toArray) (hh : A.handled = none) (hz : ws.length < 16000)
    (h : ∀ (hp : Heap) (tk : Nat), (∀ b o, s.heap.get? b = some o → hp.get? b = some o) → Q [.ref hp.objs.size, z] { s with heap := hp.push { cls := .type "list", data := .seq ws.toArray }, toks := tk }) :
    wpAny (model prog w) A (unpackItems (.ref l) 2 (some 0)) Q E s := by
  have hll : l < s.heap.objs.size := by obtain ⟨o, ho, _⟩ := hl; exact Heap.lt_size ho
  have hlt : l ≠ s.heap.objs.size := Nat.ne_of_lt hll
  unfold unpackItems
  refine wpAny_bind ?_
  unfold notIterableAtAll
  refine wpAny_bind (wpAny_specialOf hl.typeIs slot_list_iter.lookup (wpAny_pure ?_))
  simp only [Bool.false_eq_true, if_false]
  refine wpAny_bind (wpAny_holding (wpAny_pyIter_list hl ?_))
  refine wpAny_bind (wpAny_holding (PySem.W.kun_draw hlt 0 0 _ _ ⟨_, Heap.get?_push_size _ rfl, rfl, rfl⟩ (hl.push _) (by omega) fun h1 hit1 hs1 => ?_))
  have hl1 : h1.IsList l (ws ++ [z]).toArray := (hl.push _).extBut hs1.extBut hlt
  obtain ⟨oi, hoi, _⟩ := id hit1
  obtain ⟨ol, hol, _⟩ := id hl1
  have hsz : (ws ++ [z]).toArray.size = ws.length + 1 := by simp
  rw [if_neg (show ¬ (List.length _ < 0) by omega)]
  refine wpAny_bind (wpAny_holding (PySem.W.kun_collect (s := { s with heap := h1 }) (T := "list_iterator") (.inr (.inr (.inl rfl))) (Walks.list (A := A.in1) hh s.heap.objs.size l hlt (ws ++ [z]).toArray) (fun j u st => st.1.typeIs) (k := 0) (by omega) ⟨hit1, hl1⟩ (Heap.lt_size hoi) (Heap.lt_size hol) (fun h2 tk hk => ?_) (by rw [sizeLine_eq]; omega)))
  have e0 : (ws ++ [z]).toArray.toList.drop 0 = ws ++ [z] := by simp
  rw [e0]
  show wpAny _ _ (if (ws ++ [z]).length < 1 then _ else _) _ _ _
  rw [if_neg (by simp)]
  show wpAny _ _ (newList ((ws ++ [z]).take ((ws ++ [z]).length - 1)) >>= fun d => pure (([] : List Value) ++ [d] ++ (ws ++ [z]).drop ((ws ++ [z]).length - 1))) _ _ _
  have e1 : (ws ++ [z]).length - 1 = ws.length := by simp
  rw [e1, List.take_left, List.drop_left]
  refine wpAny_bind (wpAny_newList (wpAny_pure ?_) (by rw [sizeLine_eq]; omega))
  have kp : ∀ b o, s.heap.get? b = some o → h2.get? b = some o := fun b o e =>
    hk b o (Nat.ne_of_lt (Heap.lt_size e)) (hs1.extBut b o (Nat.ne_of_lt (Heap.lt_size e)) (Heap.get?_push_of_some _ e))
  exact h h2 tk kp
theorem pg_star1 {es : List Expr} {k : Nat} {t : TGs} (hc : X.calm = true) (h : PGs X es t)
    (hn : (assignEach es X.env).length = 2 := by rfl) (hst : (assignEach es X.env).findIdx? (·.1) = some 0 := by rfl) : PG X (.Tuple es k pos) (gStar1 X.K t) := by
  refine ⟨fun pins s σ H v u Q I r hw => ?_⟩
  obtain ⟨a, xs, y, e1, hq, hl, hw⟩ := hw
  subst e1
  cases r
  obtain ⟨its, rv, pl, hz⟩ := I.list hq
  have hL : s.heap.IsList a its.toArray := by
    obtain ⟨o, m, e, c, d, q⟩ := pl
    exact ⟨o, e, c, m, q⟩
  obtain ⟨ws, z, e2, r1, r2⟩ := vals_snoc rv
  subst e2
  have hwl : ws.length < 16000 := by rw [← r1.length]; exact hl
  rw [PyProof.Rows.assign_Tuple]
  refine wpAny_bind (wpAny_standAt ?_)
  unfold unpack
  rw [hn, hst]
  refine wpAny_bind (wpAny_holding (star_items hL (I.ok.hd hc) hwl fun hp tk kp => ?_))
  have I1 : Inv X pins σ H { s with heap := hp } := I.kept (t' := s.toks) kp
  have hf : H hp.objs.size = none := I1.hok.fresh (Nat.le_refl _)
  have I2 := I1.laid (a := hp.objs.size) (o := .lst xs) (t' := tk) (h' := hp.push { cls := .type "list", data := .seq ws.toArray }) (fun b u e => Heap.get?_push_of_some _ e) (Nat.le_refl _) ⟨by rw [sizeLine_eq]; omega, ws, 0, r1, Heap.get?_push_size _ rfl⟩
  exact h.run pins _ σ _ [.ref hp.objs.size, y] [.ref hp.objs.size, z] Q I2 (.cons rfl (.cons r2 .nil)) (hw _ hf)
/-- a starred name among targets -/
theorem pgs_star {e : Expr} {es : List Expr} {sp : Pos} {t : TG} {u : TGs} (h1 : PG X e t) (h2 : PGs X es u)
    (hs : (assignEach (.Starred e sp :: es) X.env).map (·.2) = assign e X.env :: (assignEach es X.env).map (·.2) := by rfl) : PGs X (.Starred e sp :: es) (gCons t u) := by
  refine ⟨fun pins s σ H vs us Q I r hq => ?_⟩
  obtain ⟨v, vr, rfl, hq⟩ := hq
  cases r with
  | cons r rr =>
    rw [hs]
    refine assignInOrder_cons (thn (h1.run pins s σ H _ _ _ I r hq) fun _ s1 ⟨σ1, H1, I1, q1⟩ => h2.run pins s1 σ1 H1 _ _ Q I1 rr q1)
end

/-! ### a local that holds a class, called with a star -/
section
variable {X : Cx} {CX : CXT} {k : Nat} {f C : Addr} {sp : Sp} {E : XK} {e fe : Expr} {te tf : TE} {p pos : Pos}
def tMakeLS (X : Cx) (C : Addr) (sp : Sp) (E : XK) (tf te : TE) : TE := fun σ H Q => tf σ H fun y H1 => y = V.ref C ∧ te σ H1 fun v H2 => ∃ a xs, v = V.ref a ∧ (SqT X.K H2 a xs ∨ SqL X.K H2 a xs) ∧
  ∀ x dx, H2 x = none → H2 dx = none → dx ≠ x → sp (V.ref x :: xs) (upd (upd H2 dx (.own x)) x (.ins C dx [])) (fun r H3 => r = .non ∧ Q (.ref x) H3) E
theorem pe_makeLS (hf : PE X fe tf) (M : Mk X.K C f) (F : FnR X.prog X.w X.K X.mg X.base CX k f sp) (hr : Room (k + 1) X.A) (hx : Passes CX X E) (he : PE X e te)
    (ht : eval (.Call fe [.Starred e p] [] pos) X.env = (do callWith pos (← eval fe X.env) [] (backTo pos (starEach [.Starred e p] X.env)) (backToKw pos (keywordEach [] X.env))) := by rfl)
    (hst : starEach [.Starred e p] X.env = [(true, eval e X.env)] := by rfl) : PE X (.Call fe [.Starred e p] [] pos) (tMakeLS X C sp E tf te) := by
  refine ⟨fun pins s σ H Q I h => ?_⟩
  refine Call_ (thn (hf.run pins s σ H _ I h) fun u s1 ⟨y, H1, I1, ry, ey, q⟩ => ?_) ht
  subst ey
  obtain rfl : u = Value.ref C := ry
  refine PySem.W.callWith_S (h₀ := X.base) I.ok.mod.kin M.kp (thn (he.run pins s1 σ H1 _ I1 q) fun v s2 ⟨z, H2, I2, rz, a, xs, ez, hxs, q2⟩ => ?_) hst
  subst ez
  obtain rfl : v = Value.ref a := rz
  exact StX.star_any I2 hxs fun us s3 I3 rv => ⟨I3.kIn, StX.run_makeR M F hr hx I3 rv q2⟩
end
end Cr

namespace Cr
open PySem PySem.Spec PyProof.Rows L2

/-! ### def __init__(self, *v): super().__init__(*v) -/
section
variable {prog : Program} {w : World} {A : Around} {E : Value → Shared → Prop} {h : Heap} {g : Array GenState} {d : Drawn} {t : Nat} {os : OsState}
/-- super().m as a value: a bound method -/
theorem getAttr_super {so D x C f : Addr} {fo : Obj} {l0 l : List Value} {K : PySem.W.Frag} {name : Str} {Q : Value → Shared → Prop}
    (hso : h.get? so = some (PySem.W.ks_superObj D x C)) (hno : PySem.W.Looks (model prog w) h (opaqueClassAbove (.ref C)) none)
    (hC : PySem.W.Looks (model prog w) h (mroOf (.ref C)) l0) (hl : (l0.dropWhile (· != .ref D)).drop 1 = l) (X : K.In h)
    (hf : PySem.W.alongIn K name l = some (some (.ref f))) (hfo : h.get? f = some fo) (hfc : fo.cls = .type "function") (hxC : x ≠ C) (hn : (name == ("__class__" : Str)) = false)
    (hq : Q (.ref h.objs.size) ⟨h.push (PySem.W.methodObj (.ref f) (.ref x)), g, d, t + 1, os⟩) :
    wpAny (model prog w) A (getAttr (.ref so) name true) Q E ⟨h, g, d, t, os⟩ := by
  have lk := F.ks_slot_super_ga.lookup
  have ty : ∀ t', (⟨h, g, d, t', os⟩ : Shared).TypeIs (.ref so) "super" := fun _ => ⟨_, hso, rfl⟩
  unfold getAttr getAttrBy
  refine wpAny_bind (wpAny_mkText (wpAny_holding (wpAny_bind (wpAny_typeOf (ty _) (wpAny_bind (wpAny_of_eq lk ?_))))))
  show wpAny _ _ (getAttrByItsOwn (.ref so) (.str name t) (.type "super") (.builtin "super.__getattribute__") true true) _ _ _
  unfold getAttrByItsOwn hookBefore callGetattribute boundAndCalled
  refine wpAny_bind (wpAny_of_eq (show (if onTheHeap (.type "super") then typeLookup (.type "super") "__getattr__" else pure none) = pure none from rfl) ?_)
  refine wpAny_bind (wpAny_attempt (wpAny_holding ?_))
  show wpAny _ _ (bindSpecial (.builtin "super.__getattribute__") (.ref so) >>= _) _ _ _
  refine wpAny_bind (wpAny_of_eq (F.ks_slot_super_ga.bind _) ?_)
  refine wpAny_mono (Q := fun v s' => v = .ref h.objs.size ∧ s' = ⟨h.push (PySem.W.methodObj (.ref f) (.ref x)), g, d, t + 1, os⟩) (E := fun _ _ => False)
    (wpAny_call_entry F.ks_slot_super_ga (ty _) F.ks_entry_super_ga (ks_wpAny_super_ga hso hno hC hl X hf hfo hfc hxC hn ⟨_, rfl, rfl, rfl⟩) (F.ks_gaArgs_super _ _)) (fun v s' hv => ?_) fun _ _ z => z.elim
  obtain ⟨rfl, rfl⟩ := hv
  exact wpAny_pure hq
end

/-- the facts of the text for such a def at f, in the class D, the next __init__ (for instances of C) at f2 -/
structure SupDef (P : Program) (K : PySem.W.Frag) (f C D f2 : Addr) (pv : Str) : Prop where
  ex : ∃ (name qual : Str) (params : Arguments) (scope : Scope) (dV kV doc pm ct oc ccl cl : Value) (an od cdd cld : Option Addr) (osl ccs csl : Array (Option Value)) (cc cda : Addr) (vs : Array Value) (file : Str) (tf : Tok) (ar : Arg) (p0 p1 p2 p3 p4 p5 p6 : Pos),
    K.lookup f = some ⟨oc, od, .func (PySem.W.ksFn name qual params [.Expr (.Call (.Attribute (.Call (.Name "super" p0) [] [] p1) "__init__" p2) [.Starred (.Name pv p3) p4] [] p5) p6] scope dV kV doc pm an (.ref cda) ct cc), osl⟩ ∧
    PySem.W.codeIn K (.ref cda) qual = true ∧ (params.posonlyargs ++ params.args).head? = some ar ∧ ar.arg = ("self" : Str) ∧
    K.lookup cda = some ⟨ccl, cdd, .fields vs, ccs⟩ ∧ vs[2]? = some (.str file tf) ∧ ((P.main.file : Str) == file) = true ∧ K.lookup cc = some ⟨cl, cld, .cell (some (.ref D)), csl⟩ ∧
    (scope.names.lookup ("super" : Str) = some .globalImplicit ∧ scope.names.lookup ("__class__" : Str) = some .free ∧ scope.names.lookup ("self" : Str) = some .local ∧ scope.names.lookup pv = some .local ∧ scope.kind = .function ∧
      scope.isCoroutine = false ∧ scope.isGenerator = false ∧ (∀ y ∈ scope.names, y.2 ≠ .cell) ∧ ∀ y, scope.names.lookup y = some .free → y = ("__class__" : Str)) ∧
    (∀ (u : Value) (rest : List Value), bindArgs (PySem.W.ksFn name qual params [.Expr (.Call (.Attribute (.Call (.Name "super" p0) [] [] p1) "__init__" p2) [.Starred (.Name pv p3) p4] [] p5) p6] scope dV kV doc pm an (.ref cda) ct cc) ⟨u :: rest, []⟩ =
      (newTuple rest >>= fun t => pure [(("self" : Str), u), (pv, t)]))
  cD : ∃ cdD, PySem.W.clsIn K D = some cdD
  cC : ∃ cdC, PySem.W.clsIn K C = some cdC
  sub : PySem.W.mroIn K C (.ref D) = some true
  sup : PySem.W.nsIn K mainGlobals "super" = some none
  top : (P.main.scope.names.lookup ("super" : Str)).isSome = false
  opq : PySem.W.nsIn K cStatics "thirdparty.any" = some none
  next : PySem.W.ks_superIn K C D "__init__" = some (some (.ref f2))
  ty : PySem.W.typeIn K (.ref f2) = some (.type "function")
  fi : PySem.W.fnIn K f2 = true
  nd : ("self" : Str) ≠ pv

def supX (CX : CXT) (P : Program) (w : World) (K : PySem.W.Frag) (mg : Str → Option Value) (base : Heap) (pv : Str) (env : Env) (A : Around) (outer : List Env) (s : Shared) (H : Hp) (E : XK) : Cx where
  prog := P
  w := w
  K := K
  mg := mg
  base := base
  A := A.deeper env
  N := ["self", pv]
  s_0 := s
  H_0 := H
  env := env
  outer := outer
  stack := env :: outer
  ex := []
  fn := fun _ => false
  calm := true
  pn := []
  xe := fun e s' => wpAny (model P w) (A.deeper env) (leaving env e) (fun _ s'' => CX outer H s E e s'') (fun e' s'' => CX outer H s E e' s'') s'

section
variable {CX : CXT} {P : Program} {w : World} {K : PySem.W.Frag} {mg : Str → Option Value} {base : Heap} {pv : Str} {A : Around} {outer : List Env} {s : Shared} {H : Hp} {E : XK} {h0 : Heap} {tk : Nat} {qual : Str} {scope : Scope} {f cc cda D : Addr} {v1 v2 : V} {u1 u2 : Value}
/-- the state at such a def's body -/
theorem sup_inv (e0 : Env0 P w K mg base A outer s H) (hd : A.handled = none) (hns : h0.Ns s.heap.objs.size (fun y => [(("self" : Str), u1), (pv, u2)].reverse.lookup y)) (kp : ∀ b o, s.heap.get? b = some o → h0.get? b = some o)
    (r1 : RelV v1 u1) (r2 : RelV v2 u2) (nd : ("self" : Str) ≠ pv) {cl : Value} {cld : Option Addr} {csl : Array (Option Value)} {cv : Option Value} (hcell : K.lookup cc = some ⟨cl, cld, .cell cv, csl⟩)
    (sc2 : scope.names.lookup ("__class__" : Str) = some .free) (sc3 : scope.names.lookup ("self" : Str) = some .local) (sc4 : scope.names.lookup pv = some .local) (sck : scope.kind = .function)
    (scc : ∀ y ∈ scope.names, y.2 ≠ .cell) (scf : ∀ y, scope.names.lookup y = some .free → y = ("__class__" : Str)) :
    Inv (supX CX P w K mg base pv (PySem.W.ksEnv qual scope s.heap.objs.size f (.ref cda) cc) A outer s H E) [] [some v1, some v2] H { s with heap := h0, toks := tk } := by
  have hin : base.get? cc = some ⟨cl, cld, .cell cv, csl⟩ := e0.mod.kin _ _ hcell
  obtain ⟨hc1, hc2⟩ := e0.bs _ _ hin
  have look1 : ∀ y c, [(("__class__" : Str), cc)].lookup y = some c → y = ("__class__" : Str) ∧ c = cc := fun y c e => by
    rw [List.lookup_cons] at e
    split at e
    · rename_i q
      exact ⟨eq_of_beq q, (Option.some.inj e).symm⟩
    · cases e
  have nof : ∀ b : Addr, b ∉ (supX CX P w K mg base pv (PySem.W.ksEnv qual scope s.heap.objs.size f (.ref cda) cc) A outer s H E).ex := fun b z => absurd (show b ∈ ([] : List Addr) from z) (by simp)
  refine ⟨⟨e0.mod, sck, rfl, rfl, Nat.le_refl _, fun y z c q1 q2 => ?_, fun y hy => ?_, fun y c q _ => (nomatch q), fun _ => hd, Around.frames_deeper e0.frames, .inr ⟨rfl, rfl⟩, fun b z => absurd z (nof b), e0.bs, e0.bsz, fun b _ _ => nof b, fun b z => absurd z (nof b), e0.funs, e0.frf⟩,
    rfl, e0.bare, Un.kept kp, ⟨_, hns, fun i y v q1 q2 q3 => ?_⟩, fun y c q => ?_, e0.hok.fresh (Nat.le_refl _), fun y c q => ?_, fun p hp => absurd (show p ∈ ([] : List (Addr × Obj)) from hp) (by simp), e0.hok.kept kp, rfl⟩
  · exact (look1 y c q1).1.trans (look1 z c q2).1.symm
  · have hy : scope.names.lookup y = some .cell ∨ scope.names.lookup y = some .free := hy
    rcases hy with hy | hy
    · exact absurd rfl (scc _ (PySem.mem_of_lookup hy))
    · rw [scf y hy]
      exact ⟨cc, rfl⟩
  · have q1 : (["self", pv] : List Str)[i]? = some y := q1
    match i, q1, q2 with
    | 0, q1, q2 =>
      obtain rfl := Option.some.inj q1
      obtain rfl := Option.some.inj (Option.some.inj q2)
      refine ⟨u1, r1, .inl ⟨sc3, ?_⟩⟩
      have ne : (("self" : Str) == pv) = false := beq_eq_false_iff_ne.mpr nd
      show [(pv, u2), (("self" : Str), u1)].lookup ("self" : Str) = some u1
      rw [List.lookup_cons, ne]
      rfl
    | 1, q1, q2 =>
      obtain rfl := Option.some.inj q1
      obtain rfl := Option.some.inj (Option.some.inj q2)
      refine ⟨u2, r2, .inl ⟨sc4, ?_⟩⟩
      show [(pv, u2), (("self" : Str), u1)].lookup pv = some u2
      rw [List.lookup_cons, beq_self_eq_true]
    | i + 2, q1, q2 => cases q1
  · obtain ⟨_, rfl⟩ := look1 y c q
    exact ⟨cv, _, kp _ _ hc1, rfl⟩
  · obtain ⟨_, rfl⟩ := look1 y c q
    exact hc2
end

section
variable {X : Cx} {CX : CXT} {pv : Str} {S0 : Shared} {H : Hp} {E : XK} {qual : Str} {scope : Scope} {f f2 cc cda C D x p dx L : Addr} {k : Nat} {fs : List (Str × V)} {rest : List V} {sp : Sp} {Q : VK}
theorem boot_super : bootBuiltins "super" = some (.type "super") := by kernel_rfl
theorem sup_eval {p0 p1 p2 p3 p4 p5 : Pos} {cdD cdC : ClassData} {fd : FuncData} {oc ccl cl : Value} {od cdd cld : Option Addr} {osl ccs csl : Array (Option Value)} {cvs : Array Value} {file : Str} {tf : Tok} {ar : Arg}
    (hE : X.env = PySem.W.ksEnv qual scope L f (.ref cda) cc) (hN : X.N = [("self" : Str), pv]) (I : Inv X [] [some (.ref x), some (.ref p)] H S0)
    (lk : X.K.lookup f = some ⟨oc, od, .func fd, osl⟩) (hhd : (fd.params.posonlyargs ++ fd.params.args).head? = some ar) (har : ar.arg = ("self" : Str)) (hcda : X.K.lookup cda = some ⟨ccl, cdd, .fields cvs, ccs⟩) (hfl : cvs[2]? = some (.str file tf))
    (hfile : ((X.prog.main.file : Str) == file) = true) (hcell : X.K.lookup cc = some ⟨cl, cld, .cell (some (.ref D)), csl⟩) (hcD : PySem.W.clsIn X.K D = some cdD) (hcC : PySem.W.clsIn X.K C = some cdC) (hsub : PySem.W.mroIn X.K C (.ref D) = some true)
    (hsup : PySem.W.nsIn X.K mainGlobals "super" = some none) (htop : (X.prog.main.scope.names.lookup ("super" : Str)).isSome = false) (hopq : PySem.W.nsIn X.K cStatics "thirdparty.any" = some none)
    (hnext : PySem.W.ks_superIn X.K C D "__init__" = some (some (.ref f2))) (hty : PySem.W.typeIn X.K (.ref f2) = some (.type "function")) (hfi : PySem.W.fnIn X.K f2 = true)
    (sc1 : scope.names.lookup ("super" : Str) = some .globalImplicit) (sc2 : scope.names.lookup ("__class__" : Str) = some .free) (sc3 : scope.names.lookup ("self" : Str) = some .local) (sc4 : scope.names.lookup pv = some .local) (sck : scope.kind = .function)
    (hdb : (pv == ("__debug__" : Str)) = false) (hcd : (pv == ("__classdict__" : Str)) = false)
    (hx : H x = some (.ins C dx fs)) (hp : H p = some (.tup rest)) (G : FnR X.prog X.w X.K X.mg X.base CX k f2 sp) (hr : Room k X.A)
    (hpass : Passes CX X E) (hsp : sp (V.ref x :: rest) H (fun _ H' => Q .non H') E) (body : List Stmt) :
    PySem.wpAt (model X.prog X.w) X.A (.func body X.env) (eval (.Call (.Attribute (.Call (.Name "super" p0) [] [] p1) "__init__" p2) [.Starred (.Name pv p3) p4] [] p5) X.env)
      (fun _ s' => ∃ H', Inv X [] [some (.ref x), some (.ref p)] H' s' ∧ Q .non H') X.xe S0 := by
  have hse : starEach [.Starred (.Name pv p3) p4] X.env = [(true, eval (.Name pv p3) X.env)] := rfl
  have hke : backToKw p5 (keywordEach [] X.env) = [] := rfl
  have hform : methodCallForm ([Expr.Starred (.Name pv p3) p4].length + ([] : List Keyword).length) (backTo p5 [(true, eval (.Name pv p3) X.env)]) [] = false := rfl
  have hpos : methodCallPos false (.Call (.Name "super" p0) [] [] p1) X.env p2 p5 = pure p5 := rfl
  have hcal : ∀ ov, calleeOf false (.Call (.Name "super" p0) [] [] p1) X.env ov "__init__" = (getAttr ov "__init__" true >>= fun v => pure (v, [])) := fun _ => rfl
  have KX : X.K.In S0.heap := I.kIn
  obtain ⟨mA, O, _⟩ := ins_get I.hok hx
  obtain ⟨od2, J, _⟩ := O.look
  obtain ⟨oD, hD1, hD2⟩ : ∃ oD, S0.heap.get? D = some oD ∧ oD.data = .cls cdD := by
    unfold PySem.W.clsIn at hcD
    split at hcD
    · rename_i q
      cases hcD
      exact ⟨_, KX _ _ q, rfl⟩
    · cases hcD
  obtain ⟨fo, hfo, hfoc⟩ : ∃ fo, X.K.lookup f2 = some fo ∧ fo.cls = .type "function" := by
    have z : (X.K.lookup f2).map (·.cls) = some (.type "function") := hty
    cases q : X.K.lookup f2 with
    | none => rw [q] at z; cases z
    | some o => rw [q] at z; exact ⟨o, rfl, Option.some.inj z⟩
  obtain ⟨mb, hb1, hb2⟩ := I.ok.mod.blt
  rw [arm_eval_Call, hse, hke]
  refine PySem.wpAt_bind (ks_wpAt_super_base (by rw [hE]; exact sc1) (by rw [hE]; exact sc2) (by decide) (by rw [hE]) (KX _ _ lk) rfl hhd (by rw [hE]) (KX _ _ hcda) rfl hfl hfile htop ?_)
  refine PySem.W.ks_loadName_global (by rw [hE]; exact sck) (by rw [hE]; exact sc1) ?_
  refine PySem.Calls.loadGlobal_builtin (env := X.env) (by rw [I.ok.glob]; exact I.ok.mod.glob.keeps I.bk) (PySem.W.mg_none_of I.ok.mod.kin I.ok.mod.glob hsup) (by rw [I.ok.blt]; exact hb1.keeps I.bk) ((hb2 _ (by decide +kernel)).trans boot_super) ⟨rfl, ?_⟩
  refine wpAny_loadName_free (by rw [hE]; exact sck) (by rw [hE]; exact sc2) (c := cc) (by rw [hE]; rfl) ⟨_, KX _ _ hcell, rfl⟩ ?_
  obtain ⟨m, hm1, hm2⟩ := I.loc
  obtain ⟨us, rs, lo⟩ := hm2 0 "self" (.ref x) (by rw [hN]; rfl) rfl (.inl (by rw [hE]; exact sc3))
  cases rs
  have hself : m "self" = some (.ref x) := by
    rcases lo with ⟨_, q⟩ | ⟨q, _⟩
    · exact q
    · rw [hE] at q
      have q : scope.names.lookup ("self" : Str) = some .cell ∨ scope.names.lookup ("self" : Str) = some .free := q
      rw [sc3] at q
      rcases q with q | q <;> cases q
  rw [har]
  refine wpAny_loadName_local (by rw [hE]; exact sck) (by rw [hE]; exact sc3) hm1 hself ?_
  obtain ⟨hh, gg, dd, tt, oo⟩ := S0
  refine ks_wpAny_isType_cls hD1 hD2 ⟨rfl, ?_⟩
  refine ks_wpAny_call_super hD1 hD2 J.at_ J.cls (fun c e => ?_) (PySem.W.looks_mroIn KX hsub) (fun h1 hs1 k1 => ?_)
  · have z := J.no
    unfold PySem.W.notCls at z
    rw [e] at z
    exact Bool.noConfusion z
  have I1 := I.kept (t' := tt) k1
  refine PySem.wpAt_of_wpAny (wpAny_bind (wpAny_standAt ?_))
  unfold methodCall
  rw [hform, hpos, hcal]
  refine wpAny_bind (wpAny_holding (wpAny_bind ?_))
  have KX1 : X.K.In h1 := I1.kIn
  have hne : x ≠ C := PySem.W.ks_ne KX J hcC
  have hal : PySem.W.alongIn X.K "__init__" ((cdC.mro.dropWhile (· != .ref D)).drop 1) = some (some (.ref f2)) := by
    unfold PySem.W.ks_superIn at hnext
    rw [hcC] at hnext
    exact hnext
  refine getAttr_super hs1 (PySem.W.looks_opaque KX1 hopq) (l0 := cdC.mro) (fun A' Q' E' s' k' q' => wpAny_bind ((PySem.W.looks_clsIn KX1 hcC) A' _ E' s' k' (wpAny_pure q'))) rfl KX1 hal (KX1 _ _ hfo) hfoc hne (by decide) (wpAny_pure ?_)
  refine wpAny_bind (wpAny_pure ?_)
  have I2 := ClX.pin_new (o := PySem.W.methodObj (.ref f2) (.ref x)) (t' := tt + 1) I1 (fun _ _ z => Heap.get?_push_of_some _ z) (Nat.le_refl _) (Heap.get?_push_size h1 rfl) (fun v z => nomatch z)
  refine PySem.W.ks_call (P := PySem.W.MethP X.K h1.objs.size f2 (.ref x)) rfl (PySem.W.keeps_M hfi) (PySem.W.ks_lone ?_)
  have name : PE X (.Name pv p3) (tVar 1) := pe_var (by rw [hN]; rfl) (.inl (by rw [hE]; exact sc4)) hdb hcd
  refine thn (name.run _ _ _ H (fun v H' => v = .ref p ∧ H' = H) I2 ⟨.ref p, rfl, rfl, rfl⟩) fun v s3 ⟨y, H3, I3, ry, ey, eH⟩ => ?_
  subst ey eH
  obtain rfl : v = Value.ref p := ry
  refine star_tup I3 (SqT.of hp) fun us s4 I4 rv => ⟨⟨ClX.pin_at I4, I4.kIn⟩, ?_⟩
  refine thn (wpAny_call (PySem.W.method_call (ClX.pin_at I4) (run_fnR (us := Value.ref x :: us) (vs := V.ref x :: rest) G hr hpass I4 (.cons rfl rv) hsp))) fun u5 s5 ⟨v5, H5, I5, r5, q5⟩ => ?_
  exact ⟨H5, ClX.unpin I5, q5⟩
end

section
variable {CX : CXT} {P : Program} {w : World} {K : PySem.W.Frag} {mg : Str → Option Value} {base : Heap} {k : Nat} {f f2 C D : Addr} {pv : Str} {sp : Sp}
theorem fn_super (T : SupDef P K f C D f2 pv) (hCX : StX.CXUp CX) (hdb : (pv == ("__debug__" : Str)) = false) (hcdn : (pv == ("__classdict__" : Str)) = false) (G : FnR P w K mg base CX k f2 sp)
    (hpass : ∀ (env : Env) (A : Around) (outer : List Env) (s : Shared) (H : Hp) (E : XK), Passes CX (supX CX P w K mg base pv env A outer s H E) E) :
    FnR P w K mg base CX (k + 1) f (fun vs H Q E => ∃ x dx fs rest, vs = V.ref x :: rest ∧ rest.length ≤ sizeLine ∧ H x = some (.ins C dx fs) ∧ ∀ p, H p = none → sp (V.ref x :: rest) (upd H p (.tup rest)) (fun _ H' => Q .non H') E) := by
  intro A outer s H us vs Q E hr e0 r hsp
  obtain ⟨x, dx, fs, rest, rfl, hz, hx, hq⟩ := hsp
  obtain ⟨name, qual, params, scope, dV, kV, doc, pm, ct, oc, ccl, cl, an, od, cdd, cld, osl, ccs, csl, cc, cda, cvs, file, tf, ar, p0, p1, p2, p3, p4, p5, p6, lk, hcd, hhd, har, hcda, hfl, hfile, hcell, ⟨sc1, sc2, sc3, sc4, sck, sco, scg, scc, scf⟩, hbind⟩ := T.ex
  obtain ⟨cdD, hcD⟩ := T.cD
  obtain ⟨cdC, hcC⟩ := T.cC
  cases r with
  | cons r0 rt =>
    rename_i u urest
    cases r0
    have KX : K.In s.heap := e0.mod.kin.keeps fun b o e => (e0.bs b o e).1
    have hn : H s.heap.objs.size = none := e0.hok.fresh (Nat.le_refl _)
    have hl2 : urest.length ≤ sizeLine := by rw [← rt.length]; exact hz
    refine codeAny_call_function hr.depth (KX _ _ lk) rfl sco scg rfl (PySem.W.codeRec_of KX hcd) ?_
    rw [hbind]
    refine wpAny_bind (wpAny_newTuple (wpAny_pure ?_) hl2)
    have new : ObjOk P w (upd H s.heap.objs.size (.tup rest)) (s.heap.push ({ cls := .type "tuple", data := .seq urest.toArray } : Obj)) s.heap.objs.size (.tup rest) := ⟨hz, urest, rt, ⟨_, Heap.get?_push_size _ rfl, rfl, _, rfl⟩⟩
    have e1 := StX.env0_laid e0 new
    have un1 := StX.un_laid (fs := frs outer) (s := s) (o := ({ cls := .type "tuple", data := .seq urest.toArray } : Obj)) (u := .tup rest) hn
    have hpar : ∀ y ∈ [(("self" : Str), Value.ref x), (pv, Value.ref s.heap.objs.size)], scope.names.lookup y.1 = some .local := by
      intro y hy
      rcases List.mem_cons.mp hy with rfl | hy
      · exact sc3
      · rw [List.mem_singleton.mp hy]; exact sc4
    refine wpAny_newFunctionEnv scc hpar (fun h0 hns hsb => ?_) sck
    have kp : ∀ b o, (s.heap.push ({ cls := .type "tuple", data := .seq urest.toArray } : Obj)).get? b = some o → h0.get? b = some o := fun b o e =>
      hsb.extBut b o (Nat.ne_of_lt (Heap.lt_size e)) (Heap.get?_push_of_some _ e)
    have lim0 : (s.heap.push ({ cls := .type "tuple", data := .seq urest.toArray } : Obj)).NoLimit := e0.mod.nolimit.keeps fun b o e => (e1.bs b o e).1
    refine ⟨lim0.keeps kp, ks_codeAny_funcAt ?_⟩
    have I := sup_inv (CX := CX) (E := E) (tk := s.toks + 2) (qual := qual) (f := f) (cda := cda) (v1 := .ref x) (v2 := .ref s.heap.objs.size) e1 hr.hd hns kp rfl rfl T.nd hcell sc2 sc3 sc4 sck scc scf
    have xs : x ≠ s.heap.objs.size := ne_of_none hx hn
    have body := sup_eval (p0 := p0) (p1 := p1) (p2 := p2) (p3 := p3) (p4 := p4) (p5 := p5) (Q := Q) (dx := dx) (fs := fs) (rest := rest) (k := k) (sp := sp) (CX := CX) (E := E) rfl rfl I lk hhd har hcda hfl hfile hcell hcD hcC T.sub T.sup T.top T.opq T.next T.ty T.fi sc1 sc2 sc3 sc4 sck hdb hcdn
      (by rw [upd_ne xs]; exact hx) upd_same G (hr.deeper _) (hpass _ _ _ _ _ _) (hq _ hn) [.Expr (.Call (.Attribute (.Call (.Name "super" p0) [] [] p1) "__init__" p2) [.Starred (.Name pv p3) p4] [] p5) p6]
    refine ks_wpAt_execs_cons (ks_wpAt_Expr_any (ks_wpAt_mono body (fun v s' z => ?_) (fun e s' z => ?_)) (by show interactive (PySem.W.ksEnv qual scope _ f (.ref cda) cc) = false; unfold interactive; rw [show (PySem.W.ksEnv qual scope _ f (.ref cda) cc).scope.kind = .function from sck]; rfl))
    · obtain ⟨H', J, q⟩ := z
      refine PySem.wpAt_of_wpAny (wpAny_pure ?_)
      exact ⟨V.non, H', J.os, J.bare, un1.trans J.base, J.hok, rfl, q⟩
    · have up : ∀ b o, s.heap.get? b = some o → (s.heap.push ({ cls := .type "tuple", data := .seq urest.toArray } : Obj)).get? b = some o := fun b o e => Heap.get?_push_of_some _ e
      exact wpAny_mono z (fun _ s'' y => hCX outer s H { s with heap := s.heap.push ({ cls := .type "tuple", data := .seq urest.toArray } : Obj) } _ E e s'' un1 up rfl y) fun e' s'' y => hCX outer s H { s with heap := s.heap.push ({ cls := .type "tuple", data := .seq urest.toArray } : Obj) } _ E e' s'' un1 up rfl y
end
end Cr

namespace Cr
open PySem PySem.Spec PyProof.Rows L2

/-- ints, and tuples of such, so many deep -/
def PlainV (h : Heap) : Nat → Value → Prop
  | 0, v => ∃ i t, v = .int i t
  | n + 1, v => (∃ i t, v = .int i t) ∨ ∃ a o vs m, v = .ref a ∧ h.get? a = some o ∧ o.cls = .type "tuple" ∧ o.data = .seq vs m ∧ ∀ u ∈ vs.toList, PlainV h n u
structure KeyAt (h : Heap) (k : NestedKey) (a : Addr) : Prop where
  is : NestedIs h k (.ref a)
  dp : k.depth ≤ 8
  pl : PlainV h 8 (.ref a)
theorem PlainV.at {h h' : Heap} (kp : ∀ a o vs m, h.get? a = some o → o.data = .seq vs m → h'.get? a = some o) : ∀ n v, PlainV h n v → PlainV h' n v
  | 0, _, x => x
  | n + 1, v, x => by
    rcases x with x | ⟨a, o, vs, m, e, h1, h2, h3, h4⟩
    · exact .inl x
    · exact .inr ⟨a, o, vs, m, e, kp _ _ _ _ h1 h3, h2, h3, fun u hu => PlainV.at kp n u (h4 u hu)⟩
theorem KeyAt.at {h h' : Heap} {k : NestedKey} {a : Addr} (x : KeyAt h k a) (kp : ∀ a o vs m, h.get? a = some o → o.data = .seq vs m → h'.get? a = some o) : KeyAt h' k a := ⟨NestedIs.at kp _ _ x.is, x.dp, x.pl.at kp _ _⟩
theorem KeyAt.beside {h h' : Heap} {k : NestedKey} {a b : Addr} {o : Obj} {es : Array (Int × Value)} {ep : Nat} {t : SetTable} (x : KeyAt h k b) (ho : h.get? a = some o) (hd : o.data = .set es ep t) (hs : Heap.SameBut a h h') : KeyAt h' k b :=
  x.at fun c oc vs m hc hv => by
    refine (hs.2 c fun e => ?_).trans hc
    subst e
    rw [ho] at hc
    cases hc
    rw [hd] at hv
    cases hv
section
variable {P : Program} {w : World} {A : Around} {E : Value → Shared → Prop} {s : Shared}
theorem forIn_sure {vs : Array Value} {f : Value → Sem Bool} {g : Bool → Bool} {out : Bool} {Q : Option Bool × Unit → Shared → Prop}
    {body : Value → Option Bool × Unit → Sem (ForInStep (Option Bool × Unit))} (hb : ∀ v r, body v r = (f v >>= fun b => if g b = true then pure (.done (some out, ())) else pure (.yield (none, ()))))
    (hf : ∀ v ∈ vs.toList, ∀ (A : Around) (E : Value → Shared → Prop) (Q : Bool → Shared → Prop), (∀ b, g b = false → Q b s) → wpAny (model P w) A (f v) Q E s) (h : Q (none, ()) s) : wpAny (model P w) A (forIn vs (none, ()) body) Q E s := by
  rw [← Array.forIn_toList]
  refine wpAny_forIn_list _ (fun rest r s' => r = (none, ()) ∧ s' = s ∧ ∀ v ∈ rest, v ∈ vs.toList) _ ?_ ?_ _ _ ⟨rfl, rfl, fun v hv => hv⟩
  · rintro v rest r s' ⟨rfl, rfl, hall⟩
    rw [hb]
    refine wpAny_bind (hf v (hall v List.mem_cons_self) _ _ _ fun b gb => ?_)
    rw [if_neg (by rw [gb]; decide)]
    exact wpAny_pure ⟨rfl, rfl, fun u hu => hall u (List.mem_cons_of_mem _ hu)⟩
  · rintro r s' ⟨rfl, rfl, _⟩
    exact h
theorem own_not : ∀ (n : Nat) (v : Value), PlainV s.heap n v → ∀ (A : Around) (E : Value → Shared → Prop) (Q : Bool → Shared → Prop), Q false s → wpAny (model P w) A (ofAClassStatement n v) Q E s
  | 0, _, ⟨i, t, rfl⟩, A, E, Q, q => wpAny_pure q
  | n + 1, v, x, A, E, Q, q => by
    rcases x with ⟨i, t, rfl⟩ | ⟨a, o, vs, m, rfl, h1, h2, h3, h4⟩
    · exact wpAny_pure q
    · unfold ofAClassStatement
      refine wpAny_bind (wpAny_typeOf (T := "tuple") ⟨o, h1, h2⟩ ?_)
      dsimp only
      refine wpAny_bind (wpAny_pure ?_)
      simp only [Bool.not_true, Bool.false_eq_true, if_false]
      refine wpAny_bind (wpAny_seqItems h1 h3 ?_)
      dsimp only
      refine wpAny_bind (forIn_sure (f := ofAClassStatement n) (g := id) (out := true) (fun _ _ => rfl) (fun u hu A' E' Q' hq' => own_not n u (h4 u hu) A' E' Q' (hq' false rfl)) ?_)
      exact wpAny_pure q
theorem by_value : ∀ (n : Nat) (v : Value), PlainV s.heap n v → ∀ (A : Around) (E : Value → Shared → Prop) (Q : Bool → Shared → Prop), Q true s → wpAny (model P w) A (hashByValue n v) Q E s
  | 0, _, ⟨i, t, rfl⟩, A, E, Q, q => wpAny_pure q
  | n + 1, v, x, A, E, Q, q => by
    rcases x with ⟨i, t, rfl⟩ | ⟨a, o, vs, m, rfl, h1, h2, h3, h4⟩
    · exact wpAny_pure q
    · unfold hashByValue
      refine wpAny_bind (wpAny_specialOf (T := "tuple") ⟨o, h1, h2⟩ F.slot_tuple_hash.lookup ?_)
      dsimp only
      refine wpAny_bind (wpAny_seqItems h1 h3 ?_)
      refine wpAny_bind (forIn_sure (f := hashByValue n) (g := fun b => !b) (out := false) (fun _ _ => rfl) (fun u hu A' E' Q' hq' => by_value n u (h4 u hu) A' E' Q' (hq' true rfl)) ?_)
      exact wpAny_pure q
end

/-! ### the set: each key once -/
abbrev hk (w : World) (p : Addr × NestedKey) : Int := p.2.hash w
structure SetN (w : World) (h : Heap) (a : Addr) (L : List (Addr × NestedKey)) (es : Array (Int × Value)) (ep : Nat) (t : SetTable) : Prop where
  ob : ∃ o, h.get? a = some o ∧ o.ExactSet ∧ o.data = .set es ep t
  rows : es.toList = L.map fun p => (hk w p, Value.ref p.1)
  tab : TabOk t (L.map (hk w))
  plain : t.plain = true
  room : L.length * 5 < t.mask * 3
  few : L.length < 64
section
variable {P : Program} {w : World} {A : Around} {E : Value → Shared → Prop} {s : Shared} {a x : Addr} {L : List (Addr × NestedKey)} {es : Array (Int × Value)} {ep : Nat} {t : SetTable} {k : NestedKey}
theorem SetN.count (R : SetN w s.heap a L es ep t) : es.size = L.length := by
  rw [← Array.length_toList, R.rows, List.length_map]
theorem SetN.fits (R : SetN w s.heap a L es ep t) : t.fits es.size = true := by
  have e1 : t.place.size = L.length := by rw [R.tab.sz, List.length_map]
  have e2 := R.count
  have e3 := R.room
  unfold SetTable.fits SetTable.fill
  rw [R.tab.dm, Bool.and_eq_true, beq_iff_eq, decide_eq_true_eq]
  exact ⟨by omega, show t.place.size + 0 ≤ t.mask by omega⟩
theorem SetN.row (R : SetN w s.heap a L es ep t) {i : Nat} {p : Addr × NestedKey} (e : L[i]? = some p) : es[i]? = some (hk w p, Value.ref p.1) := by
  rw [← Array.getElem?_toList, R.rows, List.getElem?_map, e]
  rfl
/-- a search among such keys shows nothing -/
theorem unseen (kx : KeyAt s.heap k x) {ys : List Value} (hy : ∀ y ∈ ys, ∃ k' c, y = Value.ref c ∧ KeyAt s.heap k' c) {Q : Bool → Shared → Prop} (q : Q false s) : wpAny (model P w) A (searchCouldBeSeen (.ref x) ys) Q E s := by
  unfold searchCouldBeSeen
  refine wpAny_bind (wpAny_forIn_list _ (fun rest r s' => r.1 = none ∧ s' = s ∧ ∀ y ∈ rest, y ∈ ys) _ ?_ ?_ _ _ ⟨rfl, rfl, fun y h => h⟩)
  · rintro v rest r s' ⟨hr, rfl, hall⟩
    obtain ⟨k', c, rfl, kc⟩ := hy v (hall v List.mem_cons_self)
    have next : ∀ y ∈ rest, y ∈ ys := fun y h => hall y (List.mem_cons_of_mem _ h)
    dsimp only
    by_cases hv : (x == c || (carriedByValue (.ref x) && carriedByValue (.ref c))) = true
    · exact wp_if_pos hv (wpAny_pure ⟨rfl, rfl, next⟩)
    · refine wp_if_neg hv (wpAny_bind (quiet_key _ _ 8 _ kx.is kx.dp _ _ _ ?_))
      simp only [Bool.not_true, Bool.false_eq_true, if_false]
      refine wpAny_bind (quiet_key _ _ 8 _ kc.is kc.dp _ _ _ ?_)
      simp only [Bool.not_true, Bool.false_eq_true, if_false]
      refine wpAny_bind (own_not 8 _ kx.pl _ _ _ ?_)
      simp only [Bool.false_eq_true, if_false]
      refine wpAny_bind (own_not 8 _ kc.pl _ _ _ ?_)
      simp only [Bool.false_eq_true, if_false]
      exact wpAny_pure ⟨rfl, rfl, next⟩
  · rintro ⟨r1, r2⟩ s' ⟨hr, rfl, _⟩
    simp only at hr
    subst hr
    exact wpAny_pure q
/-- the way of k's probes through the table -/
abbrev road (w : World) (t : SetTable) (k : NestedKey) : SetTable.Probe := runAt t.mask (SetTable.bits (k.hash w) % (t.mask + 1)) (SetTable.bits (k.hash w))
theorem no_dummy (m : Nat) : ∀ (n : Nat) (p : SetTable.Probe), p.dummy = none → (nth m p n).dummy = none
  | 0, _, e => e
  | n + 1, p, e => no_dummy m n (adv m p) (by unfold adv; split <;> exact e)
/-- a key that is not there: the first empty slot of its way -/
theorem search_new (R : SetN w s.heap a L es ep t) (kL : ∀ p ∈ L, KeyAt s.heap p.2 p.1) (kx : KeyAt s.heap k x) (hne : ∀ p ∈ L, p.2 ≠ k) (hu : A.units + 8 < cLine) {K : Nat} (hKf : K < 10 * SetTable.turns t.mask)
    (hK : way t.mask (k.hash w) K ∉ t.place.toList) (hKb : ∀ c, c < K → way t.mask (k.hash w) c ∈ t.place.toList) {Q : SetFound → Shared → Prop} (q : Q (.free (way t.mask (k.hash w) K) false) s) :
    ∀ (f c : Nat) (stand : Option SetTable.Probe), stand.getD (t.probeStart (k.hash w)) = nth t.mask (road w t k) c → c ≤ K → K - c < f → wpAny (model P w) A (setSearchFrom a (.ref x) (k.hash w) true f stand) Q E s
  | 0, c, stand, _, _, hf => absurd hf (Nat.not_lt_zero _)
  | f + 1, c, stand, hst, hc, hf => by
    obtain ⟨o, ho, hex, hd⟩ := R.ob
    have hgw : ¬ t.gaveWay = true := by unfold SetTable.gaveWay; rw [mask_odd R.tab.mok]; decide
    rw [setSearchFrom_succ]
    refine wpAny_bind (wpAny_setState_of ho hd R.fits ?_)
    dsimp only
    refine wp_if_neg hgw ?_
    try refine wpAny_bind (wpAny_pure ?_)
    have sh : ∀ j, nth t.mask (nth t.mask (road w t k) c) j = nth t.mask (road w t k) (c + j) := fun j => (nth_add t.mask c _ j).symm
    have sj : ∀ j, (nth t.mask (nth t.mask (road w t k) c) j).j = way t.mask (k.hash w) (c + j) := fun j => congrArg SetTable.Probe.j (sh j)
    have spec := go_spec t R.tab.ris R.tab.dm (fun i => (es[i]?.map (·.1)).getD 0) (k.hash w) (10 * SetTable.turns t.mask) (K - c) _ (no_dummy t.mask c (road w t k) rfl) (by omega)
      (fun j hj => by rw [sj]; exact hKb (c + j) (by omega)) (by rw [sj, show c + (K - c) = K by omega]; exact hK)
    rcases spec with ⟨j, i, hj, hi, hh, hno, hpr⟩ | ⟨hno, hpr⟩
    · have e1 : t.probe (fun i => (es[i]?.map (·.1)).getD 0) (k.hash w) (stand.getD (t.probeStart (k.hash w))) = some (.candidate (way t.mask (k.hash w) (c + j)) i (nth t.mask (road w t k) (c + (j + 1)))) := by
        rw [hst, ← sj, ← sh]
        exact hpr
      rw [e1]
      dsimp only
      rw [sj] at hi
      have hil : i < L.length := by
        have h1 : i < t.place.toList.length := (List.getElem?_eq_some_iff.mp hi).1
        have h2 := R.tab.sz
        rw [List.length_map] at h2
        rw [Array.length_toList] at h1
        omega
      have hp : L[i]? = some L[i] := List.getElem?_eq_getElem hil
      generalize L[i] = p at hp
      have hm : p ∈ L := List.mem_of_getElem? hp
      have hneq : decide (p.2 = k) = false := decide_eq_false (hne p hm)
      have on : wpAny (model P w) A (searchRest a (.ref x) (k.hash w) true f es t (way t.mask (k.hash w) (c + j)) i (nth t.mask (road w t k) (c + (j + 1)))) Q E s := by
        unfold searchRest
        rw [R.row hp]
        dsimp only
        refine wpAny_bind (wpAny_holding ((nestedKind P w).eqBool hu ⟨(kL p hm).is, (kL p hm).dp⟩ ⟨kx.is, kx.dp⟩ ?_))
        refine wpAny_bind (wpAny_setState_of ho hd R.fits ?_)
        dsimp only
        refine wp_if_neg (by rw [hneq]; decide) ?_
        try refine wpAny_bind (wpAny_pure ?_)
        rw [sameMem]
        dsimp only
        have hsl : t.slot (way t.mask (k.hash w) (c + j)) = .live i := slot_live R.tab.ris hi
        simp only [if_true, hsl, R.row hp]
        refine wpAny_bind (wpAny_isSame_ref_self (wpAny_bind (wpAny_pure ?_)))
        simp only [if_true]
        refine wp_if_neg (by rw [hneq]; decide) ?_
        exact search_new R kL kx hne hu hKf hK hKb q f (c + (j + 1)) _ rfl (by omega) (by omega)
      by_cases hl : t.led = true
      · refine wp_if_neg (by rw [hl]; decide) ?_
        try refine wpAny_bind (wpAny_pure ?_)
        exact on
      · have hl' : t.led = false := by cases q : t.led <;> simp_all
        refine wp_if_pos (by rw [hl']; decide) ?_
        refine wpAny_bind (unseen kx (fun y hy => ?_) ?_)
        · obtain ⟨e, he, ee⟩ := List.mem_map.mp hy
          have he2 : e ∈ es.toList := by have z : e ∈ es ∧ e.1 = k.hash w := by simpa using he
                                         simpa using z.1
          rw [R.rows] at he2
          obtain ⟨p2, hp2, e2⟩ := List.mem_map.mp he2
          exact ⟨p2.2, p2.1, by rw [← ee, ← e2], kL p2 hp2⟩
        · refine wp_if_neg (by decide) ?_
          try refine wpAny_bind (wpAny_pure ?_)
          exact on
    · have e1 : t.probe (fun i => (es[i]?.map (·.1)).getD 0) (k.hash w) (stand.getD (t.probeStart (k.hash w))) = some (.empty (way t.mask (k.hash w) K) none) := by
        have e2 : way t.mask (k.hash w) K = (nth t.mask (nth t.mask (road w t k) c) (K - c)).j := by rw [sj, show c + (K - c) = K by omega]
        rw [hst, e2]
        exact hpr
      rw [e1]
      exact wpAny_pure q
end

section
variable {P : Program} {w : World} {A : Around} {E : Value → Shared → Prop} {s : Shared} {a x : Addr} {L : List (Addr × NestedKey)} {es : Array (Int × Value)} {ep : Nat} {t : SetTable} {k : NestedKey}
/-- entries taken in the order of a permutation of their places -/
theorem reorder {es : Array (Int × Value)} {L : List (Addr × NestedKey)} (hr : es.toList = L.map fun p => (hk w p, Value.ref p.1)) {order : Array Nat} (hp : order.toList.Perm (List.range L.length)) :
    ∃ L2 : List (Addr × NestedKey), (order.filterMap (es[·]?)).toList = L2.map (fun p => (hk w p, Value.ref p.1)) ∧ L2.Perm L ∧ L2.map (hk w) = order.toList.map fun i => (es.map (·.1)).getD i 0 := by
  have at_ : ∀ i (h : i < L.length), es[i]? = some (hk w L[i], Value.ref L[i].1) := fun i h => by
    rw [← Array.getElem?_toList, hr, List.getElem?_map, List.getElem?_eq_getElem h]
    rfl
  have part : ∀ l : List Nat, (∀ i ∈ l, i < L.length) → l.filterMap (fun i => es[i]?) = (l.filterMap (fun i => L[i]?)).map (fun p => (hk w p, Value.ref p.1)) ∧ (l.filterMap (fun i => L[i]?)).map (hk w) = l.map fun i => (es.map (·.1)).getD i 0 := by
    intro l
    induction l with
    | nil => intro _; exact ⟨rfl, rfl⟩
    | cons i l ih =>
      intro hl
      have hi := hl i List.mem_cons_self
      obtain ⟨e1, e2⟩ := ih fun j hj => hl j (List.mem_cons_of_mem _ hj)
      have e4 : (es.map (·.1)).getD i 0 = hk w L[i] := by
        have e5 : (es.map (·.1))[i]? = some (hk w L[i]) := by rw [Array.getElem?_map, at_ i hi]; rfl
        simp [Array.getD_eq_getD_getElem?, e5]
      rw [List.filterMap_cons_some (at_ i hi), List.filterMap_cons_some (List.getElem?_eq_getElem hi), List.map_cons, List.map_cons, List.map_cons, e1, e2, e4]
      exact ⟨rfl, rfl⟩
  obtain ⟨e1, e2⟩ := part order.toList fun i hi => List.mem_range.mp (hp.mem_iff.mp hi)
  refine ⟨_, by first | (rw [Array.toList_filterMap]; exact e1) | simpa using e1, ?_, e2⟩
  have all : ∀ n, n ≤ L.length → (List.range n).filterMap (fun i => L[i]?) = L.take n := by
    intro n
    induction n with
    | zero => intro _; rfl
    | succ n ih =>
      intro hn
      rw [List.range_succ, List.filterMap_append, ih (Nat.le_of_succ_le hn), List.take_succ, List.getElem?_eq_getElem hn, List.filterMap_cons_some (List.getElem?_eq_getElem hn)]
      rfl
  have z := hp.filterMap (fun i => L[i]?)
  rw [all L.length (Nat.le_refl _), List.take_length] at z
  exact z
/-- the table laid anew -/
theorem relay_new {o : Obj} (ho : s.heap.get? a = some o) (hex : o.ExactSet) (hd : o.data = .set es ep t) (hr : es.toList = L.map fun p => (hk w p, Value.ref p.1)) (hsz : t.place.size = es.size) (hdm : t.dummies = #[]) (hfl : es.size ≤ t.mask)
    (pl : t.plain = true) (few : L.length < 64) {wanted M : Nat} (hw : SetTable.sizeAbove wanted - 1 = M) (hM : MaskOk M) (hw2 : SetTable.sizeAbove wanted ≤ 128) (hn : L.length * 5 < M * 3) {Q : Unit → Shared → Prop}
    (q : ∀ h' L' es' ep' t', Heap.SameBut a s.heap h' → SetN w h' a L' es' ep' t' → L'.Perm L → Q () { s with heap := h' }) : wpAny (model P w) A (setRelay a wanted) Q E s := by
  have hsl : es.size = L.length := by rw [← Array.length_toList, hr, List.length_map]
  have hfits : t.fits es.size = true := by
    unfold SetTable.fits SetTable.fill
    rw [hdm, Bool.and_eq_true, beq_iff_eq, decide_eq_true_eq]
    exact ⟨hsz, show t.place.size + 0 ≤ t.mask by omega⟩
  obtain ⟨t', order, e, hp, T, em, el, ep', ed⟩ := relaid_ok t (hs := es.map (·.1)) (wanted := wanted) hw hM (by rw [Array.size_map, hsl]; omega)
  rw [Array.size_map, hsl] at hp
  obtain ⟨L2, r1, r2, r3⟩ := reorder hr hp
  rw [← r3] at T
  have hs2 : (order.filterMap (es[·]?)).size = es.size := by rw [← Array.length_toList, r1, List.length_map, r2.length_eq, hsl]
  rw [setRelay_eq]
  refine wpAny_bind (wpAny_setState_of ho hd hfits ?_)
  dsimp only
  refine wp_if_neg (by rw [sizeLine_eq]; omega) ?_
  try refine wpAny_bind (wpAny_pure ?_)
  rw [e]
  dsimp only
  refine wpAny_bind (wp_if_neg (by rw [hs2]; simp) ?_)
  try refine wpAny_bind (wpAny_pure ?_)
  refine wpAny_pure ?_
  dsimp only
  refine wpAny_storeSet_of ho hd ?_ (by rw [hs2, hsl, sizeLine_eq]; omega)
  have sb : Heap.SameBut a s.heap (s.heap.update a (Obj.putSet (order.filterMap (es[·]?)) t')) := Heap.SameBut.update ..
  refine q _ L2 (order.filterMap (es[·]?)) (ep + 1) t' sb ⟨⟨_, store_at ho hd, ⟨hex.1, hex.2.1, hex.2.2⟩, rfl⟩, r1, T, by rw [ep']; exact pl, by rw [r2.length_eq, em]; exact hn, by rw [r2.length_eq]; exact few⟩ r2
/-- one more key -/
theorem add_new (R : SetN w s.heap a L es ep t) (kL : ∀ p ∈ L, KeyAt s.heap p.2 p.1) (kx : KeyAt s.heap k x) (hne : ∀ p ∈ L, p.2 ≠ k) (hu : A.units + 8 < cLine) (hfew : L.length + 1 < 64) {Q : Bool → Shared → Prop}
    (q : ∀ b h' L' es' ep' t', Heap.SameBut a s.heap h' → SetN w h' a L' es' ep' t' → L'.Perm ((x, k) :: L) → Q b { s with heap := h' }) : wpAny (model P w) A (setAddHashed a (.ref x) (k.hash w)) Q E s := by
  obtain ⟨o, ho, hex, hd⟩ := R.ob
  have hsl := R.count
  have hroom := R.room
  obtain ⟨K, hKf, hK, hKb⟩ := R.tab.first (by rw [List.length_map]; omega) (k.hash w)
  have hbig : K < 100000 := by
    have z : 10 * SetTable.turns t.mask ≤ 1420 := by
      unfold SetTable.turns
      rcases R.tab.mok with e | e | e <;> omega
    omega
  unfold setAddHashed
  refine wpAny_holding ?_
  rw [show (100000 : Nat) = 99999 + 1 from rfl, setAddHashedIn_succ]
  refine wpAny_bind (wpAny_setState_of ho hd R.fits ?_)
  dsimp only
  refine wp_if_neg (by simp [byScan, Value.scannable]) ?_
  try refine wpAny_bind (wpAny_pure ?_)
  unfold setSearch
  refine wpAny_bind (search_new R kL kx hne hu hKf hK hKb ?_ 100000 0 none rfl (Nat.zero_le _) (by omega))
  dsimp only
  refine wpAny_bind (wpAny_setState_of ho hd R.fits ?_)
  dsimp only
  obtain ⟨q1, q2, q3, q4, q5, q6, q7, q8, q9⟩ := R.tab.put hK hKb
  have hp1 : (t.put (way t.mask (k.hash w) K)).1.plain = true := by rw [q6]; exact R.plain
  generalize hpt : t.put (way t.mask (k.hash w) K) = pt at q1 q3 q4 q5 q6 q7 q8 q9 hp1 ⊢
  obtain ⟨t1, p⟩ := pt
  dsimp only at q1 q3 q4 q5 q6 q7 q8 q9 hp1 ⊢
  subst q1
  first
    | (refine wpAny_bind ?_; refine wp_if_pos hp1 ?_; refine by_value 8 _ kx.pl _ _ _ ?_)
    | refine wp_if_pos hp1 (wpAny_bind (by_value 8 _ kx.pl _ _ _ ?_))
  simp only [if_true]
  generalize hpp : SetTable.below t.place (way t.mask (k.hash w) K) = p at q2 q3 ⊢
  have hin : (SetTable.insertAt es p (k.hash w, Value.ref x)).toList = (L.take p ++ (x, k) :: L.drop p).map fun p => (hk w p, Value.ref p.1) := by
    rw [SetTable.toList_insertAt, R.rows, List.map_append, List.map_cons, List.map_take, List.map_drop]
  have pm : (L.take p ++ (x, k) :: L.drop p).Perm ((x, k) :: L) := put_perm L p (x, k)
  have hhs : (L.take p ++ (x, k) :: L.drop p).map (hk w) = (L.map (hk w)).take p ++ k.hash w :: (L.map (hk w)).drop p := by rw [List.map_append, List.map_cons, List.map_take, List.map_drop]
  rw [← hhs] at q3
  have hlen : (L.take p ++ (x, k) :: L.drop p).length = L.length + 1 := pm.length_eq
  have hes : (SetTable.insertAt es p (k.hash w, Value.ref x)).size = L.length + 1 := by rw [← Array.length_toList, hin, List.length_map, hlen]
  generalize SetTable.insertAt es p (k.hash w, Value.ref x) = es1 at hin hes ⊢
  generalize L.take p ++ (x, k) :: L.drop p = L1 at pm hlen q3 hin
  refine wpAny_bind (wpAny_storeSet_of ho hd ?_ (by rw [hes, sizeLine_eq]; omega))
  have sb : Heap.SameBut a s.heap (s.heap.update a (Obj.putSet es1 t1)) := Heap.SameBut.update ..
  have ho1 := store_at (es' := es1) (t' := t1) ho hd
  generalize s.heap.update a (Obj.putSet es1 t1) = h1 at sb ho1 ⊢
  by_cases hf : t1.tooFull = true
  · first
      | (refine wpAny_bind ?_; refine wp_if_pos (by simp [hf]) ?_)
      | (refine wp_if_pos (by simp [hf]) ?_; refine wpAny_bind ?_)
    have hfull : (L.length + 1) * 5 ≥ t1.mask * 3 := by
      unfold SetTable.tooFull at hf
      rw [decide_eq_true_eq, q9, List.length_map] at hf
      exact hf
    rw [hsl]
    have hsz1 : t1.place.size = es1.size := by rw [q3.sz, List.length_map, hlen, hes]
    have two : (t.mask = 7 ∧ L.length = 4) ∨ (t.mask = 31 ∧ L.length = 18) := by
      rcases R.tab.mok with e | e | e
      · left; rw [q4, e] at hfull; rw [e] at hroom; exact ⟨e, by omega⟩
      · right; rw [q4, e] at hfull; rw [e] at hroom; exact ⟨e, by omega⟩
      · exfalso; rw [q4, e] at hfull; omega
    have go : ∀ M, SetTable.sizeAbove (SetTable.grown (L.length + 1)) - 1 = M → MaskOk M → SetTable.sizeAbove (SetTable.grown (L.length + 1)) ≤ 128 → (L.length + 1) * 5 < M * 3 →
        wpAny (model P w) A (setRelay a (SetTable.grown (L.length + 1))) (fun _ s' => wpAny (model P w) A (pure true) Q E s') E { s with heap := h1 } := fun M y1 y2 y3 y4 => by
      refine relay_new (s := { s with heap := h1 }) ho1 ⟨hex.1, hex.2.1, hex.2.2⟩ rfl hin hsz1 q3.dm (by rw [hes, q4]; rcases two with ⟨e, e2⟩ | ⟨e, e2⟩ <;> omega) hp1 (by rw [hlen]; exact hfew) y1 y2 y3 (by rw [hlen]; exact y4) ?_
      intro h2 L2 es2 ep2 t2 sb2 R2 pm2
      exact wpAny_pure (q true h2 L2 es2 ep2 t2 (sb.trans sb2) R2 (pm2.trans pm))
    rcases two with ⟨_, e2⟩ | ⟨_, e2⟩
    · exact go 31 (by rw [e2, size_20]) (.inr (.inl rfl)) (by rw [e2, size_20]; decide) (by omega)
    · exact go 127 (by rw [e2, size_76]) (.inr (.inr rfl)) (by rw [e2, size_76]; decide) (by omega)
  · first
      | refine wp_if_neg (by simp [hf]) ?_
      | (refine wpAny_bind ?_; refine wp_if_neg (by simp [hf]) ?_; refine wpAny_pure ?_)
    refine wpAny_pure (q true h1 L1 es1 (ep + 1) t1 sb ⟨⟨_, ho1, ⟨hex.1, hex.2.1, hex.2.2⟩, rfl⟩, hin, q3, hp1, ?_, by rw [hlen]; exact hfew⟩ pm)
    unfold SetTable.tooFull at hf
    rw [decide_eq_true_eq, q9, List.length_map] at hf
    rw [hlen]
    omega
end

abbrev set0 (w : World) : Obj := { cls := .type "set", dict := none, data := .set #[] 0 (.fresh 0 0 (!w.params.followText "set-order")) }
section
variable {P : Program} {w : World} {A : Around} {E : Value → Shared → Prop} {s : Shared}
theorem setN_none {h : Heap} {a : Addr} (ho : h.get? a = some (set0 w)) : SetN w h a [] #[] 0 (.fresh 0 0 (!w.params.followText "set-order")) :=
  ⟨⟨_, ho, ⟨rfl, rfl, rfl⟩, rfl⟩, rfl, ⟨List.Pairwise.nil, rfl, rfl, .inl rfl, fun x hx => (by cases hx), fun i h j hi => (by simp at hi)⟩, rfl, (show 0 * 5 < 7 * 3 by decide), (show 0 < 64 by decide)⟩
theorem SetN.keep {h h' : Heap} {a : Addr} {L : List (Addr × NestedKey)} {es : Array (Int × Value)} {ep : Nat} {t : SetTable} (R : SetN w h a L es ep t) (kp : ∀ o, h.get? a = some o → h'.get? a = some o) : SetN w h' a L es ep t := by
  obtain ⟨o, ho, r⟩ := R.ob
  exact ⟨⟨o, kp o ho, r⟩, R.rows, R.tab, R.plain, R.room, R.few⟩
theorem nodup_same {α : Type} {l : List α} (nd : l.Nodup) {i j : Nat} {x : α} (a : l[i]? = some x) (b : l[j]? = some x) : i = j := by
  obtain ⟨h1, e1⟩ := List.getElem?_eq_some_iff.mp a
  obtain ⟨h2, e2⟩ := List.getElem?_eq_some_iff.mp b
  exact (List.getElem_inj nd).mp (e1.trans e2.symm)
/-- the loop that fills the set, from the i-th item on -/
theorem fill_new {I : Addr} {fp wr : List Addr} {G : Array GenState → Array GenState → Prop} {n : Nat} {Pv : Nat → Value → Prop} {St : Nat → Shared → Prop} {R : Result → Shared → Prop}
    (W : WalksS P w A.in1 I fp wr G n Pv St) (S : Addr) (hSf : S ∉ fp) (ks : List (Addr × NestedKey)) (hn : n = ks.length) (nd : (ks.map (·.2)).Nodup) (hfew : ks.length < 64) (hval : ∀ i v, Pv i v → ∃ p, ks[i]? = some p ∧ v = .ref p.1)
    (h0 : Heap) (hkey : ∀ p ∈ ks, KeyAt h0 p.2 p.1) (hS0 : h0.get? S = none) (hw0 : ∀ b ∈ wr, h0.get? b = none) (hu : A.in1.units + 8 < cLine) :
    ∀ (m i : Nat) (s : Shared), n - i = m → i ≤ n → St i s → (∀ b o, h0.get? b = some o → s.heap.get? b = some o) → (∃ L es ep t, SetN w s.heap S L es ep t ∧ L.Perm (ks.take i)) →
      (∀ s' L es ep t, Moved (S :: wr) G s s' → SetN w s'.heap S L es ep t → L.Perm ks → (∀ b o, h0.get? b = some o → s'.heap.get? b = some o) → R (.ok (.ret .none)) s') →
      codeAny (model P w) A (.builtin "set.update.loop" ⟨[.ref S, .ref I], []⟩) R s := by
  have hSw : S ∉ wr := fun h => hSf (W.sub _ h)
  have sub1 : ∀ b ∈ wr, b ∈ S :: wr := fun b hb => List.mem_cons_of_mem _ hb
  have stay : ∀ {s s' : Shared}, Moved wr G s s' → (∀ b o, h0.get? b = some o → s.heap.get? b = some o) → ∀ b o, h0.get? b = some o → s'.heap.get? b = some o := fun hm hkp b o e =>
    hm.heap b o (fun hb => by rw [hw0 b hb] at e; cases e) (hkp b o e)
  intro m
  induction m with
  | zero =>
    intro i s hm0 hi hst hkp ⟨L, es, ep, t, hS, g⟩ hR
    obtain rfl : i = n := by omega
    refine codeAny_builtin F.entry_set_update_loop ?_
    rw [Around.under_plainId F.plain_set_update_loop _]
    show wpAny _ A.in1 (pyNext (.ref I) >>= _) _ _ s
    refine wpAny_bind (W.done s _ _ hst fun s' hm => ?_)
    show wpAny _ A.in1 (ret Value.none) _ _ s'
    rw [hn, List.take_length] at g
    exact wpAny_pure (hR s' L es ep t (hm.mono sub1) (hS.keep fun o e => hm.heap S o hSw e) g (stay hm hkp))
  | succ m ih =>
    intro i s hm0 hi hst hkp ⟨L, es, ep, t, hS, g⟩ hR
    have hlt : i < n := by omega
    refine codeAny_builtin F.entry_set_update_loop ?_
    rw [Around.under_plainId F.plain_set_update_loop _]
    show wpAny _ A.in1 (pyNext (.ref I) >>= _) _ _ s
    refine wpAny_bind (W.item i s _ _ hlt hst fun v s' hP hst' hm => ?_)
    obtain ⟨p, hp, rfl⟩ := hval i v hP
    have hkp' := stay hm hkp
    have hmem : ∀ q ∈ L, q ∈ ks := fun q hq => List.mem_of_mem_take (g.mem_iff.mp hq)
    have kat : ∀ q ∈ ks, KeyAt s'.heap q.2 q.1 := fun q hq => (hkey q hq).at fun b o _ _ e _ => hkp' b o e
    have hS' : SetN w s'.heap S L es ep t := hS.keep fun o e => hm.heap S o hSw e
    have hpk : p ∈ ks := List.mem_of_getElem? hp
    have new : ∀ q ∈ L, q.2 ≠ p.2 := fun q hq e => by
      obtain ⟨j, hj⟩ := List.mem_iff_getElem?.mp (g.mem_iff.mp hq)
      have hji : j < i := by
        have z := (List.getElem?_eq_some_iff.mp hj).1
        rw [List.length_take] at z
        omega
      rw [List.getElem?_take_of_lt hji] at hj
      have a1 : (ks.map (·.2))[j]? = some p.2 := by rw [List.getElem?_map, hj, ← e]; rfl
      have a2 : (ks.map (·.2))[i]? = some p.2 := by rw [List.getElem?_map, hp]; rfl
      have := nodup_same nd a1 a2
      omega
    show wpAny _ A.in1 (holding [Value.ref p.1] (setAdd S (.ref p.1)) >>= _) _ _ s'
    refine wpAny_bind (wpAny_holding ?_)
    unfold setAdd
    refine wpAny_holding (wpAny_bind ((nestedKind P w).pyHash hu ⟨(kat p hpk).is, (kat p hpk).dp⟩ ?_))
    have hll : L.length = i := by rw [g.length_eq, List.length_take]; omega
    refine add_new (s := { s' with toks := s'.toks + p.2.draws }) hS' (fun q hq => kat q (hmem q hq)) (kat p hpk) new hu (by omega) fun b h' L' es' ep' t' hsb hS2 pm => ?_
    have g' : L'.Perm (ks.take (i + 1)) := by
      rw [List.take_succ, hp]
      exact pm.trans (((g.cons p)).trans (List.perm_append_comm (l₁ := [p]) (l₂ := ks.take i)))
    have hkp2 : ∀ b o, h0.get? b = some o → h'.get? b = some o := fun b o e => (hsb.2 b (fun z => by rw [z, hS0] at e; cases e)).trans (hkp' b o e)
    refine wpAny_pure ⟨plainId_quiet F.plain_set_update_loop _, ih (i + 1) _ (by omega) hlt (W.frame _ s' _ _ hst' (Nat.le_add_right _ _) fun b hb o e => ?_) hkp2 ⟨L', es', ep', t', hS2, g'⟩ fun s'' L2 es2 ep2 t2 hm'' hS'' g'' hkp'' => ?_⟩
    · rw [hsb.2 b (fun h : b = S => hSf (by rw [← h]; exact hb))]; exact e
    · refine hR s'' L2 es2 ep2 t2 (Moved.trans W.gtrans ((hm.mono sub1).then_heap (Nat.le_add_right _ _) fun b o hb e => ?_) hm'') hS'' g'' hkp''
      rw [hsb.2 b (fun h : b = S => hb (by rw [h]; exact List.mem_cons_self))]; exact e
end

section
variable {P : Program} {w : World} {A : Around} {E : Value → Shared → Prop} {s : Shared}
theorem absent_from {h : Heap} {b : Addr} (hb : h.objs.size ≤ b) : h.get? b = none := by
  cases q : h.get? b with
  | none => rfl
  | some o => exact absurd (Nat.lt_of_lt_of_le (Heap.lt_size q) hb) (Nat.lt_irrefl _)
/-- what set.__init__ does with a tuple of different keys -/
theorem init_new {l : Addr} {items : Array Value} (ks : List (Addr × NestedKey)) (hh : A.handled = none) (hl : s.heap.IsTuple l items) (hit : items.toList = ks.map fun p => Value.ref p.1) (hkey : ∀ p ∈ ks, KeyAt s.heap p.2 p.1) (nd : (ks.map (·.2)).Nodup)
    (hfew : ks.length < 64) (hu : A.units + 20 < cLine) :
    wpAny (model P w) A.in1.in1 (Builtin.«set.__init__» ⟨[.ref s.heap.objs.size, .ref l], []⟩)
      (fun fin s' => match fin with
        | .done f => wants (fun r s2 => r = .none ∧ ∃ h' tk L es ep t, s2 = { s with heap := h', toks := tk } ∧ SetN w h' s.heap.objs.size L es ep t ∧ L.Perm ks ∧ ∀ b o, s.heap.get? b = some o → h'.get? b = some o) E (.ok f) s'
        | .again c' => c'.quiet = true ∧ codeAny (model P w) A.in1 c' (wants (fun r s2 => r = .none ∧ ∃ h' tk L es ep t, s2 = { s with heap := h', toks := tk } ∧ SetN w h' s.heap.objs.size L es ep t ∧ L.Perm ks ∧ ∀ b o, s.heap.get? b = some o → h'.get? b = some o) E) s')
      (fun e s' => wants (fun r s2 => r = .none ∧ ∃ h' tk L es ep t, s2 = { s with heap := h', toks := tk } ∧ SetN w h' s.heap.objs.size L es ep t ∧ L.Perm ks ∧ ∀ b o, s.heap.get? b = some o → h'.get? b = some o) E (.error e) s')
      { s with heap := s.heap.push (set0 w) } := by
  have hisz : items.size = ks.length := by rw [← Array.length_toList, hit, List.length_map]
  obtain ⟨ol, hol, hcl, nl, hdl⟩ := hl
  obtain ⟨ocls, odict, odata, oslots⟩ := ol
  simp only at hcl hdl
  subst hcl; subst hdl
  have hS : (s.heap.push (set0 w)).get? s.heap.objs.size = some (set0 w) := Heap.get?_push_size _ rfl
  have hol' : (s.heap.push (set0 w)).get? l = some { cls := .type "tuple", dict := odict, data := .seq items nl, slots := oslots } := Heap.get?_push_of_some _ hol
  have hsls := F.sub_tuple_set
  have hslf := F.sub_tuple_frozenset
  have hne : (Value.type "tuple" == Value.type "dict") = false := by decide
  have hl1 : (s.heap.push (set0 w)).IsTuple l items := ⟨_, hol', rfl, nl, rfl⟩
  have hlS : l < s.heap.objs.size := Heap.lt_size hol
  have hz1 : (s.heap.push (set0 w)).objs.size = s.heap.objs.size + 1 := Heap.size_push ..
  unfold Builtin.«set.__init__» noKeywords Builtin.Frozenset.updateFrom
  generalize hPI : pyIter = PI
  wp_walk
  subst hPI
  refine wpAny_pyIter_tuple hl1 (wpAny_bind (wpAny_runValue ?_))
  have hh3 : A.in1.in1.in1.handled = none := by simp [hh]
  have hneI : l ≠ (s.heap.push (set0 w)).objs.size := by rw [hz1]; exact Nat.ne_of_lt (Nat.lt_succ_of_lt hlS)
  have hSf : s.heap.objs.size ∉ [(s.heap.push (set0 w)).objs.size, l] := by
    rw [hz1]
    simp only [List.mem_cons, List.mem_singleton, List.not_mem_nil, or_false, not_or]
    exact ⟨Nat.ne_of_lt (Nat.lt_succ_self _), Nat.ne_of_gt hlS⟩
  have hval : ∀ (i : Nat) (v : Value), items[i]? = some v → ∃ p, ks[i]? = some p ∧ v = .ref p.1 := fun i v hv => by
    rw [← Array.getElem?_toList, hit, List.getElem?_map] at hv
    cases hq : ks[i]? with
    | none => rw [hq] at hv; cases hv
    | some p => rw [hq] at hv; exact ⟨p, rfl, (Option.some.inj hv).symm⟩
  refine fill_new ((Walks.tuple hh3 _ l hneI items).toS) s.heap.objs.size hSf ks hisz nd hfew hval s.heap hkey (absent_from (Nat.le_refl _))
    (fun b hb => absent_from (by rw [List.mem_singleton.mp hb, hz1]; omega)) (by show A.units + 3 + 8 < cLine; omega) (items.size - 0) 0 _ (by omega) (Nat.zero_le _)
    ⟨⟨_, Heap.get?_push_size _ rfl, rfl, rfl⟩, (hl1.push _)⟩ (fun b o e => Heap.get?_push_of_some _ (Heap.get?_push_of_some _ e)) ⟨[], #[], 0, _, setN_none (Heap.get?_push_of_some _ hS), by simp⟩ fun s' L es ep t hm hS' g' hkp => ?_
  obtain ⟨h', g2, d', tk', os'⟩ := s'
  have eg : g2 = s.gens := hm.gens
  have ed : d' = s.drawn := hm.drawn
  have eo : os' = s.os := hm.os
  subst eg; subst ed; subst eo
  show wpAny _ _ _ _ _ _
  refine wpAny_pure ?_
  show wpAny _ _ (ret Value.none) _ _ _
  exact wpAny_pure ⟨rfl, h', tk', L, es, ep, t, rfl, hS', g', hkp⟩
/-- set(t), t a tuple of different keys -/
theorem call_setT {l : Addr} {items : Array Value} (ks : List (Addr × NestedKey)) {Q : Value → Shared → Prop} (hh : A.handled = none) (hl : s.heap.IsTuple l items) (hit : items.toList = ks.map fun p => Value.ref p.1) (hkey : ∀ p ∈ ks, KeyAt s.heap p.2 p.1)
    (nd : (ks.map (·.2)).Nodup) (hfew : ks.length < 64) (hu : A.units + 30 < cLine)
    (q : ∀ (h' : Heap) (tk : Nat) L es ep t, SetN w h' s.heap.objs.size L es ep t → L.Perm ks → (∀ b o, s.heap.get? b = some o → h'.get? b = some o) → Q (.ref s.heap.objs.size) { s with heap := h', toks := tk }) :
    wpAny (model P w) A (call (.type "set") [.ref l]) Q E s := by
  obtain ⟨c, tl, hmro⟩ := F.called_set.mro
  have hmade := F.called_set.made
  have hsub := F.called_set.sub
  refine wpAny_call (codeAny_of_tree ?_)
  show wpAny _ _ (callAny (.type "set") _) _ _ _
  refine wpAny_pure ⟨Code.quiet_builtin _ (by decide +kernel), codeAny_builtin F.entry_type_call ?_⟩
  rw [Around.under_plain (weight_type_call_type "set" [.ref l] []) rfl]
  have h1 := F.called_set.notType
  have h2 := F.called_set.canCreate
  have hct := F.typeCall_set_1 (.ref l)
  repeat (any_goals (first | assumption | wp_step))
  refine codeAny_mono (code_set_led1 (.ref l) (E := E) (Q₁ := fun obj s1 => obj = .ref s.heap.objs.size ∧ s1 = { s with heap := s.heap.push (set0 w) }) ⟨rfl, rfl⟩) fun r s1 hr => ?_
  cases r with
  | error e => exact hr
  | ok fl =>
    cases fl with
    | ret obj =>
      obtain ⟨rfl, rfl⟩ := hr
      have hT : Shared.TypeIs { s with heap := s.heap.push (set0 w) } (.ref s.heap.objs.size) "set" := ⟨_, Heap.get?_push_size _ rfl, rfl⟩
      have hli := F.called_set.init.lookup
      have hbi := F.called_set.init.bind (.ref s.heap.objs.size)
      repeat (any_goals (first | assumption | wp_step))
      refine codeAny_mono (codeAny_call_builtin F.called_set.init.plain F.entry_set_init (check_set_init_1 hT (init_new (A := A) (E := E) ks hh hl hit hkey nd hfew (by omega)))) fun r2 s2 hr2 => ?_
      cases r2 with
      | error e => exact hr2
      | ok fl2 =>
        cases fl2 with
        | ret r =>
          obtain ⟨rfl, h', tk, L, es, ep, t, rfl, hS', g', hk'⟩ := hr2
          repeat (any_goals (first | assumption | wp_step))
          exact q _ _ _ _ _ _ hS' g' hk'
        | _ => exact hr2.elim
    | _ => exact hr.elim
end

/-! ### data that may be a key -/
mutual
def toKey : PyData → NestedKey
  | .int i => .num i
  | .tuple ds => .tup (toKeys ds)
  | .none => .none
  | .bool _ => .none
  | .str _ => .none
  | .list _ => .none
  | .dict _ => .none
def toKeys : List PyData → List NestedKey
  | [] => []
  | d :: ds => toKey d :: toKeys ds
end
def KeyD : Nat → PyData → Prop
  | 0, d => ∃ i, d = .int i
  | n + 1, d => (∃ i, d = .int i) ∨ ∃ ds, d = .tuple ds ∧ ∀ e ∈ ds, KeyD n e
theorem toKeys_map : ∀ ds, toKeys ds = ds.map toKey
  | [] => rfl
  | d :: ds => by rw [toKeys, toKeys_map ds, List.map_cons]
theorem depthAll_le {n : Nat} : ∀ ks : List NestedKey, (∀ k ∈ ks, k.depth ≤ n) → NestedKey.depthAll ks ≤ n
  | [], _ => Nat.zero_le _
  | k :: ks, h => Nat.max_le.mpr ⟨h k List.mem_cons_self, depthAll_le ks fun j hj => h j (List.mem_cons_of_mem _ hj)⟩
section
variable {X : Cx} {pins : List (Addr × Obj)} {σ : L2.St} {H : Hp} {s : Shared}
theorem key_of (I : Inv X pins σ H s) : ∀ (n : Nat) (d : PyData) (v : V) (u : Value), KeyD n d → Dp X.K H v d → RelV v u → NestedIs s.heap (toKey d) u ∧ PlainV s.heap n u ∧ (toKey d).depth ≤ n
  | 0, _, v, u, ⟨i, rfl⟩, h, r => by
    cases h
    obtain ⟨t, rfl⟩ := r
    exact ⟨.int i t, ⟨i, t, rfl⟩, Nat.le_refl _⟩
  | n + 1, d, v, u, hd, h, r => by
    rcases hd with ⟨i, rfl⟩ | ⟨ds, rfl, hds⟩
    · cases h
      obtain ⟨t, rfl⟩ := r
      exact ⟨.int i t, .inl ⟨i, t, rfl⟩, Nat.zero_le _⟩
    · cases h with
      | tup hs ha =>
        rename_i a xs
        cases r
        obtain ⟨its, rv, ⟨o, ho, hc, m, hdt⟩, hz⟩ := I.tuple hs
        have all : ∀ (ds : List PyData) (xs : List V) (its : List Value), (∀ e ∈ ds, KeyD n e) → DpAll X.K H xs ds → Vals xs its → NestedAll s.heap (toKeys ds) its ∧ (∀ w ∈ its, PlainV s.heap n w) ∧ ∀ k ∈ toKeys ds, k.depth ≤ n := by
          intro ds
          induction ds with
          | nil =>
            intro xs its _ h1 h2
            cases h1
            cases h2
            exact ⟨.nil, fun w hw => (nomatch hw), fun k hk => (nomatch hk)⟩
          | cons d ds ih =>
            intro xs its hk h1 h2
            cases h1 with
            | cons a1 a2 =>
              cases h2 with
              | cons b1 b2 =>
                obtain ⟨e1, e2, e3⟩ := key_of I n d _ _ (hk d List.mem_cons_self) a1 b1
                obtain ⟨f1, f2, f3⟩ := ih _ _ (fun e he => hk e (List.mem_cons_of_mem _ he)) a2 b2
                refine ⟨.cons e1 f1, fun w hw => ?_, fun k hk => ?_⟩
                · rcases List.mem_cons.mp hw with rfl | hw
                  · exact e2
                  · exact f2 w hw
                · rcases List.mem_cons.mp hk with rfl | hk
                  · exact e3
                  · exact f3 k hk
        obtain ⟨g1, g2, g3⟩ := all ds xs its hds ha rv
        refine ⟨.tup ho hc hdt (by simpa using g1), .inr ⟨a, o, _, m, rfl, ho, hc, hdt, by simpa using g2⟩, ?_⟩
        exact Nat.succ_le_succ (depthAll_le _ g3)
/-- len(set(e)), e a tuple of different tuples -/
def tLenSetD (K : PySem.W.Frag) (ta : TE) : TE := fun σ H Q => ta σ H fun x H1 => ∃ (l : Addr) (xs : List V) (ds : List PyData), x = .ref l ∧ SqT K H1 l xs ∧ DpAll K H1 xs ds ∧ (∀ d ∈ ds, KeyD 8 d ∧ ∃ es, d = .tuple es) ∧ (ds.map toKey).Nodup ∧ ds.length < 64 ∧ Q (.int (ds.length : Nat)) H1
theorem DpAll.length {K : PySem.W.Frag} : ∀ {xs : List V} {ds : List PyData}, DpAll K H xs ds → xs.length = ds.length
  | _, _, .nil => rfl
  | _, _, .cons _ r => congrArg Nat.succ (DpAll.length r)
theorem keys_of (I : Inv X pins σ H s) : ∀ (xs : List V) (ds : List PyData) (its : List Value), DpAll X.K H xs ds → Vals xs its → (∀ d ∈ ds, KeyD 8 d ∧ ∃ es, d = .tuple es) →
    ∃ ks : List (Addr × NestedKey), its = ks.map (fun p => Value.ref p.1) ∧ ks.map (·.2) = ds.map toKey ∧ ∀ p ∈ ks, KeyAt s.heap p.2 p.1
  | _, _, _, .nil, .nil, _ => ⟨[], rfl, rfl, fun p hp => (nomatch hp)⟩
  | _, _, _, .cons (d := d) a1 a2, .cons b1 b2, hk => by
    obtain ⟨ks, e1, e2, e3⟩ := keys_of I _ _ _ a2 b2 fun d hd => hk d (List.mem_cons_of_mem _ hd)
    obtain ⟨k1, es, rfl⟩ := hk d List.mem_cons_self
    obtain ⟨g1, g2, g3⟩ := key_of I 8 _ _ _ k1 a1 b1
    cases a1 with
    | tup hs ha =>
      cases b1
      refine ⟨(_, toKey (.tuple es)) :: ks, by rw [e1]; rfl, by rw [List.map_cons, List.map_cons, e2], fun p hp => ?_⟩
      rcases List.mem_cons.mp hp with rfl | hp
      · exact ⟨g1, g3, g2⟩
      · exact e3 p hp
theorem pe_lenSetD {a : Expr} {ta : TE} {p p2 q pos : Pos} (hg : Gl X "len") (hm : X.mg "len" = none) (hg2 : Gl X "set") (hm2 : X.mg "set" = none) (ha : PE X a ta) (hu : X.A.units + 64 < cLine) (hc : X.calm = true := by rfl)
    (na : starEach [a] X.env = (false, eval a X.env) :: starEach [] X.env := by rfl) : PE X (.Call (.Name "len" p) [.Call (.Name "set" p2) [a] [] q] [] pos) (tLenSetD X.K ta) := by
  refine ⟨fun pins s σ H Q I h => ?_⟩
  refine Call_ (ld_blt I hg hm boot_len ?_)
  refine PyProof.Rows.callWith_builtin1 (PyProof.Rows.args_cons ?_ rfl) rfl rfl
  refine Call_ (ld_blt I hg2 hm2 boot_set ?_)
  refine PyProof.Rows.callWith_type1 (PyProof.Rows.args_cons (thn (ha.run pins s σ H _ I h) fun v s1 ⟨x, H1, I1, r1, q1⟩ => PyProof.Rows.args_nil ?_) na) na rfl
  obtain ⟨l, xs, ds, rfl, hq, hds, hkd, hnd, hl, q1⟩ := q1
  cases r1
  obtain ⟨its, r, pl, hz⟩ := I1.tuple hq
  obtain ⟨ks, e1, e2, e3⟩ := keys_of I1 xs ds its hds r hkd
  have hlen : ks.length = ds.length := by rw [← List.length_map (f := (·.2)), e2, List.length_map]
  refine call_setT (A := X.A) ks (I1.ok.hd hc) pl (by simpa using e1) e3 (by rw [e2]; exact hnd) (by omega) (by omega) fun h' tk L es ep t R pm hk => ?_
  refine PyProof.Rows.args_nil ?_
  obtain ⟨o, ho, hex, hd⟩ := R.ob
  have I2 : Inv X pins σ H1 { s1 with heap := h', toks := tk } := I1.kept hk
  have hcnt : es.size = ds.length := by rw [R.count (s := { s1 with heap := h', toks := tk }), pm.length_eq, hlen]
  refine call_len_set ho hex hd (R.fits (s := { s1 with heap := h', toks := tk })) (by rw [hcnt]; omega) ⟨.int ds.length, H1, I2.tok _, ⟨_, by rw [hcnt]⟩, q1⟩
end
end Cr

namespace Cr
open PySem PySem.Spec PyProof.Rows L2

/-! ### defs that ask for repr: nothing else is being shown around them -/
def FnG (P : Program) (w : World) (K : PySem.W.Frag) (mg : Str → Option Value) (base : Heap) (CX : CXT) (k : Nat) (f : Addr) (sp : Sp) : Prop :=
  ∀ (A : Around) (outer : List Env) (s : Shared) (H : Hp) (us : List Value) (vs : List V) (Q : VK) (E : XK), A.guards = some [] → Room k A → Env0 P w K mg base A outer s H → Vals vs us → sp vs H Q E →
    codeAny (model P w) A (.call (.ref f) ⟨us, []⟩) (CR CX outer P w H s Q E) s
section
variable {P : Program} {w : World} {K : PySem.W.Frag} {mg : Str → Option Value} {base : Heap}
theorem okG {CX : CXT} {x qual : Str} {st : Stmt} {f : Addr} {fd : FuncData} {N ps : List Str} {k : Nat} {sp : Sp} (F : Fun K x qual st f fd) (S : FnScope N ps (defScope st)) (b : Binds K fd ps []) (len : ∀ vs H Q E, sp vs H Q E → vs.length = ps.length)
    (hbody : ∀ (cdv : Value) (A : Around) (outer : List Env) (s : Shared) (H : Hp) (vs : List V) (Q : VK) (E : XK), A.guards = some [] → Room k (A.deeper (envOfC qual (defScope st) s.heap.objs.size f cdv)) → sp vs H Q E →
      ∃ t, PSs (cxOf CX P w K mg base N qual (defScope st) f cdv A outer s H E) (defBody st) t ∧ t { nx := fun _ H' => Q .non H', rt := Q } (start N vs) H) : FnG P w K mg base CX (k + 1) f sp := by
  intro A outer s H us vs Q E hg hr e0 r hsp
  obtain ⟨oc, od, kV, doc, pm, an, cdv, ct, osl, rfl, lk, hcd⟩ := F.ex
  have hl := len _ _ _ _ hsp
  have hl2 : (us ++ []).length = ps.length := by rw [List.append_nil, ← r.length]; exact hl
  have KX : K.In s.heap := e0.mod.kin.keeps fun b o e => (e0.bs b o e).1
  have hb := b s us KX hl2
  rw [List.append_nil] at hb
  refine StX.run_bnd (G := fun ws H2 => ws = vs ∧ H2 = H) lk hcd S hr e0 (fun A' Ex Q' h => ?_) (fun s2 H2 ws ⟨e1, e2⟩ hr' => ?_)
  · exact hb _ _ _ _ (h s H vs us e0 Un.refl rfl (fun _ _ z => z) r hl ⟨rfl, rfl⟩)
  · subst e1 e2
    exact hbody cdv A outer s2 _ _ Q E hg hr' hsp
end
section
variable {X : Cx} {CX : CXT} {k : Nat} {f : Addr} {sp : Sp} {E : XK} {x : Str} {p pos : Pos} {e : Expr} {es : List Expr} {t : TA}
/-- f(e, ..) of such a def -/
theorem pe_callG (F : FnG X.prog X.w X.K X.mg X.base CX k f sp) (hgd : X.A.guards = some []) (hr : Room k X.A) (hg : Gl X x) (hm : X.mg x = some (.ref f)) (hk : PySem.W.keepIn X.K (.ref f) = true) (hx : Passes CX X E)
    (ha : PA X (e :: es) t) (hdb : (x == ("__debug__" : Str)) = false := by decide) (he : starEach (e :: es) X.env = (false, eval e X.env) :: starEach es X.env := by rfl) (hpl : (backTo pos (starEach es X.env)).any (·.1) = false := by rfl) :
    PE X (.Call (.Name x p) (e :: es) [] pos) (fun σ H Q => t σ H fun vs H1 => sp vs H1 Q E) := by
  refine ⟨fun pins s σ H Q I h => ?_⟩
  refine wpAny_Call_Name_kw (ld_glob I hg hm ?_ hdb)
  refine PySem.W.callWith_K (h₀ := X.base) I.ok.mod.kin hk (thn (ha.run pos pins s σ H _ I h) fun us s1 ⟨vs, H1, I1, r, q⟩ => ⟨I1.kIn, ?_⟩) he hpl
  refine wpAny_call (codeAny_mono (F X.A X.stack s1 H1 us vs Q E hgd hr I1.env0 r q) fun rr s' hq => ?_)
  cases rr with
  | error e => exact hx pins σ H1 s1 e s' I1 hq
  | ok fl =>
    cases fl with
    | ret u => exact I1.after hq
    | next => exact False.elim hq
    | brk => exact False.elim hq
    | cont => exact False.elim hq
end

/-! ### the law's end for such a law -/
/-- the abstract heap that knows the script alone -/
def knows (a : Addr) (o : Obj) (xs : List V) : Hp := fun b => if b = a then some (.frz o (.lst xs)) else none
theorem law_runs {P : Program} {w : World} {K : PySem.W.Frag} {mg mb : Str → Option Value} {CX : CXT} {k : Nat} {fa a : Addr} {sp : Sp} {s : Shared} {vs : List Value} {ns : List Int}
    (KX : K.In s.heap) (hns : s.heap.Ns mainGlobals mg) (hb : s.heap.Ns builtinsNs mb) (hbb : ∀ x : Str, x ≠ "__name__" → mb x = bootBuiltins x) (hlim : s.heap.NoLimit) (hg : s.gens = #[])
    (ha : s.heap.get? a = some { cls := .type "list", data := .seq vs.toArray }) (hi : IntsAre vs ns) (hl : ns.length ≤ sizeLine) (hr : Room k callerA)
    (F : ∀ base : Heap, K.In base → base.Ns mainGlobals mg → FnG P w K mg base CX k fa sp)
    (hsp : ∀ H : Hp, Only H → SqL K H a (ns.map V.int) → sp [.ref a] H (fun v _ => v = .bl true) fun _ _ _ => False)
    (hCX : ∀ H e s', CX [] H s (fun _ _ _ => False) e s' → False) :
    codeAny (model P w) callerA (.call (.ref fa) ⟨[.ref a], []⟩) (fun r s' => r = .ok (.ret (.bool true)) ∧ OldK s.heap s'.heap ∧ s'.os = s.os ∧ AllBare s'.gens) s := by
  have main : ∀ H : Hp, Only H → SqL K H a (ns.map V.int) → HOk P w H s.heap → (∀ b, H b ≠ none → b = a) → (H a ≠ none → K.lookup a = none) →
      codeAny (model P w) callerA (.call (.ref fa) ⟨[.ref a], []⟩) (fun r s' => r = .ok (.ret (.bool true)) ∧ OldK s.heap s'.heap ∧ s'.os = s.os ∧ AllBare s'.gens) s := by
    intro H hO hS hok hA hKa
    have isA : ∀ {b : Addr} {u : HO}, H b = some u → b = a := fun {b u} q => hA b (by rw [q]; exact Option.some_ne_none u)
    have free : ∀ {b : Addr}, b ≠ a → H b = none := fun {b} n => by
      cases q : H b with
      | none => rfl
      | some u => exact absurd (isA q) n
    have dictNe : ∀ {b : Addr} {o : Obj} {es : Array DictEntry} {ep : Nat}, s.heap.get? b = some o → o.data = .dict es ep → b ≠ a := fun {b o es ep} e d z => by
      subst z
      rw [ha] at e
      cases e
      exact nomatch (show Data.seq vs.toArray _ = Data.dict es ep from d)
    have nsB : ∀ {b : Addr} {m : Str → Option Value}, s.heap.Ns b m → (hidT s.heap H).Ns b m := fun ⟨o, es, ep, e, d, r⟩ => ⟨o, es, ep, hidT_get e (free (dictNe e d)), d, r⟩
    have kB : K.In (hidT s.heap H) := fun b o e => hidT_get (KX b o e) (by
      cases q : H b with
      | none => rfl
      | some u =>
        have z := isA q
        subst z
        rw [hKa (by rw [q]; exact Option.some_ne_none u)] at e
        cases e)
    obtain ⟨mc, l1, l2⟩ := hlim
    have e0 : Env0 P w K mg (hidT s.heap H) callerA [] s H := ⟨rfl, ⟨kB, nsB hns, ⟨mb, nsB hb, hbb⟩, ⟨mc, nsB l1, l2⟩⟩, fun b o e => of_hidT e, Nat.le_of_eq (hidT_size _ _), trivial, fun b z => absurd (show b ∈ ([] : List Addr) from z) (by simp), hok, .of_eq hg⟩
    refine codeAny_mono (F _ kB (nsB hns) callerA [] s H [.ref a] [.ref a] _ _ rfl hr e0 (.cons rfl .nil) (hsp H hO hS)) fun r s' h => ?_
    cases r with
    | error e => exact (hCX H e s' h).elim
    | ok fl =>
      cases fl with
      | next => exact False.elim h
      | brk => exact False.elim h
      | cont => exact False.elim h
      | ret u =>
        obtain ⟨v, H', os, bare, un, hok', rv, rfl⟩ := h
        cases rv
        refine ⟨rfl, OldK.of_keep fun b o e => ?_, os, bare⟩
        rcases hO b with q | ⟨ob, xs, q⟩
        · exact un.keep b o e q (fun z => absurd (show b ∈ ([] : List Addr) from z) (by simp)) (by simp)
        · obtain ⟨a1, _⟩ := hok b _ q
          obtain ⟨a2, _⟩ := hok' b _ (un.frzs b ob _ q)
          rw [e] at a1
          cases a1
          exact a2
  have rv := vals_ints hi
  have ln := hi.length
  cases hk : K.lookup a with
  | some o =>
    have e := KX a o hk
    rw [ha] at e
    cases e
    exact main (fun _ => none) (fun _ => .inl rfl) (.inr ⟨_, vs.toArray, _, hk, rfl, rfl, rfl, by rw [List.size_toArray, ln]; exact hl, by simpa using rv⟩) (fun b u z => nomatch z) (fun b z => absurd rfl z) fun z => absurd rfl z
  | none =>
    have at_ : knows a { cls := .type "list", data := .seq vs.toArray } (ns.map V.int) a = some (.frz { cls := .type "list", data := .seq vs.toArray } (.lst (ns.map V.int))) := if_pos rfl
    have off : ∀ b, b ≠ a → knows a { cls := .type "list", data := .seq vs.toArray } (ns.map V.int) b = none := fun b n => if_neg n
    refine main (knows a { cls := .type "list", data := .seq vs.toArray } (ns.map V.int)) (fun b => ?_) (.inl (.inr ⟨_, at_⟩)) (fun b u z => ?_) (fun b z => ?_) fun _ => hk
    · by_cases n : b = a
      · subst n; exact .inr ⟨_, _, at_⟩
      · exact .inl (off b n)
    · by_cases n : b = a
      · subst n
        rw [at_] at z
        cases z
        exact ⟨ha, by rw [List.length_map]; exact hl, vs, _, rv, ha⟩
      · rw [off b n] at z
        cases z
    · by_cases n : b = a
      · exact n
      · exact absurd (off b n) z
theorem walk_G {l : PySem.W.OpenLaw} {n k : Nat} {q : Program} {loose : List Str} {XP : (Str → Option Value) → Heap → Prop} {YP : World → Heap → Prop} {d : DefRec} {K : Params → PySem.W.Frag} {CX : World → CXT} {sp : World → Sp}
    (hn : l.most = some n) (hn2 : n ≤ sizeLine) (hdf : d.params.defaults = []) (hr : Room k callerA) (hY : ∀ (w : World) (h : Heap), YP w h → (K w.params).In h)
    (F : ∀ (w : World) (mg : Str → Option Value) (fa : Addr) (h : Heap), (K w.params).In h → h.Ns mainGlobals mg → mg d.name = some (.ref fa) →
      ∀ base : Heap, (K w.params).In base → base.Ns mainGlobals mg → FnG l.prog w (K w.params) mg base (CX w) k fa (sp w))
    (hsp : ∀ (w : World) (H : Hp) (a : Addr) (ns : List Int), ns.length ≤ n → Only H → SqL (K w.params) H a (ns.map V.int) → sp w [.ref a] H (fun v _ => v = .bl true) fun _ _ _ => False)
    (hCX : ∀ (w : World) (H : Hp) (s : Shared) (e : Value) (s' : Shared), CX w [] H s (fun _ _ _ => False) e s' → False) :
    PySem.W.WalkO q loose XP YP l.row.toRowW d [] (fun f vs => PySem.call f vs) := by
  refine Att.attach_call hn hdf fun w s0 s1 mg mb fa o pm cd doc a vs ns G Y ho hd hcd hmg hobj hints hlen hg => ?_
  have KX := hY w _ Y
  exact law_runs KX G.T.g G.T.b G.T.builtins G.T.nolimit hg hobj hints (Nat.le_trans hlen hn2) hr (F w mg fa _ KX G.T.g hmg) (fun H hO hS => hsp w H a ns hlen hO hS) fun H e s' => hCX w H s1 e s'
end Cr

namespace Cr
open PySem PySem.Spec PyProof.Rows L2

/-! ### heaps that keep their tuples -/
def TK (H H' : Hp) : Prop := ∀ a xs, H a = some (.tup xs) → H' a = some (.tup xs)
theorem TK.refl (H : Hp) : TK H H := fun _ _ h => h
theorem TK.trans {H H1 H2 : Hp} (a : TK H H1) (b : TK H1 H2) : TK H H2 := fun c o h => b c o (a c o h)
theorem TK.new {H : Hp} {p : Addr} {o : HO} (h : H p = none) : TK H (upd H p o) := fun a xs e => by rw [upd_ne (ne_of_none e h)]; exact e
theorem TK.lst {H : Hp} {p : Addr} {ys : List V} {o : HO} (h : H p = some (.lst ys)) : TK H (upd H p o) := fun a xs e => by rw [upd_ne (ne_of e h (by intro z; cases z))]; exact e
theorem TK.same {H H' : Hp} (h : Same H H') : TK H H' := fun a xs e => h a _ e
theorem Same.new {H : Hp} {p : Addr} {o : HO} (h : H p = none) : Same H (upd H p o) := fun a u e => by rw [upd_ne (ne_of_none e h)]; exact e
/-- all but S is as it was -/
def SB (S : Addr) (H H' : Hp) : Prop := ∀ b o, b ≠ S → H b = some o → H' b = some o
theorem SB.refl (S : Addr) (H : Hp) : SB S H H := fun _ _ _ h => h
theorem SB.trans {S : Addr} {H H1 H2 : Hp} (a : SB S H H1) (b : SB S H1 H2) : SB S H H2 := fun c o n h => b c o n (a c o n h)
theorem SB.same {S : Addr} {H H' : Hp} (h : Same H H') : SB S H H' := fun a u _ e => h a u e
theorem SB.at {S : Addr} {H : Hp} {o : HO} : SB S H (upd H S o) := fun a u n e => by rw [upd_ne n]; exact e
theorem SB.new {S : Addr} {H : Hp} {p : Addr} {o : HO} (h : H p = none) : SB S H (upd H p o) := SB.same (Same.new h)
theorem SB.free {S : Addr} {H H' : Hp} (h : SB S H H') {p : Addr} (n : p ≠ S) (hp : H' p = none) : H p = none := by
  cases q : H p with
  | none => rfl
  | some o => rw [h p o n q] at hp; cases hp
/-- the source: three ints in a list -/
def Src (H : Hp) (S : Addr) : Prop := ∃ a b c : Int, H S = some (.lst [.int a, .int b, .int c])
theorem SB.tk {S : Addr} {H H' : Hp} (h : SB S H H') (s : Src H S) : TK H H' := fun a xs e => by
  obtain ⟨x, y, z, q⟩ := s
  exact h a _ (ne_of e q (by intro z; cases z)) e
theorem Src.same {H H' : Hp} {S : Addr} (s : Src H S) (h : Same H H') : Src H' S := let ⟨a, b, c, q⟩ := s; ⟨a, b, c, h _ _ q⟩
theorem Src.ne {H : Hp} {S p : Addr} (s : Src H S) (h : H p = none) : p ≠ S := fun e => by obtain ⟨a, b, c, q⟩ := s; rw [e, q] at h; cases h
theorem Src.neq {H : Hp} {S p : Addr} {o : HO} (s : Src H S) (h : H p = some o) (n : ∀ a b c : Int, o ≠ .lst [.int a, .int b, .int c]) : p ≠ S := fun e => by obtain ⟨a, b, c, q⟩ := s; rw [e, q] at h; exact n a b c (Option.some.inj h).symm

/-! ### values that are tuples of ints and of such -/
mutual
inductive TD (H : Hp) : V → PyData → Prop
  | int (i : Int) : TD H (.int i) (.int i)
  | non : TD H .non .none
  | tup {a : Addr} {xs : List V} {ds : List PyData} : H a = some (.tup xs) → TDs H xs ds → TD H (.ref a) (.tuple ds)
inductive TDs (H : Hp) : List V → List PyData → Prop
  | nil : TDs H [] []
  | cons {v : V} {vs : List V} {d : PyData} {ds : List PyData} : TD H v d → TDs H vs ds → TDs H (v :: vs) (d :: ds)
end
mutual
theorem TD.mono {H H' : Hp} (k : TK H H') : ∀ {v : V} {d : PyData}, TD H v d → TD H' v d
  | _, _, .int i => .int i
  | _, _, .non => .non
  | _, _, .tup h r => .tup (k _ _ h) (TDs.mono k r)
theorem TDs.mono {H H' : Hp} (k : TK H H') : ∀ {vs : List V} {ds : List PyData}, TDs H vs ds → TDs H' vs ds
  | _, _, .nil => .nil
  | _, _, .cons h r => .cons (TD.mono k h) (TDs.mono k r)
end
mutual
theorem TD.dp {K : PySem.W.Frag} {H : Hp} : ∀ {v : V} {d : PyData}, TD H v d → Dp K H v d
  | _, _, .int i => .int i
  | _, _, .non => .non
  | _, _, .tup h r => .tup (SqT.of h) (TDs.dp r)
theorem TDs.dp {K : PySem.W.Frag} {H : Hp} : ∀ {vs : List V} {ds : List PyData}, TDs H vs ds → DpAll K H vs ds
  | _, _, .nil => .nil
  | _, _, .cons h r => .cons (TD.dp h) (TDs.dp r)
end
theorem TDs.length {H : Hp} : ∀ {vs : List V} {ds : List PyData}, TDs H vs ds → vs.length = ds.length
  | _, _, .nil => rfl
  | _, _, .cons _ r => congrArg Nat.succ (TDs.length r)
theorem TDs.get {H : Hp} : ∀ {vs : List V} {ds : List PyData} {i : Nat} {v : V}, TDs H vs ds → vs[i]? = some v → ∃ d, ds[i]? = some d ∧ TD H v d
  | _, _, _, _, .nil, e => by simp at e
  | _, _, 0, _, .cons h _, e => by simp at e; subst e; exact ⟨_, rfl, h⟩
  | _, _, i + 1, v, .cons _ r, e => by
    obtain ⟨d, h1, h2⟩ := TDs.get (i := i) (v := v) r (by simpa using e)
    exact ⟨d, by simpa using h1, h2⟩
theorem TDs.append {H : Hp} : ∀ {vs ws : List V} {ds es : List PyData}, TDs H vs ds → TDs H ws es → TDs H (vs ++ ws) (ds ++ es)
  | _, _, _, _, .nil, s => s
  | _, _, _, _, .cons h r, s => .cons h (TDs.append r s)
theorem TD.tupv {H : Hp} {v : V} {ds : List PyData} (h : TD H v (.tuple ds)) : ∃ a xs, v = .ref a ∧ H a = some (.tup xs) ∧ TDs H xs ds := by
  cases h with
  | tup h r => exact ⟨_, _, rfl, h, r⟩
theorem TD.intv {H : Hp} {v : V} {i : Int} (h : TD H v (.int i)) : v = .int i := by cases h; rfl

/-! ### conditions, cases, rules -/
abbrev Cond := Int × Int
abbrev Case := List Cond
abbrev Rule := Case × Int
def condD (c : Cond) : PyData := .tuple [.int c.1, .int c.2]
def caseD (c : Case) : PyData := .tuple (c.map condD)
def ruleD (r : Rule) : PyData := .tuple [caseD r.1, .int r.2]
def condOk (c : Cond) : Bool := decide (0 ≤ c.1) && decide (c.1 ≤ 4) && decide (0 ≤ c.2) && decide (c.2 ≤ 9)
structure CaseOk (c : Case) : Prop where
  each : ∀ x ∈ c, 0 ≤ x.1 ∧ x.1 ≤ 4 ∧ 0 ≤ x.2 ∧ x.2 ≤ 9
  asc : c.Pairwise fun x y => x.1 < y.1
structure RuleOk (r : Rule) : Prop where
  case : CaseOk r.1
  lo : 0 ≤ r.2
  hi : r.2 ≤ 99
structure RulesOk (n : Nat) (rs : List Rule) : Prop where
  each : ∀ r ∈ rs, RuleOk r
  nd : rs.Nodup
  few : rs.length ≤ n
theorem CaseOk.nil : CaseOk [] := ⟨fun x h => (nomatch h), .nil⟩
theorem asc_len : ∀ (c : Case) (lo : Int), (∀ x ∈ c, lo ≤ x.1 ∧ x.1 ≤ 4) → c.Pairwise (fun x y => x.1 < y.1) → lo ≤ 5 → (c.length : Int) ≤ 5 - lo
  | [], lo, _, _, h => by simp; omega
  | x :: c, lo, h, p, _ => by
    have hx := h x List.mem_cons_self
    cases p with
    | cons h1 h2 =>
      have := asc_len c (x.1 + 1) (fun y hy => ⟨by have := h1 y hy; omega, (h y (List.mem_cons_of_mem _ hy)).2⟩) h2 (by omega)
      rw [List.length_cons]
      push_cast
      omega
theorem CaseOk.len {c : Case} (h : CaseOk c) : c.length ≤ 5 := by
  have := asc_len c 0 (fun x hx => ⟨(h.each x hx).1, (h.each x hx).2.1⟩) h.asc (by omega)
  omega
theorem CaseOk.sub {c d : Case} (h : CaseOk c) (s : List.Sublist d c) : CaseOk d := ⟨fun x hx => h.each x (s.mem hx), h.asc.sublist s⟩

/-! ### equality of data -/
mutual
theorem eqv_cond : ∀ (a b : Cond), PyData.eqv (condD a) (condD b) = decide (a = b)
  | (a1, a2), (b1, b2) => by
    have e : PyData.eqv (condD (a1, a2)) (condD (b1, b2)) = ((a1 == b1) && ((a2 == b2) && true)) := by simp only [condD, PyData.eqv, PyData.eqvAll]
    rw [e]
    by_cases h : ((a1, a2) : Cond) = (b1, b2)
    · cases h; simp
    · rw [decide_eq_false h]
      by_cases h1 : a1 = b1
      · by_cases h2 : a2 = b2
        · exact absurd (by rw [h1, h2]) h
        · simp [h2]
      · simp [h1]
end
theorem eqvAll_conds : ∀ (a b : Case), PyData.eqvAll (a.map condD) (b.map condD) = decide (a = b)
  | [], [] => by simp [PyData.eqvAll]
  | [], b :: bs => by simp [PyData.eqvAll]
  | a :: as, [] => by simp [PyData.eqvAll]
  | a :: as, b :: bs => by
    rw [List.map_cons, List.map_cons]
    simp only [PyData.eqvAll, eqv_cond, eqvAll_conds as bs]
    by_cases h1 : a = b <;> by_cases h2 : as = bs <;> simp [h1, h2]
theorem eqv_case (a b : Case) : PyData.eqv (caseD a) (caseD b) = decide (a = b) := by
  have e : PyData.eqv (caseD a) (caseD b) = PyData.eqvAll (a.map condD) (b.map condD) := by simp only [caseD, PyData.eqv]
  rw [e, eqvAll_conds]
theorem eqv_rule : ∀ (a b : Rule), PyData.eqv (ruleD a) (ruleD b) = decide (a = b)
  | (a1, a2), (b1, b2) => by
    have e : PyData.eqv (ruleD (a1, a2)) (ruleD (b1, b2)) = (decide (a1 = b1) && ((a2 == b2) && true)) := by simp only [ruleD, PyData.eqv, PyData.eqvAll, eqv_case]
    rw [e]
    by_cases h1 : a1 = b1 <;> by_cases h2 : a2 = b2 <;> simp [h1, h2]
end Cr

namespace Cr
open PySem PySem.Spec PyProof.Rows L2

/-! ### {e for t in it if ..}, e an int -/
/-- one turn's end: the int is put into the set at D -/
def putInt (w : World) (D : Addr) (Nx : Hp → Prop) : VK := fun y G => ∃ (c : Int) (S : Int → Bool) (n : Nat), y = .int c ∧ G D = some (SetO w D S n) ∧ n + 1 < scanBound ∧
  Nx (upd G D (SetO w D (fun j => S j || decide (j = c)) (if S c = true then n else n + 1)))
def scTurn (w : World) (g : TG) (tt : TT) (te : TE) (vs : List Nat) (σ : L2.St) (D : Addr) (Nx : Hp → Prop) (x : V) (G : Hp) : Prop :=
  g x (wipe σ vs) G fun σ2 G2 => wipe σ2 vs = wipe σ vs ∧ tt σ2 G2 fun b G3 => if b = true then te σ2 G3 (putInt w D Nx) else Nx G3
def tScI (w : World) (wi : TI) (g : TG) (tt : TT) (te : TE) (vs : List Nat) : TE := fun σ H Q => wi σ H fun J H1 => ∀ D, H1 D = none → ∃ W : Nat → Nat → Hp → Prop, (∃ m, W 0 m (upd H1 D (SetO w D (fun _ => false) 0))) ∧
  ∀ i m G, W i m G → (J.stop i G ∧ Q (.ref D) G) ∨ (J.go i G ∧ ∃ Nx : Hp → Prop, (∀ G', Nx G' → ∃ m', m' < m ∧ W (i + 1) m' G') ∧ ∀ x G', J.yld i G x G' → scTurn w g tt te vs σ D Nx x G')
theorem pe_scI {X : Cx} {elt tg iter : Expr} {ifs : List Expr} {scope : Scope} {own : List (Str × Nat)} {pos : Pos} {wi : TI} {g : TG} {tt : TT} {te : TE} (calm : X.calm = true) (ndN : X.N.Nodup) (hIt : PI X tg iter wi) (bok : BlkOk X.N X.env.scope scope own)
    (hTg : ∀ s H C cl fp, PG (X.blk s H scope (compEnvC scope cl C X.env) fp) tg g) (hIf : ∀ s H C cl fp, PTs (X.blk s H scope (compEnvC scope cl C X.env) fp) ifs tt) (hEl : ∀ s H C cl fp, PE (X.blk s H scope (compEnvC scope cl C X.env) fp) elt te)
    (unf : ∀ x, foldedSetIterable iter X.env x = pure x := by intro _; rfl) : PE X (.SetComp elt [⟨tg, iter, ifs, 0⟩] scope pos) (tScI X.w wi g tt te (own.map (·.2))) := by
  refine ⟨fun pins s σ H Q I hq => ?_⟩
  have cells : ∀ y ∈ scope.names, y.2 = .free → ∃ c, X.env.cells.lookup y.1 = some c := fun y hy e => (bok.free y hy e).elim (fun k => I.ok.has _ (.inl k)) fun k => I.ok.has _ (.inr k)
  rw [PpSet.eval_SetComp]
  refine wpAny_comprehension_free (use := none) rfl unf (closure_ok cells) bok.kind (fun y hy e => by rw [bok.uniq y hy, e]) (thn (hIt.run pins s σ H _ I hq) fun xv sa ha => thn ha fun itv sb hb => ?_)
  obtain ⟨it, fp, tn, J, Ha, eit, Ia, T, sta, fpa, q⟩ := hb
  subst eit
  refine PpSet.newSet_ok (newEnv_comp ?_)
  have Dfree : Ha sb.heap.objs.size = none := Ia.hok.fresh (Nat.le_refl _)
  obtain ⟨W, ⟨m0, w0⟩, turn⟩ := q _ Dfree
  -- the empty set is laid at D
  obtain ⟨D, eD⟩ : ∃ D, sb.heap.objs.size = D := ⟨_, rfl⟩
  obtain ⟨st, est⟩ : ∃ st : Shared, st = { sb with heap := sb.heap.push { cls := .type "set", dict := none, data := .set #[] 0 (.fresh 0 0 (!X.w.params.followText "set-order")) } } := ⟨_, rfl⟩
  have hst : ∀ b o, sb.heap.get? b = some o → st.heap.get? b = some o := fun b o z => by rw [est]; exact Heap.get?_push_of_some _ z
  have Ib : Inv X pins σ (upd Ha D (SetO X.w D (fun _ => false) 0)) st := by
    rw [est]
    refine Ia.laid (t' := sb.toks) (fun b o z => Heap.get?_push_of_some _ z) (Nat.le_of_eq eD) ?_
    rw [← eD]
    exact setO_new (setR_fresh X.w)
  rw [eD] at w0 turn
  have below : ∀ b ∈ fp, b < sb.heap.objs.size := fun b z => let ⟨_, u, _⟩ := T.obj _ _ sta b z; Heap.lt_size u
  have fpb : ∀ b ∈ fp, FpOk X pins (upd Ha D (SetO X.w D (fun _ => false) 0)) b ∧ b < st.heap.objs.size := fun b z => by
    refine ⟨⟨?_, (fpa b z).2⟩, ?_⟩
    · rw [upd_ne (fun u => Nat.lt_irrefl _ (by have := below b z; rw [eD, ← u] at this; exact this))]
      exact (fpa b z).1
    · rw [est]
      show b < (sb.heap.push _).objs.size
      rw [Heap.size_push]
      exact Nat.lt_succ_of_lt (below b z)
  have stb : tn 0 st.heap := T.keep _ _ _ sta fun b _ o z => hst b o z
  have Ic := block_start Ib bok ndN fpb
  have rdT := hTg st (upd Ha D (SetO X.w D (fun _ => false) 0)) st.heap.objs.size (cellsFrom (st.heap.objs.size + 1) scope.names (cloFrom X.env.cells scope.names [])) fp
  have rdI := hIf st (upd Ha D (SetO X.w D (fun _ => false) 0)) st.heap.objs.size (cellsFrom (st.heap.objs.size + 1) scope.names (cloFrom X.env.cells scope.names [])) fp
  have rdE := hEl st (upd Ha D (SetO X.w D (fun _ => false) 0)) st.heap.objs.size (cellsFrom (st.heap.objs.size + 1) scope.names (cloFrom X.env.cells scope.names [])) fp
  rw [← est, eD]
  obtain ⟨sc, esc⟩ : ∃ sc : Shared, sc = { st with heap := pushCells (st.heap.push { cls := .type "dict", data := .dict #[] }) scope.names } := ⟨_, rfl⟩
  rw [← esc] at Ic
  have stc : tn 0 sc.heap := T.keep _ _ _ stb fun b _ o z => by rw [esc]; exact pushCells_keeps _ _ _ _ (Heap.get?_push_of_some _ z)
  have unk : ∀ b ∈ fp, (upd Ha D (SetO X.w D (fun _ => false) 0)) b = none := fun b z => (fpb b z).1.1
  generalize eHc : upd Ha D (SetO X.w D (fun _ => false) 0) = Hc at Ib Ic rdT rdI rdE w0 unk fpb
  generalize eEnv : compEnvC scope (cellsFrom (st.heap.objs.size + 1) scope.names (cloFrom X.env.cells scope.names [])) st.heap.objs.size X.env = env at Ic rdT rdI rdE
  have eLoc : env.locals = st.heap.objs.size := by rw [← eEnv]; rfl
  have fpIn : ∀ {τ : L2.St} {G : Hp} {u : Shared}, Inv (X.blk st Hc scope env fp) [] τ G u → (∀ b ∈ fp, G b = none) → ∀ b ∈ fp, FpOk (X.blk st Hc scope env fp) [] G b := fun {τ G u} Iu nG b z =>
    ⟨nG b z, (Iu.ok.exf b z).1, Iu.ok.exfs b z, .inl z, fun x c e => (Iu.ok.exf b z).2 x c e, fun p hp => absurd (show p ∈ ([] : List (Addr × Obj)) ++ [] from hp) (by simp)⟩
  show codeAny (model X.prog X.w) X.A (.compStart (.SetComp elt [⟨tg, iter, ifs, 0⟩] scope pos) 0 (.ref it) (.ref D) (compEnvC scope (cellsFrom (st.heap.objs.size + 1) scope.names (cloFrom X.env.cells scope.names [])) st.heap.objs.size X.env)) (compPost (model X.prog X.w) X.A X.xe none (EP X pins σ Q) (.ref D) st.heap.objs.size) { st with heap := pushCells (st.heap.push { cls := .type "dict", data := .dict #[] }) scope.names }
  rw [eEnv, ← esc]
  have all : codeAny (model X.prog X.w) X.A (.compLoop (.SetComp elt [⟨tg, iter, ifs, 0⟩] scope pos) 0 (.ref it) (.ref D) env) (compPost (model X.prog X.w) X.A X.xe none (EP X pins σ Q) (.ref D) st.heap.objs.size) sc := by
    refine PpSet.compLoopS_any (fun m u => ∃ i G, Inv (X.blk st Hc scope env fp) [] (wipe σ (own.map (·.2))) G u ∧ tn i u.heap ∧ (∀ b ∈ fp, G b = none) ∧ W i m G) (fun m u hu => ?_) m0 ⟨0, Hc, Ic, stc, unk, w0⟩
    obtain ⟨i, G, Iu, tu, nG, wG⟩ := hu
    rcases turn i m G wG with ⟨stp, qd⟩ | ⟨goes, Nx, less, step⟩
    · -- no item any more: back in the def
      refine thnF (T.done (X.blk st Hc scope env fp) rfl rfl rfl calm i [] u _ G (fun _ _ => False) Iu (fpIn Iu nG) tu stp) fun r u2 hr => ?_
      obtain ⟨rfl, Iv⟩ := hr
      have back : Inv X pins σ G u2 := Ib.call' (ch := fp) Iv.os Iv.base Iv.hok Iv.bare fun b z => let y := (fpb b z).1; ⟨y.2.2.2.1, y.2.1, y.2.2.2.2.1, y.2.2.2.2.2⟩
      obtain ⟨ns, hns, _⟩ := Iv.loc
      have hns : u2.heap.Ns env.locals ns := hns
      have nloc : G env.locals = none := Iv.free
      rw [eLoc] at hns nloc
      refine ⟨ns, hns, fun h2 same => ?_⟩
      obtain ⟨f0, f1, f2, f3, f4, f5⟩ := Ib.fpOk (Nat.le_refl _) nloc
      exact ⟨.ref D, G, back.turned (t' := u2.toks) (fun b o z e => (same.2 b z).trans e) f0 f1 f3 f4 f5, rfl, qd⟩
    · refine thnF (T.item (X.blk st Hc scope env fp) rfl rfl rfl calm i [] u _ G (fun _ _ => False) Iu (fpIn Iu nG) tu goes) fun r u2 hr => ?_
      obtain ⟨v, rfl, hv⟩ := hr
      refine thnF hv fun _ u3 hx => ?_
      obtain ⟨x, G3, I3, rx, yx, t3, n3⟩ := hx
      -- a turn's end, from wherever it comes
      have next : ∀ {τ : L2.St} {G' : Hp} {u' : Shared}, wipe τ (own.map (·.2)) = wipe σ (own.map (·.2)) → Inv (X.blk st Hc scope env fp) ([] ++ pinsAt fp u3.heap) τ G' u' → Nx G' →
          ∃ m', m' < m ∧ ∃ i G, Inv (X.blk st Hc scope env fp) [] (wipe σ (own.map (·.2))) G u' ∧ tn i u'.heap ∧ (∀ b ∈ fp, G b = none) ∧ W i m' G := fun {τ G' u'} ew Iw nx => by
        obtain ⟨m', lt, wn⟩ := less G' nx
        have kept : ∀ b ∈ fp, ∀ o, u3.heap.get? b = some o → u'.heap.get? b = some o ∧ G' b = none := fun b z o e => (fun y => ⟨y.1, y.2.1⟩) (Iw.pin (b, o) (List.mem_append_right _ (List.mem_append_right _ (mem_pinsAt z e))))
        refine ⟨m', lt, i + 1, G', (Iw.unpinned (pins := [])).weak ?_ ?_, T.keep _ _ _ t3 fun b z o e => (kept b z o e).1, fun b z => ?_, wn⟩
        · rw [← ew, wipe_length]
        · intro j y e
          rw [← ew] at e
          exact (wipe_some e).1
        · exact let ⟨o, e, _⟩ := T.obj _ _ t3 b z; (kept b z o e).2
      refine thnF (rdT.run _ u3 _ G3 x v _ (I3.pinned (fpIn I3 n3) (T.obj _ _ t3)) rx (step x G3 yx)) fun _ u4 h4 => ?_
      obtain ⟨τ, G4, I4, ew, q4⟩ := h4
      refine thnF (rdI.run _ u4 τ G4 _ I4 q4) fun b u5 h5 => ?_
      obtain ⟨G5, I5, q5⟩ := h5
      cases b with
      | false => exact next ew I5 (by simpa using q5)
      | true =>
        have q5 : te τ G5 (putInt X.w D Nx) := q5
        show wpAny _ _ (eval elt env) _ _ u5
        refine thnF (rdE.run _ u5 τ G5 _ I5 q5) fun z u6 h6 => ?_
        obtain ⟨y, G6, I6, ry, c, S, n, ey, hD, few, nx⟩ := h6
        subst ey
        refine thnF (mt_sadd (X := X.blk st Hc scope env fp) _ u6 τ G6 (.ref D) [.int c] (.ref D) [z] (fun _ G7 => Nx G7) I6 rfl (.cons ry .nil) ⟨D, c, S, n, rfl, rfl, hD, few, nx⟩) fun _ u7 h7 => ?_
        obtain ⟨_, G7, I7, _, nx7⟩ := h7
        exact next ew I7 nx7
  exact PpSet.codeAny_compStart_set all (T.self X.A 0 _ _ _ stc all)
/-- .. over a tuple that stays -/
theorem scI_tup {w : World} {K : PySem.W.Frag} {a D : Addr} {xs : List V} {g : TG} {tt : TT} {te : TE} {vs : List Nat} {σ : L2.St} {H1 : Hp} {Qd : Hp → Prop} (Pv : Nat → Hp → Prop) (first : Pv 0 (upd H1 D (SetO w D (fun _ => false) 0)))
    (stays : ∀ i G, i ≤ xs.length → Pv i G → SqT K G a xs) (step : ∀ i x G, xs[i]? = some x → Pv i G → scTurn w g tt te vs σ D (Pv (i + 1)) x G) (last : ∀ G, Pv xs.length G → Qd G) :
    ∃ W : Nat → Nat → Hp → Prop, (∃ m, W 0 m (upd H1 D (SetO w D (fun _ => false) 0))) ∧
      ∀ i m G, W i m G → ((Itt K a).stop i G ∧ Qd G) ∨ ((Itt K a).go i G ∧ ∃ Nx : Hp → Prop, (∀ G', Nx G' → ∃ m', m' < m ∧ W (i + 1) m' G') ∧ ∀ x G', (Itt K a).yld i G x G' → scTurn w g tt te vs σ D Nx x G') := by
  refine ⟨fun i m G => m + i = xs.length ∧ Pv i G, ⟨xs.length, rfl, first⟩, fun i m G hW => ?_⟩
  obtain ⟨em, p⟩ := hW
  have sq := stays i G (by omega) p
  cases e : xs[i]? with
  | some x =>
    have hi : i < xs.length := (List.getElem?_eq_some_iff.mp e).1
    refine .inr ⟨⟨xs, x, sq, e⟩, Pv (i + 1), fun G' p' => ⟨m - 1, by omega, by omega, p'⟩, fun y G' hy => ?_⟩
    obtain ⟨rfl, hy⟩ := hy
    exact step i y _ (hy xs sq) p
  | none =>
    have hi : xs.length ≤ i := List.getElem?_eq_none_iff.mp e
    obtain rfl : i = xs.length := by omega
    exact .inl ⟨⟨xs, sq, Nat.le_refl _⟩, last G p⟩
end Cr

namespace Cr
open PySem PySem.Spec PyProof.Rows L2

/-! ### set(l), l a list of ints -/
section
variable {P : Program} {w : World} {A : Around} {E : Value → Shared → Prop} {s : Shared}
/-- what set.__init__ has done behind -/
def SetDone (w : World) (s : Shared) (ns : List Int) : Value → Shared → Prop := fun r s2 => r = .none ∧ ∃ h' tk c, s2 = { s with heap := h', toks := tk } ∧ SetR w h' s.heap.objs.size (fun j => decide (j ∈ ns)) c ∧ c ≤ ns.length ∧ ∀ b o, s.heap.get? b = some o → h'.get? b = some o
theorem init_ints {l : Addr} {items : Array Value} (ns : List Int) (hh : A.handled = none) (hl : s.heap.IsList l items) (hit : ∀ (i : Nat) (v : Value), items[i]? = some v → ∃ k t, ns[i]? = some k ∧ v = .int k t) (hisz : items.size = ns.length) (few : ns.length + 1 < scanBound) :
    wpAny (model P w) A.in1.in1 (Builtin.«set.__init__» ⟨[.ref s.heap.objs.size, .ref l], []⟩)
      (fun fin s' => match fin with
        | .done f => wants (SetDone w s ns) E (.ok f) s'
        | .again c' => c'.quiet = true ∧ codeAny (model P w) A.in1 c' (wants (SetDone w s ns) E) s')
      (fun e s' => wants (SetDone w s ns) E (.error e) s') { s with heap := s.heap.push (set0 w) } := by
  obtain ⟨ol, hol, hcl, nl, hdl⟩ := hl
  obtain ⟨ocls, odict, odata, oslots⟩ := ol
  simp only at hcl hdl
  subst hcl; subst hdl
  have hS : (s.heap.push (set0 w)).get? s.heap.objs.size = some (set0 w) := Heap.get?_push_size _ rfl
  have hol' : (s.heap.push (set0 w)).get? l = some { cls := .type "list", dict := odict, data := .seq items nl, slots := oslots } := Heap.get?_push_of_some _ hol
  have hsls := F.sub_list_set
  have hslf := F.sub_list_frozenset
  have hne : (Value.type "list" == Value.type "dict") = false := by decide
  have hl1 : (s.heap.push (set0 w)).IsList l items := ⟨_, hol', rfl, nl, rfl⟩
  have hlS : l < s.heap.objs.size := Heap.lt_size hol
  have hz1 : (s.heap.push (set0 w)).objs.size = s.heap.objs.size + 1 := Heap.size_push ..
  unfold Builtin.«set.__init__» noKeywords Builtin.Frozenset.updateFrom
  generalize hPI : pyIter = PI
  wp_walk
  subst hPI
  refine wpAny_pyIter_list hl1 (wpAny_bind (wpAny_runValue ?_))
  have hh3 : A.in1.in1.in1.handled = none := by simp [hh]
  have hneI : l ≠ (s.heap.push (set0 w)).objs.size := by rw [hz1]; exact Nat.ne_of_lt (Nat.lt_succ_of_lt hlS)
  have hSf : s.heap.objs.size ∉ [(s.heap.push (set0 w)).objs.size, l] := by
    rw [hz1]
    simp only [List.mem_cons, List.mem_singleton, List.not_mem_nil, or_false, not_or]
    exact ⟨Nat.ne_of_lt (Nat.lt_succ_self _), Nat.ne_of_gt hlS⟩
  refine set_update_ints ((Walks.list hh3 _ l hneI items).toS) s.heap.objs.size hSf ns hisz few hit (items.size - 0) 0 _ (by omega) (Nat.zero_le _)
    ⟨⟨_, Heap.get?_push_size _ rfl, rfl, rfl⟩, (hl1.push _)⟩ ⟨0, Nat.le_refl 0, setR_new_at (Heap.get?_push_of_some _ hS)⟩ fun s' c' hm hc' hS' => ?_
  obtain ⟨h', g2, d', tk', os'⟩ := s'
  have eg : g2 = s.gens := hm.gens
  have ed : d' = s.drawn := hm.drawn
  have eo : os' = s.os := hm.os
  subst eg; subst ed; subst eo
  show wpAny _ _ _ _ _ _
  refine wpAny_pure ?_
  show wpAny _ _ (ret Value.none) _ _ _
  refine wpAny_pure ⟨rfl, h', tk', c', rfl, hS', by omega, fun b o e => ?_⟩
  have hb0 : b < s.heap.objs.size := Heap.lt_size e
  refine hm.heap b o (fun z => ?_) (Heap.get?_push_of_some _ (Heap.get?_push_of_some _ e))
  rcases List.mem_cons.mp z with z | z
  · exact Nat.lt_irrefl _ (by rw [z] at hb0; exact hb0)
  · have z := List.mem_singleton.mp z
    rw [z, hz1] at hb0
    exact Nat.lt_irrefl _ (Nat.lt_of_succ_lt hb0)
theorem call_setL {l : Addr} {items : Array Value} (ns : List Int) {Q : Value → Shared → Prop} (hh : A.handled = none) (hl : s.heap.IsList l items) (hit : ∀ (i : Nat) (v : Value), items[i]? = some v → ∃ k t, ns[i]? = some k ∧ v = .int k t) (hisz : items.size = ns.length) (few : ns.length + 1 < scanBound)
    (q : ∀ (h' : Heap) (tk c : Nat), SetR w h' s.heap.objs.size (fun j => decide (j ∈ ns)) c → c ≤ ns.length → (∀ b o, s.heap.get? b = some o → h'.get? b = some o) → Q (.ref s.heap.objs.size) { s with heap := h', toks := tk }) :
    wpAny (model P w) A (call (.type "set") [.ref l]) Q E s := by
  obtain ⟨c, tl, hmro⟩ := F.called_set.mro
  have hmade := F.called_set.made
  have hsub := F.called_set.sub
  refine wpAny_call (codeAny_of_tree ?_)
  show wpAny _ _ (callAny (.type "set") _) _ _ _
  refine wpAny_pure ⟨Code.quiet_builtin _ (by decide +kernel), codeAny_builtin F.entry_type_call ?_⟩
  rw [Around.under_plain (weight_type_call_type "set" [.ref l] []) rfl]
  have h1 := F.called_set.notType
  have h2 := F.called_set.canCreate
  have hct := F.typeCall_set_1 (.ref l)
  repeat (any_goals (first | assumption | wp_step))
  refine codeAny_mono (code_set_led1 (.ref l) (E := E) (Q₁ := fun obj s1 => obj = .ref s.heap.objs.size ∧ s1 = { s with heap := s.heap.push (set0 w) }) ⟨rfl, rfl⟩) fun r s1 hr => ?_
  cases r with
  | error e => exact hr
  | ok fl =>
    cases fl with
    | ret obj =>
      obtain ⟨rfl, rfl⟩ := hr
      have hT : Shared.TypeIs { s with heap := s.heap.push (set0 w) } (.ref s.heap.objs.size) "set" := ⟨_, Heap.get?_push_size _ rfl, rfl⟩
      have hli := F.called_set.init.lookup
      have hbi := F.called_set.init.bind (.ref s.heap.objs.size)
      repeat (any_goals (first | assumption | wp_step))
      refine codeAny_mono (codeAny_call_builtin F.called_set.init.plain F.entry_set_init (check_set_init_1 hT (init_ints (A := A) (E := E) ns hh hl hit hisz few))) fun r2 s2 hr2 => ?_
      cases r2 with
      | error e => exact hr2
      | ok fl2 =>
        cases fl2 with
        | ret r =>
          obtain ⟨rfl, h', tk, c2, rfl, hS', hc', hk'⟩ := hr2
          repeat (any_goals (first | assumption | wp_step))
          exact q _ _ _ hS' hc' hk'
        | _ => exact hr2.elim
    | _ => exact hr.elim
end
def rSetOfI (K : PySem.W.Frag) (w : World) : List V → Hp → VK → Prop := fun xs H Q => ∃ (l : Addr) (ns : List Int), xs = [V.ref l] ∧ SqL K H l (ns.map V.int) ∧ ns.length < 64 ∧
  ∀ (p : Addr) (n : Nat), n ≤ ns.length → H p = none → Q (.ref p) (upd H p (SetO w p (fun j => decide (j ∈ ns)) n))
theorem cr_setOfI {X : Cx} (hc : X.calm = true) : CallR X (.type "set") (rSetOfI X.K X.w) := by
  intro pins s σ H xs us Q I r h
  obtain ⟨l, ns, rfl, hl, few, q⟩ := h
  rw [Vals.ref1 r]
  obtain ⟨its, rv, pl, _⟩ := I.list hl
  have ia : IntsAre its ns := ints_vals rv
  have il := IntsAre.length ia
  refine call_setL (P := X.prog) (w := X.w) (items := its.toArray) ns (I.ok.hd hc) pl.isList (fun i v hv => ?_) (by simpa using il) (Nat.lt_of_lt_of_le (show ns.length + 1 < 66 by omega) (by decide)) fun h' tk c R hcn k =>
    ⟨.ref s.heap.objs.size, upd H s.heap.objs.size (SetO X.w s.heap.objs.size (fun j => decide (j ∈ ns)) c), I.laid (t' := tk) k (Nat.le_refl _) (setO_new R), rfl, q _ c hcn (I.hok.fresh (Nat.le_refl _))⟩
  have hv' : its[i]? = some v := by simpa using hv
  have hi : i < ns.length := by rw [← il]; exact (List.getElem?_eq_some_iff.mp hv').1
  obtain ⟨t, e⟩ := PyProof.Rows.IntsAre.int_at ia i v hv'
  refine ⟨ns[i], t, List.getElem?_eq_getElem hi, ?_⟩
  subst e
  simp [List.getD_eq_getElem?_getD, hi]
end Cr

namespace Cr
open PySem PySem.Spec PyProof.Rows L2
/-! ### the text by places -/
def top (i : Nat) : Stmt := PySem.Challenge.pw_closestrule_k05_results_for_a_case.main.body.getD i (.Pass ⟨0, 0, 0, 0⟩)
abbrev s_wall : Stmt := top 0
abbrev s_is_number : Stmt := top 13
abbrev s_is_condition : Stmt := top 14
abbrev s_is_case : Stmt := top 15
abbrev s_is_rule : Stmt := top 16
abbrev s_are_rules : Stmt := top 17
abbrev s_need_case : Stmt := top 18
abbrev s_lies_within : Stmt := top 20
abbrev s_lies_strictly_within : Stmt := top 21
abbrev s_matching_rules : Stmt := top 22
abbrev s_is_beaten : Stmt := top 23
abbrev s_deciding_rules : Stmt := top 24
abbrev s_results_for : Stmt := top 25
abbrev s_write_rule : Stmt := top 27
abbrev s_write_rules : Stmt := top 28
abbrev s_read_number : Stmt := top 29
abbrev s_read_condition : Stmt := top 30
abbrev s_read_rule : Stmt := top 31
abbrev s_read_rules : Stmt := top 32
abbrev s_joined : Stmt := top 34
abbrev s_has_rule : Stmt := top 35
abbrev s_Listing_init : Stmt := inClass (top 36) 0
abbrev s_Listing_rules : Stmt := inClass (top 36) 1
abbrev s_Listing_len : Stmt := inClass (top 36) 2
abbrev s_Listing_contains : Stmt := inClass (top 36) 3
abbrev s_Listing_eq : Stmt := inClass (top 36) 4
abbrev s_Listing_repr : Stmt := inClass (top 36) 5
abbrev s_Listing_add : Stmt := inClass (top 36) 6
abbrev s_Listing_text : Stmt := inClass (top 36) 7
abbrev s_Listing_read : Stmt := inClass (top 36) 8
abbrev s_Rules_init : Stmt := inClass (top 37) 0
abbrev s_Rules_rules : Stmt := inClass (top 37) 1
abbrev s_Rules_settled : Stmt := inClass (top 37) 2
abbrev s_Rules_len : Stmt := inClass (top 37) 3
abbrev s_Rules_contains : Stmt := inClass (top 37) 4
abbrev s_Rules_call : Stmt := inClass (top 37) 5
abbrev s_Rules_eq : Stmt := inClass (top 37) 6
abbrev s_Rules_repr : Stmt := inClass (top 37) 7
abbrev s_Rules_add : Stmt := inClass (top 37) 8
abbrev s_Rules_text : Stmt := inClass (top 37) 9
abbrev s_Rules_read : Stmt := inClass (top 37) 10
abbrev s_need_rules : Stmt := top 38
abbrev s_law_cell : Stmt := top 40
abbrev s_law_source : Stmt := top 41
abbrev s_law_draw : Stmt := top 42
abbrev s_law_choose : Stmt := top 43
abbrev s_law_is_equal : Stmt := top 44
abbrev s_law_case : Stmt := top 45
abbrev s_law_part : Stmt := top 46
abbrev s_law_some : Stmt := top 47
abbrev s_law_text : Stmt := top 48
abbrev s_law_inside : Stmt := top 49
abbrev s_law_unbeaten : Stmt := top 50
abbrev s_law_results : Stmt := top 51
abbrev s_law_first : Stmt := top 52
abbrev s_law_cases : Stmt := top 53
abbrev s_law_is_wide : Stmt := top 54
abbrev s_law : Stmt := top 55
abbrev s_K_init : Stmt := s_Rules_init
abbrev s_K_rules : Stmt := s_Rules_rules
abbrev s_K_call : Stmt := s_Rules_call
abbrev s_K_read : Stmt := s_Rules_read
end Cr

namespace Cr
open PySem PySem.Spec PyProof.Rows L2

/-! ### the law's source of numbers -/
def spDraw : Sp := fun vs H Q _ => ∃ (S : Addr) (n : Int), vs = [.ref S, .int n] ∧ Src H S ∧ 0 < n ∧ n < 1073741824 ∧ ∀ H' r, SB S H H' → Src H' S → 0 ≤ r → r < n → Q (.int r) H'
def spChoose : Sp := fun vs H Q _ => ∃ (S l : Addr) (xs : List V), vs = [.ref S, .ref l] ∧ Src H S ∧ l ≠ S ∧ H l = some (.lst xs) ∧ 0 < xs.length ∧ xs.length < 1000 ∧ ∀ H' v, SB S H H' → Src H' S → v ∈ xs → Q v H'
def spSource : Sp := fun vs H Q _ => ∃ c : Int, vs = [.int c] ∧ ∀ H' S, H S = none → Same H H' → Src H' S → Q (.ref S) H'
def spCell (K : PySem.W.Frag) : Sp := fun vs H Q _ => ∃ (a : Addr) (ns : List Int) (i : Nat), vs = [.ref a, .int i] ∧ SqL K H a (ns.map V.int) ∧ ∀ c : Int, Q (.int c) H
/-- builtins are the builtins -/
structure Blt (mg : Str → Option Value) : Prop where
  len : mg "len" = none
  max : mg "max" = none
  min : mg "min" = none
  range : mg "range" = none
  tuple : mg "tuple" = none
  sorted : mg "sorted" = none
  list : mg "list" = none
  str : mg "str" = none
  repr : mg "repr" = none
  isinstance : mg "isinstance" = none
  set : mg "set" = none
  all : mg "all" = none
  zip : mg "zip" = none
  int : mg "int" = none
  bool : mg "bool" = none
section
variable {P : Program} {w : World} {K : PySem.W.Frag} {mg : Str → Option Value} {base : Heap}
theorem emod_small (a : Int) {c : Int} (h : 0 < c) (h2 : c < 2 ^ 64) : -(2 ^ 64) < a % c ∧ a % c < 2 ^ 64 :=
  ⟨Int.lt_of_lt_of_le (by decide) (Int.emod_nonneg _ (by omega)), Int.lt_trans (Int.emod_lt_of_pos _ h) h2⟩
theorem sc_draw : FnScope ["_law_source_here", "_law_many", "_law_found", "_law_mixed"] ["_law_source_here", "_law_many"] (defScope s_law_draw) := ⟨rfl, rfl, rfl, by decide +kernel, rfl, by decide +kernel, by decide +kernel⟩
theorem ok_draw {f : Addr} {fd : FuncData} (F : Fun K "_law_draw" "_law_draw" s_law_draw f fd) : FnOk P w K mg base CX0 1 f fd ["_law_source_here", "_law_many"] spDraw := by
  refine F.ok sc_draw (fun vs H Q E h => ?_) (fun cdv A outer s H vs Q E hr h => ?_)
  · obtain ⟨S, n, rfl, _⟩ := h
    rfl
  · obtain ⟨S, n, rfl, ⟨g0, g1, g2, hS⟩, hn, hn2, q⟩ := h
    refine ⟨_, pss_cons (ps_if (pt_cmpR op_gt (pe_ix ix_list (pv 0) pe_int (fun _ _ => rfl)) pe_int (nomark _))
        (pss_cons (ps_set (i := 2) sc_draw.nd rfl (.inl rfl) (pe_op op_mod (pe_ix ix_list (pv 0) pe_int (fun _ _ => rfl)) (pv 1)))
          (pss_cons (ps_asg (pe_op op_fdiv (pe_ix ix_list (pv 0) pe_int (fun _ _ => rfl)) (pv 1)) (pg_sub (pv 0) pe_int set_list))
            (pss_one (ps_ret (pv 2))))) pss_nil)
      (pss_cons (ps_asg (pe_op op_add (pe_ix ix_list (pv 0) pe_int (fun _ _ => rfl)) pe_int) (pg_sub (pv 0) pe_int set_list))
      (pss_cons (ps_asg (pe_op op_mod (pe_op op_add (pe_op op_add (pe_op op_mul (pe_ix ix_list (pv 0) pe_int (fun _ _ => rfl)) pe_int) (pe_op op_mul pe_int (pe_ix ix_list (pv 0) pe_int (fun _ _ => rfl)))) pe_int) pe_int) (pg_sub (pv 0) pe_int set_list))
      (pss_cons (ps_set (i := 3) sc_draw.nd rfl (.inl rfl) (pe_op op_mod (pe_op op_add (pe_op op_add (pe_op op_mul (pe_ix ix_list (pv 0) pe_int (fun _ _ => rfl)) (pe_ix ix_list (pv 0) pe_int (fun _ _ => rfl))) (pe_op op_mul pe_int (pe_ix ix_list (pv 0) pe_int (fun _ _ => rfl)))) pe_int) pe_int))
      (pss_cons (ps_set (i := 3) sc_draw.nd rfl (.inl rfl) (pe_op op_mod (pe_op op_add (pe_op op_mul (pv 3) (pv 3)) (pe_op op_mul pe_int (pv 3))) pe_int))
      (pss_one (ps_ret (pe_op op_mod (pe_op op_fdiv (pv 3) pe_int) (pv 1)))))))), ?_⟩
    refine ⟨_, rfl, S, _, _, _, rfl, rfl, SqL.of hS, rfl, _, _, rfl, rfl, _, rfl, ?_⟩
    refine ite2 (fun _ => ?_) (fun _ => ?_)
    · refine ⟨_, rfl, S, _, _, _, rfl, rfl, SqL.of hS, rfl, _, rfl, _, _, rfl, rfl, hn, ?_⟩
      refine ⟨_, rfl, S, _, _, _, rfl, rfl, SqL.of hS, rfl, _, rfl, _, _, rfl, rfl, ⟨hn, hn2⟩, _, rfl, S, _, _, _, rfl, rfl, hS, rfl, ?_⟩
      exact ⟨_, rfl, q _ _ SB.at ⟨_, _, _, upd_same⟩ (Int.emod_nonneg _ (by omega)) (Int.emod_lt_of_pos _ hn)⟩
    · -- source[2] = source[2] + 1
      refine ⟨_, rfl, S, _, _, _, rfl, rfl, SqL.of hS, rfl, _, _, rfl, rfl, _, rfl, S, _, _, _, rfl, rfl, hS, rfl, ?_⟩
      -- source[1] = ..
      refine ⟨_, rfl, S, _, _, _, rfl, rfl, SqL.of upd_same, rfl, _, _, rfl, rfl, .inr ⟨by decide, by decide⟩, _, rfl, S, _, _, _, rfl, rfl, SqL.of upd_same, rfl, _, _, rfl, rfl, .inl ⟨by decide, by decide⟩, _, _, rfl, rfl, _, _, rfl, rfl, _, _, rfl, rfl,
        (by show (0 : Int) < 2147483647; decide), _, rfl, S, _, _, _, rfl, rfl, upd_same, rfl, ?_⟩
      rw [upd_upd]
      -- mixed = ..
      refine ⟨_, rfl, S, _, _, _, rfl, rfl, SqL.of upd_same, rfl, _, rfl, S, _, _, _, rfl, rfl, SqL.of upd_same, rfl, _, _, rfl, rfl, .inl (emod_small _ (by decide) (by decide)), _, rfl, S, _, _, _, rfl, rfl, SqL.of upd_same, rfl, _, _, rfl, rfl, .inl ⟨by decide, by decide⟩,
        _, _, rfl, rfl, _, _, rfl, rfl, _, _, rfl, rfl, (by show (0 : Int) < 2147483629; decide), ?_⟩
      refine ⟨_, rfl, _, rfl, _, _, rfl, rfl, .inl (emod_small _ (by decide) (by decide)), _, rfl, _, _, rfl, rfl, .inl ⟨by decide, by decide⟩, _, _, rfl, rfl, _, _, rfl, rfl, (by show (0 : Int) < 2147483587; decide), ?_⟩
      refine ⟨_, rfl, _, _, rfl, rfl, ⟨by decide, by decide⟩, _, rfl, _, _, rfl, rfl, hn, ?_⟩
      exact q _ _ SB.at ⟨_, _, _, upd_same⟩ (Int.emod_nonneg _ (by omega)) (Int.emod_lt_of_pos _ hn)
theorem sc_choose : FnScope ["_law_source_here", "_law_values"] ["_law_source_here", "_law_values"] (defScope s_law_choose) := ⟨rfl, rfl, rfl, by decide +kernel, rfl, by decide +kernel, by decide +kernel⟩
theorem ok_choose {f fD : Addr} {fd fdD : FuncData} (F : Fun K "_law_choose" "_law_choose" s_law_choose f fd) (B : Blt mg) (mD : mg "_law_draw" = some (.ref fD)) (FD : Fun K "_law_draw" "_law_draw" s_law_draw fD fdD) (bD : Binds K fdD ["_law_source_here", "_law_many"] []) :
    FnOk P w K mg base CX0 2 f fd ["_law_source_here", "_law_values"] spChoose := by
  have GD : FnOk P w K mg base CX0 1 fD fdD ["_law_source_here", "_law_many"] spDraw := ok_draw FD
  refine F.ok sc_choose (fun vs H Q E h => ?_) (fun cdv A outer s H vs Q E hr h => ?_)
  · obtain ⟨S, l, xs, rfl, _⟩ := h
    rfl
  · obtain ⟨S, l, xs, rfl, hS, hl, hx, h0, h1, q⟩ := h
    refine ⟨_, pss_one (ps_ret (pe_ix ix_list (pv 1) (pe_call GD hr rfl mD FD.kp bD .nil pass0 (pa_cons (pv 0) (pa_cons (pe_callB call_len_seq (by rfl) B.len PySem.boot_len (pa_cons (pv 1) pa_nil)) pa_nil))) (fun _ _ => rfl))), ?_⟩
    refine ⟨_, rfl, _, rfl, _, rfl, l, _, rfl, .inl (SqL.of hx), S, _, rfl, hS, by omega, by omega, fun H' r sb hS' r0 r1 => ?_⟩
    have hr2 : r.toNat < xs.length := by omega
    refine ⟨l, xs, r, xs[r.toNat], rfl, rfl, SqL.of (sb _ _ hl hx), at_of (by omega) (List.getElem?_eq_getElem hr2), ?_⟩
    exact q _ _ sb hS' (List.getElem_mem hr2)
theorem sc_source : FnScope ["_law_cell_here"] ["_law_cell_here"] (defScope s_law_source) := ⟨rfl, rfl, rfl, by decide +kernel, rfl, by decide +kernel, by decide +kernel⟩
theorem ok_source {f : Addr} {fd : FuncData} (F : Fun K "_law_source" "_law_source" s_law_source f fd) (B : Blt mg) : FnOk P w K mg base CX0 1 f fd ["_law_cell_here"] spSource := by
  refine F.ok sc_source (fun vs H Q E h => ?_) (fun cdv A outer s H vs Q E hr h => ?_)
  · obtain ⟨c, rfl, _⟩ := h
    rfl
  · obtain ⟨c, rfl, q⟩ := h
    refine ⟨_, pss_one (ps_ret (pe_lst (pa_cons (pe_callB (call_max2 rfl) (by rfl) B.max (by decide +kernel) (pa_cons pe_int (pa_cons (pe_op op_sub (pv 0) (pe_op op_pow pe_int pe_int)) pa_nil)))
      (pa_cons (pe_op op_add (pe_op op_mod (pv 0) pe_int) pe_int) (pa_cons pe_int pa_nil))))), ?_⟩
    refine ⟨_, rfl, _, _, rfl, rfl, ⟨by decide, by decide, by decide⟩, _, _, rfl, rfl, _, _, rfl, _, rfl, _, _, rfl, rfl, (by show (0 : Int) < 2147483629; decide), _, _, rfl, rfl, (by show 3 ≤ sizeLine; decide), fun p hp => ?_⟩
    exact q _ p hp (Same.new hp) ⟨_, _, _, upd_same⟩
theorem sc_cell : FnScope ["_law_script", "_law_index"] ["_law_script", "_law_index"] (defScope s_law_cell) := ⟨rfl, rfl, rfl, by decide +kernel, rfl, by decide +kernel, by decide +kernel⟩
theorem ok_cell {f : Addr} {fd : FuncData} (F : Fun K "_law_cell" "_law_cell" s_law_cell f fd) (B : Blt mg) : FnOk P w K mg base CX0 1 f fd ["_law_script", "_law_index"] (spCell K) := by
  refine F.ok sc_cell (fun vs H Q E h => ?_) (fun cdv A outer s H vs Q E hr h => ?_)
  · obtain ⟨a, ns, i, rfl, _⟩ := h
    rfl
  · obtain ⟨a, ns, i, rfl, hS, q⟩ := h
    refine ⟨_, pss_cons (ps_if (pt_cmpR op_lt (pv 1) (pe_callB call_len_seq (by rfl) B.len PySem.boot_len (pa_cons (pv 0) pa_nil)) (nomark _)) (pss_one (ps_ret (pe_ix ix_list (pv 0) (pv 1) (fun _ _ => rfl)))) pss_nil) (pss_one (ps_ret pe_int)), ?_⟩
    refine ⟨_, rfl, _, rfl, a, _, rfl, .inl hS, _, _, rfl, rfl, _, rfl, ?_⟩
    refine ite2 (fun hlt => ?_) (fun _ => ?_)
    · have hlt : (i : Int) < ((ns.map V.int).length : Int) := of_decide_eq_true hlt
      have hi : i < ns.length := by rw [List.length_map] at hlt; omega
      exact ⟨_, rfl, _, rfl, a, _, _, .int ns[i], rfl, rfl, hS, atI_nat (by rw [List.getElem?_map, List.getElem?_eq_getElem hi]; rfl), q _⟩
    · exact q _
end
end Cr

namespace Cr
open PySem PySem.Spec PyProof.Rows L2

/-- a case from the source: many conditions, values below q -/
def spCase : Sp := fun vs H Q _ => ∃ (S : Addr) (m q : Int), vs = [.ref S, .int m, .int q] ∧ Src H S ∧ 0 < q ∧ q ≤ 10 ∧ ∀ H' t cs, SB S H H' → Src H' S → TD H' (.ref t) (caseD cs) → CaseOk cs → Q (.ref t) H'
def spPart : Sp := fun vs H Q _ => ∃ (S t : Addr) (cs : Case), vs = [.ref S, .ref t] ∧ Src H S ∧ TD H (.ref t) (caseD cs) ∧ CaseOk cs ∧ ∀ H' t cs, SB S H H' → Src H' S → TD H' (.ref t) (caseD cs) → CaseOk cs → Q (.ref t) H'
/-- two values of the same data look the same -/
def spSame (K : PySem.W.Frag) : Sp := fun vs H Q _ => ∃ (a b : Addr) (d : PyData), vs = [.ref a, .ref b] ∧ Dp K H (.ref a) d ∧ Dp K H (.ref b) d ∧ d.showable = true ∧ d.hasDict = false ∧ d.depth ≤ 60 ∧ d.shown.length ≤ sizeLine ∧ Q (.bl true) H
theorem condD_td {H : Hp} {p : Addr} {a v : Int} (h : H p = some (.tup [.int a, .int v])) : TD H (.ref p) (condD (a, v)) := .tup h (.cons (.int a) (.cons (.int v) .nil))
theorem CaseOk.snoc {c : Case} {a v : Int} (h : CaseOk c) (ha : ∀ x ∈ c, x.1 < a) (h0 : 0 ≤ a) (h4 : a ≤ 4) (v0 : 0 ≤ v) (v9 : v ≤ 9) : CaseOk (c ++ [(a, v)]) := by
  refine ⟨fun x hx => ?_, ?_⟩
  · rcases List.mem_append.mp hx with z | z
    · exact h.each x z
    · rw [List.mem_singleton.mp z]; exact ⟨h0, h4, v0, v9⟩
  · rw [List.pairwise_append]
    refine ⟨h.asc, by simp, fun x hx y hy => ?_⟩
    rw [List.mem_singleton.mp hy]
    exact ha x hx
section
variable {P : Program} {w : World} {K : PySem.W.Frag} {mg : Str → Option Value} {base : Heap}
theorem sc_same : FnScope ["_law_actual", "_law_expected"] ["_law_actual", "_law_expected"] (defScope s_law_is_equal) := ⟨rfl, rfl, rfl, by decide +kernel, rfl, by decide +kernel, by decide +kernel⟩
theorem boot_repr : bootBuiltins "repr" = some (.builtin "repr") := by decide +kernel
theorem ok_same {f : Addr} {fd : FuncData} (F : Fun K "_law_is_equal" "_law_is_equal" s_law_is_equal f fd) (b : Binds K fd ["_law_actual", "_law_expected"] []) (B : Blt mg) : FnG P w K mg base CX0 1 f (spSame K) := by
  refine okG F sc_same b (fun vs H Q E h => ?_) (fun cdv A outer s H vs Q E hg hr h => ?_)
  · obtain ⟨a, b, d, rfl, _⟩ := h
    rfl
  · obtain ⟨a, b, d, rfl, ha, hb, h1, h2, h3, h4, q⟩ := h
    have hg' : (A.deeper (envOfC "_law_is_equal" (defScope s_law_is_equal) s.heap.objs.size f cdv)).guards = some [] := hg
    refine ⟨_, pss_one (ps_ret (pe_cmpR op_eq (pe_callB (call_reprD hg' hr.units) (by rfl) B.repr boot_repr (pa_cons (pv 0) pa_nil)) (pe_callB (call_reprD hg' hr.units) (by rfl) B.repr boot_repr (pa_cons (pv 1) pa_nil)) (nomark _))), ?_⟩
    refine ⟨_, rfl, a, d, rfl, ha, h1, h2, h3, h4, _, rfl, b, d, rfl, hb, h1, h2, h3, h4, rfl, ?_⟩
    show Q (V.bl (decide (V.str d.shown = V.str d.shown))) H
    rw [decide_eq_true rfl]
    exact q
end
end Cr

namespace Cr
open PySem PySem.Spec PyProof.Rows L2

/-! ### shapes -/
theorem shaped_of {d : PyData} (h1 : d.canLay0 = true) (h2 : d.depth ≤ 64) : SeqAt.shaped d = true := by
  show (d.canLay0 && decide (d.depth ≤ 64)) = true
  rw [h1, decide_eq_true h2]
  rfl
theorem lay_all {α : Type} {f : α → PyData} (h : ∀ x, (f x).canLay0 = true) : ∀ xs : List α, PyData.canLayAll0 (xs.map f) = true
  | [] => by simp [PyData.canLayAll0]
  | x :: xs => by simp [PyData.canLayAll0, h x, lay_all h xs]
theorem dep_all {α : Type} {f : α → PyData} {n : Nat} (h : ∀ x, (f x).depth ≤ n) : ∀ xs : List α, PyData.depthAll (xs.map f) ≤ n
  | [] => by simp [PyData.depthAll]
  | x :: xs => by
    have h1 := h x
    have h2 := dep_all h xs
    simp only [List.map_cons, PyData.depthAll]
    omega
theorem cond_lay (c : Cond) : (condD c).canLay0 = true := by simp [condD, PyData.canLay0, PyData.canLayAll0]
theorem cond_dep (c : Cond) : (condD c).depth ≤ 1 := by simp [condD, PyData.depth, PyData.depthAll]
theorem case_lay (c : Case) : (caseD c).canLay0 = true := by simp only [caseD, PyData.canLay0]; exact lay_all cond_lay c
theorem case_dep (c : Case) : (caseD c).depth ≤ 2 := by
  have h := dep_all cond_dep c
  simp only [caseD, PyData.depth]
  omega
theorem rule_lay (r : Rule) : (ruleD r).canLay0 = true := by
  have h := case_lay r.1
  simp [ruleD, PyData.canLay0, PyData.canLayAll0, h]
theorem rule_dep (r : Rule) : (ruleD r).depth ≤ 3 := by
  have h := case_dep r.1
  simp only [ruleD, PyData.depth, PyData.depthAll]
  omega
theorem shaped_cond (c : Cond) : SeqAt.shaped (condD c) = true := shaped_of (cond_lay c) (Nat.le_trans (cond_dep c) (by decide))
theorem shaped_case (c : Case) : SeqAt.shaped (caseD c) = true := shaped_of (case_lay c) (Nat.le_trans (case_dep c) (by decide))
theorem shaped_rule (r : Rule) : SeqAt.shaped (ruleD r) = true := shaped_of (rule_lay r) (Nat.le_trans (rule_dep r) (by decide))
theorem shaped_rulesL (rs : List Rule) : SeqAt.shaped (.list (rs.map ruleD)) = true := shaped_of (by simp only [PyData.canLay0]; exact lay_all rule_lay rs) (by have h := dep_all rule_dep rs; simp only [PyData.depth]; omega)
theorem shaped_rulesT (rs : List Rule) : SeqAt.shaped (.tuple (rs.map ruleD)) = true := shaped_of (by simp only [PyData.canLay0]; exact lay_all rule_lay rs) (by have h := dep_all rule_dep rs; simp only [PyData.depth]; omega)
theorem shaped_nilL : SeqAt.shaped (.list []) = true := shaped_of (by simp [PyData.canLay0, PyData.canLayAll0]) (by simp [PyData.depth, PyData.depthAll])
theorem eqv_nilL (rs : List Rule) : PyData.eqv (.list (rs.map ruleD)) (.list []) = decide (rs = []) := by
  cases rs with
  | nil => simp [PyData.eqv, PyData.eqvAll]
  | cons r rs => simp [PyData.eqv, PyData.eqvAll]
theorem any_rule (rs : List Rule) (r : Rule) : ((rs.map ruleD).any fun z => PyData.eqv z (ruleD r)) = decide (r ∈ rs) := by
  rw [List.any_map]
  have e : ((fun z => PyData.eqv z (ruleD r)) ∘ ruleD) = fun a => decide (a = r) := by funext a; exact eqv_rule a r
  rw [e]
  by_cases h : r ∈ rs
  · rw [decide_eq_true h, List.any_eq_true]
    exact ⟨r, h, decide_eq_true rfl⟩
  · rw [decide_eq_false h, List.any_eq_false]
    intro x hx
    have : x ≠ r := fun e => h (e ▸ hx)
    simp [this]
/-- new rules in a list -/
def NewRules (H : Hp) (l : Addr) (refs : List V) (rs : List Rule) : Prop := H l = some (.lst refs) ∧ TDs H refs (rs.map ruleD)
theorem NewRules.pick {H : Hp} {l : Addr} {refs : List V} {rs : List Rule} (h : NewRules H l refs rs) {v : V} (hv : v ∈ refs) : ∃ a c r, v = .ref a ∧ H a = some (.tup [.ref c, .int r.2]) ∧ TD H (.ref c) (caseD r.1) ∧ r ∈ rs := by
  obtain ⟨i, hi⟩ := List.mem_iff_getElem?.mp hv
  obtain ⟨d, hd, td⟩ := h.2.get hi
  rw [List.getElem?_map] at hd
  cases e : rs[i]? with
  | none => rw [e] at hd; cases hd
  | some r =>
    rw [e] at hd
    obtain rfl := Option.some.inj hd
    obtain ⟨a, xs, rfl, hx, ts⟩ := td.tupv
    cases ts with
    | cons t1 t2 =>
      cases t2 with
      | cons t3 t4 =>
        cases t4
        obtain ⟨c, ys, rfl, hc, tc⟩ := t1.tupv
        rw [t3.intv] at hx
        exact ⟨a, c, r, rfl, hx, .tup hc tc, List.mem_of_getElem? e⟩
theorem NewRules.mono {S : Addr} {H H' : Hp} {l : Addr} {refs : List V} {rs : List Rule} (h : NewRules H l refs rs) (sb : SB S H H') (hS : Src H S) (n : l ≠ S) : NewRules H' l refs rs := ⟨sb _ _ n h.1, h.2.mono (sb.tk hS)⟩
theorem NewRules.same {H H' : Hp} {l : Addr} {refs : List V} {rs : List Rule} (h : NewRules H l refs rs) (sb : Same H H') : NewRules H' l refs rs := ⟨sb _ _ h.1, h.2.mono (TK.same sb)⟩
theorem NewRules.dp {K : PySem.W.Frag} {H : Hp} {l : Addr} {refs : List V} {rs : List Rule} (h : NewRules H l refs rs) : Dp K H (.ref l) (.list (rs.map ruleD)) := .lst (SqL.of h.1) h.2.dp
theorem NewRules.len {H : Hp} {l : Addr} {refs : List V} {rs : List Rule} (h : NewRules H l refs rs) : refs.length = rs.length := by rw [h.2.length, List.length_map]
/-- the pair of ints at a value -/
def pairAt (H : Hp) : V → Int × Int
  | .ref a => match H a with
    | some (.tup [.int i, .int j]) => (i, j)
    | _ => (0, 0)
  | _ => (0, 0)
theorem pairAt_of {H : Hp} {a : Addr} {i j : Int} (h : H a = some (.tup [.int i, .int j])) : pairAt H (.ref a) = (i, j) := by
  show (match H a with | some (.tup [.int i, .int j]) => (i, j) | _ => (0, 0)) = (i, j)
  rw [h]
theorem cond_at {H : Hp} {v : V} {c : Cond} (h : TD H v (condD c)) : ∃ a, v = .ref a ∧ H a = some (.tup [.int c.1, .int c.2]) := by
  obtain ⟨a, xs, rfl, hx, ts⟩ := h.tupv
  cases ts with
  | cons t1 t2 =>
    cases t2 with
    | cons t3 t4 =>
      cases t4
      rw [t1.intv, t3.intv] at hx
      exact ⟨a, rfl, hx⟩
theorem conds_pairs {H : Hp} : ∀ {vs : List V} {cs : Case}, TDs H vs (cs.map condD) → vs.map (pairAt H) = cs ∧ ∀ x ∈ vs, ∃ a, x = .ref a ∧ H a = some (.tup [.int (pairAt H x).1, .int (pairAt H x).2])
  | [], [], _ => ⟨rfl, fun x h => (nomatch h)⟩
  | [], c :: cs, h => (nomatch h)
  | v :: vs, [], h => (nomatch h)
  | v :: vs, c :: cs, .cons h1 h2 => by
    obtain ⟨e1, e2⟩ := conds_pairs h2
    obtain ⟨a, rfl, ha⟩ := cond_at h1
    have ep := pairAt_of ha
    refine ⟨by rw [List.map_cons, e1, ep], fun x hx => ?_⟩
    rcases List.mem_cons.mp hx with rfl | hx
    · exact ⟨a, rfl, by rw [ep]; exact ha⟩
    · exact e2 x hx
theorem pairs_conds {H : Hp} : ∀ (vs : List V), (∀ x ∈ vs, ∃ a, x = .ref a ∧ H a = some (.tup [.int (pairAt H x).1, .int (pairAt H x).2])) → TDs H vs ((vs.map (pairAt H)).map condD)
  | [], _ => .nil
  | v :: vs, h => by
    obtain ⟨a, rfl, ha⟩ := h v List.mem_cons_self
    exact .cons (condD_td ha) (pairs_conds vs fun x hx => h x (List.mem_cons_of_mem _ hx))
theorem flat_ints : ∀ (cs : Case), (cs.map fun x => V.int x.1).all flatV = true
  | [] => rfl
  | c :: cs => by rw [List.map_cons, List.all_cons, flat_ints cs]; rfl
theorem inV_ints (a : Int) : ∀ (cs : Case), inV (.int a) (cs.map fun x => V.int x.1) = decide (a ∈ cs.map (·.1))
  | [] => rfl
  | c :: cs => by
    have ih := inV_ints a cs
    unfold inV at ih ⊢
    rw [List.map_cons, List.any_cons, ih, List.map_cons]
    have e : eqV (.int c.1) (.int a) = decide (c.1 = a) := by first | rfl | simp [eqV]
    rw [e]
    by_cases h : c.1 = a
    · simp [h]
    · have h2 : ¬ a = c.1 := fun z => h z.symm
      simp [h, h2]
/-- a condition of an attribute that the case does not name -/
def notNamed (oc : Case) (x : Cond) : Bool := decide (x.1 ∉ oc.map (·.1))
/-- conditions put together, sorted -/
theorem merged_ok {oc cs zs : Case} (h1 : CaseOk oc) (h2 : CaseOk cs) (pm : zs.Perm (oc ++ cs.filter (notNamed oc))) (so : zs.Pairwise fun x y => SrtO.lexB y x = false) : CaseOk zs := by
  have mem : ∀ x ∈ zs, x ∈ oc ∨ x ∈ cs := fun x hx => by
    rcases List.mem_append.mp (pm.mem_iff.mp hx) with z | z
    · exact .inl z
    · exact .inr (List.mem_filter.mp z).1
  refine ⟨fun x hx => (mem x hx).elim (h1.each x) (h2.each x), ?_⟩
  have nd : ((oc ++ cs.filter (notNamed oc)).map (·.1)).Nodup := by
    rw [List.map_append, List.nodup_append]
    refine ⟨?_, ?_, ?_⟩
    · exact List.pairwise_map.mpr (h1.asc.imp fun h => Int.ne_of_lt h)
    · exact List.pairwise_map.mpr ((h2.asc.imp fun {x y : Cond} (h : x.1 < y.1) => Int.ne_of_lt h).sublist List.filter_sublist)
    · intro a ha b hb e
      obtain ⟨y, hy, rfl⟩ := List.mem_map.mp hb
      have z : decide (y.1 ∉ oc.map (·.1)) = true := (List.mem_filter.mp hy).2
      rw [decide_eq_true_eq] at z
      exact z (e ▸ ha)
  have nz : (zs.map (·.1)).Nodup := (pm.map (·.1)).nodup_iff.mpr nd
  have nz2 : zs.Pairwise fun x y => x.1 ≠ y.1 := List.pairwise_map.mp nz
  refine (so.and nz2).imp fun {x y} h => ?_
  obtain ⟨a, b⟩ := h
  have := SrtO.lexB_no.mp a
  omega
end Cr

namespace Cr
open PySem PySem.Spec PyProof.Rows L2

/-! ### texts -/
abbrev numS (i : Int) : Str := toString i
def condS (c : Cond) : Str := numS c.1 ++ "=" ++ numS c.2
def lineS (r : Rule) : Str := Txt.join " " (r.1.map condS ++ [("gives" : Str), numS r.2])
def textS (rs : List Rule) : Str := Txt.join "" (rs.map fun r => lineS r ++ "\n")
theorem num_small : ∀ i : Nat, i < 100 → (TL.tl (numS (i : Int))).length ≤ 2 ∧ ∀ c ∈ TL.tl (numS (i : Int)), 48 ≤ c ∧ c ≤ 57 := by decide +kernel
theorem num_len {i : Int} (h0 : 0 ≤ i) (h1 : i ≤ 99) : (numS i).length ≤ 2 ∧ ∀ c ∈ TL.tl (numS i), 48 ≤ c ∧ c ≤ 57 := by
  obtain ⟨n, rfl⟩ := Int.eq_ofNat_of_zero_le h0
  have h := num_small n (by omega)
  rw [TL.len_tl]
  exact h
theorem eq_tl : TL.tl ("=" : Str) = [61] := by decide +kernel
theorem sp_tl : TL.tl (" " : Str) = [32] := by decide +kernel
theorem nl_tl : TL.tl ("\n" : Str) = [10] := by decide +kernel
theorem gives_tl : TL.tl ("gives" : Str) = [103, 105, 118, 101, 115] := by decide +kernel
theorem cond_signs {c : Cond} (h : 0 ≤ c.1 ∧ c.1 ≤ 4 ∧ 0 ≤ c.2 ∧ c.2 ≤ 9) : (condS c).length ≤ 5 ∧ ∀ x ∈ TL.tl (condS c), 48 ≤ x ∧ x ≤ 61 := by
  obtain ⟨a1, a2⟩ := num_len h.1 (by omega : c.1 ≤ 99)
  obtain ⟨b1, b2⟩ := num_len h.2.2.1 (by omega : c.2 ≤ 99)
  rw [TL.len_tl] at a1 b1 ⊢
  have e : TL.tl (condS c) = TL.tl (numS c.1) ++ [61] ++ TL.tl (numS c.2) := by
    unfold condS
    rw [TL.tl_append, TL.tl_append, eq_tl]
  rw [e]
  refine ⟨by rw [List.length_append, List.length_append, List.length_singleton]; omega, fun x hx => ?_⟩
  rcases List.mem_append.mp hx with hx | hx
  · rcases List.mem_append.mp hx with hx | hx
    · have := a2 x hx; omega
    · rw [List.mem_singleton.mp hx]; decide
  · have := b2 x hx; omega
/-- the words of a line -/
def wordsS (r : Rule) : List Str := r.1.map condS ++ [("gives" : Str), numS r.2]
theorem words_signs {r : Rule} (h : RuleOk r) : ∀ y ∈ wordsS r, y.length ≤ 5 ∧ ∀ x ∈ TL.tl y, 48 ≤ x ∧ x ≤ 122 := by
  intro y hy
  unfold wordsS at hy
  rcases List.mem_append.mp hy with hy | hy
  · obtain ⟨c, hc, rfl⟩ := List.mem_map.mp hy
    obtain ⟨a, b⟩ := cond_signs (h.case.each c hc)
    exact ⟨a, fun x hx => by have := b x hx; omega⟩
  · rcases List.mem_cons.mp hy with rfl | hy
    · refine ⟨by rw [TL.len_tl, gives_tl]; decide, fun x hx => ?_⟩
      rw [gives_tl] at hx
      revert x
      decide
    · rw [List.mem_singleton.mp hy]
      obtain ⟨a, b⟩ := num_len h.lo h.hi
      exact ⟨by omega, fun x hx => by have := b x hx; omega⟩
theorem sum_le {α : Type} {f : α → Nat} {k : Nat} : ∀ {l : List α}, (∀ x ∈ l, f x ≤ k) → (l.map f).sum ≤ l.length * k
  | [], _ => by simp
  | x :: l, h => by
    have h1 := h x List.mem_cons_self
    have h2 := sum_le (l := l) fun y hy => h y (List.mem_cons_of_mem _ hy)
    rw [List.map_cons, List.sum_cons, List.length_cons, Nat.succ_mul]
    omega
theorem joinL_len (S : List Nat) : ∀ l : List (List Nat), (TL.joinL S l).length ≤ (l.map List.length).sum + l.length * S.length
  | [] => by simp [TL.joinL]
  | [p] => by simp [TL.joinL]
  | p :: q :: r => by
    have h := joinL_len S (q :: r)
    show (p ++ (S ++ TL.joinL S (q :: r))).length ≤ _
    rw [List.length_append, List.length_append, List.map_cons, List.sum_cons, List.length_cons, Nat.succ_mul]
    omega
theorem joinL_mem {S : List Nat} {x : Nat} : ∀ {l : List (List Nat)}, x ∈ TL.joinL S l → x ∈ S ∨ ∃ p ∈ l, x ∈ p
  | [], h => (nomatch h)
  | [p], h => .inr ⟨p, List.mem_cons_self, h⟩
  | p :: q :: r, h => by
    have h : x ∈ p ++ (S ++ TL.joinL S (q :: r)) := h
    rcases List.mem_append.mp h with h | h
    · exact .inr ⟨p, List.mem_cons_self, h⟩
    · rcases List.mem_append.mp h with h | h
      · exact .inl h
      · rcases joinL_mem (l := q :: r) h with h | ⟨z, hz, h⟩
        · exact .inl h
        · exact .inr ⟨z, List.mem_cons_of_mem _ hz, h⟩
theorem words_len {r : Rule} (h : RuleOk r) : (wordsS r).length ≤ 7 := by
  unfold wordsS
  rw [List.length_append, List.length_map]
  have := h.case.len
  show r.1.length + 2 ≤ 7
  omega
theorem line_tl (r : Rule) : TL.tl (lineS r) = TL.joinL [32] ((wordsS r).map TL.tl) := by
  unfold lineS
  rw [TL.join_eq, TL.tl_join, sp_tl]
  rfl
theorem line_signs {r : Rule} (h : RuleOk r) : (lineS r).length ≤ 42 ∧ 10 ∉ TL.tl (lineS r) := by
  have hw := words_signs h
  have hl := words_len h
  rw [TL.len_tl, line_tl]
  constructor
  · have a := joinL_len [32] ((wordsS r).map TL.tl)
    have b : (((wordsS r).map TL.tl).map List.length).sum ≤ ((wordsS r).map TL.tl).length * 5 := sum_le fun x hx => by
      obtain ⟨y, hy, rfl⟩ := List.mem_map.mp hx
      have := (hw y hy).1
      rw [TL.len_tl] at this
      exact this
    rw [List.length_map] at a b
    simp only [List.length_singleton] at a
    omega
  · intro hx
    rcases joinL_mem hx with hx | ⟨p, hp, hx⟩
    · exact absurd (List.mem_singleton.mp hx) (by decide)
    · obtain ⟨y, hy, rfl⟩ := List.mem_map.mp hp
      have := (hw y hy).2 10 hx
      omega
/-- the lines of a text -/
theorem text_join (rs : List Rule) : textS rs = Txt.join "\n" (rs.map lineS ++ [Str.empty]) := by
  refine TL.ext_tl ?_
  unfold textS
  rw [TL.join_eq, TL.tl_join, TL.join_eq, TL.tl_join, nl_tl]
  have e0 : TL.tl ("" : Str) = [] := by decide +kernel
  rw [e0]
  induction rs with
  | nil => rfl
  | cons r rs ih =>
    cases rs with
    | nil =>
      show TL.tl (lineS r ++ "\n") = TL.tl (lineS r) ++ ([10] ++ TL.tl Str.empty)
      rw [TL.tl_append, nl_tl]
      rfl
    | cons r2 rs =>
      show TL.tl (lineS r ++ "\n") ++ ([] ++ TL.joinL [] (((r2 :: rs).map fun r => lineS r ++ "\n").map TL.tl)) = TL.tl (lineS r) ++ ([10] ++ TL.joinL [10] (((r2 :: rs).map lineS ++ [Str.empty]).map TL.tl))
      rw [TL.tl_append, nl_tl, List.nil_append, ih, List.append_assoc]
theorem text_split {rs : List Rule} (h : ∀ r ∈ rs, RuleOk r) : Txt.split (textS rs) "\n" = rs.map lineS ++ [Str.empty] := by
  rw [text_join]
  refine TL.split_join nl_tl (by decide +kernel) (by simp) fun p hp => ?_
  rcases List.mem_append.mp hp with hp | hp
  · obtain ⟨r, hr, rfl⟩ := List.mem_map.mp hp
    exact (line_signs (h r hr)).2
  · rw [List.mem_singleton.mp hp]
    exact fun z => (nomatch z)
theorem line_split {r : Rule} (h : RuleOk r) : Txt.split (lineS r) " " = wordsS r := by
  show Txt.split (Txt.join " " (wordsS r)) " " = wordsS r
  refine TL.split_join sp_tl (by decide +kernel) (by unfold wordsS; simp) fun p hp hx => ?_
  have := (words_signs h p hp).2 32 hx
  omega
theorem cond_cut {c : Cond} (h : 0 ≤ c.1 ∧ c.1 ≤ 4 ∧ 0 ≤ c.2 ∧ c.2 ≤ 9) : Txt.partition (condS c) "=" = (numS c.1, ("=" : Str), numS c.2) := by
  refine TL.partition_app eq_tl fun hx => ?_
  have := (num_len h.1 (by omega : c.1 ≤ 99)).2 61 hx
  omega
theorem text_len {rs : List Rule} (h : ∀ r ∈ rs, RuleOk r) : (textS rs).length ≤ rs.length * 43 := by
  rw [TL.len_tl]
  unfold textS
  rw [TL.join_eq, TL.tl_join]
  have e0 : TL.tl ("" : Str) = [] := by decide +kernel
  rw [e0]
  have a := joinL_len [] ((rs.map fun r => lineS r ++ "\n").map TL.tl)
  have b : (((rs.map fun r => lineS r ++ "\n").map TL.tl).map List.length).sum ≤ ((rs.map fun r => lineS r ++ "\n").map TL.tl).length * 43 := sum_le fun x hx => by
    obtain ⟨y, hy, rfl⟩ := List.mem_map.mp hx
    obtain ⟨r, hr, rfl⟩ := List.mem_map.mp hy
    rw [TL.tl_append, nl_tl, List.length_append, ← TL.len_tl]
    have := (line_signs (h r hr)).1
    show (lineS r).length + 1 ≤ 43
    omega
  simp only [List.length_map, List.length_nil, Nat.mul_zero, Nat.add_zero] at a b
  omega
end Cr

namespace Cr
open PySem PySem.Spec PyProof.Rows L2

/-- all conditions of cs are among those of ds -/
def inB (cs ds : Case) : Bool := cs.all fun c => decide (c ∈ ds)
def spInside : Sp := fun vs H Q _ => ∃ (a b : Addr) (cs ds : Case), vs = [.ref a, .ref b] ∧ TD H (.ref a) (caseD cs) ∧ TD H (.ref b) (caseD ds) ∧ cs.length ≤ 1000 ∧ ∀ H', Same H H' → Q (.bl (inB cs ds)) H'
def firstV (rs : List Rule) (cs : Case) : V := match rs.find? fun r => inB r.1 cs with
  | some r => .int r.2
  | none => .non
def spFirst : Sp := fun vs H Q _ => ∃ (l t : Addr) (refs : List V) (rs : List Rule) (cs : Case), vs = [.ref l, .ref t] ∧ NewRules H l refs rs ∧ (∀ r ∈ rs, RuleOk r) ∧ TD H (.ref t) (caseD cs) ∧ ∀ H', Same H H' → Q (firstV rs cs) H'
def spText : Sp := fun vs H Q _ => ∃ (l : Addr) (refs : List V) (rs : List Rule), vs = [.ref l] ∧ NewRules H l refs rs ∧ RulesOk 100 rs ∧ ∀ H', Same H H' → Q (.str (textS rs)) H'
theorem any_cond (ds : Case) (c : Cond) : ((ds.map condD).any fun z => PyData.eqv z (condD c)) = decide (c ∈ ds) := by
  rw [List.any_map]
  have e : ((fun z => PyData.eqv z (condD c)) ∘ condD) = fun a => decide (a = c) := by funext a; exact eqv_cond a c
  rw [e]
  by_cases h : c ∈ ds
  · rw [decide_eq_true h, List.any_eq_true]
    exact ⟨c, h, decide_eq_true rfl⟩
  · rw [decide_eq_false h, List.any_eq_false]
    intro x hx
    have : x ≠ c := fun e => h (e ▸ hx)
    simp [this]
theorem eqv_condsL (cs : Case) : PyData.eqv (.list (cs.map condD)) (.list []) = decide (cs = []) := by
  cases cs with
  | nil => simp [PyData.eqv, PyData.eqvAll]
  | cons r rs => simp [PyData.eqv, PyData.eqvAll]
theorem shaped_condsL (cs : Case) : SeqAt.shaped (.list (cs.map condD)) = true := shaped_of (by simp only [PyData.canLay0]; exact lay_all cond_lay cs) (by have h := dep_all cond_dep cs; simp only [PyData.depth]; omega)
theorem inB_filter (cs ds : Case) : decide ((cs.filter fun c => decide (c ∉ ds)) = []) = inB cs ds := by
  unfold inB
  by_cases h : (cs.filter fun c => decide (c ∉ ds)) = []
  · rw [decide_eq_true h]
    symm
    rw [List.all_eq_true]
    intro c hc
    rw [List.filter_eq_nil_iff] at h
    have := h c hc
    simpa using this
  · rw [decide_eq_false h]
    symm
    rw [← Bool.not_eq_true, List.all_eq_true]
    intro z
    refine h (List.filter_eq_nil_iff.mpr fun c hc => ?_)
    have := z c hc
    simpa using this
/-- a condition of the case at a place -/
theorem cond_get {H : Hp} {xs : List V} {cs : Case} (h : TDs H xs (cs.map condD)) {i : Nat} {x : V} (hx : xs[i]? = some x) : ∃ c, cs[i]? = some c ∧ TD H x (condD c) ∧ cs.take (i + 1) = cs.take i ++ [c] := by
  obtain ⟨d, hd, tx⟩ := h.get hx
  rw [List.getElem?_map] at hd
  cases e : cs[i]? with
  | none => rw [e] at hd; cases hd
  | some c =>
    rw [e] at hd
    obtain rfl := Option.some.inj hd
    exact ⟨c, rfl, tx, by rw [List.take_succ, e]; rfl⟩
theorem rule_get {H : Hp} {xs : List V} {rs : List Rule} (h : TDs H xs (rs.map ruleD)) {i : Nat} {x : V} (hx : xs[i]? = some x) :
    ∃ r a c, rs[i]? = some r ∧ x = .ref a ∧ H a = some (.tup [.ref c, .int r.2]) ∧ TD H (.ref c) (caseD r.1) ∧ rs.take (i + 1) = rs.take i ++ [r] := by
  obtain ⟨d, hd, tx⟩ := h.get hx
  rw [List.getElem?_map] at hd
  cases e : rs[i]? with
  | none => rw [e] at hd; cases hd
  | some r =>
    rw [e] at hd
    obtain rfl := Option.some.inj hd
    obtain ⟨a, xs, rfl, hx, ts⟩ := tx.tupv
    cases ts with
    | cons t1 t2 =>
      cases t2 with
      | cons t3 t4 =>
        cases t4
        obtain ⟨c, ys, rfl, hc, tc⟩ := t1.tupv
        rw [t3.intv] at hx
        exact ⟨r, a, c, rfl, rfl, hx, .tup hc tc, by rw [List.take_succ, e]; rfl⟩
theorem log_small {i : Int} (h0 : 0 ≤ i) (h1 : i ≤ 99) : i.natAbs.log2 < 1920 := by
  obtain ⟨n, rfl⟩ := Int.eq_ofNat_of_zero_le h0
  have h : n < 128 := by omega
  show (n : Int).natAbs.log2 < 1920
  rw [Int.natAbs_natCast]
  by_cases hz : n = 0
  · subst hz; decide
  · have := (Nat.log2_lt hz).mpr (show n < 2 ^ 7 by omega)
    omega
end Cr

namespace Cr
open PySem PySem.Spec PyProof.Rows L2

/-- a comprehension over zip of two tuples, of any lengths -/
theorem lc_zipT {K : PySem.W.Frag} {a b : Addr} {xs ys : List V} {g : TG} {tt : TT} {te : TE} {vs : List Nat} {σ : L2.St} {H1 : Hp} {D : Addr} {Qd : Hp → Prop} (Pv : Nat → Hp → Prop) (h0 : Pv 0 (upd H1 D (.lst []))) (hq : ∀ i H, Pv i H → SqT K H a xs ∧ SqT K H b ys)
    (hs : ∀ i x y T H, xs[i]? = some x → ys[i]? = some y → Pv i H → H T = none → g (.ref T) (wipe σ vs) (upd H T (.tup [x, y])) fun σ2 H2 => wipe σ2 vs = wipe σ vs ∧ tt σ2 H2 fun b H3 =>
      if b = true then te σ2 H3 fun y H4 => ∃ acc, H4 D = some (.lst acc) ∧ acc.length < sizeLine ∧ Pv (i + 1) (upd H4 D (.lst (acc ++ [y]))) else Pv (i + 1) H3) (hd : ∀ H, Pv (min xs.length ys.length) H → Qd H) :
    ∃ W : Nat → Nat → Hp → Prop, (∃ m, W 0 m (upd H1 D (.lst []))) ∧ ∀ i m H, W i m H →
      ((RZ.ItzT K a b).stop i H ∧ Qd H) ∨ ((RZ.ItzT K a b).go i H ∧ ∃ Nx : Hp → Prop, (∀ H', Nx H' → ∃ m', m' < m ∧ W (i + 1) m' H') ∧ ∀ x H', (RZ.ItzT K a b).yld i H x H' → g x (wipe σ vs) H' fun σ2 H2 => wipe σ2 vs = wipe σ vs ∧ tt σ2 H2 fun b H3 =>
        if b = true then te σ2 H3 fun y H4 => ∃ acc, H4 D = some (.lst acc) ∧ acc.length < sizeLine ∧ Nx (upd H4 D (.lst (acc ++ [y]))) else Nx H3) := by
  refine ⟨fun i m H => m = min xs.length ys.length - i ∧ i ≤ min xs.length ys.length ∧ Pv i H, ⟨_, rfl, Nat.zero_le _, h0⟩, ?_⟩
  rintro i m H ⟨rfl, hi, p⟩
  obtain ⟨qx, qy⟩ := hq i H p
  by_cases lt : i < min xs.length ys.length
  · have hx : xs[i]? = some xs[i] := List.getElem?_eq_getElem (by omega)
    have hy : ys[i]? = some ys[i] := List.getElem?_eq_getElem (by omega)
    refine .inr ⟨⟨xs, ys, _, _, qx, qy, hx, hy⟩, Pv (i + 1), fun H' p' => ⟨min xs.length ys.length - (i + 1), by omega, rfl, lt, p'⟩, ?_⟩
    rintro v H' ⟨T, x, y, rfl, hT, rfl, e1, e2⟩
    exact hs i x y T H (e1 xs qx) (e2 ys qy) p hT
  · obtain rfl : i = min xs.length ys.length := by omega
    exact .inl ⟨⟨xs, ys, qx, qy, by omega⟩, hd H p⟩

/-! ### the program's forms -/
/-- the module's numbers -/
structure Nums (mg : Str → Option Value) : Prop where
  attr : ∃ t, mg "MOST_ATTRIBUTE" = some (.int 4 t)
  val : ∃ t, mg "MOST_VALUE" = some (.int 9 t)
  res : ∃ t, mg "MOST_RESULT" = some (.int 99 t)
  rules : ∃ t, mg "MOST_RULES" = some (.int 12 t)
def spIsNumber : Sp := fun vs H Q _ => ∃ (i m : Int), vs = [.int i, .int m] ∧ 0 ≤ i ∧ i ≤ m ∧ Q (.bl true) H
def spIsCond : Sp := fun vs H Q _ => ∃ (a : Addr) (c : Cond), vs = [.ref a] ∧ TD H (.ref a) (condD c) ∧ (0 ≤ c.1 ∧ c.1 ≤ 4 ∧ 0 ≤ c.2 ∧ c.2 ≤ 9) ∧ Q (.bl true) H
def spIsCase : Sp := fun vs H Q _ => ∃ (a : Addr) (cs : Case), vs = [.ref a] ∧ TD H (.ref a) (caseD cs) ∧ CaseOk cs ∧ ∀ H', Same H H' → Q (.bl true) H'
def spIsRule : Sp := fun vs H Q _ => ∃ (a : Addr) (r : Rule), vs = [.ref a] ∧ TD H (.ref a) (ruleD r) ∧ RuleOk r ∧ ∀ H', Same H H' → Q (.bl true) H'
def spAreRules : Sp := fun vs H Q _ => ∃ (a : Addr) (xs : List V) (rs : List Rule), vs = [.ref a] ∧ H a = some (.tup xs) ∧ TDs H xs (rs.map ruleD) ∧ RulesOk 12 rs ∧ ∀ H', Same H H' → Q (.bl true) H'
section
variable {P : Program} {w : World} {K : PySem.W.Frag} {mg : Str → Option Value} {base : Heap}
theorem boot_isinstance' : bootBuiltins "isinstance" = some (.builtin "isinstance") := by decide +kernel
theorem sc_isNumber : FnScope ["thing", "most"] ["thing", "most"] (defScope s_is_number) := ⟨rfl, rfl, rfl, by decide +kernel, rfl, by decide +kernel, by decide +kernel⟩
theorem ok_isNumber {f : Addr} {fd : FuncData} (F : Fun K "is_number" "is_number" s_is_number f fd) (B : Blt mg) : FnOk P w K mg base CX0 1 f fd ["thing", "most"] spIsNumber := by
  refine F.ok sc_isNumber (fun vs H Q E h => ?_) (fun cdv A outer s H vs Q E hr h => ?_)
  · obtain ⟨i, m, rfl, _⟩ := h
    rfl
  · obtain ⟨i, m, rfl, h0, h1, q⟩ := h
    refine ⟨_, pss_one (ps_ret (pe_and (pe_callB call_isi (by rfl) B.isinstance boot_isinstance' (pa_cons (pv 0) (pa_cons (pe_bltn (v := .ty "int") (u := .type "int") (by rfl) B.int (by decide +kernel) rfl) pa_nil)))
      (pe_and (pe_not (pe_callB call_isi (by rfl) B.isinstance boot_isinstance' (pa_cons (pv 0) (pa_cons (pe_bltn (v := .ty "bool") (u := .type "bool") (by rfl) B.bool (by decide +kernel) rfl) pa_nil))))
        (pe_one (pe_chain op_le op_le pe_int (pv 0) (pv 1)))))), ?_⟩
    refine ⟨_, rfl, _, _, _, _, true, rfl, .ty "int", .base (.int i), kit_ty (by decide +kernel), true, rfl, ?_⟩
    refine iteT ⟨_, rfl, _, _, _, _, false, rfl, .ty "bool", .base (.int i), kit_ty (by decide +kernel), false, rfl, true, rfl, ?_⟩
    refine iteT ⟨_, rfl, _, _, rfl, rfl, true, ?_, ?_⟩
    · show V.bl (decide (0 ≤ i)) = V.bl true
      rw [decide_eq_true h0]
    · refine iteT ⟨_, rfl, _, _, rfl, rfl, ?_⟩
      show Q (V.bl (decide (i ≤ m))) H
      rw [decide_eq_true h1]
      exact q
theorem sc_isCond : FnScope ["thing", "attribute", "value"] ["thing"] (defScope s_is_condition) := ⟨rfl, rfl, rfl, by decide +kernel, rfl, by decide +kernel, by decide +kernel⟩
theorem ok_isCond {f fN : Addr} {fd dN : FuncData} (F : Fun K "is_condition" "is_condition" s_is_condition f fd) (B : Blt mg) (N : Nums mg) (mN : mg "is_number" = some (.ref fN)) (FN : Fun K "is_number" "is_number" s_is_number fN dN) (bN : Binds K dN ["thing", "most"] []) :
    FnOk P w K mg base CX0 2 f fd ["thing"] spIsCond := by
  have GN : FnOk P w K mg base CX0 1 fN dN ["thing", "most"] spIsNumber := ok_isNumber FN B
  obtain ⟨t4, n4⟩ := N.attr
  obtain ⟨t9, n9⟩ := N.val
  refine F.ok sc_isCond (fun vs H Q E h => ?_) (fun cdv A outer s H vs Q E hr h => ?_)
  · obtain ⟨a, c, rfl, _⟩ := h
    rfl
  · obtain ⟨a, c, rfl, ht, ok, q⟩ := h
    obtain ⟨_, e, ha⟩ := cond_at ht
    cases e
    refine ⟨_, pss_cons (ps_if (PW.pt (pw_or (pt_not (pt_val (pe_callB call_isi (by rfl) B.isinstance boot_isinstance' (pa_cons (pv 0) (pa_cons (pe_bltn (v := .ty "tuple") (u := .type "tuple") (by rfl) B.tuple (by decide +kernel) rfl) pa_nil)))))
        (pw_or1 (pt_cmpR op_ne (pe_callB call_len_seq (by rfl) B.len PySem.boot_len (pa_cons (pv 0) pa_nil)) pe_int (nomark _))))) (pss_one (ps_ret pe_bl)) pss_nil)
      (pss_cons (ps_asg (pv 0) (pg_tup rfl (pgs_cons (pg_name (i := 1) sc_isCond.nd rfl (.inl rfl)) (pgs_cons (pg_name (i := 2) sc_isCond.nd rfl (.inl rfl)) pgs_nil))))
      (pss_one (ps_ret (pe_and (pe_call GN hr rfl mN FN.kp bN .nil pass0 (pa_cons (pv 1) (pa_cons (pe_glob (v := .int 4) rfl n4 ⟨_, rfl⟩) pa_nil)))
        (pe_one (pe_call GN hr rfl mN FN.kp bN .nil pass0 (pa_cons (pv 2) (pa_cons (pe_glob (v := .int 9) rfl n9 ⟨_, rfl⟩) pa_nil)))))))), ?_⟩
    refine ⟨_, rfl, _, _, _, _, true, rfl, .ty "tuple", .base (.tup ha), kit_ty (by decide +kernel), true, rfl, ?_⟩
    refine iteF ⟨_, rfl, a, _, rfl, .inr (SqT.of ha), rfl, _, rfl, ?_⟩
    refine iteF ⟨_, rfl, a, _, rfl, SqT.of ha, rfl, _, _, rfl, _, _, rfl, rfl, ?_⟩
    refine ⟨_, rfl, _, _, rfl, ok.1, ok.2.1, true, rfl, ?_⟩
    exact iteT ⟨_, rfl, _, _, rfl, ok.2.2.1, ok.2.2.2, q⟩
theorem sc_isCase : FnScope ["thing", "part", "one", "following"] ["thing"] (defScope s_is_case) := ⟨rfl, rfl, rfl, by decide +kernel, rfl, by decide +kernel, by decide +kernel⟩
theorem all_true (n : Nat) : (List.replicate n true).all id = true := by
  rw [List.all_eq_true]
  intro b hb
  exact List.eq_of_mem_replicate hb
theorem reps (n : Nat) : (List.replicate n (V.bl true)) = (List.replicate n true).map V.bl := by rw [List.map_replicate]
theorem reps_snoc (n : Nat) : List.replicate n (V.bl true) ++ [V.bl true] = List.replicate (n + 1) (V.bl true) := by rw [List.replicate_succ']
theorem ok_isCase {f fC fN : Addr} {fd dC dN : FuncData} (F : Fun K "is_case" "is_case" s_is_case f fd) (B : Blt mg) (N : Nums mg) (mN : mg "is_number" = some (.ref fN)) (FN : Fun K "is_number" "is_number" s_is_number fN dN) (bN : Binds K dN ["thing", "most"] [])
    (mC : mg "is_condition" = some (.ref fC)) (FC : Fun K "is_condition" "is_condition" s_is_condition fC dC) (bC : Binds K dC ["thing"] []) : FnOk P w K mg base CX0 3 f fd ["thing"] spIsCase := by
  have GC : FnOk P w K mg base CX0 2 fC dC ["thing"] spIsCond := ok_isCond FC B N mN FN bN
  refine F.ok sc_isCase (fun vs H Q E h => ?_) (fun cdv A outer s H vs Q E hr h => ?_)
  · obtain ⟨a, c, rfl, _⟩ := h
    rfl
  · obtain ⟨a, cs, rfl, ht, ok, q⟩ := h
    obtain ⟨_, xs, e, ha, tds⟩ := ht.tupv
    cases e
    have hlen : xs.length = cs.length := by rw [tds.length, List.length_map]
    have c5 := ok.len
    refine ⟨_, pss_cons (ps_if (PW.pt (pw_or (pt_not (pt_val (pe_callB call_isi (by rfl) B.isinstance boot_isinstance' (pa_cons (pv 0) (pa_cons (pe_bltn (v := .ty "tuple") (u := .type "tuple") (by rfl) B.tuple (by decide +kernel) rfl) pa_nil)))))
        (pw_or1 (pt_not (pt_val (pe_callB (cr_all rfl) (by rfl) B.all (by decide +kernel) (pa_cons (pe_lc (own := [("part", 1)]) (g := gName 1) (tt := tYes) rfl sc_isCase.nd (pi_tup (pv 0)) (blkOk_by (own := [("part", 1)]) (N := ["thing", "part", "one", "following"]) (sc := defScope s_is_case) (by decide +kernel))
          (fun _ _ _ _ _ => pg_name (i := 1) sc_isCase.nd rfl (Or.inl rfl)) (fun _ _ _ _ _ => pts_nil) (fun _ _ _ _ _ => pe_call GC hr rfl mC FC.kp bC .nil pass0 (pa_cons (pv 1) pa_nil))) pa_nil))))))) (pss_one (ps_ret pe_bl)) pss_nil)
      (pss_one (ps_ret (pe_callB (cr_all rfl) (by rfl) B.all (by decide +kernel) (pa_cons (pe_lc (own := [("one", 2), ("following", 3)]) (g := gTup K 2 (gCons (gName 2) (gCons (gName 3) gNil))) (tt := tYes) rfl sc_isCase.nd
          (RZ.pi_zipA (by rfl) B.zip (pa_cons (pv 0) (pa_cons (pe_slice sl_tupA (pv 0) (po_some pe_int) po_none) pa_nil))) (blkOk_by (own := [("one", 2), ("following", 3)]) (N := ["thing", "part", "one", "following"]) (sc := defScope s_is_case) (by decide +kernel))
          (fun _ _ _ _ _ => pg_tup rfl (pgs_cons (pg_name (i := 2) sc_isCase.nd rfl (Or.inl rfl)) (pgs_cons (pg_name (i := 3) sc_isCase.nd rfl (Or.inl rfl)) pgs_nil))) (fun _ _ _ _ _ => pts_nil)
          (fun _ _ _ _ _ => pe_cmpR op_lt (pe_ix (show IxR _ (rIxT K) from ix_tup) (pv 2) pe_int (fun _ _ => rfl)) (pe_ix (show IxR _ (rIxT K) from ix_tup) (pv 3) pe_int (fun _ _ => rfl)) (nomark _))) pa_nil)))), ?_⟩
    refine ⟨_, rfl, _, _, _, _, true, rfl, .ty "tuple", .base (.tup ha), kit_ty (by decide +kernel), true, rfl, ?_⟩
    refine iteF ⟨_, rfl, a, rfl, ⟨_, SqT.of ha⟩, fun D hD => ?_⟩
    refine lc_tup (K := K) (a := a) (xs := xs) (fun i H' => Same H H' ∧ H' D = some (.lst (List.replicate i (.bl true)))) ⟨Same.new hD, upd_same⟩ (fun i H' _ h => SqT.of (h.1 _ _ ha)) ?_ ?_
    · rintro i x H1 hx ⟨sm, hL⟩
      obtain ⟨c, hc, tx, _⟩ := cond_get tds hx
      have tx1 := tx.mono (TK.same sm)
      obtain ⟨ac, rfl, hac⟩ := cond_at tx1
      have hi : i < cs.length := (List.getElem?_eq_some_iff.mp hc).1
      refine ⟨rfl, _, rfl, ac, c, rfl, tx1, ok.each c (List.mem_of_getElem? hc), _, hL, by rw [List.length_replicate, sizeLine_eq]; omega, ?_, ?_⟩
      · exact fun b o eb => by rw [upd_ne (ne_of_none eb hD)]; exact sm b o eb
      · rw [reps_snoc]; exact upd_same
    rintro H1 ⟨sm, hL⟩
    refine ⟨D, List.replicate xs.length true, rfl, SqL.of (by rw [← reps]; exact hL), true, by rw [all_true], ?_⟩
    refine iteF ?_
    -- zip(thing, thing[1:])
    have ha1 := sm _ _ ha
    have key : ∀ (b : Addr) (H2 : Hp), Same H H2 → H2 b = some (.tup (xs.drop 1)) → ∀ D2, H2 D2 = none → _ := fun b H2 sm2 hb D2 hD2 =>
      lc_zipT (K := K) (a := a) (b := b) (xs := xs) (ys := xs.drop 1) (g := gTup K 2 (gCons (gName 2) (gCons (gName 3) gNil))) (tt := tYes)
        (te := tOp (rI0 fun i j => V.bl (decide (i < j))) (tOp (rIxT K) (tVar 2) (tC (.int 0))) (tOp (rIxT K) (tVar 3) (tC (.int 0)))) (vs := [2, 3]) (σ := [some (.ref a), none, none, none]) (H1 := H2) (D := D2)
        (Qd := fun H' => rAll K [.ref D2] H' Q) (fun i H' => Same H H' ∧ H' b = some (.tup (xs.drop 1)) ∧ H' D2 = some (.lst (List.replicate i (.bl true))))
        ⟨sm2.trans (Same.new hD2), Same.new hD2 _ _ hb, upd_same⟩ (fun i H' ⟨h1, h2, _⟩ => ⟨SqT.of (h1 _ _ ha), SqT.of h2⟩)
        (by
          rintro i x y T H3 hx hy ⟨sm3, hb3, hL3⟩ hT
          have hy' : xs[i + 1]? = some y := by rw [List.getElem?_drop, Nat.add_comm] at hy; exact hy
          obtain ⟨c, hc, tx, _⟩ := cond_get tds hx
          obtain ⟨d, hd, ty, _⟩ := cond_get tds hy'
          have smT : Same H3 (upd H3 T (.tup [x, y])) := Same.new hT
          obtain ⟨ac, rfl, hac⟩ := cond_at (tx.mono (TK.same (sm3.trans smT)))
          obtain ⟨ad, rfl, had⟩ := cond_at (ty.mono (TK.same (sm3.trans smT)))
          have lt : c.1 < d.1 := by
            obtain ⟨hi, ei⟩ := List.getElem?_eq_some_iff.mp hc
            obtain ⟨hj, ej⟩ := List.getElem?_eq_some_iff.mp hd
            have := List.pairwise_iff_getElem.mp ok.asc i (i + 1) hi hj (Nat.lt_succ_self _)
            rw [ei, ej] at this
            exact this
          have hi : i < cs.length := (List.getElem?_eq_some_iff.mp hc).1
          have n1 : D2 ≠ T := ne_of_none hL3 hT
          refine ⟨T, _, rfl, SqT.of upd_same, rfl, _, _, rfl, _, _, rfl, rfl, rfl, ?_⟩
          refine ⟨_, rfl, ac, _, 0, .int c.1, rfl, rfl, SqT.of hac, rfl, _, rfl, ad, _, 0, .int d.1, rfl, rfl, SqT.of had, rfl, _, _, rfl, rfl, _, smT _ _ hL3, by rw [List.length_replicate, sizeLine_eq]; omega, ?_, ?_, ?_⟩
          · exact fun b o eb => by
              have z := smT _ _ (sm3 b o eb)
              by_cases nb : b = D2
              · subst nb
                have z2 := sm2 b o eb
                rw [hD2] at z2
                cases z2
              · rw [upd_ne nb]; exact z
          · have nb : b ≠ D2 := ne_of_none hb hD2
            rw [upd_ne nb]
            exact smT _ _ hb3
          · show upd _ D2 (.lst (List.replicate i (V.bl true) ++ [V.bl (decide (c.1 < d.1))])) D2 = _
            rw [decide_eq_true lt, reps_snoc]
            exact upd_same)
        (by
          rintro H3 ⟨sm3, _, hL3⟩
          exact ⟨D2, List.replicate _ true, rfl, SqL.of (by rw [← reps]; exact hL3), by rw [all_true]; exact q _ sm3⟩)
    refine ⟨_, rfl, _, rfl, 1, rfl, a, xs, rfl, SqT.of ha1, fun hw => ?_, fun hw p hp => ?_⟩
    · have hx0 : xs = [] := by
        cases xs with
        | nil => rfl
        | cons x xs => exact absurd hw.1 (by simp [HT.sIx])
      subst hx0
      exact ⟨a, a, _, _, rfl, .inr ⟨SqT.of ha1, SqT.of ha1, key a H1 sm ha1⟩⟩
    · have smp : Same H1 (upd H1 p (.tup (cutV xs (some 1) none))) := Same.new hp
      have ec : cutV xs (some 1) none = xs.drop 1 := by
        cases xs with
        | nil => rfl
        | cons x xs => simp [cutV, HT.sIx]
      exact ⟨a, p, _, _, rfl, .inr ⟨SqT.of (smp _ _ ha1), SqT.of upd_same, key p _ (sm.trans smp) (by rw [upd_same, ec])⟩⟩
end
end Cr

namespace Cr
open PySem PySem.Spec PyProof.Rows L2

/-- a def of the module, by its name -/
structure Df (K : PySem.W.Frag) (mg : Str → Option Value) (x : Str) (st : Stmt) (ps : List Str) (f : Addr) (fd : FuncData) : Prop where
  m : mg x = some (.ref f)
  F : Fun K x x st f fd
  b : Binds K fd ps []
/-- the forms' defs -/
structure Forms (K : PySem.W.Frag) (mg : Str → Option Value) (fN fC fK fR : Addr) (dN dC dK dR : FuncData) : Prop where
  N : Df K mg "is_number" s_is_number ["thing", "most"] fN dN
  C : Df K mg "is_condition" s_is_condition ["thing"] fC dC
  Kc : Df K mg "is_case" s_is_case ["thing"] fK dK
  R : Df K mg "is_rule" s_is_rule ["thing"] fR dR
def spNeedCase : Sp := fun vs H Q _ => ∃ (a : Addr) (cs : Case), vs = [.ref a] ∧ TD H (.ref a) (caseD cs) ∧ CaseOk cs ∧ ∀ H', Same H H' → Q .non H'
def spMatching : Sp := fun vs H Q _ => ∃ (a t : Addr) (xs : List V) (rs : List Rule) (cs : Case), vs = [.ref a, .ref t] ∧ H a = some (.tup xs) ∧ TDs H xs (rs.map ruleD) ∧ RulesOk 12 rs ∧ TD H (.ref t) (caseD cs) ∧
  ∀ H' D refs, Same H H' → H D = none → NewRules H' D refs (rs.filter fun r => inB r.1 cs) → Q (.ref D) H'
def spFirstResult : Sp := fun vs H Q _ => ∃ (a t : Addr) (xs : List V) (rs : List Rule) (cs : Case), vs = [.ref a, .ref t] ∧ H a = some (.tup xs) ∧ TDs H xs (rs.map ruleD) ∧ RulesOk 12 rs ∧ TD H (.ref t) (caseD cs) ∧ ∀ H', Same H H' → Q (firstV rs cs) H'
theorem rule_at {H : Hp} {v : V} {r : Rule} (h : TD H v (ruleD r)) : ∃ a c, v = .ref a ∧ H a = some (.tup [.ref c, .int r.2]) ∧ TD H (.ref c) (caseD r.1) := by
  obtain ⟨a, xs, rfl, hx, ts⟩ := h.tupv
  cases ts with
  | cons t1 t2 =>
    cases t2 with
    | cons t3 t4 =>
      cases t4
      obtain ⟨c, ys, rfl, hc, tc⟩ := t1.tupv
      rw [t3.intv] at hx
      exact ⟨a, c, rfl, hx, .tup hc tc⟩
theorem keyD_cond (c : Cond) : KeyD 6 (condD c) := .inr ⟨_, rfl, fun e he => by
  rcases List.mem_cons.mp he with rfl | he
  · exact .inl ⟨_, rfl⟩
  · rw [List.mem_singleton.mp he]; exact .inl ⟨_, rfl⟩⟩
theorem keyD_case (c : Case) : KeyD 7 (caseD c) := .inr ⟨_, rfl, fun e he => by
  obtain ⟨x, _, rfl⟩ := List.mem_map.mp he
  exact keyD_cond x⟩
theorem keyD_rule (r : Rule) : KeyD 8 (ruleD r) := .inr ⟨_, rfl, fun e he => by
  rcases List.mem_cons.mp he with rfl | he
  · exact keyD_case _
  · rw [List.mem_singleton.mp he]; exact .inl ⟨_, rfl⟩⟩
theorem key_conds : ∀ {a b : Case}, toKeys (a.map condD) = toKeys (b.map condD) → a = b
  | [], [], _ => rfl
  | [], _ :: _, h => by simp [toKeys] at h
  | _ :: _, [], h => by simp [toKeys] at h
  | x :: a, y :: b, h => by
    rw [List.map_cons, List.map_cons, toKeys, toKeys] at h
    injection h with h1 h2
    have e1 : x = y := by
      obtain ⟨x1, x2⟩ := x
      obtain ⟨y1, y2⟩ := y
      simp only [condD, toKey, toKeys] at h1
      injection h1 with h1
      injection h1 with h3 h4
      injection h3 with h3
      injection h4 with h4
      injection h4 with h4
      rw [h3, h4]
    rw [e1, key_conds h2]
theorem key_rule {a b : Rule} (h : toKey (ruleD a) = toKey (ruleD b)) : a = b := by
  obtain ⟨a1, a2⟩ := a
  obtain ⟨b1, b2⟩ := b
  simp only [ruleD, caseD, toKey, toKeys] at h
  injection h with h
  injection h with h1 h2
  injection h1 with h1
  injection h2 with h2
  injection h2 with h2
  rw [key_conds h1, h2]
theorem keys_nodup {rs : List Rule} (h : rs.Nodup) : ((rs.map ruleD).map toKey).Nodup := by
  rw [List.map_map]
  exact List.pairwise_map.mpr (h.imp fun {a b} hne e => hne (key_rule e))
section
variable {P : Program} {w : World} {K : PySem.W.Frag} {mg : Str → Option Value} {base : Heap}
theorem sc_isRule : FnScope ["thing", "conditions", "result"] ["thing"] (defScope s_is_rule) := ⟨rfl, rfl, rfl, by decide +kernel, rfl, by decide +kernel, by decide +kernel⟩
theorem ok_isRule {fN fC fK fR : Addr} {dN dC dK dR : FuncData} (B : Blt mg) (N : Nums mg) (T : Forms K mg fN fC fK fR dN dC dK dR) : FnOk P w K mg base CX0 4 fR dR ["thing"] spIsRule := by
  have GN : FnOk P w K mg base CX0 3 fN dN ["thing", "most"] spIsNumber := (ok_isNumber T.N.F B).mono (by decide)
  have GK : FnOk P w K mg base CX0 3 fK dK ["thing"] spIsCase := ok_isCase T.Kc.F B N T.N.m T.N.F T.N.b T.C.m T.C.F T.C.b
  obtain ⟨t99, n99⟩ := N.res
  refine T.R.F.ok sc_isRule (fun vs H Q E h => ?_) (fun cdv A outer s H vs Q E hr h => ?_)
  · obtain ⟨a, c, rfl, _⟩ := h
    rfl
  · obtain ⟨a, r, rfl, ht, ok, q⟩ := h
    obtain ⟨_, c, e, ha, tc⟩ := rule_at ht
    cases e
    refine ⟨_, pss_cons (ps_if (PW.pt (pw_or (pt_not (pt_val (pe_callB call_isi (by rfl) B.isinstance boot_isinstance' (pa_cons (pv 0) (pa_cons (pe_bltn (v := .ty "tuple") (u := .type "tuple") (by rfl) B.tuple (by decide +kernel) rfl) pa_nil)))))
        (pw_or1 (pt_cmpR op_ne (pe_callB call_len_seq (by rfl) B.len PySem.boot_len (pa_cons (pv 0) pa_nil)) pe_int (nomark _))))) (pss_one (ps_ret pe_bl)) pss_nil)
      (pss_cons (ps_asg (pv 0) (pg_tup rfl (pgs_cons (pg_name (i := 1) sc_isRule.nd rfl (.inl rfl)) (pgs_cons (pg_name (i := 2) sc_isRule.nd rfl (.inl rfl)) pgs_nil))))
      (pss_one (ps_ret (pe_and (pe_call GK hr rfl T.Kc.m T.Kc.F.kp T.Kc.b .nil pass0 (pa_cons (pv 1) pa_nil))
        (pe_one (pe_call GN hr rfl T.N.m T.N.F.kp T.N.b .nil pass0 (pa_cons (pv 2) (pa_cons (pe_glob (v := .int 99) rfl n99 ⟨_, rfl⟩) pa_nil)))))))), ?_⟩
    refine ⟨_, rfl, _, _, _, _, true, rfl, .ty "tuple", .base (.tup ha), kit_ty (by decide +kernel), true, rfl, ?_⟩
    refine iteF ⟨_, rfl, a, _, rfl, .inr (SqT.of ha), rfl, _, rfl, ?_⟩
    refine iteF ⟨_, rfl, a, _, rfl, SqT.of ha, rfl, _, _, rfl, _, _, rfl, rfl, ?_⟩
    refine ⟨_, rfl, c, r.1, rfl, tc, ok.case, fun H1 sm => ⟨true, rfl, ?_⟩⟩
    exact iteT ⟨_, rfl, _, _, rfl, ok.lo, ok.hi, q _ sm⟩
theorem sc_areRules : FnScope ["things", "thing"] ["things"] (defScope s_are_rules) := ⟨rfl, rfl, rfl, by decide +kernel, rfl, by decide +kernel, by decide +kernel⟩
theorem ok_areRules {f fN fC fK fR : Addr} {fd dN dC dK dR : FuncData} (F : Fun K "are_rules" "are_rules" s_are_rules f fd) (B : Blt mg) (N : Nums mg) (T : Forms K mg fN fC fK fR dN dC dK dR) : FnOk P w K mg base CX0 5 f fd ["things"] spAreRules := by
  have GR : FnOk P w K mg base CX0 4 fR dR ["thing"] spIsRule := ok_isRule B N T
  obtain ⟨t12, n12⟩ := N.rules
  refine F.ok sc_areRules (fun vs H Q E h => ?_) (fun cdv A outer s H vs Q E hr h => ?_)
  · obtain ⟨a, xs, rs, rfl, _⟩ := h
    rfl
  · obtain ⟨a, xs, rs, rfl, ha, tds, ok, q⟩ := h
    have hlen : xs.length = rs.length := by rw [tds.length, List.length_map]
    have few := ok.few
    refine ⟨_, pss_cons (ps_if (PW.pt (pw_or (pt_cmpR op_gt (pe_callB call_len_seq (by rfl) B.len PySem.boot_len (pa_cons (pv 0) pa_nil)) (pe_glob (v := .int 12) rfl n12 ⟨_, rfl⟩) (nomark _))
        (pw_or1 (pt_not (pt_val (pe_callB (cr_all rfl) (by rfl) B.all (by decide +kernel) (pa_cons (pe_lc (own := [("thing", 1)]) (g := gName 1) (tt := tYes) rfl sc_areRules.nd (pi_tup (pv 0)) (blkOk_by (own := [("thing", 1)]) (N := ["things", "thing"]) (sc := defScope s_are_rules) (by decide +kernel))
          (fun _ _ _ _ _ => pg_name (i := 1) sc_areRules.nd rfl (Or.inl rfl)) (fun _ _ _ _ _ => pts_nil) (fun _ _ _ _ _ => pe_call GR hr rfl T.R.m T.R.F.kp T.R.b .nil pass0 (pa_cons (pv 1) pa_nil))) pa_nil))))))) (pss_one (ps_ret pe_bl)) pss_nil)
      (pss_one (ps_ret (pe_cmpR op_eq (pe_lenSetD (by rfl) B.len (by rfl) B.set (pv 0) hr.units) (pe_callB call_len_seq (by rfl) B.len PySem.boot_len (pa_cons (pv 0) pa_nil)) (nomark _)))), ?_⟩
    refine ⟨_, rfl, a, _, rfl, .inr (SqT.of ha), _, _, rfl, rfl, _, rfl, ?_⟩
    refine ite2 (fun hb => ?_) (fun _ => ?_)
    · have hb : (12 : Int) < (xs.length : Int) := of_decide_eq_true hb
      exact absurd hb (by omega)
    refine ⟨_, rfl, a, rfl, ⟨_, SqT.of ha⟩, fun D hD => ?_⟩
    refine lc_tup (K := K) (a := a) (xs := xs) (fun i H' => Same H H' ∧ H' D = some (.lst (List.replicate i (.bl true)))) ⟨Same.new hD, upd_same⟩ (fun i H' _ h => SqT.of (h.1 _ _ ha)) ?_ ?_
    · rintro i x H1 hx ⟨sm, hL⟩
      obtain ⟨r, ar, c, hr', rfl, har, tc, _⟩ := rule_get tds hx
      have tr : TD H1 (.ref ar) (ruleD r) := .tup (sm _ _ har) (.cons (tc.mono (TK.same sm)) (.cons (.int _) .nil))
      have hi : i < rs.length := (List.getElem?_eq_some_iff.mp hr').1
      refine ⟨rfl, _, rfl, ar, r, rfl, tr, ok.each r (List.mem_of_getElem? hr'), fun H2 sm2 => ⟨_, sm2 _ _ hL, by rw [List.length_replicate, sizeLine_eq]; omega, ?_, ?_⟩⟩
      · exact fun b o eb => by rw [upd_ne (ne_of_none eb hD)]; exact sm2 _ _ (sm b o eb)
      · rw [reps_snoc]; exact upd_same
    rintro H1 ⟨sm, hL⟩
    refine ⟨D, List.replicate xs.length true, rfl, SqL.of (by rw [← reps]; exact hL), true, by rw [all_true], ?_⟩
    refine iteF ?_
    have ha1 := sm _ _ ha
    refine ⟨_, rfl, a, xs, rs.map ruleD, rfl, SqT.of ha1, (tds.mono (TK.same sm)).dp, fun d hd => ?_, keys_nodup ok.nd, by rw [List.length_map]; omega, _, rfl, a, _, rfl, .inr (SqT.of ha1), rfl, ?_⟩
    · obtain ⟨r, _, rfl⟩ := List.mem_map.mp hd
      exact ⟨keyD_rule r, _, rfl⟩
    · show Q (V.bl (decide (V.int (((rs.map ruleD).length : Nat) : Int) = V.int ((xs.length : Nat) : Int)))) H1
      rw [List.length_map, hlen, decide_eq_true rfl]
      exact q _ sm
theorem sc_needCase : FnScope ["thing"] ["thing"] (defScope s_need_case) := ⟨rfl, rfl, rfl, by decide +kernel, rfl, by decide +kernel, by decide +kernel⟩
theorem ok_needCase {f fN fC fK fR : Addr} {fd dN dC dK dR : FuncData} (F : Fun K "need_case" "need_case" s_need_case f fd) (B : Blt mg) (N : Nums mg) (T : Forms K mg fN fC fK fR dN dC dK dR) : FnOk P w K mg base CX0 4 f fd ["thing"] spNeedCase := by
  have GK : FnOk P w K mg base CX0 3 fK dK ["thing"] spIsCase := ok_isCase T.Kc.F B N T.N.m T.N.F T.N.b T.C.m T.C.F T.C.b
  refine F.ok sc_needCase (fun vs H Q E h => ?_) (fun cdv A outer s H vs Q E hr h => ?_)
  · obtain ⟨a, cs, rfl, _⟩ := h
    rfl
  · obtain ⟨a, cs, rfl, ht, ok, q⟩ := h
    refine ⟨_, pss_one (ps_if (pt_not (pt_val (pe_call GK hr rfl T.Kc.m T.Kc.F.kp T.Kc.b .nil pass0 (pa_cons (pv 0) pa_nil)))) (pss_one ps_never) pss_nil), ?_⟩
    exact ⟨_, rfl, a, cs, rfl, ht, ok, fun H1 sm => ⟨true, rfl, iteF (q _ sm)⟩⟩
theorem sc_within : FnScope ["inner", "outer", "condition"] ["inner", "outer"] (defScope s_lies_within) := ⟨rfl, rfl, rfl, by decide +kernel, rfl, by decide +kernel, by decide +kernel⟩
theorem all_map {α : Type} (l : List α) (p : α → Bool) : (l.map p).all id = l.all p := by rw [List.all_map]; rfl
theorem ok_within {f : Addr} {fd : FuncData} (F : Fun K "lies_within" "lies_within" s_lies_within f fd) (B : Blt mg) : FnOk P w K mg base CX0 1 f fd ["inner", "outer"] spInside := by
  refine F.ok sc_within (fun vs H Q E h => ?_) (fun cdv A outer s H vs Q E hr h => ?_)
  · obtain ⟨a, b, cs, ds, rfl, _⟩ := h
    rfl
  · obtain ⟨a, b, cs, ds, rfl, ha, hb, hlen, q⟩ := h
    obtain ⟨_, xs, e, hA, tA⟩ := ha.tupv
    cases e
    have hu : A.units + 3 + 65 < cLine := by have := hr.un; have e : (A.deeper (envOfC "lies_within" (defScope s_lies_within) s.heap.objs.size f cdv)).units = A.units + 3 := rfl; omega
    refine ⟨_, pss_one (ps_ret (pe_callB (cr_all rfl) (by rfl) B.all (by decide +kernel) (pa_cons (pe_lc (own := [("condition", 2)]) (g := gName 2) (tt := tYes) rfl sc_within.nd (pi_tup (pv 0)) (blkOk_by (own := [("condition", 2)]) (N := ["inner", "outer", "condition"]) (sc := defScope s_lies_within) (by decide +kernel))
        (fun _ _ _ _ _ => pg_name (i := 2) sc_within.nd rfl (Or.inl rfl)) (fun _ _ _ _ _ => pts_nil)
        (fun _ _ _ _ _ => pe_cmpR (show OpR _ (compareOp .In) (rInT K) from op_inT hu) (pv 2) (pv 1) (by rfl))) pa_nil))), ?_⟩
    refine ⟨_, rfl, a, rfl, ⟨_, SqT.of hA⟩, fun D hD => ?_⟩
    refine lc_tup (K := K) (a := a) (xs := xs) (fun i H' => Same H H' ∧ H' D = some (.lst ((cs.take i).map fun c => V.bl (decide (c ∈ ds))))) ⟨Same.new hD, upd_same⟩ (fun i H' _ h => SqT.of (h.1 _ _ hA)) ?_ ?_
    · rintro i x H1 hx ⟨sm, hL⟩
      obtain ⟨c, hc, tx, hts⟩ := cond_get tA hx
      refine ⟨rfl, _, rfl, _, rfl, _, _, (tx.mono (TK.same sm)).dp, (hb.mono (TK.same sm)).dp, shaped_cond c, shaped_case ds, _, hL, ?_, ?_, ?_⟩
      · rw [List.length_map, List.length_take, sizeLine_eq]; omega
      · exact fun b o eb => by rw [upd_ne (ne_of_none eb hD)]; exact sm b o eb
      · rw [hts, List.map_append, any_cond]; exact upd_same
    · rintro H1 ⟨sm, hL⟩
      have xlen : xs.length = cs.length := by rw [tA.length, List.length_map]
      rw [xlen, List.take_length] at hL
      refine ⟨D, cs.map fun c => decide (c ∈ ds), rfl, SqL.of (by rw [hL, List.map_map]; rfl), ?_⟩
      rw [all_map]
      exact q _ sm
theorem sc_matching : FnScope ["rules", "case", "rule"] ["rules", "case"] (defScope s_matching_rules) := ⟨rfl, rfl, rfl, by decide +kernel, rfl, by decide +kernel, by decide +kernel⟩
theorem ok_matching {f fW : Addr} {fd dW : FuncData} (F : Fun K "matching_rules" "matching_rules" s_matching_rules f fd) (B : Blt mg) (W : Df K mg "lies_within" s_lies_within ["inner", "outer"] fW dW) : FnOk P w K mg base CX0 2 f fd ["rules", "case"] spMatching := by
  have GW : FnOk P w K mg base CX0 1 fW dW ["inner", "outer"] spInside := ok_within W.F B
  refine F.ok sc_matching (fun vs H Q E h => ?_) (fun cdv A outer s H vs Q E hr h => ?_)
  · obtain ⟨a, t, xs, rs, cs, rfl, _⟩ := h
    rfl
  · obtain ⟨a, t, xs, rs, cs, rfl, hA, tds, ok, ht, q⟩ := h
    refine ⟨_, pss_one (ps_ret (pe_lc (own := [("rule", 2)]) (g := gName 2) rfl sc_matching.nd (pi_tup (pv 0)) (blkOk_by (own := [("rule", 2)]) (N := ["rules", "case", "rule"]) (sc := defScope s_matching_rules) (by decide +kernel))
        (fun _ _ _ _ _ => pg_name (i := 2) sc_matching.nd rfl (Or.inl rfl))
        (fun _ _ _ _ _ => pts_one (pt_val (pe_call GW hr rfl W.m W.F.kp W.b .nil pass0 (pa_cons (pe_ix (show IxR _ (rIxT K) from ix_tup) (pv 2) pe_int (fun _ _ => rfl)) (pa_cons (pv 1) pa_nil)))))
        (fun _ _ _ _ _ => pv 2))), ?_⟩
    refine ⟨_, rfl, a, rfl, ⟨_, SqT.of hA⟩, fun D hD => ?_⟩
    refine lc_tup (K := K) (a := a) (xs := xs) (fun i H' => ∃ refs, Same H H' ∧ NewRules H' D refs ((rs.take i).filter fun r => inB r.1 cs)) ⟨[], Same.new hD, ⟨upd_same, .nil⟩⟩ (fun i H' _ ⟨_, h, _⟩ => SqT.of (h _ _ hA)) ?_ ?_
    · rintro i x H1 hx ⟨refs, sm, nr⟩
      obtain ⟨r, ar, c, hr', rfl, har, tc, hts⟩ := rule_get tds hx
      have okr := ok.each r (List.mem_of_getElem? hr')
      refine ⟨rfl, _, rfl, ar, _, 0, .ref c, rfl, rfl, SqT.of (sm _ _ har), rfl, _, rfl, c, t, r.1, cs, rfl, tc.mono (TK.same sm), ht.mono (TK.same sm), Nat.le_trans okr.case.len (by decide), fun H2 sm2 => ⟨_, rfl, ite2 (fun hb => ?_) (fun hb => ?_)⟩⟩
      · have nr2 := nr.same sm2
        refine ⟨_, rfl, refs, nr2.1, ?_, refs ++ [.ref ar], ?_, ⟨upd_same, ?_⟩⟩
        · have z1 := nr.len
          have z2 := List.length_filter_le (fun r : Rule => inB r.1 cs) (rs.take i)
          rw [List.length_take] at z2
          have := ok.few
          rw [sizeLine_eq]; omega
        · exact fun b o eb => by rw [upd_ne (ne_of_none eb hD)]; exact sm2 _ _ (sm b o eb)
        · have ef : ([r].filter fun r => inB r.1 cs) = [r] := by rw [List.filter_cons, hb]; rfl
          rw [hts, List.filter_append, List.map_append, ef]
          have tr : TD H2 (.ref ar) (ruleD r) := .tup (sm2 _ _ (sm _ _ har)) (.cons (tc.mono (TK.same (sm.trans sm2))) (.cons (.int _) .nil))
          exact (nr2.2.append (.cons tr .nil)).mono (TK.lst nr2.1)
      · refine ⟨refs, sm.trans sm2, ?_⟩
        have ef : ([r].filter fun r => inB r.1 cs) = [] := by rw [List.filter_cons, if_neg hb]; rfl
        rw [hts, List.filter_append, ef, List.append_nil]
        exact nr.same sm2
    · rintro H1 ⟨refs, sm, nr⟩
      have xlen : xs.length = rs.length := by rw [tds.length, List.length_map]
      rw [xlen, List.take_length] at nr
      exact q _ D refs sm hD nr
end
end Cr

namespace Cr
open PySem PySem.Spec PyProof.Rows L2

def spReadNum : Sp := fun vs H Q _ => ∃ n : Int, vs = [.str (numS n)] ∧ 0 ≤ n ∧ n ≤ 99 ∧ ∀ H', Same H H' → Q (.int n) H'
def spReadCond : Sp := fun vs H Q _ => ∃ c : Cond, vs = [.str (condS c)] ∧ (0 ≤ c.1 ∧ c.1 ≤ 4 ∧ 0 ≤ c.2 ∧ c.2 ≤ 9) ∧ ∀ H' t, Same H H' → TD H' (.ref t) (condD c) → Q (.ref t) H'
def spReadRule : Sp := fun vs H Q _ => ∃ r : Rule, vs = [.str (lineS r)] ∧ RuleOk r ∧ ∀ H' t, Same H H' → TD H' (.ref t) (ruleD r) → Q (.ref t) H'
def spReadRules : Sp := fun vs H Q _ => ∃ rs : List Rule, vs = [.str (textS rs)] ∧ RulesOk 12 rs ∧ ∀ H' t xs, Same H H' → H' t = some (.tup xs) → TDs H' xs (rs.map ruleD) → Q (.ref t) H'
theorem num_facts : ∀ i : Nat, i < 100 → Txt.isdigit (numS (i : Int)) = true ∧ Txt.isascii (numS (i : Int)) = true ∧ 0 < (numS (i : Int)).length ∧ (numS (i : Int)).length ≤ 2 ∧ PySem.intText? (numS (i : Int)) = some (i : Int) ∧
    ((numS (i : Int)).length = 1 ∨ (numS (i : Int)).cps[0]? ≠ some 48) := by decide +kernel
section
variable {P : Program} {w : World} {K : PySem.W.Frag} {mg : Str → Option Value} {base : Heap}
theorem sc_readNum : FnScope ["word"] ["word"] (defScope s_read_number) := ⟨rfl, rfl, rfl, by decide +kernel, rfl, by decide +kernel, by decide +kernel⟩
theorem ok_readNum {f : Addr} {fd : FuncData} (F : Fun K "read_number" "read_number" s_read_number f fd) (B : Blt mg) (N : Nums mg) : FnOk P w K mg base CX0 1 f fd ["word"] spReadNum := by
  refine F.ok sc_readNum (fun vs H Q E h => ?_) (fun cdv A outer s H vs Q E hr h => ?_)
  · obtain ⟨n, rfl, _⟩ := h
    rfl
  · obtain ⟨n, rfl, h0, h1, q⟩ := h
    obtain ⟨k, rfl⟩ := Int.eq_ofNat_of_zero_le h0
    obtain ⟨f1, f2, f3, f4, f5, f6⟩ := num_facts k (by omega)
    refine ⟨_, pss_cons (ps_if (PW.pt (pw_or (pt_not (pt_val (pe_m0 PySem.F.slot_str_isdigit PySem.F.type_str_isdigit mt_isdigit (pv 0))))
        (pw_or (pt_not (pt_val (pe_m0 PySem.F.slot_str_isascii PySem.F.type_str_isascii mt_isascii (pv 0))))
        (pw_or1 (pt_cmpR op_gt (pe_callB call_len_str (by rfl) B.len PySem.boot_len (pa_cons (pv 0) pa_nil)) pe_int (nomark _)))))) (pss_one (ps_ret pe_non)) pss_nil)
      (pss_one (ps_ret (pe_ifExp (PW.pt (pw_or (pt_cmpR op_eq (pe_callB call_len_str (by rfl) B.len PySem.boot_len (pa_cons (pv 0) pa_nil)) pe_int (nomark _))
        (pw_or1 (pt_cmpR op_ne (pe_item_str (pv 0) pe_int (fun _ _ => rfl)) pe_str (nomark _))))) (pe_callTy call_int_str (by rfl) B.int (by decide +kernel) (pa_cons (pv 0) pa_nil)) pe_non))), ?_⟩
    have hsz : (numS (k : Int)).length ≤ sizeLine := by rw [sizeLine_eq]; omega
    refine ⟨_, rfl, ⟨_, rfl⟩, _, rfl, rfl, trivial, true, by rw [f1], iteF ?_⟩
    refine ⟨_, rfl, ⟨_, rfl⟩, _, rfl, rfl, trivial, true, by rw [f2], iteF ?_⟩
    refine ⟨_, rfl, _, rfl, hsz, _, _, rfl, rfl, _, rfl, ?_⟩
    refine ite2 (fun hb => ?_) (fun _ => ?_)
    · have hb : (2 : Int) < ((numS (k : Int)).length : Int) := of_decide_eq_true hb
      exact absurd hb (by omega)
    have fin : (fun Q : VK => Q (.int (k : Int)) H) Q := q _ (Same.refl _)
    refine ⟨_, rfl, _, rfl, hsz, rfl, _, rfl, ?_⟩
    refine ite2 (fun _ => iteT ⟨_, rfl, _, _, rfl, f5, by omega, fin⟩) (fun hb => ?_)
    have hb : (numS (k : Int)).length ≠ 1 := fun e => hb (by rw [e]; rfl)
    have n48 := f6.resolve_left hb
    obtain ⟨c, hc⟩ : ∃ c, (numS (k : Int)).cps[0]? = some c := ⟨_, Array.getElem?_eq_getElem (show 0 < (numS (k : Int)).cps.size from f3)⟩
    refine ⟨_, rfl, _, _, c, rfl, rfl, by decide, by decide, by omega, hc, rfl, _, rfl, ?_⟩
    refine ite2 (fun _ => ⟨_, rfl, _, _, rfl, f5, by omega, fin⟩) (fun hb => ?_)
    have ne : V.str (⟨#[c]⟩ : Str) ≠ V.str ("0" : Str) := fun e => n48 (by
      have e : (⟨#[c]⟩ : Str) = ("0" : Str) := V.str.inj e
      have e2 : (⟨#[c]⟩ : Str).cps[0]? = ("0" : Str).cps[0]? := by rw [e]
      rw [hc]
      exact e2.trans (by decide +kernel))
    exact absurd (show (!decide (V.str (⟨#[c]⟩ : Str) = V.str ("0" : Str))) = true by rw [decide_eq_false ne]; rfl) hb
theorem sc_readCond : FnScope ["word", "attribute", "sign", "value"] ["word"] (defScope s_read_condition) := ⟨rfl, rfl, rfl, by decide +kernel, rfl, by decide +kernel, by decide +kernel⟩
theorem ok_readCond {f fN : Addr} {fd dN : FuncData} (F : Fun K "read_condition" "read_condition" s_read_condition f fd) (B : Blt mg) (N : Nums mg) (R : Df K mg "read_number" s_read_number ["word"] fN dN) : FnOk P w K mg base CX0 2 f fd ["word"] spReadCond := by
  have GN : FnOk P w K mg base CX0 1 fN dN ["word"] spReadNum := ok_readNum R.F B N
  refine F.ok sc_readCond (fun vs H Q E h => ?_) (fun cdv A outer s H vs Q E hr h => ?_)
  · obtain ⟨n, rfl, _⟩ := h
    rfl
  · obtain ⟨c, rfl, ok, q⟩ := h
    refine ⟨_, pss_cons (ps_asg (pe_partition (pv 0) pe_str) (pg_tup rfl (pgs_cons (pg_name (i := 1) sc_readCond.nd rfl (.inl rfl)) (pgs_cons (pg_name (i := 2) sc_readCond.nd rfl (.inl rfl)) (pgs_cons (pg_name (i := 3) sc_readCond.nd rfl (.inl rfl)) pgs_nil)))))
      (pss_one (ps_ret (pe_tup (pa_cons (pe_call GN hr rfl R.m R.F.kp R.b .nil pass0 (pa_cons (pv 1) pa_nil)) (pa_cons (pe_call GN hr rfl R.m R.F.kp R.b .nil pass0 (pa_cons (pv 3) pa_nil)) pa_nil))))), ?_⟩
    refine ⟨_, rfl, ⟨_, rfl⟩, _, _, rfl, rfl, by decide +kernel, by have := (cond_signs ok).1; rw [sizeLine_eq]; omega, fun p hp => ?_⟩
    refine ⟨p, _, rfl, SqT.of upd_same, rfl, _, _, rfl, _, _, rfl, _, _, rfl, rfl, ?_⟩
    rw [cond_cut ok]
    have smp : Same H (upd H p (.tup [.str (numS c.1), .str "=", .str (numS c.2)])) := Same.new hp
    refine ⟨_, rfl, c.1, rfl, ok.1, by omega, fun H1 sm1 => ⟨_, rfl, c.2, rfl, ok.2.2.1, by omega, fun H2 sm2 => ⟨by show 2 ≤ sizeLine; decide, fun t ht => ?_⟩⟩⟩
    exact q _ t (smp.trans (sm1.trans (sm2.trans (Same.new ht)))) (condD_td upd_same)
theorem sc_readRule : FnScope ["line", "words", "word"] ["line"] (defScope s_read_rule) := ⟨rfl, rfl, rfl, by decide +kernel, rfl, by decide +kernel, by decide +kernel⟩
theorem ok_readRule {f fN fC : Addr} {fd dN dC : FuncData} (F : Fun K "read_rule" "read_rule" s_read_rule f fd) (B : Blt mg) (N : Nums mg) (R : Df K mg "read_number" s_read_number ["word"] fN dN) (C : Df K mg "read_condition" s_read_condition ["word"] fC dC) :
    FnOk P w K mg base CX0 3 f fd ["line"] spReadRule := by
  have GN : FnOk P w K mg base CX0 2 fN dN ["word"] spReadNum := (ok_readNum R.F B N).mono (by decide)
  have GC : FnOk P w K mg base CX0 2 fC dC ["word"] spReadCond := ok_readCond C.F B N R
  obtain ⟨t4, n4⟩ := N.attr
  refine F.ok sc_readRule (fun vs H Q E h => ?_) (fun cdv A outer s H vs Q E hr h => ?_)
  · obtain ⟨n, rfl, _⟩ := h
    rfl
  · obtain ⟨r, rfl, ok, q⟩ := h
    refine ⟨_, pss_cons (ps_set (i := 1) sc_readRule.nd rfl (.inl rfl) (pe_split (pv 0) pe_str))
      (pss_cons (ps_if (PW.pt (pw_or (pt_cmpR op_lt (pe_callB call_len_seq (by rfl) B.len PySem.boot_len (pa_cons (pv 1) pa_nil)) pe_int (nomark _))
          (pw_or1 (pt_cmpR op_ne (pe_ix ix_list (pv 1) (pe_un un_neg pe_int) (fun _ _ => rfl)) pe_str (nomark _))))) (pss_one (ps_ret pe_non)) pss_nil)
      (pss_cons (ps_if (pt_cmpR op_gt (pe_op op_sub (pe_callB call_len_seq (by rfl) B.len PySem.boot_len (pa_cons (pv 1) pa_nil)) pe_int) (pe_op op_add (pe_glob (v := .int 4) rfl n4 ⟨_, rfl⟩) pe_int) (nomark _)) (pss_one (ps_ret pe_non)) pss_nil)
      (pss_one (ps_ret (pe_tup (pa_cons (pe_callTy call_tuple_of (by rfl) B.tuple (by decide +kernel) (pa_cons
          (pe_lc (own := [("word", 2)]) (g := gName 2) (tt := tYes) rfl sc_readRule.nd (pi_list (pe_slice sl_list (pv 1) po_none (po_some (pe_un un_neg pe_int)))) (blkOk_by (own := [("word", 2)]) (N := ["line", "words", "word"]) (sc := defScope s_read_rule) (by decide +kernel))
            (fun _ _ _ _ _ => pg_name (i := 2) sc_readRule.nd rfl (Or.inl rfl)) (fun _ _ _ _ _ => pts_nil) (fun _ _ _ _ _ => pe_call GC hr rfl C.m C.F.kp C.b .nil pass0 (pa_cons (pv 2) pa_nil))) pa_nil))
        (pa_cons (pe_call GN hr rfl R.m R.F.kp R.b .nil pass0 (pa_cons (pe_ix ix_list (pv 1) (pe_un un_neg pe_int) (fun _ _ => rfl)) pa_nil)) pa_nil))))))), ?_⟩
    refine ⟨_, rfl, ⟨_, rfl⟩, _, _, rfl, rfl, by decide +kernel, by have := (line_signs ok).1; rw [sizeLine_eq]; omega, fun p hp => ?_⟩
    rw [line_split ok]
    have ew : (wordsS r).map V.str = (r.1.map fun c => V.str (condS c)) ++ [.str "gives", .str (numS r.2)] := by
      unfold wordsS
      rw [List.map_append, List.map_map]
      rfl
    rw [ew]
    have wl : ((r.1.map fun c => V.str (condS c)) ++ [V.str "gives", V.str (numS r.2)]).length = r.1.length + 2 := by rw [List.length_append, List.length_map]; rfl
    have c5 := ok.case.len
    generalize hws : (r.1.map fun c => V.str (condS c)) ++ [V.str "gives", V.str (numS r.2)] = ws at *
    have smp : Same H (upd H p (.lst ws)) := Same.new hp
    have a2 : atI ws (-2) = some (.str "gives") := by
      unfold atI ixN
      rw [if_neg (by decide), if_pos (by omega)]
      show ws[((-2 : Int) + (ws.length : Int)).toNat]? = _
      rw [wl, ← hws, show ((-2 : Int) + ((r.1.length + 2 : Nat) : Int)).toNat = r.1.length by omega, List.getElem?_append_right (by rw [List.length_map]; omega), List.length_map, Nat.sub_self]
      rfl
    have a1 : atI ws (-1) = some (.str (numS r.2)) := by
      unfold atI ixN
      rw [if_neg (by decide), if_pos (by omega)]
      show ws[((-1 : Int) + (ws.length : Int)).toNat]? = _
      rw [wl, ← hws, show ((-1 : Int) + ((r.1.length + 2 : Nat) : Int)).toNat = r.1.length + 1 by omega, List.getElem?_append_right (by rw [List.length_map]; omega), List.length_map, show r.1.length + 1 - r.1.length = 1 by omega]
      rfl
    refine ⟨_, rfl, p, _, rfl, .inl (SqL.of upd_same), _, _, rfl, rfl, _, rfl, ?_⟩
    refine ite2 (fun hb => ?_) (fun _ => ?_)
    · have hb : ((ws.length : Nat) : Int) < 2 := of_decide_eq_true hb
      exact absurd hb (by omega)
    refine ⟨_, rfl, _, rfl, p, ws, _, _, rfl, rfl, SqL.of upd_same, a2, rfl, _, rfl, ?_⟩
    refine iteNS rfl ?_
    refine ⟨_, rfl, p, _, rfl, .inl (SqL.of upd_same), _, _, rfl, rfl, _, _, rfl, rfl, _, _, rfl, rfl, _, rfl, ?_⟩
    refine ite2 (fun hb => ?_) (fun _ => ?_)
    · have hb : (4 : Int) + 1 < ((ws.length : Nat) : Int) - 2 := of_decide_eq_true hb
      exact absurd hb (by omega)
    -- words[:-2]
    refine ⟨_, rfl, _, rfl, _, rfl, p, ws, rfl, SqL.of upd_same, fun p2 hp2 => ?_⟩
    have ec : cutV ws none (some (-2)) = r.1.map fun c => V.str (condS c) := by
      unfold cutV
      have s2 : HT.sIx ws.length ws.length (some (-2)) = r.1.length := by
        show (if (-2 : Int) < 0 then ((-2 : Int) + (ws.length : Int)).toNat else min (-2 : Int).toNat ws.length) = _
        rw [if_pos (by decide), wl]
        omega
      have s1 : HT.sIx ws.length 0 none = 0 := rfl
      rw [s1, s2, List.drop_zero, Nat.sub_zero, ← hws]
      exact List.take_left' (by rw [List.length_map])
    rw [ec]
    have sm2 : Same H (upd (upd H p (.lst ws)) p2 (.lst (r.1.map fun c => V.str (condS c)))) := smp.trans (Same.new hp2)
    refine ⟨p2, rfl, ⟨_, SqL.of upd_same⟩, fun D hD => ?_⟩
    refine lc_list (K := K) (a := p2) (xs := r.1.map fun c => V.str (condS c)) (fun i H' => ∃ rf, Same (upd (upd H p (.lst ws)) p2 (.lst (r.1.map fun c => V.str (condS c)))) H' ∧ H' D = some (.lst rf) ∧ TDs H' rf ((r.1.take i).map condD))
      ⟨[], Same.new hD, upd_same, .nil⟩ (fun i H' _ ⟨_, h, _⟩ => SqL.of (h _ _ upd_same)) ?_ ?_
    · rintro i x H3 hx ⟨rf, sm3, hL, td⟩
      rw [List.getElem?_map] at hx
      cases e : r.1[i]? with
      | none => rw [e] at hx; cases hx
      | some c =>
        rw [e] at hx
        obtain rfl := Option.some.inj hx
        have hts : r.1.take (i + 1) = r.1.take i ++ [c] := by rw [List.take_succ, e]; rfl
        refine ⟨rfl, _, rfl, c, rfl, ok.case.each c (List.mem_of_getElem? e), fun H4 t sm4 tt => ⟨rf, sm4 _ _ hL, ?_, rf ++ [.ref t], ?_, upd_same, ?_⟩⟩
        · have := td.length
          rw [List.length_map, List.length_take] at this
          rw [sizeLine_eq]; omega
        · exact fun b o eb => by rw [upd_ne (ne_of_none eb hD)]; exact sm4 _ _ (sm3 b o eb)
        · rw [hts, List.map_append]
          exact ((td.mono (TK.same sm4)).append (.cons tt .nil)).mono (TK.lst (sm4 _ _ hL))
    rintro H3 ⟨rf, sm3, hL, td⟩
    rw [List.length_map, List.take_length] at td
    refine ⟨D, rf, rfl, .inl ⟨SqL.of hL, fun t1 ht1 => ?_⟩⟩
    have sm5 : Same H3 (upd H3 t1 (.tup rf)) := Same.new ht1
    have hp3 := sm5 _ _ (sm3 _ _ (Same.new hp2 _ _ upd_same))
    refine ⟨_, rfl, _, rfl, p, ws, _, _, rfl, rfl, SqL.of hp3, a1, r.2, rfl, ok.lo, ok.hi, fun H4 sm4 => ⟨by show 2 ≤ sizeLine; decide, fun t ht => ?_⟩⟩
    have sm6 : Same H4 (upd H4 t (.tup [.ref t1, .int r.2])) := Same.new ht
    exact q _ t (sm2.trans (sm3.trans (sm5.trans (sm4.trans sm6)))) (.tup upd_same (.cons (.tup (sm6 _ _ (sm4 _ _ upd_same)) (td.mono (TK.same (sm5.trans (sm4.trans sm6))))) (.cons (.int _) .nil)))
end
end Cr

namespace Cr
open PySem PySem.Spec PyProof.Rows L2

/-- an instance of C that holds these rules -/
def Holds (H : Hp) (C x : Addr) (rs : List Rule) : Prop := ∃ (dx t : Addr) (xs : List V), H x = some (.ins C dx [("held", .ref t)]) ∧ H t = some (.tup xs) ∧ TDs H xs (rs.map ruleD)
theorem Holds.same {H H' : Hp} {C x : Addr} {rs : List Rule} (h : Holds H C x rs) (s : Same H H') : Holds H' C x rs := let ⟨dx, t, xs, h1, h2, h3⟩ := h; ⟨dx, t, xs, s _ _ h1, s _ _ h2, h3.mono (TK.same s)⟩
/-- what Listing.__init__ asks behind its binding -/
def spInit0 (C : Addr) : Sp := fun vs H Q _ => ∃ (x dx p : Addr) (xs : List V) (rs : List Rule), vs = [.ref x, .ref p] ∧ H x = some (.ins C dx []) ∧ H p = some (.tup xs) ∧ TDs H xs (rs.map ruleD) ∧ RulesOk 12 rs ∧
  ∀ H', SB x H H' → H' x = some (.ins C dx [("held", .ref p)]) → Q .non H'
def spRead (C : Addr) : Sp := fun vs H Q _ => ∃ rs : List Rule, vs = [.ref C, .str (textS rs)] ∧ RulesOk 12 rs ∧ ∀ H' x, Same H H' → H x = none → Holds H' C x rs → Q (.ref x) H'
def spCallO (C : Addr) : Sp := fun vs H Q _ => ∃ (x t : Addr) (rs : List Rule) (cs : Case), vs = [.ref x, .ref t] ∧ Holds H C x rs ∧ RulesOk 12 rs ∧ TD H (.ref t) (caseD cs) ∧ CaseOk cs ∧ ∀ H', Same H H' → Q (firstV rs cs) H'
section
variable {P : Program} {w : World} {K : PySem.W.Frag} {mg : Str → Option Value} {base : Heap}
theorem sc_readRules : FnScope ["text", "lines", "rest", "rules", "line"] ["text"] (defScope s_read_rules) := ⟨rfl, rfl, rfl, by decide +kernel, rfl, by decide +kernel, by decide +kernel⟩
structure Reads (K : PySem.W.Frag) (mg : Str → Option Value) (fN fC fR fA : Addr) (dN dC dR dA : FuncData) : Prop where
  N : Df K mg "read_number" s_read_number ["word"] fN dN
  C : Df K mg "read_condition" s_read_condition ["word"] fC dC
  R : Df K mg "read_rule" s_read_rule ["line"] fR dR
  A : Df K mg "are_rules" s_are_rules ["things"] fA dA
theorem ok_readRules {f fN fC fK fR rN rC rR rA : Addr} {fd dN dC dK dR eN eC eR eA : FuncData} (F : Fun K "read_rules" "read_rules" s_read_rules f fd) (B : Blt mg) (N : Nums mg) (T : Forms K mg fN fC fK fR dN dC dK dR) (R : Reads K mg rN rC rR rA eN eC eR eA) :
    FnOk P w K mg base CX0 6 f fd ["text"] spReadRules := by
  have GA : FnOk P w K mg base CX0 5 rA eA ["things"] spAreRules := ok_areRules R.A.F B N T
  obtain ⟨t12, n12⟩ := N.rules
  have GR : FnOk P w K mg base CX0 5 rR eR ["line"] spReadRule := (ok_readRule R.R.F B N R.N R.C).mono (by decide)
  refine F.ok sc_readRules (fun vs H Q E h => ?_) (fun cdv A outer s H vs Q E hr h => ?_)
  · obtain ⟨rs, rfl, _⟩ := h
    rfl
  · obtain ⟨rs, rfl, ok, q⟩ := h
    refine ⟨_, pss_cons (ps_if (pt_not (pt_val (pe_callB call_isi (by rfl) B.isinstance boot_isinstance' (pa_cons (pv 0) (pa_cons (pe_bltn (v := .ty "str") (u := .type "str") (by rfl) B.str (by decide +kernel) rfl) pa_nil))))) (pss_one ps_never) pss_nil)
      (pss_cons (ps_asg (pe_split (pv 0) pe_str) (pg_star1 rfl (pgs_star (pg_name (i := 1) sc_readRules.nd rfl (.inl rfl)) (pgs_cons (pg_name (i := 2) sc_readRules.nd rfl (.inl rfl)) pgs_nil))))
      (pss_cons (ps_if (PW.pt (pw_or (pt_cmpR op_ne (pv 2) pe_str (nomark _)) (pw_or1 (pt_cmpR op_gt (pe_callB call_len_seq (by rfl) B.len PySem.boot_len (pa_cons (pv 1) pa_nil)) (pe_glob (v := .int 12) rfl n12 ⟨_, rfl⟩) (nomark _))))) (pss_one ps_never) pss_nil)
      (pss_cons (ps_set (i := 3) sc_readRules.nd rfl (.inl rfl) (pe_callTy call_tuple_of (by rfl) B.tuple (by decide +kernel) (pa_cons
          (pe_lc (own := [("line", 4)]) (g := gName 4) (tt := tYes) rfl sc_readRules.nd (pi_list (pv 1)) (blkOk_by (own := [("line", 4)]) (N := ["text", "lines", "rest", "rules", "line"]) (sc := defScope s_read_rules) (by decide +kernel))
            (fun _ _ _ _ _ => pg_name (i := 4) sc_readRules.nd rfl (Or.inl rfl)) (fun _ _ _ _ _ => pts_nil) (fun _ _ _ _ _ => pe_call GR hr rfl R.R.m R.R.F.kp R.R.b .nil pass0 (pa_cons (pv 4) pa_nil))) pa_nil)))
      (pss_cons (ps_if (pt_not (pt_val (pe_call GA hr rfl R.A.m R.A.F.kp R.A.b .nil pass0 (pa_cons (pv 3) pa_nil)))) (pss_one ps_never) pss_nil)
      (pss_one (ps_ret (pv 3))))))), ?_⟩
    refine ⟨_, rfl, _, _, _, _, true, rfl, .ty "str", .base (.str _), kit_ty (by decide +kernel), true, rfl, ?_⟩
    have few := ok.few
    refine iteF ⟨_, rfl, ⟨_, rfl⟩, _, _, rfl, rfl, by decide +kernel, by have := text_len ok.each; rw [sizeLine_eq]; omega, fun p hp => ?_⟩
    rw [text_split ok.each]
    have smp : Same H (upd H p (.lst ((rs.map lineS ++ [Str.empty]).map V.str))) := Same.new hp
    refine ⟨p, rs.map fun r => V.str (lineS r), .str Str.empty, rfl, SqL.of (by rw [upd_same, List.map_append, List.map_map]; rfl), by rw [List.length_map]; omega, fun l hl => ?_⟩
    have sml : Same H (upd (upd H p (.lst ((rs.map lineS ++ [Str.empty]).map V.str))) l (.lst (rs.map fun r => V.str (lineS r)))) := smp.trans (Same.new hl)
    generalize hH2 : upd (upd H p (.lst ((rs.map lineS ++ [Str.empty]).map V.str))) l (.lst (rs.map fun r => V.str (lineS r))) = H2 at *
    have hl2 : H2 l = some (.lst (rs.map fun r => V.str (lineS r))) := by rw [← hH2]; exact upd_same
    have e0 : (Str.empty : Str) = "" := by decide +kernel
    refine ⟨_, _, rfl, _, _, rfl, rfl, ?_⟩
    refine ⟨_, rfl, rfl, _, rfl, iteNS (by rw [e0]) ?_⟩
    refine ⟨_, rfl, l, _, rfl, .inl (SqL.of hl2), _, _, rfl, rfl, _, rfl, ?_⟩
    refine ite2 (fun hb => ?_) (fun _ => ?_)
    · have hb : (12 : Int) < (((rs.map fun r => V.str (lineS r)).length : Nat) : Int) := of_decide_eq_true hb
      rw [List.length_map] at hb
      exact absurd hb (by omega)
    -- rules = tuple([..])
    refine ⟨_, rfl, l, rfl, ⟨_, SqL.of hl2⟩, fun D hD => ?_⟩
    refine lc_list (K := K) (a := l) (xs := rs.map fun r => V.str (lineS r)) (fun i H' => ∃ rf, Same H2 H' ∧ H' D = some (.lst rf) ∧ TDs H' rf ((rs.take i).map ruleD))
      ⟨[], Same.new hD, upd_same, .nil⟩ (fun i H' _ ⟨_, h, _⟩ => SqL.of (h _ _ hl2)) ?_ ?_
    · rintro i x H3 hx ⟨rf, sm3, hL, td⟩
      rw [List.getElem?_map] at hx
      cases e : rs[i]? with
      | none => rw [e] at hx; cases hx
      | some r =>
        rw [e] at hx
        obtain rfl := Option.some.inj hx
        have hts : rs.take (i + 1) = rs.take i ++ [r] := by rw [List.take_succ, e]; rfl
        refine ⟨rfl, _, rfl, r, rfl, ok.each r (List.mem_of_getElem? e), fun H4 t sm4 tt => ⟨rf, sm4 _ _ hL, ?_, rf ++ [.ref t], ?_, upd_same, ?_⟩⟩
        · have := td.length
          rw [List.length_map, List.length_take] at this
          rw [sizeLine_eq]; omega
        · exact fun b o eb => by rw [upd_ne (ne_of_none eb hD)]; exact sm4 _ _ (sm3 b o eb)
        · rw [hts, List.map_append]
          exact ((td.mono (TK.same sm4)).append (.cons tt .nil)).mono (TK.lst (sm4 _ _ hL))
    rintro H3 ⟨rf, sm3, hL, td⟩
    rw [List.length_map, List.take_length] at td
    refine ⟨D, rf, rfl, .inl ⟨SqL.of hL, fun t ht => ?_⟩⟩
    have smt : Same H3 (upd H3 t (.tup rf)) := Same.new ht
    refine ⟨_, rfl, t, rf, rs, rfl, upd_same, td.mono (TK.same smt), ok, fun H4 sm4 => ⟨true, rfl, iteF ⟨_, rfl, ?_⟩⟩⟩
    exact q _ t rf (sml.trans (sm3.trans (smt.trans sm4))) (sm4 _ _ upd_same) (td.mono (TK.same (smt.trans sm4)))
/-- Listing.__init__ -/
theorem sc_init : FnScope ["self", "rules"] ["self", "rules"] (defScope s_Listing_init) := ⟨rfl, rfl, rfl, by decide +kernel, rfl, by decide +kernel, by decide +kernel⟩
theorem fn_init {f C fN fC fK fR rA : Addr} {dN dC dK dR eA : FuncData} {x qual : Str} {oc kV doc pm cdv ct : Value} {od an : Option Addr} {osl : Array (Option Value)}
    (lk : K.lookup f = some ⟨oc, od, .func (PySem.W.fnOf x qual (defArgs s_Listing_init) (defBody s_Listing_init) (defScope s_Listing_init) .none kV doc pm an cdv ct), osl⟩) (hcd : PySem.W.codeIn K cdv qual = true)
    (B : Blt mg) (N : Nums mg) (T : Forms K mg fN fC fK fR dN dC dK dR) (A : Df K mg "are_rules" s_are_rules ["things"] rA eA) (c : Cls K C) (nh : NoAttr K C "held") :
    FnR P w K mg base CX0 6 f (fun vs H Q E => ∃ ws rest, vs = ws ++ rest ∧ ws.length = ["self"].length ∧ rest.length ≤ sizeLine ∧ ∀ p, H p = none → spInit0 C (ws ++ [V.ref p]) (upd H p (.tup rest)) Q E) := by
  have GA : FnOk P w K mg base CX0 5 rA eA ["things"] spAreRules := ok_areRules A.F B N T
  refine StX.fn_star (ps := ["self"]) (pv := "rules") lk hcd sc_init StX.cxUp_none (StX.bind_star1 (B := fun us => bindArgs (PySem.W.fnOf x qual (defArgs s_Listing_init) (defBody s_Listing_init) (defScope s_Listing_init) .none kV doc pm an cdv ct) ⟨us, []⟩) (p1 := "self") (pv := "rules") (fun a => rfl) (fun a r rs => rfl)) (fun Ar outer s H vs Q E hr h => ?_)
  obtain ⟨y, dx, p, xs, rs, rfl, hy, hp, td, ok, q⟩ := h
  refine ⟨_, PSs.nox (pss_cons (ps_if (pt_not (pt_val (pe_call GA hr rfl A.m A.F.kp A.b .nil pass0 (pa_cons (pv 1) pa_nil)))) (pss_one ps_never) pss_nil) (pss_one (ps_fld (pv 0) (pv 1) rfl))), ?_⟩
  refine ⟨_, rfl, p, xs, rs, rfl, hp, td, ok, fun H1 sm => ⟨true, rfl, iteF ⟨_, rfl, _, rfl, y, C, dx, [], rfl, sm _ _ hy, c, nh, by decide, ?_⟩⟩⟩
  exact q _ ((SB.same sm).trans SB.at) upd_same
end
end Cr

namespace Cr
open PySem PySem.Spec PyProof.Rows L2

/-! ### what repr shows of rules -/
theorem strcat_len (x y : Str) : (x ++ y).length = x.length + y.length := by rw [TL.len_tl, TL.tl_append, List.length_append, ← TL.len_tl, ← TL.len_tl]
theorem tupleText_le (ts : List Str) : (tupleText ts).length ≤ (ts.map (·.length)).sum + 2 * ts.length + 4 := by
  have h : (Str.join ", " ts).length ≤ (ts.map (·.length)).sum + 2 * ts.length := by
    rw [TL.len_tl, TL.tl_join]
    have e : TL.tl (", " : Str) = [44, 32] := by decide +kernel
    rw [e]
    have := joinL_len [44, 32] (ts.map TL.tl)
    rw [List.map_map, List.length_map] at this
    have e2 : (ts.map (List.length ∘ TL.tl)).sum = (ts.map (·.length)).sum := by
      exact congrArg List.sum (List.map_congr_left fun x _ => (TL.len_tl x).symm)
    rw [e2] at this
    simp only [List.length_cons, List.length_nil] at this
    omega
  unfold tupleText
  rw [strcat_len, strcat_len]
  have e3 : ("(" : Str).length = 1 := by decide +kernel
  have e4 : (((if (ts.length == 1) = true then ",)" else ")" : String)) : Str).length ≤ 2 := by split <;> decide +kernel
  rw [e3]
  omega
theorem shownAll_map {α : Type} (f : α → PyData) : ∀ l : List α, PyData.shownAll (l.map f) = l.map fun x => (f x).shown
  | [] => by simp [PyData.shownAll]
  | x :: l => by rw [List.map_cons, PyData.shownAll, shownAll_map f l, List.map_cons]
theorem showableAll_map {α : Type} (f : α → PyData) : ∀ l : List α, (∀ x ∈ l, (f x).showable = true) → PyData.showableAll (l.map f) = true
  | [], _ => by simp [PyData.showableAll]
  | x :: l, h => by rw [List.map_cons, PyData.showableAll, h x List.mem_cons_self, showableAll_map f l fun y hy => h y (List.mem_cons_of_mem _ hy)]; rfl
theorem int_shown {i : Int} (h0 : 0 ≤ i) (h1 : i ≤ 99) : (PyData.int i).shown.length ≤ 2 ∧ (PyData.int i).showable = true := by
  refine ⟨?_, ?_⟩
  · have := (num_len h0 h1).1
    simp only [PyData.shown]
    exact this
  · simp only [PyData.showable]
    exact decide_eq_true (log_small h0 h1)
theorem cond_shown {c : Cond} (h : 0 ≤ c.1 ∧ c.1 ≤ 4 ∧ 0 ≤ c.2 ∧ c.2 ≤ 9) : (condD c).shown.length ≤ 12 ∧ (condD c).showable = true := by
  obtain ⟨a1, a2⟩ := int_shown h.1 (by omega : c.1 ≤ 99)
  obtain ⟨b1, b2⟩ := int_shown h.2.2.1 (by omega : c.2 ≤ 99)
  refine ⟨?_, ?_⟩
  · have := tupleText_le [(PyData.int c.1).shown, (PyData.int c.2).shown]
    simp only [condD, PyData.shown, PyData.shownAll] at *
    simp only [List.map_cons, List.map_nil, List.sum_cons, List.sum_nil, List.length_cons, List.length_nil] at this
    omega
  · simp only [condD, PyData.showable, PyData.showableAll] at *
    rw [a2, b2]
    rfl
theorem case_shown {c : Case} (h : CaseOk c) : (caseD c).shown.length ≤ 74 ∧ (caseD c).showable = true := by
  refine ⟨?_, ?_⟩
  · have e : (caseD c).shown = tupleText (c.map fun x => (condD x).shown) := by simp only [caseD, PyData.shown]; rw [shownAll_map]
    rw [e]
    have a := tupleText_le (c.map fun x => (condD x).shown)
    have b : ((c.map fun x => (condD x).shown).map (·.length)).sum ≤ (c.map fun x => (condD x).shown).length * 12 := sum_le fun x hx => by
      obtain ⟨y, hy, rfl⟩ := List.mem_map.mp hx
      exact (cond_shown (h.each y hy)).1
    rw [List.length_map] at a b
    have := h.len
    omega
  · simp only [caseD, PyData.showable]
    exact showableAll_map _ _ fun x hx => (cond_shown (h.each x hx)).2
theorem rule_shown {r : Rule} (h : RuleOk r) : (ruleD r).shown.length ≤ 84 ∧ (ruleD r).showable = true := by
  obtain ⟨a1, a2⟩ := case_shown h.case
  obtain ⟨b1, b2⟩ := int_shown h.lo h.hi
  refine ⟨?_, ?_⟩
  · have := tupleText_le [(caseD r.1).shown, (PyData.int r.2).shown]
    have e : (ruleD r).shown = tupleText [(caseD r.1).shown, (PyData.int r.2).shown] := by simp only [ruleD, PyData.shown, PyData.shownAll]
    rw [e]
    simp only [List.map_cons, List.map_nil, List.sum_cons, List.sum_nil, List.length_cons, List.length_nil] at this
    omega
  · simp only [ruleD, PyData.showable, PyData.showableAll] at *
    rw [a2, b2]
    rfl
theorem rules_shown {n : Nat} {rs : List Rule} (h : RulesOk n rs) (hn : n ≤ 1000) : (PyData.tuple (rs.map ruleD)).shown.length ≤ sizeLine ∧ (PyData.tuple (rs.map ruleD)).showable = true := by
  refine ⟨?_, ?_⟩
  · have e : (PyData.tuple (rs.map ruleD)).shown = tupleText (rs.map fun x => (ruleD x).shown) := by simp only [PyData.shown]; rw [shownAll_map]
    rw [e]
    have a := tupleText_le (rs.map fun x => (ruleD x).shown)
    have b : ((rs.map fun x => (ruleD x).shown).map (·.length)).sum ≤ (rs.map fun x => (ruleD x).shown).length * 84 := sum_le fun x hx => by
      obtain ⟨y, hy, rfl⟩ := List.mem_map.mp hx
      exact (rule_shown (h.each y hy)).1
    rw [List.length_map] at a b
    have := h.few
    rw [sizeLine_eq]
    omega
  · simp only [PyData.showable]
    exact showableAll_map _ _ fun x hx => (rule_shown (h.each x hx)).2
/-! ### Ordered -/
section
variable {P : Program} {w : World} {K : PySem.W.Frag} {mg : Str → Option Value} {base : Heap}
theorem passAny {X : Cx} {E : XK} : Passes CX0 X E := fun _ _ _ _ _ _ _ h => h.elim
theorem sc_read : FnScope ["cls", "text", "rules"] ["cls", "text"] (defScope s_K_read) := ⟨rfl, rfl, rfl, by decide +kernel, rfl, by decide +kernel, by decide +kernel⟩
/-- the class and its makers -/
structure OrdC (P : Program) (K : PySem.W.Frag) (C D fO fL : Addr) : Prop where
  cl : Cls K C
  nh : NoAttr K C "held"
  mak : Mk K C fO
  su : SupDef P K fO C D fL "rules"
theorem SB.tkI {x C dx : Addr} {fs : List (Str × V)} {H H' : Hp} (h : SB x H H') (e : H x = some (.ins C dx fs)) : TK H H' := fun a xs q => h a _ (ne_of q e (by intro z; cases z)) q
theorem ok_read {f g C D fO fL fN fC fK fR rN rC rR rA : Addr} {fd gd dN dC dK dR eN eC eR eA : FuncData} {x qual qr : Str} {oc kV doc pm cdv ct : Value} {od an : Option Addr} {osl : Array (Option Value)}
    (F : Fun K "read" qr s_K_read f fd) (O : OrdC P K C D fO fL)
    (lk : K.lookup fL = some ⟨oc, od, .func (PySem.W.fnOf x qual (defArgs s_Listing_init) (defBody s_Listing_init) (defScope s_Listing_init) .none kV doc pm an cdv ct), osl⟩) (hcd : PySem.W.codeIn K cdv qual = true)
    (B : Blt mg) (N : Nums mg) (T : Forms K mg fN fC fK fR dN dC dK dR) (R : Reads K mg rN rC rR rA eN eC eR eA) (G : Df K mg "read_rules" s_read_rules ["text"] g gd) :
    FnOk P w K mg base CX0 9 f fd ["cls", "text"] (spRead C) := by
  have GG : FnOk P w K mg base CX0 8 g gd ["text"] spReadRules := (ok_readRules G.F B N T R).mono (by decide)
  have GI := fn_super (P := P) (w := w) (mg := mg) (base := base) (CX := CX0) O.su StX.cxUp_none (by decide) (by decide) (fn_init (P := P) (w := w) (base := base) lk hcd B N T R.A O.cl O.nh) (fun _ _ _ _ _ _ => passAny)
  refine F.ok sc_read (fun vs H Q E h => ?_) (fun cdv A outer s H vs Q E hr h => ?_)
  · obtain ⟨rs, rfl, _⟩ := h
    rfl
  · obtain ⟨rs, rfl, ok, q⟩ := h
    refine ⟨_, pss_cons (ps_set (i := 2) sc_read.nd rfl (.inl rfl) (pe_call GG hr rfl G.m G.F.kp G.b .nil pass0 (pa_cons (pv 1) pa_nil))) (pss_one (ps_ret (pe_makeLS (E := E0) (pv 0) O.mak GI hr passAny (pv 2)))), ?_⟩
    refine ⟨_, rfl, rs, rfl, ok, fun H1 t xs sm1 ht tx => ?_⟩
    refine ⟨_, rfl, rfl, _, rfl, t, xs, rfl, .inl (SqT.of ht), fun y dx hy hdx hne => ?_⟩
    have s1 : Same H1 (upd H1 dx (.own y)) := Same.new hdx
    have hy1 : upd H1 dx (.own y) y = none := by rw [upd_ne hne.symm]; exact hy
    have s2 : Same H1 (upd (upd H1 dx (.own y)) y (.ins C dx [])) := s1.trans (Same.new hy1)
    have hlen : xs.length ≤ sizeLine := by have := tx.length; rw [List.length_map] at this; have := ok.few; rw [sizeLine_eq]; omega
    refine ⟨y, dx, [], xs, rfl, hlen, upd_same, fun p hp => ⟨[.ref y], xs, rfl, rfl, hlen, fun p2 hp2 => ?_⟩⟩
    generalize hHa : upd (upd (upd H1 dx (.own y)) y (.ins C dx [])) p (.tup xs) = Ha at *
    have s3 : Same H1 Ha := by rw [← hHa]; exact s2.trans (Same.new hp)
    have ya : Ha y = some (.ins C dx []) := by rw [← hHa, upd_ne (ne_of_none upd_same hp)]; exact upd_same
    have s4 : Same Ha (upd Ha p2 (.tup xs)) := Same.new hp2
    refine ⟨y, dx, p2, xs, rs, rfl, s4 _ _ ya, upd_same, tx.mono (TK.same (s3.trans s4)), ok, fun H2 sb e2 => ⟨rfl, ?_⟩⟩
    have ne2 : p2 ≠ y := fun z => by rw [z, ya] at hp2; cases hp2
    refine q _ y (fun b o eb => sb b o (ne_of_none (sm1 _ _ eb) hy) (s4 _ _ (s3 _ _ (sm1 _ _ eb)))) (sm1.free hy) ⟨dx, p2, xs, e2, sb _ _ ne2 upd_same, tx.mono ((TK.same (s3.trans s4)).trans (SB.tkI sb (s4 _ _ ya)))⟩
end
end Cr

namespace Cr
open PySem PySem.Spec PyProof.Rows L2

section
variable {P : Program} {w : World} {K : PySem.W.Frag} {mg : Str → Option Value} {base : Heap}
theorem sc_case : FnScope ["_law_source_here", "_law_many", "_law_most", "_law_found", "_law_attribute"] ["_law_source_here", "_law_many", "_law_most"] (defScope s_law_case) := ⟨rfl, rfl, rfl, by decide +kernel, rfl, by decide +kernel, by decide +kernel⟩
theorem ok_case {f fD : Addr} {fd fdD : FuncData} (F : Fun K "_law_case" "_law_case" s_law_case f fd) (B : Blt mg) (mD : mg "_law_draw" = some (.ref fD)) (FD : Fun K "_law_draw" "_law_draw" s_law_draw fD fdD) (bD : Binds K fdD ["_law_source_here", "_law_many"] []) :
    FnOk P w K mg base CX0 2 f fd ["_law_source_here", "_law_many", "_law_most"] spCase := by
  have GD : FnOk P w K mg base CX0 1 fD fdD ["_law_source_here", "_law_many"] spDraw := ok_draw FD
  refine F.ok sc_case (fun vs H Q E h => ?_) (fun cdv A outer s H vs Q E hr h => ?_)
  · obtain ⟨S, m, q, rfl, _⟩ := h
    rfl
  · obtain ⟨S, m, n, rfl, hS, h0, h1, q⟩ := h
    refine ⟨_, pss_cons (ps_set (i := 3) sc_case.nd rfl (.inl rfl) (pe_lst pa_nil))
      (pss_cons (ps_for PassesOwn.never rfl (pi_range1 rfl B.range (pa_cons pe_int pa_nil)) (pg_name (i := 4) sc_case.nd rfl (.inl rfl))
        (pss_one (ps_if (pt_cmpR op_lt (pe_call GD hr rfl mD FD.kp bD .nil pass0 (pa_cons (pv 0) (pa_cons pe_int pa_nil))) (pv 1) (nomark _))
          (pss_one (ps_expr (pe_bm PySem.F.plainAttrs_list PySem.F.slot_list_append PySem.F.type_list_append mt_append (pv 3)
            (pa_cons (pe_tup (pa_cons (pv 4) (pa_cons (pe_call GD hr rfl mD FD.kp bD .nil pass0 (pa_cons (pv 0) (pa_cons (pv 2) pa_nil))) pa_nil))) pa_nil)))) pss_nil)))
      (pss_one (ps_ret (pe_callTy call_tuple_of (by rfl) B.tuple (by decide +kernel) (pa_cons (pv 3) pa_nil))))), ?_⟩
    refine ⟨Nat.zero_le _, fun l hl => ?_⟩
    have hlS : l ≠ S := hS.ne hl
    refine ⟨5, rfl, by decide, by decide, for_range (lo := 0) (n := 5) (fun i σ H' => ∃ (refs : List V) (cs : Case) (v : Option V), σ = [some (.ref S), some (.int m), some (.int n), some (.ref l), v] ∧ SB S H H' ∧ Src H' S ∧ H' l = some (.lst refs) ∧ TDs H' refs (cs.map condD) ∧ CaseOk cs ∧ ∀ x ∈ cs, x.1 < (i : Int))
      ⟨[], [], none, rfl, SB.new hl, hS.same (Same.new hl), upd_same, .nil, CaseOk.nil, fun x hx => (nomatch hx)⟩ ?_ ?_⟩
    · rintro i σ H1 hi ⟨refs, cs, v, rfl, sb, hS1, hL, td, ok, lt⟩
      -- if draw(source, 5) < many
      refine ⟨_, rfl, S, 5, rfl, hS1, by decide, by decide, fun H2 r sb2 hS2 r0 r1 => ?_⟩
      have hL2 := sb2 _ _ hlS hL
      have td2 := td.mono (sb2.tk hS1)
      refine ⟨_, rfl, _, _, rfl, rfl, _, rfl, ite2 (fun _ => ?_) (fun _ => ?_)⟩
      · refine ⟨_, rfl, .inl ⟨rfl, _, SqL.of hL2⟩, _, rfl, _, rfl, _, rfl, S, n, rfl, hS2, h0, by omega, fun H3 r' sb3 hS3 r0' r1' => ?_⟩
        have hL3 := sb3 _ _ hlS hL2
        have td3 := td2.mono (sb3.tk hS2)
        refine ⟨by show 2 ≤ sizeLine; decide, fun t ht => ?_⟩
        have hlt : l ≠ t := ne_of_none hL3 ht
        have hlen : refs.length ≤ 5 := by rw [td.length, List.length_map]; exact ok.len
        refine ⟨l, refs, _, rfl, rfl, by rw [upd_ne hlt]; exact hL3, by rw [sizeLine_eq]; omega, ?_⟩
        have k1 : TK H3 (upd H3 t (.tup [.int (0 + (i : Int)), .int r'])) := TK.new ht
        have k2 : TK (upd H3 t (.tup [.int (0 + (i : Int)), .int r'])) (upd (upd H3 t (.tup [.int (0 + (i : Int)), .int r'])) l (.lst (refs ++ [.ref t]))) := TK.lst (by rw [upd_ne hlt]; exact hL3)
        refine ⟨refs ++ [.ref t], cs ++ [(0 + (i : Int), r')], _, rfl, ?_, ?_, upd_same, ?_, ?_, ?_⟩
        · intro b o nb e
          have nl : b ≠ l := ne_of_none e hl
          rw [upd_ne nl]
          exact SB.new (S := S) ht b o nb (sb3 b o nb (sb2 b o nb (sb b o nb e)))
        · obtain ⟨x, y, z, e⟩ := hS3
          exact ⟨x, y, z, by rw [upd_ne hlS.symm, upd_ne (ne_of_none e ht)]; exact e⟩
        · rw [List.map_append]
          exact (td3.mono (k1.trans k2)).append (.cons (condD_td (k2 _ _ upd_same)) .nil)
        · exact ok.snoc (fun x hx => by have := lt x hx; omega) (by omega) (by omega) r0' (by omega)
        · intro x hx
          rcases List.mem_append.mp hx with z | z
          · have := lt x z; push_cast; omega
          · rw [List.mem_singleton.mp z]; push_cast; omega
      · exact ⟨refs, cs, _, rfl, sb.trans sb2, hS2, hL2, td2, ok, fun x hx => by have := lt x hx; push_cast; omega⟩
    · rintro σ H1 ⟨refs, cs, v, rfl, sb, hS1, hL, td, ok, lt⟩
      refine ⟨_, rfl, l, refs, rfl, .inl ⟨SqL.of hL, fun t ht => ?_⟩⟩
      exact q _ t cs (sb.trans (SB.new ht)) (hS1.same (Same.new ht)) (.tup upd_same (td.mono (TK.new ht))) ok
theorem sc_part : FnScope ["_law_source_here", "_law_case_here", "_law_part_here"] ["_law_source_here", "_law_case_here"] (defScope s_law_part) := ⟨rfl, rfl, rfl, by decide +kernel, rfl, by decide +kernel, by decide +kernel⟩
theorem ok_part {f fD : Addr} {fd fdD : FuncData} (F : Fun K "_law_part" "_law_part" s_law_part f fd) (B : Blt mg) (mD : mg "_law_draw" = some (.ref fD)) (FD : Fun K "_law_draw" "_law_draw" s_law_draw fD fdD) (bD : Binds K fdD ["_law_source_here", "_law_many"] []) :
    FnOk P w K mg base CX0 2 f fd ["_law_source_here", "_law_case_here"] spPart := by
  have GD : FnOk P w K mg base CX0 1 fD fdD ["_law_source_here", "_law_many"] spDraw := ok_draw FD
  refine F.ok sc_part (fun vs H Q E h => ?_) (fun cdv A outer s H vs Q E hr h => ?_)
  · obtain ⟨S, t, cs, rfl, _⟩ := h
    rfl
  · obtain ⟨S, t, cs, rfl, hS, ht, ok, q⟩ := h
    obtain ⟨_, xs, e, hT, tds⟩ := ht.tupv
    cases e
    refine ⟨_, pss_one (ps_ret (pe_callTy call_tuple_of (by rfl) B.tuple (by decide +kernel) (pa_cons
      (pe_lc (own := [("_law_part_here", 2)]) (g := gName 2) rfl sc_part.nd (pi_tup (pv 1)) (blkOk_by (own := [("_law_part_here", 2)]) (N := ["_law_source_here", "_law_case_here", "_law_part_here"]) (sc := defScope s_law_part) (by decide +kernel))
        (fun _ _ _ _ _ => pg_name (i := 2) sc_part.nd rfl (Or.inl rfl))
        (fun _ _ _ _ _ => pts_one (pt_cmpR op_eq (pe_call GD hr rfl mD FD.kp bD .nil pass0 (pa_cons (pv 0) (pa_cons pe_int pa_nil))) pe_int (nomark _)))
        (fun _ _ _ _ _ => pv 2)) pa_nil))), ?_⟩
    have htS : t ≠ S := by obtain ⟨x, y, z, e⟩ := hS; exact ne_of hT e (by intro z; cases z)
    refine ⟨_, rfl, t, rfl, ⟨_, SqT.of hT⟩, fun D hD => ?_⟩
    have hDS : D ≠ S := hS.ne hD
    refine lc_tup (K := K) (a := t) (xs := xs) (fun i H' => ∃ (refs : List V) (ds : Case), SB S H H' ∧ Src H' S ∧ H' D = some (.lst refs) ∧ TDs H' refs (ds.map condD) ∧ List.Sublist ds (cs.take i))
      ⟨[], [], SB.new hD, hS.same (Same.new hD), upd_same, .nil, List.Sublist.refl _⟩ (fun i H' _ ⟨_, _, sb, _⟩ => SqT.of (sb _ _ htS hT)) ?_ ?_
    · rintro i x H1 hx ⟨refs, ds, sb, hS1, hL, td, sub⟩
      obtain ⟨d, hd, tx⟩ := tds.get hx
      obtain ⟨c, hc, rfl⟩ : ∃ c, cs[i]? = some c ∧ condD c = d := by
        rw [List.getElem?_map] at hd
        cases e : cs[i]? with
        | none => rw [e] at hd; cases hd
        | some c => rw [e] at hd; exact ⟨c, rfl, Option.some.inj hd⟩
      have hcs : cs.take (i + 1) = cs.take i ++ [c] := by rw [List.take_succ, hc]; rfl
      refine ⟨rfl, _, rfl, S, 2, rfl, hS1, by decide, by decide, fun H2 r sb2 hS2 r0 r1 => ?_⟩
      have hL2 := sb2 _ _ hDS hL
      have td2 := td.mono (sb2.tk hS1)
      refine ⟨rfl, _, rfl, ite2 (fun _ => ?_) (fun _ => ?_)⟩
      · refine ⟨_, rfl, refs, hL2, ?_, refs ++ [x], ds ++ [c], ?_, ?_, upd_same, ?_, ?_⟩
        · have : refs.length ≤ 5 := by
            rw [td.length, List.length_map]
            exact Nat.le_trans sub.length_le (Nat.le_trans (by rw [List.length_take]; omega) ok.len)
          rw [sizeLine_eq]; omega
        · intro b o nb e
          rw [upd_ne (ne_of_none e hD)]
          exact sb2 b o nb (sb b o nb e)
        · obtain ⟨x, y, z, e⟩ := hS2
          exact ⟨x, y, z, by rw [upd_ne hDS.symm]; exact e⟩
        · rw [List.map_append]
          have k1 : TK H H2 := (sb.trans sb2).tk hS
          exact (td2.append (.cons (tx.mono k1) .nil)).mono (TK.lst hL2)
        · rw [hcs]
          exact sub.append (List.Sublist.refl _)
      · exact ⟨refs, ds, sb.trans sb2, hS2, hL2, td2, by rw [hcs]; exact sub.trans (List.sublist_append_left _ _)⟩
    · rintro H1 ⟨refs, ds, sb, hS1, hL, td, sub⟩
      refine ⟨D, refs, rfl, .inl ⟨SqL.of hL, fun p hp => ?_⟩⟩
      exact q _ p ds (sb.trans (SB.new hp)) (hS1.same (Same.new hp)) (.tup upd_same (td.mono (TK.new hp))) (ok.sub (sub.trans (List.take_sublist _ _)))
end
/-- rules as they are drawn: results below three -/
structure Drawn (n : Nat) (rs : List Rule) : Prop extends RulesOk n rs where
  low : ∀ r ∈ rs, r.2 ≤ 2
def spSome : Sp := fun vs H Q _ => ∃ (S : Addr) (m : Int), vs = [.ref S, .int m] ∧ Src H S ∧ 0 ≤ m ∧ m ≤ 12 ∧
  ∀ H' l refs rs, SB S H H' → Src H' S → H l = none → l ≠ S → NewRules H' l refs rs → Drawn m.toNat rs → Q (.ref l) H'
/-- the state within a turn, behind the case's making -/
def SomeAt (S l : Addr) (H : Hp) (m n v : Int) (i : Nat) (σ : L2.St) (H' : Hp) : Prop :=
  ∃ (refs : List V) (rs : List Rule) (k y : Int) (t : Addr) (cs : Case) (o8 o9 o10 o11 o12 o13 : Option V),
    σ = [some (.ref S), some (.int m), some (.ref l), some (.int n), some (.int v), some (.int k), some (.ref t), some (.int y), o8, o9, o10, o11, o12, o13] ∧
    SB S H H' ∧ Src H' S ∧ NewRules H' l refs rs ∧ Drawn i rs ∧ TD H' (.ref t) (caseD cs) ∧ CaseOk cs
theorem SomeAt.same {S l : Addr} {H H1 H2 : Hp} {m n v : Int} {i : Nat} {σ : L2.St} (h : SomeAt S l H m n v i σ H1) (hs : Same H1 H2) : SomeAt S l H m n v i σ H2 := by
  obtain ⟨refs, rs, k, y, t, cs, o8, o9, o10, o11, o12, o13, e, sb, hS, nr, ok, ht, hcs⟩ := h
  exact ⟨refs, rs, k, y, t, cs, o8, o9, o10, o11, o12, o13, e, sb.trans (SB.same hs), hS.same hs, nr.same hs, ok, ht.mono (TK.same hs), hcs⟩
abbrev nSome : List Str := ["_law_source_here", "_law_most", "_law_found", "_law_many", "_law_value", "_law_turn", "_law_case_here", "_law_way", "_law_old", "_law_names", "_law_rule", "_law_attribute", "_law_kept", "_law_part_here"]
section
variable {P : Program} {w : World} {K : PySem.W.Frag} {mg : Str → Option Value} {base : Heap}
theorem sc_some : FnScope nSome ["_law_source_here", "_law_most"] (defScope s_law_some) := ⟨rfl, rfl, rfl, by decide +kernel, rfl, by decide +kernel, by decide +kernel⟩
structure LawFns (K : PySem.W.Frag) (mg : Str → Option Value) (fD fC fK fP : Addr) (dD dC dK dP : FuncData) : Prop where
  mD : mg "_law_draw" = some (.ref fD)
  FD : Fun K "_law_draw" "_law_draw" s_law_draw fD dD
  bD : Binds K dD ["_law_source_here", "_law_many"] []
  mC : mg "_law_choose" = some (.ref fC)
  FC : Fun K "_law_choose" "_law_choose" s_law_choose fC dC
  bC : Binds K dC ["_law_source_here", "_law_values"] []
  mK : mg "_law_case" = some (.ref fK)
  FK : Fun K "_law_case" "_law_case" s_law_case fK dK
  bK : Binds K dK ["_law_source_here", "_law_many", "_law_most"] []
  mP : mg "_law_part" = some (.ref fP)
  FP : Fun K "_law_part" "_law_part" s_law_part fP dP
  bP : Binds K dP ["_law_source_here", "_law_case_here"] []
theorem ok_some {f fD fC fK fP : Addr} {fd dD dC dK dP : FuncData} (F : Fun K "_law_some" "_law_some" s_law_some f fd) (B : Blt mg) (L : LawFns K mg fD fC fK fP dD dC dK dP) : FnOk P w K mg base CX0 3 f fd ["_law_source_here", "_law_most"] spSome := by
  have GD : FnOk P w K mg base CX0 2 fD dD ["_law_source_here", "_law_many"] spDraw := (ok_draw L.FD).mono (by decide)
  have GC : FnOk P w K mg base CX0 2 fC dC ["_law_source_here", "_law_values"] spChoose := ok_choose L.FC B L.mD L.FD L.bD
  have GK : FnOk P w K mg base CX0 2 fK dK ["_law_source_here", "_law_many", "_law_most"] spCase := ok_case L.FK B L.mD L.FD L.bD
  have GP : FnOk P w K mg base CX0 2 fP dP ["_law_source_here", "_law_case_here"] spPart := ok_part L.FP B L.mD L.FD L.bD
  refine F.ok sc_some (fun vs H Q E h => ?_) (fun cdv A outer s H vs Q E hr h => ?_)
  · obtain ⟨S, m, rfl, _⟩ := h
    rfl
  · obtain ⟨S, m, rfl, hS, h0, h1, q⟩ := h
    have hu : A.units + 3 + 65 < cLine := by have := hr.un; show A.units + 3 + 65 < cLine; have e : (A.deeper (envOfC "_law_some" (defScope s_law_some) s.heap.objs.size f cdv)).units = A.units + 3 := rfl; omega
    refine ⟨_, pss_cons (ps_par3 (i := 2) (j := 3) (l := 4) rfl sc_some.nd rfl rfl rfl (by decide) (by decide) (by decide) rfl rfl rfl
        (pa_cons (pe_lst pa_nil) (pa_cons (pe_call GD hr rfl L.mD L.FD.kp L.bD .nil pass0 (pa_cons (pv 0) (pa_cons (pe_op op_add (pv 1) pe_int) pa_nil))) (pa_cons (pe_op op_add pe_int (pe_call GD hr rfl L.mD L.FD.kp L.bD .nil pass0 (pa_cons (pv 0) (pa_cons pe_int pa_nil)))) pa_nil))) rfl)
      (pss_cons (ps_for PassesOwn.never rfl (pi_range1 rfl B.range (pa_cons (pv 3) pa_nil)) (pg_name (i := 5) sc_some.nd rfl (.inl rfl))
        (C8.pss_cut (ps_par (i := 6) (j := 7) rfl sc_some.nd rfl rfl (by decide) rfl rfl
            (pa_cons (pe_call GK hr rfl L.mK L.FK.kp L.bK .nil pass0 (pa_cons (pv 0) (pa_cons (pe_op op_add pe_int (pe_call GD hr rfl L.mD L.FD.kp L.bD .nil pass0 (pa_cons (pv 0) (pa_cons pe_int pa_nil)))) (pa_cons (pv 4) pa_nil))))
              (pa_cons (pe_call GD hr rfl L.mD L.FD.kp L.bD .nil pass0 (pa_cons (pv 0) (pa_cons pe_int pa_nil))) pa_nil)) rfl)
        (C8.pss_cut (ps_if (PW.pt (pw_and (pt_cmpR (op_neD hr.units) (pv 2) (pe_lst pa_nil) (nomark _)) (pw_and1 (pt_cmpR op_lt (pv 7) pe_int (nomark _)))))
            (pss_one (ps_set (i := 6) sc_some.nd rfl (.inl rfl) (pe_call GP hr rfl L.mP L.FP.kp L.bP .nil pass0 (pa_cons (pv 0) (pa_cons (pe_ix ix_tup (pe_call GC hr rfl L.mC L.FC.kp L.bC .nil pass0 (pa_cons (pv 0) (pa_cons (pv 2) pa_nil))) pe_int (fun _ _ => rfl)) pa_nil))))) pss_nil)
        (C8.pss_cut (ps_if (PW.pt (pw_and (pt_cmpR (op_neD hr.units) (pv 2) (pe_lst pa_nil) (nomark _)) (pw_and1 (pt_cmpR op_eq (pv 7) pe_int (nomark _)))))
            (pss_cons (ps_set (i := 8) sc_some.nd rfl (.inl rfl) (pe_ix ix_tup (pe_call GC hr rfl L.mC L.FC.kp L.bC .nil pass0 (pa_cons (pv 0) (pa_cons (pv 2) pa_nil))) pe_int (fun _ _ => rfl)))
            (pss_cons (ps_set (i := 9) sc_some.nd rfl (.inr rfl) (pe_lc (own := [("_law_attribute", 11), ("_law_kept", 12)]) (g := gTup K 2 (gCons (gName 11) (gCons (gName 12) gNil))) (tt := tYes) rfl sc_some.nd (pi_tup (pv 8))
                (blkOk_by (own := [("_law_attribute", 11), ("_law_kept", 12)]) (N := nSome) (sc := defScope s_law_some) (by decide +kernel))
                (fun _ _ _ _ _ => pg_tup rfl (pgs_cons (pg_name (i := 11) sc_some.nd rfl (Or.inl rfl)) (pgs_cons (pg_name (i := 12) sc_some.nd rfl (Or.inl rfl)) pgs_nil)))
                (fun _ _ _ _ _ => pts_nil) (fun _ _ _ _ _ => pv 11)))
            (pss_one (ps_set (i := 6) sc_some.nd rfl (.inl rfl) (pe_callTy call_tuple_of (by rfl) B.tuple (by decide +kernel) (pa_cons (pe_callB cr_sortedPO (by rfl) B.sorted (by decide +kernel) (pa_cons
                (pe_op op_cat (pe_callTy call_list_of (by rfl) B.list (by decide +kernel) (pa_cons (pv 8) pa_nil))
                  (pe_lc (own := [("_law_part_here", 13)]) (g := gName 13) rfl sc_some.nd (pi_tup (pv 6)) (blkOk_by (own := [("_law_part_here", 13)]) (N := nSome) (sc := defScope s_law_some) (by decide +kernel))
                    (fun _ _ _ _ _ => pg_name (i := 13) sc_some.nd rfl (Or.inl rfl))
                    (fun _ _ _ _ _ => pts_one (pt_cmpR (show OpR _ (compareOp .NotIn) (rIn K true) from op_notIn_seq) (pe_ix (show IxR _ (rIxT K) from ix_tup) (pv 13) pe_int (fun _ _ => rfl)) (pv 9) (by rfl))) (fun _ _ _ _ _ => pv 13))) pa_nil)) pa_nil)))))) pss_nil)
        (C8.pss_cut (ps_if (PW.pt (pw_and (pt_cmpR (op_neD hr.units) (pv 2) (pe_lst pa_nil) (nomark _)) (pw_and1 (pt_cmpR op_eq (pv 7) pe_int (nomark _)))))
            (pss_one (ps_set (i := 6) sc_some.nd rfl (.inl rfl) (pe_ix ix_tup (pe_call GC hr rfl L.mC L.FC.kp L.bC .nil pass0 (pa_cons (pv 0) (pa_cons (pv 2) pa_nil))) pe_int (fun _ _ => rfl)))) pss_nil)
        (pss_cons (ps_set (i := 10) sc_some.nd rfl (.inl rfl) (pe_tup (pa_cons (pv 6) (pa_cons (pe_call GD hr rfl L.mD L.FD.kp L.bD .nil pass0 (pa_cons (pv 0) (pa_cons pe_int pa_nil))) pa_nil))))
        (pss_one (ps_if (pt_cmpR (op_notInD hu) (pv 10) (pv 2) (by rfl))
            (pss_one (ps_expr (pe_bm PySem.F.plainAttrs_list PySem.F.slot_list_append PySem.F.type_list_append mt_append (pv 2) (pa_cons (pv 10) pa_nil)))) pss_nil))))))))
      (pss_one (ps_ret (pv 2)))), ?_⟩
    refine ⟨Nat.zero_le _, fun l hl => ?_⟩
    have hlS : l ≠ S := hS.ne hl
    refine ⟨_, rfl, _, rfl, _, _, rfl, rfl, S, _, rfl, hS.same (Same.new hl), by omega, by omega, fun H1 n sb1 hS1 n0 n1 => ?_⟩
    refine ⟨_, rfl, S, 3, rfl, hS1, by decide, by decide, fun H2 v sb2 hS2 v0 v1 => ⟨_, _, rfl, rfl, _, _, _, rfl, ?_⟩⟩
    have sb0 : SB S H H2 := (SB.new hl).trans (sb1.trans sb2)
    have hl2 : H2 l = some (.lst []) := sb2 _ _ hlS (sb1 _ _ hlS upd_same)
    refine ⟨_, rfl, n, rfl, by omega, by omega, for_range (lo := 0) (n := n.toNat) (fun i σ H' => ∃ (refs : List V) (rs : List Rule) (o5 o6 o7 o8 o9 o10 o11 o12 o13 : Option V),
        σ = [some (.ref S), some (.int m), some (.ref l), some (.int n), some (.int (1 + v)), o5, o6, o7, o8, o9, o10, o11, o12, o13] ∧ SB S H H' ∧ Src H' S ∧ NewRules H' l refs rs ∧ Drawn i rs)
      ⟨[], [], none, none, none, none, none, none, none, none, none, rfl, sb0, hS2, ⟨hl2, .nil⟩, ⟨⟨fun r h => (nomatch h), List.nodup_nil, Nat.le_refl _⟩, fun r h => (nomatch h)⟩⟩ ?_ ?_⟩
    · rintro i σ H3 hi ⟨refs, rs, o5, o6, o7, o8, o9, o10, o11, o12, o13, rfl, sb3, hS3, nr, ok⟩
      -- case_here, way = ..
      refine ⟨SomeAt S l H m n (1 + v) i, ?_, ?_⟩
      · refine ⟨_, rfl, _, rfl, S, 3, rfl, hS3, by decide, by decide, fun H4 r4 sb4 hS4 r40 r41 => ⟨_, _, rfl, rfl, _, rfl, S, _, _, rfl, hS4, by omega, by omega, fun H5 t cs sb5 hS5 ht hcs => ?_⟩⟩
        refine ⟨_, rfl, S, 5, rfl, hS5, by decide, by decide, fun H6 y sb6 hS6 y0 y1 => ⟨_, _, rfl, ?_⟩⟩
        exact ⟨refs, rs, _, y, t, cs, o8, o9, o10, o11, o12, o13, rfl, sb3.trans (sb4.trans (sb5.trans sb6)), hS6, nr.mono (sb4.trans (sb5.trans sb6)) hS3 hlS, ok, ht.mono (sb6.tk hS5), hcs⟩
      · rintro σ H4 ⟨refs, rs, k, y, t, cs, o8, o9, o10, o11, o12, o13, rfl, sb4, hS4, nr, ok, ht, hcs⟩
        refine ⟨SomeAt S l H m n (1 + v) i, ?_, ?_⟩
        · -- if found != [] and way < 2
          refine ⟨_, rfl, Nat.zero_le _, fun e he => ⟨_, _, (nr.same (Same.new he)).dp, .lst (SqL.of upd_same) .nil, shaped_rulesL rs, shaped_nilL, _, rfl, ?_⟩⟩
          have hse : Same H4 (upd H4 e (.lst [])) := Same.new he
          have stay : SomeAt S l H m n (1 + v) i [some (.ref S), some (.int m), some (.ref l), some (.int n), some (.int (1 + v)), some (.int k), some (.ref t), some (.int y), o8, o9, o10, o11, o12, o13] (upd H4 e (.lst [])) :=
            SomeAt.same ⟨refs, rs, k, y, t, cs, o8, o9, o10, o11, o12, o13, rfl, sb4, hS4, nr, ok, ht, hcs⟩ hse
          refine ite2 (fun hc => ?_) (fun _ => iteF stay)
          have hne : rs ≠ [] := by rw [eqv_nilL] at hc; simpa using hc
          refine ⟨_, rfl, _, _, rfl, rfl, _, rfl, ite2 (fun _ => ?_) (fun _ => stay)⟩
          have nr5 := nr.same hse
          have hS5 := hS4.same hse
          have hlen : refs.length = rs.length := nr.len
          refine ⟨_, rfl, _, rfl, _, rfl, S, l, refs, rfl, hS5, hlS, nr5.1, by rw [hlen]; exact List.length_pos_iff.mpr hne, by have := ok.few; omega, fun H6 x sb6 hS6 hx => ?_⟩
          have nr6 := nr5.mono sb6 hS5 hlS
          obtain ⟨a, c, r, rfl, ha, hc2, hrm⟩ := nr6.pick hx
          refine ⟨a, _, 0, .ref c, rfl, rfl, SqT.of ha, rfl, S, c, r.1, rfl, hS6, hc2, (ok.each r hrm).case, fun H7 t7 cs7 sb7 hS7 ht7 hcs7 => ?_⟩
          exact ⟨refs, rs, k, y, t7, cs7, o8, o9, o10, o11, o12, o13, rfl, sb4.trans ((SB.same hse).trans (sb6.trans sb7)), hS7, nr6.mono sb7 hS6 hlS, ok, ht7, hcs7⟩
        · rintro σ H4 ⟨refs, rs, k, y, t, cs, o8, o9, o10, o11, o12, o13, rfl, sb4, hS4, nr, ok, ht, hcs⟩
          refine ⟨SomeAt S l H m n (1 + v) i, ?_, ?_⟩
          · -- if found != [] and way == 2
            refine ⟨_, rfl, Nat.zero_le _, fun e he => ⟨_, _, (nr.same (Same.new he)).dp, .lst (SqL.of upd_same) .nil, shaped_rulesL rs, shaped_nilL, _, rfl, ?_⟩⟩
            have hse : Same H4 (upd H4 e (.lst [])) := Same.new he
            have stay : SomeAt S l H m n (1 + v) i [some (.ref S), some (.int m), some (.ref l), some (.int n), some (.int (1 + v)), some (.int k), some (.ref t), some (.int y), o8, o9, o10, o11, o12, o13] (upd H4 e (.lst [])) :=
              SomeAt.same ⟨refs, rs, k, y, t, cs, o8, o9, o10, o11, o12, o13, rfl, sb4, hS4, nr, ok, ht, hcs⟩ hse
            refine ite2 (fun hc => ?_) (fun _ => iteF stay)
            have hne : rs ≠ [] := by rw [eqv_nilL] at hc; simpa using hc
            refine ⟨_, rfl, rfl, _, rfl, ite2 (fun _ => ?_) (fun _ => stay)⟩
            have nr5 := nr.same hse
            have hS5 := hS4.same hse
            refine ⟨_, rfl, _, rfl, S, l, refs, rfl, hS5, hlS, nr5.1, by rw [nr.len]; exact List.length_pos_iff.mpr hne, by have := ok.few; have := nr.len; omega, fun H6 x sb6 hS6 hx => ?_⟩
            have nr6 := nr5.mono sb6 hS5 hlS
            have ht6 : TD H6 (.ref t) (caseD cs) := (ht.mono (TK.same hse)).mono (sb6.tk hS5)
            have sb06 : SB S H H6 := sb4.trans ((SB.same hse).trans sb6)
            obtain ⟨a, c, r, rfl, ha, hc2, hrm⟩ := nr6.pick hx
            have okc := (ok.each r hrm).case
            obtain ⟨_, ocs, eoc, hoc, toc⟩ := hc2.tupv
            cases eoc
            obtain ⟨_, tcs, etc, htc, ttc⟩ := ht6.tupv
            cases etc
            refine ⟨a, _, 0, .ref c, rfl, rfl, SqT.of ha, rfl, ?_⟩
            -- names = [attribute for attribute, kept in old]
            refine ⟨_, rfl, c, rfl, ⟨_, SqT.of hoc⟩, fun D hD => ?_⟩
            refine lc_tup (K := K) (a := c) (xs := ocs) (fun i H' => Same H6 H' ∧ H' D = some (.lst ((r.1.take i).map fun x => V.int x.1))) ⟨Same.new hD, upd_same⟩ (fun i H' _ h => SqT.of (h.1 _ _ hoc)) ?_ ?_
            · rintro i x H7 hxi ⟨sm, hL⟩
              obtain ⟨d, hd, tx⟩ := toc.get hxi
              rw [List.getElem?_map] at hd
              cases ec : r.1[i]? with
              | none => rw [ec] at hd; cases hd
              | some cc =>
                rw [ec] at hd
                obtain rfl := Option.some.inj hd
                obtain ⟨ac, rfl, hac⟩ := cond_at (tx.mono (TK.same sm))
                have hts : r.1.take (i + 1) = r.1.take i ++ [cc] := by rw [List.take_succ, ec]; rfl
                refine ⟨ac, _, rfl, SqT.of hac, rfl, _, _, rfl, _, _, rfl, rfl, rfl, _, rfl, _, hL, ?_, ?_, ?_⟩
                · rw [List.length_map, List.length_take, sizeLine_eq]; have := okc.len; omega
                · exact fun b o eb => by rw [upd_ne (ne_of_none eb hD)]; exact sm b o eb
                · rw [hts, List.map_append]; exact upd_same
            rintro H7 ⟨sm7, hN⟩
            have elen : ocs.length = r.1.length := by rw [toc.length, List.length_map]
            rw [elen, List.take_length] at hN
            -- tuple(sorted(list(old) + [..]))
            refine ⟨_, rfl, c, _, rfl, .inr (SqT.of (sm7 _ _ hoc)), fun l2 hl2 => ?_⟩
            have sm8 : Same H7 (upd H7 l2 (.lst ocs)) := Same.new hl2
            have htc8 := sm8 _ _ (sm7 _ _ htc)
            refine ⟨_, rfl, t, rfl, ⟨_, SqT.of htc8⟩, fun D2 hD2 => ?_⟩
            have sm68 : Same H6 (upd H7 l2 (.lst ocs)) := sm7.trans sm8
            refine lc_tup (K := K) (a := t) (xs := tcs) (fun i H' => ∃ rf, Same (upd H7 l2 (.lst ocs)) H' ∧ H' D2 = some (.lst rf) ∧ TDs H' rf (((cs.take i).filter (notNamed r.1)).map condD))
              ⟨[], Same.new hD2, upd_same, .nil⟩ (fun i H' _ ⟨_, h, _⟩ => SqT.of (h _ _ htc8)) ?_ ?_
            · rintro i x H9 hxi ⟨rf, sm9, hL, td9⟩
              obtain ⟨d, hd, tx⟩ := ttc.get hxi
              rw [List.getElem?_map] at hd
              cases ec : cs[i]? with
              | none => rw [ec] at hd; cases hd
              | some cc =>
                rw [ec] at hd
                obtain rfl := Option.some.inj hd
                have tx9 := tx.mono (TK.same (sm68.trans sm9))
                obtain ⟨ac, rfl, hac⟩ := cond_at tx9
                have hts : cs.take (i + 1) = cs.take i ++ [cc] := by rw [List.take_succ, ec]; rfl
                have hN9 := sm9 _ _ (sm8 _ _ hN)
                refine ⟨rfl, _, rfl, ac, _, 0, .int cc.1, rfl, rfl, SqT.of hac, rfl, _, rfl, D, _, rfl, .inl (SqL.of hN9), rfl, flat_ints _, _, rfl, ?_⟩
                refine ite2 (fun hb => ?_) (fun hb => ?_)
                · have hnot : cc.1 ∉ r.1.map (·.1) := by
                    have z : (!inV (.int cc.1) (r.1.map fun x => V.int x.1)) = true := hb
                    rw [inV_ints] at z
                    simpa using z
                  refine ⟨_, rfl, rf, hL, ?_, rf ++ [.ref ac], ?_, upd_same, ?_⟩
                  · have z1 := td9.length
                    rw [List.length_map] at z1
                    have z2 := List.length_filter_le (notNamed r.1) (cs.take i)
                    rw [List.length_take] at z2
                    have := hcs.len
                    rw [sizeLine_eq]; omega
                  · exact fun b o eb => by rw [upd_ne (ne_of_none eb hD2)]; exact sm9 b o eb
                  · rw [hts, List.filter_append, List.map_append]
                    have ef : ([cc].filter (notNamed r.1)) = [cc] := by rw [List.filter_cons, show notNamed r.1 cc = true from decide_eq_true hnot]; rfl
                    rw [ef]
                    exact (td9.append (.cons tx9 .nil)).mono (TK.lst hL)
                · have hin : cc.1 ∈ r.1.map (·.1) := by
                    have z : ¬ (!inV (.int cc.1) (r.1.map fun x => V.int x.1)) = true := hb
                    rw [inV_ints] at z
                    simpa using z
                  refine ⟨rf, sm9, hL, ?_⟩
                  rw [hts, List.filter_append]
                  have ef : ([cc].filter (notNamed r.1)) = [] := by rw [List.filter_cons, show notNamed r.1 cc = false from decide_eq_false (fun z => z hin)]; rfl
                  rw [ef, List.append_nil]
                  exact td9
            rintro H9 ⟨rf, sm9, hL, td9⟩
            have clen : tcs.length = cs.length := by rw [ttc.length, List.length_map]
            rw [clen, List.take_length] at td9
            have toc9 : TDs H9 ocs (r.1.map condD) := toc.mono (TK.same (sm68.trans sm9))
            refine ⟨l2, D2, _, _, rfl, rfl, sm9 _ _ upd_same, hL, ?_, fun p3 hp3 => ?_⟩
            · have z1 := td9.length
              rw [List.length_map] at z1
              have z2 := List.length_filter_le (notNamed r.1) cs
              have := hcs.len
              have := okc.len
              rw [sizeLine_eq]; omega
            have sm10 : Same H9 (upd H9 p3 (.lst (ocs ++ rf))) := Same.new hp3
            have tall : TDs (upd H9 p3 (.lst (ocs ++ rf))) (ocs ++ rf) ((r.1 ++ cs.filter (notNamed r.1)).map condD) := by
              rw [List.map_append]
              exact (toc9.append td9).mono (TK.same sm10)
            obtain ⟨ep1, ep2⟩ := conds_pairs tall
            refine ⟨p3, _, pairAt (upd H9 p3 (.lst (ocs ++ rf))), rfl, SqL.of upd_same, ep2, fun ys p4 so st hp4 => ?_⟩
            have sm11 : Same (upd H9 p3 (.lst (ocs ++ rf))) (upd (upd H9 p3 (.lst (ocs ++ rf))) p4 (.lst ys)) := Same.new hp4
            refine ⟨p4, ys, rfl, .inl ⟨SqL.of upd_same, fun p5 hp5 => ?_⟩⟩
            have sm12 : Same (upd (upd H9 p3 (.lst (ocs ++ rf))) p4 (.lst ys)) (upd (upd (upd H9 p3 (.lst (ocs ++ rf))) p4 (.lst ys)) p5 (.tup ys)) := Same.new hp5
            have smz : Same H6 (upd (upd (upd H9 p3 (.lst (ocs ++ rf))) p4 (.lst ys)) p5 (.tup ys)) := sm68.trans (sm9.trans (sm10.trans (sm11.trans sm12)))
            have tys := (pairs_conds ys fun x hx => ep2 x (st.perm.mem_iff.mp hx)).mono (TK.same (sm11.trans sm12))
            have okz : CaseOk (ys.map (pairAt (upd H9 p3 (.lst (ocs ++ rf))))) := by
              refine merged_ok okc hcs ?_ ?_
              · have z := st.perm.map (pairAt (upd H9 p3 (.lst (ocs ++ rf))))
                rw [ep1] at z
                exact z
              · exact List.pairwise_map.mpr so
            exact ⟨refs, rs, k, y, p5, _, _, _, o10, o11, o12, o13, rfl, sb06.trans (SB.same smz), hS6.same smz, nr6.same smz, ok, .tup upd_same tys, okz⟩
          · rintro σ H4 ⟨refs, rs, k, y, t, cs, o8, o9, o10, o11, o12, o13, rfl, sb4, hS4, nr, ok, ht, hcs⟩
            refine ⟨SomeAt S l H m n (1 + v) i, ?_, ?_⟩
            · -- if found != [] and way == 3
              refine ⟨_, rfl, Nat.zero_le _, fun e he => ⟨_, _, (nr.same (Same.new he)).dp, .lst (SqL.of upd_same) .nil, shaped_rulesL rs, shaped_nilL, _, rfl, ?_⟩⟩
              have hse : Same H4 (upd H4 e (.lst [])) := Same.new he
              have stay : SomeAt S l H m n (1 + v) i [some (.ref S), some (.int m), some (.ref l), some (.int n), some (.int (1 + v)), some (.int k), some (.ref t), some (.int y), o8, o9, o10, o11, o12, o13] (upd H4 e (.lst [])) :=
                SomeAt.same ⟨refs, rs, k, y, t, cs, o8, o9, o10, o11, o12, o13, rfl, sb4, hS4, nr, ok, ht, hcs⟩ hse
              refine ite2 (fun hc => ?_) (fun _ => iteF stay)
              have hne : rs ≠ [] := by rw [eqv_nilL] at hc; simpa using hc
              refine ⟨_, rfl, rfl, _, rfl, ite2 (fun _ => ?_) (fun _ => stay)⟩
              have nr5 := nr.same hse
              have hS5 := hS4.same hse
              refine ⟨_, rfl, _, rfl, S, l, refs, rfl, hS5, hlS, nr5.1, by rw [nr.len]; exact List.length_pos_iff.mpr hne, by have := ok.few; have := nr.len; omega, fun H6 x sb6 hS6 hx => ?_⟩
              have nr6 := nr5.mono sb6 hS5 hlS
              obtain ⟨a, c, r, rfl, ha, hc2, hrm⟩ := nr6.pick hx
              refine ⟨a, _, 0, .ref c, rfl, rfl, SqT.of ha, rfl, ?_⟩
              exact ⟨refs, rs, k, y, c, r.1, o8, o9, o10, o11, o12, o13, rfl, sb4.trans ((SB.same hse).trans sb6), hS6, nr6, ok, hc2, (ok.each r hrm).case⟩
            · rintro σ H4 ⟨refs, rs, k, y, t, cs, o8, o9, o10, o11, o12, o13, rfl, sb4, hS4, nr, ok, ht, hcs⟩
              -- rule = (case_here, draw(source, 3)); if rule not in found: found.append(rule)
              refine ⟨_, rfl, _, rfl, S, 3, rfl, hS4, by decide, by decide, fun H5 z sb5 hS5 z0 z1 => ⟨by show 2 ≤ sizeLine; decide, fun p hp => ?_⟩⟩
              have smp : Same H5 (upd H5 p (.tup [.ref t, .int z])) := Same.new hp
              have nr5 := nr.mono sb5 hS4 hlS
              have nr6 := nr5.same smp
              have hS6 := hS5.same smp
              have sb6 : SB S H (upd H5 p (.tup [.ref t, .int z])) := sb4.trans (sb5.trans (SB.same smp))
              have tr : TD (upd H5 p (.tup [.ref t, .int z])) (.ref p) (ruleD (cs, z)) := .tup upd_same (.cons ((ht.mono (sb5.tk hS4)).mono (TK.same smp)) (.cons (.int z) .nil))
              refine ⟨_, rfl, _, rfl, _, _, tr.dp, nr6.dp, shaped_rule _, shaped_rulesL rs, _, rfl, ?_⟩
              refine ite2 (fun hb => ?_) (fun hb => ?_)
              · have hnot : (cs, z) ∉ rs := by rw [any_rule] at hb; simpa using hb
                have hlen := nr6.len
                have hfew := ok.few
                refine ⟨_, rfl, .inl ⟨rfl, _, SqL.of nr6.1⟩, _, rfl, l, _, _, rfl, rfl, nr6.1, by rw [sizeLine_eq]; omega, ?_⟩
                refine ⟨refs ++ [.ref p], rs ++ [(cs, z)], _, _, _, o8, o9, _, o11, o12, o13, rfl, ?_, ?_, ⟨upd_same, ?_⟩, ⟨⟨?_, ?_, ?_⟩, ?_⟩⟩
                · intro b o nb e
                  rw [upd_ne (ne_of_none e hl)]
                  exact sb6 b o nb e
                · obtain ⟨x1, x2, x3, e⟩ := hS6
                  exact ⟨x1, x2, x3, by rw [upd_ne hlS.symm]; exact e⟩
                · rw [List.map_append]
                  exact (nr6.2.append (.cons tr .nil)).mono (TK.lst nr6.1)
                · intro r hr
                  rcases List.mem_append.mp hr with w | w
                  · exact ok.each r w
                  · rw [List.mem_singleton.mp w]; exact ⟨hcs, z0, by show z ≤ 99; omega⟩
                · exact List.nodup_append.mpr ⟨ok.nd, by simp, fun a ha b hb e => hnot (by rw [List.mem_singleton.mp hb] at e; rw [← e]; exact ha)⟩
                · rw [List.length_append, List.length_singleton]; omega
                · intro r hr
                  rcases List.mem_append.mp hr with w | w
                  · exact ok.low r w
                  · rw [List.mem_singleton.mp w]; show z ≤ 2; omega
              · exact ⟨refs, rs, _, _, _, o8, o9, _, o11, o12, o13, rfl, sb6, hS6, nr6, ⟨⟨ok.each, ok.nd, Nat.le_succ_of_le ok.few⟩, ok.low⟩⟩
    · rintro σ H3 ⟨refs, rs, o5, o6, o7, o8, o9, o10, o11, o12, o13, rfl, sb3, hS3, nr, ok⟩
      refine ⟨_, rfl, q _ l refs rs sb3 hS3 hl hlS nr ⟨⟨ok.each, ok.nd, Nat.le_trans ok.few (by omega)⟩, ok.low⟩⟩
end
section
variable {P : Program} {w : World} {K : PySem.W.Frag} {mg : Str → Option Value} {base : Heap}
abbrev nIns : List Str := ["_law_some_here", "_law_others", "_law_part_here"]
theorem sc_inside : FnScope nIns ["_law_some_here", "_law_others"] (defScope s_law_inside) := ⟨rfl, rfl, rfl, by decide +kernel, rfl, by decide +kernel, by decide +kernel⟩
theorem ok_inside {f : Addr} {fd : FuncData} (F : Fun K "_law_inside" "_law_inside" s_law_inside f fd) : FnOk P w K mg base CX0 1 f fd ["_law_some_here", "_law_others"] spInside := by
  refine F.ok sc_inside (fun vs H Q E h => ?_) (fun cdv A outer s H vs Q E hr h => ?_)
  · obtain ⟨a, b, cs, ds, rfl, _⟩ := h
    rfl
  · obtain ⟨a, b, cs, ds, rfl, ha, hb, hlen, q⟩ := h
    obtain ⟨_, xs, e, hA, tA⟩ := ha.tupv
    cases e
    have hu : A.units + 3 + 65 < cLine := by have := hr.un; have e : (A.deeper (envOfC "_law_inside" (defScope s_law_inside) s.heap.objs.size f cdv)).units = A.units + 3 := rfl; omega
    refine ⟨_, pss_one (ps_ret (pe_cmpR (op_eqD hr.units) (pe_lc (own := [("_law_part_here", 2)]) (g := gName 2) rfl sc_inside.nd (pi_tup (pv 0)) (blkOk_by (own := [("_law_part_here", 2)]) (N := nIns) (sc := defScope s_law_inside) (by decide +kernel))
        (fun _ _ _ _ _ => pg_name (i := 2) sc_inside.nd rfl (Or.inl rfl))
        (fun _ _ _ _ _ => pts_one (pt_cmpR (show OpR _ (compareOp .NotIn) (rNotInT K) from op_notInT hu) (pv 2) (pv 1) (by rfl)))
        (fun _ _ _ _ _ => pv 2)) (pe_lst pa_nil) (nomark _))), ?_⟩
    refine ⟨_, rfl, a, rfl, ⟨_, SqT.of hA⟩, fun D hD => ?_⟩
    refine lc_tup (K := K) (a := a) (xs := xs) (fun i H' => ∃ rf, Same H H' ∧ H' D = some (.lst rf) ∧ TDs H' rf (((cs.take i).filter fun c => decide (c ∉ ds)).map condD))
      ⟨[], Same.new hD, upd_same, .nil⟩ (fun i H' _ ⟨_, sm, _⟩ => SqT.of (sm _ _ hA)) ?_ ?_
    · rintro i x H1 hx ⟨rf, sm, hL, td⟩
      obtain ⟨c, hc, tx, hts⟩ := cond_get tA hx
      have tx1 := tx.mono (TK.same sm)
      refine ⟨rfl, _, rfl, _, rfl, _, _, tx1.dp, (hb.mono (TK.same sm)).dp, shaped_cond c, shaped_case ds, _, rfl, ite2 (fun hq => ?_) (fun hq => ?_)⟩
      · have hnot : c ∉ ds := by rw [any_cond] at hq; simpa using hq
        refine ⟨_, rfl, rf, hL, ?_, rf ++ [x], ?_, upd_same, ?_⟩
        · have z1 := td.length
          have z2 := List.length_filter_le (fun c : Cond => decide (c ∉ ds)) (cs.take i)
          rw [List.length_map] at z1
          rw [List.length_take] at z2
          rw [sizeLine_eq]; omega
        · exact fun b o eb => by rw [upd_ne (ne_of_none eb hD)]; exact sm b o eb
        · have ef : ([c].filter fun c => decide (c ∉ ds)) = [c] := by rw [List.filter_cons, decide_eq_true hnot]; rfl
          rw [hts, List.filter_append, List.map_append, ef]
          exact (td.append (.cons tx1 .nil)).mono (TK.lst hL)
      · have hin : c ∈ ds := by rw [any_cond] at hq; simpa using hq
        refine ⟨rf, sm, hL, ?_⟩
        have ef : ([c].filter fun c => decide (c ∉ ds)) = [] := by rw [List.filter_cons, decide_eq_false (fun z => z hin)]; rfl
        rw [hts, List.filter_append, ef, List.append_nil]
        exact td
    · rintro H1 ⟨rf, sm, hL, td⟩
      have xlen : xs.length = cs.length := by rw [tA.length, List.length_map]
      rw [xlen, List.take_length] at td
      refine ⟨Nat.zero_le _, fun e he => ?_⟩
      have smE : Same H1 (upd H1 e (.lst [])) := Same.new he
      refine ⟨_, _, .lst (SqL.of (smE _ _ hL)) (td.mono (TK.same smE)).dp, .lst (SqL.of upd_same) .nil, shaped_condsL _, shaped_nilL, ?_⟩
      rw [eqv_condsL, inB_filter]
      exact q _ (sm.trans smE)
abbrev nFst : List Str := ["_law_some_here", "_law_case_here", "_law_conditions", "_law_result"]
theorem sc_first : FnScope nFst ["_law_some_here", "_law_case_here"] (defScope s_law_first) := ⟨rfl, rfl, rfl, by decide +kernel, rfl, by decide +kernel, by decide +kernel⟩
theorem ok_first {f fI : Addr} {fd dI : FuncData} (F : Fun K "_law_first" "_law_first" s_law_first f fd) (mI : mg "_law_inside" = some (.ref fI)) (FI : Fun K "_law_inside" "_law_inside" s_law_inside fI dI) (bI : Binds K dI ["_law_some_here", "_law_others"] []) :
    FnOk P w K mg base CX0 2 f fd ["_law_some_here", "_law_case_here"] spFirst := by
  have GI : FnOk P w K mg base CX0 1 fI dI ["_law_some_here", "_law_others"] spInside := ok_inside FI
  refine F.ok sc_first (fun vs H Q E h => ?_) (fun cdv A outer s H vs Q E hr h => ?_)
  · obtain ⟨l, t, refs, rs, cs, rfl, _⟩ := h
    rfl
  · obtain ⟨l, t, refs, rs, cs, rfl, nr, ok, ht, q⟩ := h
    refine ⟨_, pss_cons (ps_for PassesOwn.never rfl (pi_list (pv 0)) (pg_tup rfl (pgs_cons (pg_name (i := 2) sc_first.nd rfl (.inl rfl)) (pgs_cons (pg_name (i := 3) sc_first.nd rfl (.inl rfl)) pgs_nil)))
      (pss_one (ps_if (pt_val (pe_call GI hr rfl mI FI.kp bI .nil pass0 (pa_cons (pv 2) (pa_cons (pv 1) pa_nil)))) (pss_one (ps_ret (pv 3))) pss_nil))) (pss_one (ps_ret pe_non)), ?_⟩
    refine ⟨_, rfl, l, rfl, ⟨_, SqL.of nr.1⟩, for_list (K := K) (a := l) (xs := refs) (fun i σ H' => ∃ o2 o3, σ = [some (.ref l), some (.ref t), o2, o3] ∧ Same H H' ∧ ∀ r ∈ rs.take i, inB r.1 cs = false)
      ⟨none, none, rfl, Same.refl _, fun r hr => by simp at hr⟩ (fun i σ H' _ ⟨_, _, _, sm, _⟩ => SqL.of (sm _ _ nr.1)) ?_ ?_⟩
    · rintro i x σ H1 hx ⟨o2, o3, rfl, sm, hno⟩
      obtain ⟨r, a, c, hr', rfl, ha, tc, hts⟩ := rule_get nr.2 hx
      refine ⟨a, _, rfl, SqT.of (sm _ _ ha), rfl, _, _, rfl, _, _, rfl, rfl, ?_⟩
      have hlen : r.1.length ≤ 1000 := Nat.le_trans (ok r (List.mem_of_getElem? hr')).case.len (by decide)
      refine ⟨_, rfl, _, rfl, c, t, r.1, cs, rfl, tc.mono (TK.same sm), ht.mono (TK.same sm), hlen, fun H2 sm2 => ⟨_, rfl, ite2 (fun hb => ?_) (fun hb => ?_)⟩⟩
      · refine ⟨_, rfl, ?_⟩
        have e : firstV rs cs = .int r.2 := by
          unfold firstV
          have : (rs.find? fun r => inB r.1 cs) = some r := by
            have e1 : rs = rs.take i ++ r :: rs.drop (i + 1) := by
              have := List.take_append_drop (i + 1) rs
              rw [hts, List.append_assoc] at this
              exact this.symm
            rw [e1, List.find?_append]
            have n1 : ((rs.take i).find? fun r => inB r.1 cs) = none := List.find?_eq_none.mpr fun x hx => by rw [hno x hx]; decide
            rw [n1, List.find?_cons, hb]
            rfl
          rw [this]
        show Q (.int r.2) H2
        rw [← e]
        exact q _ (sm.trans sm2)
      · refine ⟨_, _, rfl, sm.trans sm2, fun r' hr2 => ?_⟩
        rw [hts] at hr2
        rcases List.mem_append.mp hr2 with z | z
        · exact hno r' z
        · rw [List.mem_singleton.mp z]; exact Bool.not_eq_true _ ▸ hb
    · rintro σ H1 ⟨o2, o3, rfl, sm, hno⟩
      have e : firstV rs cs = .non := by
        unfold firstV
        have hl : refs.length = rs.length := nr.len
        rw [hl, List.take_length] at hno
        have : (rs.find? fun r => inB r.1 cs) = none := List.find?_eq_none.mpr fun x hx => by rw [hno x hx]; decide
        rw [this]
      show Q .non H1
      rw [← e]
      exact q _ sm
abbrev nTxt : List Str := ["_law_some_here", "_law_lines", "_law_case_here", "_law_result", "_law_words", "_law_attribute", "_law_value", "_law_line"]
theorem sc_text : FnScope nTxt ["_law_some_here"] (defScope s_law_text) := ⟨rfl, rfl, rfl, by decide +kernel, rfl, by decide +kernel, by decide +kernel⟩
theorem ok_text {f : Addr} {fd : FuncData} (F : Fun K "_law_text" "_law_text" s_law_text f fd) (B : Blt mg) : FnOk P w K mg base CX0 1 f fd ["_law_some_here"] spText := by
  refine F.ok sc_text (fun vs H Q E h => ?_) (fun cdv A outer s H vs Q E hr h => ?_)
  · obtain ⟨l, refs, rs, rfl, _⟩ := h
    rfl
  · obtain ⟨l, refs, rs, rfl, nr, ok, q⟩ := h
    refine ⟨_, pss_cons (ps_set (i := 1) sc_text.nd rfl (.inl rfl) (pe_lst pa_nil))
      (pss_cons (ps_for PassesOwn.never rfl (pi_list (pv 0)) (pg_tup rfl (pgs_cons (pg_name (i := 2) sc_text.nd rfl (.inl rfl)) (pgs_cons (pg_name (i := 3) sc_text.nd rfl (.inl rfl)) pgs_nil)))
        (pss_cons (ps_setLc (i := 4) (own := [("_law_attribute", 5), ("_law_value", 6)]) (g := gTup K 2 (gCons (gName 5) (gCons (gName 6) gNil))) (tt := tYes) rfl sc_text.nd rfl rfl (sw_true rfl rfl rfl (by decide +kernel)) (pi_tup (pv 2))
            (blkOk_by (own := [("_law_attribute", 5), ("_law_value", 6)]) (N := nTxt) (sc := defScope s_law_text) (by decide +kernel))
            (fun _ _ _ _ _ => pg_tup rfl (pgs_cons (pg_name (i := 5) sc_text.nd rfl (Or.inl rfl)) (pgs_cons (pg_name (i := 6) sc_text.nd rfl (Or.inl rfl)) pgs_nil)))
            (fun _ _ _ _ _ => pts_nil)
            (fun _ _ _ _ _ => pe_op op_add_str (pe_op op_add_str (pe_callTy call_str_int (by rfl) B.str (by decide +kernel) (pa_cons (pv 5) pa_nil)) pe_str) (pe_callTy call_str_int (by rfl) B.str (by decide +kernel) (pa_cons (pv 6) pa_nil))))
        (pss_one (ps_expr (pe_bm PySem.F.plainAttrs_list PySem.F.slot_list_append PySem.F.type_list_append mt_append (pv 1) (pa_cons
            (pe_join pe_str (pe_op op_cat (pv 4) (pe_lst (pa_cons pe_str (pa_cons (pe_callTy call_str_int (by rfl) B.str (by decide +kernel) (pa_cons (pv 3) pa_nil)) pa_nil))))) pa_nil))))))
      (pss_one (ps_ret (pe_join pe_str (pe_lc (own := [("_law_line", 7)]) (g := gName 7) (tt := tYes) rfl sc_text.nd (pi_list (pv 1)) (blkOk_by (own := [("_law_line", 7)]) (N := nTxt) (sc := defScope s_law_text) (by decide +kernel))
            (fun _ _ _ _ _ => pg_name (i := 7) sc_text.nd rfl (Or.inl rfl)) (fun _ _ _ _ _ => pts_nil) (fun _ _ _ _ _ => pe_op op_add_str (pv 7) pe_str)))))), ?_⟩
    refine ⟨Nat.zero_le _, fun L hL => ?_⟩
    have smL : Same H (upd H L (.lst [])) := Same.new hL
    refine ⟨_, rfl, l, rfl, ⟨_, SqL.of (smL _ _ nr.1)⟩, for_list (K := K) (a := l) (xs := refs) (fun i σ H' => ∃ o2 o3 o4 o5 o6 o7, σ = [some (.ref l), some (.ref L), o2, o3, o4, o5, o6, o7] ∧ Same H H' ∧ H' L = some (.lst ((rs.take i).map fun r => V.str (lineS r))))
      ⟨none, none, none, none, none, none, rfl, smL, upd_same⟩ (fun i σ H' _ ⟨_, _, _, _, _, _, _, sm, _⟩ => SqL.of (sm _ _ nr.1)) ?_ ?_⟩
    · rintro i x σ H1 hx ⟨o2, o3, o4, o5, o6, o7, rfl, sm, hLs⟩
      obtain ⟨r, a, c, hr', rfl, ha, tc, hts⟩ := rule_get nr.2 hx
      have okr := ok.each r (List.mem_of_getElem? hr')
      obtain ⟨_, ys, e, hC, tC⟩ := tc.tupv
      cases e
      refine ⟨a, _, rfl, SqT.of (sm _ _ ha), rfl, _, _, rfl, _, _, rfl, rfl, ?_⟩
      -- words = [..]
      refine ⟨_, rfl, c, rfl, ⟨_, SqT.of (sm _ _ hC)⟩, fun D hD => ?_⟩
      refine lc_tup (K := K) (a := c) (xs := ys) (fun j H' => Same H1 H' ∧ H' D = some (.lst ((r.1.take j).map fun c => V.str (condS c)))) ⟨Same.new hD, upd_same⟩ (fun j H' _ h => SqT.of (h.1 _ _ (sm _ _ hC))) ?_ ?_
      · rintro j y H2 hy ⟨sm2, hD2⟩
        obtain ⟨cc, hcc, ty, hts2⟩ := cond_get tC hy
        have okc := okr.case.each cc (List.mem_of_getElem? hcc)
        obtain ⟨ac, rfl, hac⟩ := cond_at (ty.mono (TK.same (sm.trans sm2)))
        obtain ⟨n1, _⟩ := num_len okc.1 (by omega : cc.1 ≤ 99)
        obtain ⟨n2, _⟩ := num_len okc.2.2.1 (by omega : cc.2 ≤ 99)
        have c1 := (cond_signs okc).1
        have eqlen : ("=" : Str).length = 1 := by decide +kernel
        refine ⟨ac, _, rfl, SqT.of hac, rfl, _, _, rfl, _, _, rfl, rfl, rfl, ?_⟩
        refine ⟨_, rfl, _, rfl, log_small okc.1 (by omega), _, _, rfl, rfl, by show (numS cc.1).length + ("=" : Str).length ≤ sizeLine; rw [eqlen, sizeLine_eq]; omega, _, rfl, _, rfl, log_small okc.2.2.1 (by omega), _, _, rfl, rfl, ?_, _, hD2, ?_, ?_, ?_⟩
        · show (numS cc.1 ++ "=").length + (numS cc.2).length ≤ sizeLine
          have : (numS cc.1 ++ "=" ++ numS cc.2).length = (numS cc.1 ++ "=").length + (numS cc.2).length := by rw [TL.len_tl, TL.tl_append, List.length_append, ← TL.len_tl, ← TL.len_tl]
          have c2 : (numS cc.1 ++ "=" ++ numS cc.2).length ≤ 5 := c1
          rw [sizeLine_eq]; omega
        · rw [List.length_map, List.length_take, sizeLine_eq]; have := okr.case.len; omega
        · exact fun b o eb => by rw [upd_ne (ne_of_none eb hD)]; exact sm2 b o eb
        · rw [hts2, List.map_append]; exact upd_same
      rintro H2 ⟨sm2, hD2⟩
      have ylen : ys.length = r.1.length := by rw [tC.length, List.length_map]
      rw [ylen, List.take_length] at hD2
      have hLs2 := sm2 _ _ hLs
      -- lines.append(' '.join(words + ['gives', str(result)]))
      refine ⟨_, rfl, .inl ⟨rfl, _, SqL.of hLs2⟩, ⟨_, rfl⟩, _, rfl, _, rfl, _, rfl, log_small okr.lo okr.hi, by show 2 ≤ sizeLine; decide, fun p hp => ?_⟩
      have sm3 : Same H2 (upd H2 p (.lst [.str "gives", .str (numS r.2)])) := Same.new hp
      refine ⟨D, p, _, _, rfl, rfl, sm3 _ _ hD2, upd_same, ?_, fun p2 hp2 => ?_⟩
      · rw [List.length_map, sizeLine_eq]; have := okr.case.len; show r.1.length + 2 ≤ _; omega
      have sm4 : Same (upd H2 p (.lst [.str "gives", .str (numS r.2)])) (upd (upd H2 p (.lst [.str "gives", .str (numS r.2)])) p2 (.lst ((r.1.map fun c => V.str (condS c)) ++ [.str "gives", .str (numS r.2)]))) := Same.new hp2
      refine ⟨_, p2, wordsS r, rfl, rfl, .inl (SqL.of ?_), ?_, ?_⟩
      · rw [upd_same]
        unfold wordsS
        rw [List.map_append, List.map_map]
        rfl
      · have b := sum_le (l := wordsS r) (f := fun y : Str => y.length) (k := 5) fun y hy => (words_signs okr y hy).1
        have wl := words_len okr
        have sl : (" " : Str).length = 1 := by decide +kernel
        rw [sl]
        omega
      have hLs4 := sm4 _ _ (sm3 _ _ hLs2)
      refine ⟨L, _, _, rfl, rfl, hLs4, ?_, ?_⟩
      · rw [List.length_map, List.length_take, sizeLine_eq]; have := ok.few; omega
      refine ⟨_, _, _, _, _, _, rfl, ?_, ?_⟩
      · exact fun b o eb => by rw [upd_ne (ne_of_none eb hL)]; exact sm4 _ _ (sm3 _ _ (sm2 _ _ (sm b o eb)))
      · rw [hts, List.map_append]; exact upd_same
    · rintro σ H1 ⟨o2, o3, o4, o5, o6, o7, rfl, sm, hLs⟩
      have rl : refs.length = rs.length := nr.len
      rw [rl, List.take_length] at hLs
      refine ⟨⟨_, rfl⟩, _, rfl, L, rfl, ⟨_, SqL.of hLs⟩, fun D hD => ?_⟩
      refine lc_list (K := K) (a := L) (xs := rs.map fun r => V.str (lineS r)) (fun j H' => Same H1 H' ∧ H' D = some (.lst ((rs.take j).map fun r => V.str (lineS r ++ "\n")))) ⟨Same.new hD, upd_same⟩ (fun j H' _ h => SqL.of (h.1 _ _ hLs)) ?_ ?_
      · rintro j y H2 hy ⟨sm2, hD2⟩
        rw [List.getElem?_map] at hy
        cases e : rs[j]? with
        | none => rw [e] at hy; cases hy
        | some r =>
          rw [e] at hy
          obtain rfl := Option.some.inj hy
          have okr := ok.each r (List.mem_of_getElem? e)
          have nl : ("\n" : Str).length = 1 := by decide +kernel
          refine ⟨rfl, _, rfl, _, _, rfl, rfl, by show (lineS r).length + ("\n" : Str).length ≤ sizeLine; rw [nl, sizeLine_eq]; have := (line_signs okr).1; omega, _, hD2, ?_, ?_, ?_⟩
          · rw [List.length_map, List.length_take, sizeLine_eq]; have := ok.few; omega
          · exact fun b o eb => by rw [upd_ne (ne_of_none eb hD)]; exact sm2 b o eb
          · rw [List.take_succ, e, Option.toList_some, List.map_append]; exact upd_same
      rintro H2 ⟨sm2, hD2⟩
      rw [List.length_map, List.take_length] at hD2
      refine ⟨_, D, rs.map fun r => lineS r ++ "\n", rfl, rfl, .inl (SqL.of (by rw [hD2, List.map_map]; rfl)), ?_, q _ (sm.trans sm2)⟩
      have b := sum_le (l := rs.map fun r => lineS r ++ "\n") (f := fun y : Str => y.length) (k := 43) fun y hy => by
        obtain ⟨r, hr, rfl⟩ := List.mem_map.mp hy
        have := (line_signs (ok.each r hr)).1
        rw [TL.len_tl, TL.tl_append, nl_tl, List.length_append, ← TL.len_tl]
        show (lineS r).length + 1 ≤ 43
        omega
      have e0 : ("" : Str).length = 0 := by decide +kernel
      have := ok.few
      rw [List.length_map] at b ⊢
      rw [e0]
      omega
end
end Cr

namespace Cr
open PySem PySem.Spec PyProof.Rows L2

/-! ### the closest rules -/
def strictB (cs ds : Case) : Bool := decide (cs.length < ds.length) && inB cs ds
def beatB (rs : List Rule) (r : Rule) : Bool := rs.any fun q => strictB r.1 q.1
/-- the unbeaten matching rules -/
def unb (rs : List Rule) (cs : Case) : List Rule := (rs.filter fun r => inB r.1 cs).filter fun r => !beatB (rs.filter fun q => inB q.1 cs) r
def spStrict : Sp := fun vs H Q _ => ∃ (a b : Addr) (cs ds : Case), vs = [.ref a, .ref b] ∧ TD H (.ref a) (caseD cs) ∧ TD H (.ref b) (caseD ds) ∧ cs.length ≤ 1000 ∧ ∀ H', Same H H' → Q (.bl (strictB cs ds)) H'
def spBeaten : Sp := fun vs H Q _ => ∃ (a D : Addr) (refs : List V) (r : Rule) (rs : List Rule), vs = [.ref a, .ref D] ∧ TD H (.ref a) (ruleD r) ∧ RuleOk r ∧ NewRules H D refs rs ∧ rs.length ≤ 1000 ∧ ∀ H', Same H H' → Q (.bl (beatB rs r)) H'
def spDeciding : Sp := fun vs H Q _ => ∃ (a t : Addr) (xs : List V) (rs : List Rule) (cs : Case), vs = [.ref a, .ref t] ∧ H a = some (.tup xs) ∧ TDs H xs (rs.map ruleD) ∧ RulesOk 12 rs ∧ TD H (.ref t) (caseD cs) ∧
  ∀ H' p ys, Same H H' → H' p = some (.tup ys) → TDs H' ys ((unb rs cs).map ruleD) → Q (.ref p) H'
/-- ascending, and just the results of the unbeaten ones -/
def ResOf (rs : List Rule) (cs : Case) (ns : List Int) : Prop := ns.Pairwise (· < ·) ∧ ∀ k, k ∈ ns ↔ ∃ r ∈ unb rs cs, r.2 = k
def spResults : Sp := fun vs H Q _ => ∃ (a t : Addr) (xs : List V) (rs : List Rule) (cs : Case), vs = [.ref a, .ref t] ∧ H a = some (.tup xs) ∧ TDs H xs (rs.map ruleD) ∧ RulesOk 12 rs ∧ TD H (.ref t) (caseD cs) ∧
  ∀ H' p ns, Same H H' → H' p = some (.tup (ns.map V.int)) → ResOf rs cs ns → Q (.ref p) H'
def spCallR (C : Addr) : Sp := fun vs H Q _ => ∃ (x t : Addr) (rs : List Rule) (cs : Case), vs = [.ref x, .ref t] ∧ Holds H C x rs ∧ RulesOk 12 rs ∧ TD H (.ref t) (caseD cs) ∧ CaseOk cs ∧
  ∀ H' p ns, Same H H' → H' p = some (.tup (ns.map V.int)) → ResOf rs cs ns → Q (.ref p) H'
theorem unb_len (rs : List Rule) (cs : Case) : (unb rs cs).length ≤ rs.length := Nat.le_trans (List.length_filter_le _ _) (List.length_filter_le _ _)
theorem unb_mem {rs : List Rule} {cs : Case} {r : Rule} (h : r ∈ unb rs cs) : r ∈ rs := (List.mem_filter.mp (List.mem_filter.mp h).1).1
theorem any_map {α : Type} (l : List α) (p : α → Bool) : (l.map p).any id = l.any p := by rw [List.any_map]; rfl
section
variable {P : Program} {w : World} {K : PySem.W.Frag} {mg : Str → Option Value} {base : Heap}
theorem sc_strict : FnScope ["inner", "outer"] ["inner", "outer"] (defScope s_lies_strictly_within) := ⟨rfl, rfl, rfl, by decide +kernel, rfl, by decide +kernel, by decide +kernel⟩
theorem ok_strict {f fW : Addr} {fd dW : FuncData} (F : Fun K "lies_strictly_within" "lies_strictly_within" s_lies_strictly_within f fd) (B : Blt mg) (W : Df K mg "lies_within" s_lies_within ["inner", "outer"] fW dW) : FnOk P w K mg base CX0 2 f fd ["inner", "outer"] spStrict := by
  have GW : FnOk P w K mg base CX0 1 fW dW ["inner", "outer"] spInside := ok_within W.F B
  refine F.ok sc_strict (fun vs H Q E h => ?_) (fun cdv A outer s H vs Q E hr h => ?_)
  · obtain ⟨a, b, cs, ds, rfl, _⟩ := h
    rfl
  · obtain ⟨a, b, cs, ds, rfl, ha, hb, hl, q⟩ := h
    obtain ⟨_, xs, e, hA, tA⟩ := ha.tupv
    cases e
    obtain ⟨_, ys, e, hB, tB⟩ := hb.tupv
    cases e
    have lx : xs.length = cs.length := by rw [tA.length, List.length_map]
    have ly : ys.length = ds.length := by rw [tB.length, List.length_map]
    refine ⟨_, pss_one (ps_ret (pe_and (pe_cmpR op_lt (pe_callB call_len_seq (by rfl) B.len PySem.boot_len (pa_cons (pv 0) pa_nil)) (pe_callB call_len_seq (by rfl) B.len PySem.boot_len (pa_cons (pv 1) pa_nil)) (nomark _))
      (pe_one (pe_call GW hr rfl W.m W.F.kp W.b .nil pass0 (pa_cons (pv 0) (pa_cons (pv 1) pa_nil)))))), ?_⟩
    refine ⟨_, rfl, a, _, rfl, .inr (SqT.of hA), _, rfl, b, _, rfl, .inr (SqT.of hB), _, _, rfl, rfl, _, rfl, ?_⟩
    rw [lx, ly]
    refine ite2 (fun hb' => ?_) (fun hb' => ?_)
    · have lt : cs.length < ds.length := by have := of_decide_eq_true hb'; omega
      refine ⟨_, rfl, _, rfl, a, b, cs, ds, rfl, ha, hb, hl, fun H' sm => ?_⟩
      have e : strictB cs ds = inB cs ds := by unfold strictB; rw [decide_eq_true lt]; rfl
      rw [← e]
      exact q _ sm
    · have lt : ¬ cs.length < ds.length := fun z => hb' (decide_eq_true (by omega))
      have e : strictB cs ds = false := by unfold strictB; rw [decide_eq_false lt]; rfl
      rw [← e]
      exact q _ (Same.refl _)
theorem sc_beaten : FnScope ["rule", "rules", "conditions", "result"] ["rule", "rules"] (defScope s_is_beaten) := ⟨rfl, rfl, rfl, by decide +kernel, rfl, by decide +kernel, by decide +kernel⟩
theorem ok_beaten {f fS fW : Addr} {fd dS dW : FuncData} (F : Fun K "is_beaten" "is_beaten" s_is_beaten f fd) (B : Blt mg) (hAny : mg "any" = none) (S : Df K mg "lies_strictly_within" s_lies_strictly_within ["inner", "outer"] fS dS) (W : Df K mg "lies_within" s_lies_within ["inner", "outer"] fW dW) :
    FnOk P w K mg base CX0 3 f fd ["rule", "rules"] spBeaten := by
  have GS : FnOk P w K mg base CX0 2 fS dS ["inner", "outer"] spStrict := ok_strict S.F B W
  refine F.ok sc_beaten (fun vs H Q E h => ?_) (fun cdv A outer s H vs Q E hr h => ?_)
  · obtain ⟨a, D, refs, r, rs, rfl, _⟩ := h
    rfl
  · obtain ⟨a, L, refs, r, rs, rfl, ha, okr, nr, hl, q⟩ := h
    obtain ⟨_, c0, e, hA, tc0⟩ := rule_at ha
    cases e
    refine ⟨_, pss_one (ps_ret (pe_callB (cr_any rfl) (by rfl) hAny (by decide +kernel) (pa_cons (pe_lc (own := [("conditions", 2), ("result", 3)]) (g := gTup K 2 (gCons (gName 2) (gCons (gName 3) gNil))) (tt := tYes) rfl sc_beaten.nd (pi_list (pv 1))
        (blkOk_by (own := [("conditions", 2), ("result", 3)]) (N := ["rule", "rules", "conditions", "result"]) (sc := defScope s_is_beaten) (by decide +kernel))
        (fun _ _ _ _ _ => pg_tup rfl (pgs_cons (pg_name (i := 2) sc_beaten.nd rfl (Or.inl rfl)) (pgs_cons (pg_name (i := 3) sc_beaten.nd rfl (Or.inl rfl)) pgs_nil))) (fun _ _ _ _ _ => pts_nil)
        (fun _ _ _ _ _ => pe_call GS hr rfl S.m S.F.kp S.b .nil pass0 (pa_cons (pe_ix (show IxR _ (rIxT K) from ix_tup) (pv 0) pe_int (fun _ _ => rfl)) (pa_cons (pv 2) pa_nil)))) pa_nil))), ?_⟩
    refine ⟨_, rfl, L, rfl, ⟨_, SqL.of nr.1⟩, fun D hD => ?_⟩
    refine lc_list (K := K) (a := L) (xs := refs) (fun i H' => Same H H' ∧ H' D = some (.lst ((rs.take i).map fun q => V.bl (strictB r.1 q.1)))) ⟨Same.new hD, upd_same⟩ (fun i H' _ h => SqL.of (h.1 _ _ nr.1)) ?_ ?_
    · rintro i x H1 hx ⟨sm, hL⟩
      obtain ⟨r', a', c', hr', rfl, ha', tc, hts⟩ := rule_get nr.2 hx
      refine ⟨a', _, rfl, SqT.of (sm _ _ ha'), rfl, _, _, rfl, _, _, rfl, rfl, rfl, _, rfl, a, _, 0, .ref c0, rfl, rfl, SqT.of (sm _ _ hA), rfl, _, rfl, c0, c', r.1, r'.1, rfl, tc0.mono (TK.same sm), tc.mono (TK.same sm), Nat.le_trans okr.case.len (by decide), fun H2 sm2 => ⟨_, sm2 _ _ hL, ?_, ?_, ?_⟩⟩
      · rw [List.length_map, List.length_take, sizeLine_eq]; omega
      · exact fun b o eb => by rw [upd_ne (ne_of_none eb hD)]; exact sm2 _ _ (sm b o eb)
      · rw [hts, List.map_append]; exact upd_same
    · rintro H1 ⟨sm, hL⟩
      rw [nr.len, List.take_length] at hL
      refine ⟨D, rs.map fun q => strictB r.1 q.1, rfl, SqL.of (by rw [hL, List.map_map]; rfl), ?_⟩
      rw [any_map]
      exact q _ sm
theorem sc_deciding : FnScope ["rules", "case", "matching", "rule"] ["rules", "case"] (defScope s_deciding_rules) := ⟨rfl, rfl, rfl, by decide +kernel, rfl, by decide +kernel, by decide +kernel⟩
/-- the defs about the closest rules -/
structure Close (K : PySem.W.Frag) (mg : Str → Option Value) (fW fS fB fM fD fR : Addr) (dW dS dB dM dD dR : FuncData) : Prop where
  hAny : mg "any" = none
  W : Df K mg "lies_within" s_lies_within ["inner", "outer"] fW dW
  S : Df K mg "lies_strictly_within" s_lies_strictly_within ["inner", "outer"] fS dS
  Bn : Df K mg "is_beaten" s_is_beaten ["rule", "rules"] fB dB
  M : Df K mg "matching_rules" s_matching_rules ["rules", "case"] fM dM
  D : Df K mg "deciding_rules" s_deciding_rules ["rules", "case"] fD dD
  R : Df K mg "results_for" s_results_for ["rules", "case"] fR dR
theorem ok_deciding {fW fS fB fM fD fR : Addr} {dW dS dB dM dD dR : FuncData} (B : Blt mg) (T : Close K mg fW fS fB fM fD fR dW dS dB dM dD dR) : FnOk P w K mg base CX0 4 fD dD ["rules", "case"] spDeciding := by
  have GB : FnOk P w K mg base CX0 3 fB dB ["rule", "rules"] spBeaten := ok_beaten T.Bn.F B T.hAny T.S T.W
  have GM : FnOk P w K mg base CX0 3 fM dM ["rules", "case"] spMatching := (ok_matching T.M.F B T.W).mono (by decide)
  refine T.D.F.ok sc_deciding (fun vs H Q E h => ?_) (fun cdv A outer s H vs Q E hr h => ?_)
  · obtain ⟨a, t, xs, rs, cs, rfl, _⟩ := h
    rfl
  · obtain ⟨a, t, xs, rs, cs, rfl, hA, tds, ok, ht, q⟩ := h
    refine ⟨_, pss_cons (ps_set (i := 2) sc_deciding.nd rfl (.inr rfl) (pe_call GM hr rfl T.M.m T.M.F.kp T.M.b .nil pass0 (pa_cons (pv 0) (pa_cons (pv 1) pa_nil))))
      (pss_one (ps_ret (pe_callTy call_tuple_of (by rfl) B.tuple (by decide +kernel) (pa_cons (pe_lc (own := [("rule", 3)]) (g := gName 3) rfl sc_deciding.nd (pi_list (pv 2)) (blkOk_by (own := [("rule", 3)]) (N := ["rules", "case", "matching", "rule"]) (sc := defScope s_deciding_rules) (by decide +kernel))
        (fun _ _ _ _ _ => pg_name (i := 3) sc_deciding.nd rfl (Or.inl rfl))
        (fun _ _ _ _ _ => pts_one (pt_not (pt_val (pe_call GB hr rfl T.Bn.m T.Bn.F.kp T.Bn.b .nil pass0 (pa_cons (pv 3) (pa_cons (pv 2) pa_nil))))))
        (fun _ _ _ _ _ => pv 3)) pa_nil)))), ?_⟩
    refine ⟨_, rfl, _, rfl, a, t, xs, rs, cs, rfl, hA, tds, ok, ht, fun H1 L refs sm1 hL nr => ?_⟩
    generalize hM : (rs.filter fun r => inB r.1 cs) = ms at *
    have mlen : ms.length ≤ 12 := by rw [← hM]; exact Nat.le_trans (List.length_filter_le _ _) ok.few
    have okm : ∀ r ∈ ms, RuleOk r := fun r hr => ok.each r (by rw [← hM] at hr; exact (List.mem_filter.mp hr).1)
    refine ⟨_, rfl, L, rfl, ⟨_, SqL.of nr.1⟩, fun D hD => ?_⟩
    refine lc_list (K := K) (a := L) (xs := refs) (fun i H' => ∃ rf, Same H1 H' ∧ NewRules H' D rf ((ms.take i).filter fun r => !beatB ms r)) ⟨[], Same.new hD, ⟨upd_same, .nil⟩⟩ (fun i H' _ ⟨_, h, _⟩ => SqL.of (h _ _ nr.1)) ?_ ?_
    · rintro i x H2 hx ⟨rf, sm, nd⟩
      obtain ⟨r, ar, c, hr', rfl, har, tc, hts⟩ := rule_get nr.2 hx
      have okr := okm r (List.mem_of_getElem? hr')
      have tr : TD H2 (.ref ar) (ruleD r) := .tup (sm _ _ har) (.cons (tc.mono (TK.same sm)) (.cons (.int _) .nil))
      refine ⟨rfl, _, rfl, _, rfl, ar, L, refs, r, ms, rfl, tr, okr, nr.same sm, by omega, fun H3 sm3 => ⟨_, rfl, ite2 (fun hb => ?_) (fun hb => ?_)⟩⟩
      · have nd3 := nd.same sm3
        refine ⟨_, rfl, rf, nd3.1, ?_, rf ++ [.ref ar], ?_, ⟨upd_same, ?_⟩⟩
        · have z1 := nd.len
          have z2 := List.length_filter_le (fun r : Rule => !beatB ms r) (ms.take i)
          rw [List.length_take] at z2
          rw [sizeLine_eq]; omega
        · exact fun b o eb => by rw [upd_ne (ne_of_none eb hD)]; exact sm3 _ _ (sm b o eb)
        · have ef : ([r].filter fun r => !beatB ms r) = [r] := by rw [List.filter_cons, hb]; rfl
          rw [hts, List.filter_append, List.map_append, ef]
          exact (nd3.2.append (.cons (tr.mono (TK.same sm3)) .nil)).mono (TK.lst nd3.1)
      · refine ⟨rf, sm.trans sm3, ?_⟩
        have ef : ([r].filter fun r => !beatB ms r) = [] := by rw [List.filter_cons, if_neg hb]; rfl
        rw [hts, List.filter_append, ef, List.append_nil]
        exact nd.same sm3
    · rintro H2 ⟨rf, sm, nd⟩
      rw [nr.len, List.take_length] at nd
      refine ⟨D, rf, rfl, .inl ⟨SqL.of nd.1, fun p hp => ?_⟩⟩
      have smp : Same H2 (upd H2 p (.tup rf)) := Same.new hp
      refine q _ p rf (sm1.trans (sm.trans smp)) upd_same ?_
      have e : unb rs cs = ms.filter fun r => !beatB ms r := by unfold unb; rw [hM]
      rw [e]
      exact nd.2.mono (TK.same smp)
theorem sc_results : FnScope ["rules", "case", "conditions", "result"] ["rules", "case"] (defScope s_results_for) := ⟨rfl, rfl, rfl, by decide +kernel, rfl, by decide +kernel, by decide +kernel⟩
theorem ok_results {fW fS fB fM fD fR : Addr} {dW dS dB dM dD dR : FuncData} (B : Blt mg) (T : Close K mg fW fS fB fM fD fR dW dS dB dM dD dR) : FnOk P w K mg base CX0 5 fR dR ["rules", "case"] spResults := by
  have GD : FnOk P w K mg base CX0 4 fD dD ["rules", "case"] spDeciding := ok_deciding B T
  refine T.R.F.ok sc_results (fun vs H Q E h => ?_) (fun cdv A outer s H vs Q E hr h => ?_)
  · obtain ⟨a, t, xs, rs, cs, rfl, _⟩ := h
    rfl
  · obtain ⟨a, t, xs, rs, cs, rfl, hA, tds, ok, ht, q⟩ := h
    refine ⟨_, pss_one (ps_ret (pe_callTy call_tuple_of (by rfl) B.tuple (by decide +kernel) (pa_cons (pe_callB (cr_sortedSet rfl) (by rfl) B.sorted (by decide +kernel) (pa_cons
      (pe_scI (own := [("conditions", 2), ("result", 3)]) (g := gTup K 2 (gCons (gName 2) (gCons (gName 3) gNil))) (tt := tYes) rfl sc_results.nd (pi_tup (pe_call GD hr rfl T.D.m T.D.F.kp T.D.b .nil pass0 (pa_cons (pv 0) (pa_cons (pv 1) pa_nil))))
        (blkOk_by (own := [("conditions", 2), ("result", 3)]) (N := ["rules", "case", "conditions", "result"]) (sc := defScope s_results_for) (by decide +kernel))
        (fun _ _ _ _ _ => pg_tup rfl (pgs_cons (pg_name (i := 2) sc_results.nd rfl (Or.inl rfl)) (pgs_cons (pg_name (i := 3) sc_results.nd rfl (Or.inl rfl)) pgs_nil))) (fun _ _ _ _ _ => pts_nil)
        (fun _ _ _ _ _ => pv 3)) pa_nil)) pa_nil))), ?_⟩
    refine ⟨_, rfl, _, rfl, a, t, xs, rs, cs, rfl, hA, tds, ok, ht, fun H1 p ys sm1 hp tys => ?_⟩
    have ulen : (unb rs cs).length ≤ 12 := Nat.le_trans (unb_len rs cs) ok.few
    refine ⟨p, rfl, ⟨_, SqT.of hp⟩, fun D hD => ?_⟩
    refine scI_tup (K := K) (a := p) (xs := ys) (fun i G => ∃ (S : Int → Bool) (n : Nat), Same H1 G ∧ G D = some (SetO w D S n) ∧ n ≤ i ∧ ∀ k, S k = true ↔ ∃ r ∈ (unb rs cs).take i, r.2 = k)
      ⟨fun _ => false, 0, Same.new hD, upd_same, Nat.le_refl _, fun k => ⟨fun z => (nomatch z), fun ⟨r, hr, _⟩ => by simp at hr⟩⟩ (fun i G _ ⟨_, _, h, _⟩ => SqT.of (h _ _ hp)) ?_ ?_
    · rintro i x G hx ⟨S, n, sm, hS, hn, hk⟩
      obtain ⟨r, ar, c, hr', rfl, har, tc, hts⟩ := rule_get tys hx
      have hi : i < 12 := by have := (List.getElem?_eq_some_iff.mp hr').1; omega
      refine ⟨ar, _, rfl, SqT.of (sm _ _ har), rfl, _, _, rfl, _, _, rfl, rfl, rfl, _, rfl, r.2, S, n, rfl, hS, ?_, ?_⟩
      · exact Nat.lt_of_lt_of_le (show n + 1 < 64 by omega) (by decide)
      · refine ⟨_, _, fun b o eb => by rw [upd_ne (ne_of_none eb hD)]; exact sm b o eb, upd_same, ?_, fun k => ?_⟩
        · split <;> omega
        · rw [hts, Bool.or_eq_true, hk k]
          constructor
          · rintro (⟨r', hr2, rfl⟩ | z)
            · exact ⟨r', List.mem_append_left _ hr2, rfl⟩
            · exact ⟨r, List.mem_append_right _ (List.mem_singleton.mpr rfl), (of_decide_eq_true z).symm⟩
          · rintro ⟨r', hr2, rfl⟩
            rcases List.mem_append.mp hr2 with z | z
            · exact .inl ⟨r', z, rfl⟩
            · exact .inr (decide_eq_true (by rw [List.mem_singleton.mp z]))
    · rintro G ⟨S, n, sm, hS, hn, hk⟩
      have yl : ys.length = (unb rs cs).length := by rw [tys.length, List.length_map]
      rw [yl, List.take_length] at hk
      refine ⟨D, S, n, rfl, hS, by omega, fun ns l pw mem len hl => ?_⟩
      have sml : Same G (upd G l (.lst (ns.map V.int))) := Same.new hl
      refine ⟨l, ns.map V.int, rfl, .inl ⟨SqL.of upd_same, fun p2 hp2 => ?_⟩⟩
      exact q _ p2 ns (sm1.trans (sm.trans (sml.trans (Same.new hp2)))) upd_same ⟨pw, fun k => by rw [mem k, hk k]⟩
theorem sc_callR : FnScope ["self", "case"] ["self", "case"] (defScope s_K_call) := ⟨rfl, rfl, rfl, by decide +kernel, rfl, by decide +kernel, by decide +kernel⟩
theorem ok_callR {f C fN fC fK fR' nC fW fS fB fM fD fR : Addr} {fd dN dC dK dR' gC dW dS dB dM dD dR : FuncData} {qc : Str} (F : Fun K "__call__" qc s_K_call f fd) (B : Blt mg) (N : Nums mg) (T : Forms K mg fN fC fK fR' dN dC dK dR')
    (DC : Df K mg "need_case" s_need_case ["thing"] nC gC) (U : Close K mg fW fS fB fM fD fR dW dS dB dM dD dR) (c : Cls K C) (nh : NoAttr K C "held") : FnOk P w K mg base CX0 6 f fd ["self", "case"] (spCallR C) := by
  have GC : FnOk P w K mg base CX0 5 nC gC ["thing"] spNeedCase := (ok_needCase DC.F B N T).mono (by decide)
  have GR : FnOk P w K mg base CX0 5 fR dR ["rules", "case"] spResults := ok_results B U
  refine F.ok sc_callR (fun vs H Q E h => ?_) (fun cdv A outer s H vs Q E hr h => ?_)
  · obtain ⟨x, t, rs, cs, rfl, _⟩ := h
    rfl
  · obtain ⟨x, t, rs, cs, rfl, ⟨dx, p, xs, hx, hp, tx⟩, ok, ht, hcs, q⟩ := h
    refine ⟨_, pss_cons (ps_expr (pe_call GC hr rfl DC.m DC.F.kp DC.b .nil pass0 (pa_cons (pv 1) pa_nil))) (pss_one (ps_ret (pe_call GR hr rfl U.R.m U.R.F.kp U.R.b .nil pass0 (pa_cons (pe_fld (pv 0) rfl) (pa_cons (pv 1) pa_nil))))), ?_⟩
    refine ⟨_, rfl, t, cs, rfl, ht, hcs, fun H1 sm => ?_⟩
    exact ⟨_, rfl, x, C, dx, _, _, rfl, sm _ _ hx, c, nh, rfl, _, rfl, p, t, xs, rs, cs, rfl, sm _ _ hp, tx.mono (TK.same sm), ok, ht.mono (TK.same sm), fun H2 p2 ns sm2 => q _ p2 ns (sm.trans sm2)⟩
end
end Cr

namespace Cr
open PySem PySem.Spec PyProof.Rows L2

/-! ### the law's own road to the unbeaten rules -/
def aheadL (rs : List Rule) (cs : Case) (r : Rule) : List Rule := rs.filter fun o => inB o.1 cs && decide (r.1.length < o.1.length)
def keepB (rs : List Rule) (cs : Case) (r : Rule) : Bool := inB r.1 cs && decide (((aheadL rs cs r).filter fun o => inB r.1 o.1) = [])
theorem keep_eq (rs : List Rule) (cs : Case) : unb rs cs = rs.filter (keepB rs cs) := by
  unfold unb
  rw [List.filter_filter]
  apply List.filter_congr
  intro r _
  unfold keepB
  rw [Bool.and_comm]
  congr 1
  unfold beatB aheadL
  rw [Bool.eq_iff_iff]
  simp only [Bool.not_eq_true', decide_eq_true_eq, List.any_eq_false, List.filter_filter, List.filter_eq_nil_iff, List.mem_filter, strictB, Bool.and_eq_true, decide_eq_true_eq, not_and]
  constructor
  · intro h o ho h1 h2
    intro h3
    exact h o ⟨ho, h2⟩ h3 h1
  · intro h o ho h1 h2
    exact h o ho.1 h2 ho.2 h1
def spUnb : Sp := fun vs H Q _ => ∃ (l t : Addr) (refs : List V) (rs : List Rule) (cs : Case), vs = [.ref l, .ref t] ∧ NewRules H l refs rs ∧ RulesOk 12 rs ∧ TD H (.ref t) (caseD cs) ∧
  ∀ H' D rf, Same H H' → H D = none → NewRules H' D rf (unb rs cs) → Q (.ref D) H'
def rLenK (K : PySem.W.Frag) : List V → Hp → VK → Prop := fun xs H Q => ∃ p ys, xs = [V.ref p] ∧ (SqL K H p ys ∨ SqT K H p ys) ∧ Q (V.int (ys.length : Nat)) H
abbrev nUnb : List Str := ["_law_some_here", "_law_case_here", "_law_found", "_law_conditions", "_law_result", "_law_ahead", "_law_other"]
section
variable {P : Program} {w : World} {K : PySem.W.Frag} {mg : Str → Option Value} {base : Heap}
theorem sc_unb : FnScope nUnb ["_law_some_here", "_law_case_here"] (defScope s_law_unbeaten) := ⟨rfl, rfl, rfl, by decide +kernel, rfl, by decide +kernel, by decide +kernel⟩
theorem ok_unb {f fI : Addr} {fd dI : FuncData} (F : Fun K "_law_unbeaten" "_law_unbeaten" s_law_unbeaten f fd) (B : Blt mg) (I : Df K mg "_law_inside" s_law_inside ["_law_some_here", "_law_others"] fI dI) :
    FnOk P w K mg base CX0 2 f fd ["_law_some_here", "_law_case_here"] spUnb := by
  have GI : FnOk P w K mg base CX0 1 fI dI ["_law_some_here", "_law_others"] spInside := ok_inside I.F
  refine F.ok sc_unb (fun vs H Q E h => ?_) (fun cdv A outer s H vs Q E hr h => ?_)
  · obtain ⟨l, t, refs, rs, cs, rfl, _⟩ := h
    rfl
  · obtain ⟨l, t, refs, rs, cs, rfl, nr, ok, ht, q⟩ := h
    refine ⟨_, pss_cons (ps_set (i := 2) sc_unb.nd rfl (.inl rfl) (pe_lst pa_nil))
      (pss_cons (ps_for PassesOwn.never rfl (pi_list (pv 0)) (pg_tup rfl (pgs_cons (pg_name (i := 3) sc_unb.nd rfl (.inr rfl)) (pgs_cons (pg_name (i := 4) sc_unb.nd rfl (.inl rfl)) pgs_nil)))
        (pss_cons (ps_if (pt_not (pt_val (pe_call GI hr rfl I.m I.F.kp I.b .nil pass0 (pa_cons (pv 3) (pa_cons (pv 1) pa_nil))))) (pss_one ps_continue) pss_nil)
        (pss_cons (ps_setLc (i := 5) (own := [("_law_other", 6)]) (g := gName 6) rfl sc_unb.nd rfl rfl rfl (pi_list (pv 0)) (blkOk_by (own := [("_law_other", 6)]) (N := nUnb) (sc := defScope s_law_unbeaten) (by decide +kernel))
            (fun _ _ _ _ _ => pg_name (i := 6) sc_unb.nd rfl (Or.inl rfl))
            (fun _ _ _ _ _ => pts_one (PW.pt (pw_and (pt_val (pe_call GI hr rfl I.m I.F.kp I.b .nil pass0 (pa_cons (pe_ix (show IxR _ (rIxT K) from ix_tup) (pv 6) pe_int (fun _ _ => rfl)) (pa_cons (pv 1) pa_nil))))
              (pw_and1 (pt_cmpR op_gt (pe_callB (show CallR _ (.builtin "len") (rLenK K) from call_len_seq) (by rfl) B.len PySem.boot_len (pa_cons (pe_ix (show IxR _ (rIxT K) from ix_tup) (pv 6) pe_int (fun _ _ => rfl)) pa_nil)) (pe_callB (show CallR _ (.builtin "len") (rLenK K) from call_len_seq) (by rfl) B.len PySem.boot_len (pa_cons (pv 3) pa_nil)) (nomark _))))))
            (fun _ _ _ _ _ => pv 6))
        (pss_one (ps_if (pt_cmpR (op_eqD hr.units) (pe_lc (own := [("_law_other", 6)]) (g := gName 6) rfl sc_unb.nd (pi_list (pv 5)) (blkOk_by (own := [("_law_other", 6)]) (N := nUnb) (sc := defScope s_law_unbeaten) (by decide +kernel))
            (fun _ _ _ _ _ => pg_name (i := 6) sc_unb.nd rfl (Or.inl rfl))
            (fun _ _ _ _ _ => pts_one (pt_val (pe_call GI hr rfl I.m I.F.kp I.b .nil pass0 (pa_cons (pv 3) (pa_cons (pe_ix (show IxR _ (rIxT K) from ix_tup) (pv 6) pe_int (fun _ _ => rfl)) pa_nil)))))
            (fun _ _ _ _ _ => pv 6)) (pe_lst pa_nil) (nomark _))
          (pss_one (ps_expr (pe_bm PySem.F.plainAttrs_list PySem.F.slot_list_append PySem.F.type_list_append mt_append (pv 2) (pa_cons (pe_tup (pa_cons (pv 3) (pa_cons (pv 4) pa_nil))) pa_nil)))) pss_nil)))))
      (pss_one (ps_ret (pv 2)))), ?_⟩
    refine ⟨Nat.zero_le _, fun D hD => ?_⟩
    have s0 : Same H (upd H D (.lst [])) := Same.new hD
    refine ⟨_, rfl, l, rfl, ⟨_, SqL.of (s0 _ _ nr.1)⟩, for_list (K := K) (a := l) (xs := refs) (fun i σ H' => ∃ (rf : List V) (o3 o4 o5 o6 : Option V), σ = [some (.ref l), some (.ref t), some (.ref D), o3, o4, o5, o6] ∧ Same H H' ∧ NewRules H' D rf ((rs.take i).filter (keepB rs cs)))
      ⟨[], none, none, none, none, rfl, s0, ⟨upd_same, .nil⟩⟩ (fun i σ H' _ ⟨_, _, _, _, _, _, sm, _⟩ => SqL.of (sm _ _ nr.1)) ?_ ?_⟩
    · rintro i x σ H1 hx ⟨rf, o3, o4, o5, o6, rfl, sm, nd⟩
      obtain ⟨r, a', c, hr', rfl, ha', tc, hts⟩ := rule_get nr.2 hx
      have okr := ok.each r (List.mem_of_getElem? hr')
      have few := ok.few
      refine ⟨a', _, rfl, SqT.of (sm _ _ ha'), rfl, _, _, rfl, _, _, rfl, rfl, ?_⟩
      refine ⟨_, rfl, _, rfl, c, t, r.1, cs, rfl, tc.mono (TK.same sm), ht.mono (TK.same sm), Nat.le_trans okr.case.len (by decide), fun H2 sm2 => ⟨_, rfl, ite2 (fun hb => ?_) (fun hb => ?_)⟩⟩
      · -- does not match
        have hf : keepB rs cs r = false := by unfold keepB; rw [show inB r.1 cs = false by simpa using hb]; rfl
        refine ⟨rf, _, _, _, _, rfl, sm.trans sm2, ?_⟩
        rw [hts, List.filter_append, show [r].filter (keepB rs cs) = [] by rw [List.filter_cons, if_neg (by rw [hf]; decide)]; rfl, List.append_nil]
        exact nd.same sm2
      · have hin : inB r.1 cs = true := by simpa using hb
        have sH2 := sm.trans sm2
        have nr2 := nr.same sH2
        refine ⟨_, rfl, l, rfl, ⟨_, SqL.of nr2.1⟩, fun G hG => ?_⟩
        refine lc_list (K := K) (a := l) (xs := refs) (fun j H' => ∃ ra, Same H2 H' ∧ NewRules H' G ra ((rs.take j).filter fun o => inB o.1 cs && decide (r.1.length < o.1.length))) ⟨[], Same.new hG, ⟨upd_same, .nil⟩⟩ (fun j H' _ ⟨_, h, _⟩ => SqL.of (h _ _ nr2.1)) ?_ ?_
        · rintro j y H3 hy ⟨ra, sm3, na⟩
          obtain ⟨o, ao, co, ho', rfl, hao, tco, hto⟩ := rule_get nr2.2 hy
          have oko := ok.each o (List.mem_of_getElem? ho')
          have s13 := sH2.trans sm3
          have ixo : SqT K H3 ao _ := SqT.of (sm3 _ _ hao)
          refine ⟨rfl, _, rfl, ao, _, 0, .ref co, rfl, rfl, ixo, rfl, _, rfl, co, t, o.1, cs, rfl, tco.mono (TK.same sm3), ht.mono (TK.same s13), Nat.le_trans oko.case.len (by decide), fun H4 sm4 => ⟨_, rfl, ite2 (fun hb => ?_) (fun hb => ?_)⟩⟩
          · obtain ⟨_, us, e, hco, tus⟩ := tco.tupv
            cases e
            obtain ⟨_, vs', e, hc, tvs⟩ := tc.tupv
            cases e
            have l1 : us.length = o.1.length := by rw [tus.length, List.length_map]
            have l2 : vs'.length = r.1.length := by rw [tvs.length, List.length_map]
            refine ⟨_, rfl, ao, _, 0, .ref co, rfl, rfl, SqT.of (sm4 _ _ (sm3 _ _ hao)), rfl, co, _, rfl, .inr (SqT.of (sm4 _ _ (sm3 _ _ hco))), _, rfl, c, _, rfl, .inr (SqT.of (sm4 _ _ (s13 _ _ hc))), _, _, rfl, rfl, _, rfl, ?_⟩
            rw [l1, l2]
            have na4 := na.same sm4
            refine ite2 (fun hb2 => ?_) (fun hb2 => ?_)
            · have hlt : r.1.length < o.1.length := by have := of_decide_eq_true hb2; omega
              refine ⟨_, rfl, ra, na4.1, ?_, ra ++ [.ref ao], ?_, ⟨upd_same, ?_⟩⟩
              · have z1 := na.len
                have z2 := List.length_filter_le (fun o : Rule => inB o.1 cs && decide (r.1.length < o.1.length)) (rs.take j)
                rw [List.length_take] at z2
                rw [sizeLine_eq]; omega
              · exact fun b u eb => by rw [upd_ne (ne_of_none eb hG)]; exact sm4 _ _ (sm3 b u eb)
              · rw [hto, List.filter_append, List.map_append, show [o].filter (fun o => inB o.1 cs && decide (r.1.length < o.1.length)) = [o] by rw [List.filter_cons, if_pos (by rw [hb, decide_eq_true hlt]; rfl)]; rfl]
                have tr : TD H4 (.ref ao) (ruleD o) := .tup (sm4 _ _ (sm3 _ _ hao)) (.cons (tco.mono (TK.same (sm3.trans sm4))) (.cons (.int _) .nil))
                exact (na4.2.append (.cons tr .nil)).mono (TK.lst na4.1)
            · have hlt : ¬ r.1.length < o.1.length := fun z => hb2 (decide_eq_true (by omega))
              refine ⟨ra, sm3.trans sm4, ?_⟩
              rw [hto, List.filter_append, show [o].filter (fun o => inB o.1 cs && decide (r.1.length < o.1.length)) = [] by rw [List.filter_cons, if_neg (by rw [decide_eq_false hlt, Bool.and_false]; decide)]; rfl, List.append_nil]
              exact na4
          · refine ⟨ra, sm3.trans sm4, ?_⟩
            have hb0 : inB o.1 cs = false := by simpa using hb
            rw [hto, List.filter_append, show [o].filter (fun o => inB o.1 cs && decide (r.1.length < o.1.length)) = [] by rw [List.filter_cons, if_neg (by rw [hb0, Bool.false_and]; decide)]; rfl, List.append_nil]
            exact na.same sm4
        rintro H3 ⟨ra, sm3, na⟩
        rw [nr.len, List.take_length] at na
        generalize hAh : (rs.filter fun o => inB o.1 cs && decide (r.1.length < o.1.length)) = as at na
        have alen : as.length ≤ 12 := by rw [← hAh]; exact Nat.le_trans (List.length_filter_le _ _) few
        have s03 : Same H H3 := sH2.trans sm3
        have nd3 := nd.same (sm2.trans sm3)
        refine ⟨_, rfl, G, rfl, ⟨_, SqL.of na.1⟩, fun G2 hG2 => ?_⟩
        refine lc_list (K := K) (a := G) (xs := ra) (fun j H' => ∃ rb, Same H3 H' ∧ NewRules H' G2 rb ((as.take j).filter fun o => inB r.1 o.1)) ⟨[], Same.new hG2, ⟨upd_same, .nil⟩⟩ (fun j H' _ ⟨_, h, _⟩ => SqL.of (h _ _ na.1)) ?_ ?_
        · rintro j y H4 hy ⟨rb, sm4, nb⟩
          obtain ⟨o, ao, co, ho', rfl, hao, tco, hto⟩ := rule_get na.2 hy
          refine ⟨rfl, _, rfl, _, rfl, ao, _, 0, .ref co, rfl, rfl, SqT.of (sm4 _ _ hao), rfl, c, co, r.1, o.1, rfl, tc.mono (TK.same (s03.trans sm4)), tco.mono (TK.same sm4), Nat.le_trans okr.case.len (by decide), fun H5 sm5 => ⟨_, rfl, ite2 (fun hb => ?_) (fun hb => ?_)⟩⟩
          · have nb5 := nb.same sm5
            refine ⟨_, rfl, rb, nb5.1, ?_, rb ++ [.ref ao], ?_, ⟨upd_same, ?_⟩⟩
            · have z1 := nb.len
              have z2 := List.length_filter_le (fun o : Rule => inB r.1 o.1) (as.take j)
              rw [List.length_take] at z2
              rw [sizeLine_eq]; omega
            · exact fun b u eb => by rw [upd_ne (ne_of_none eb hG2)]; exact sm5 _ _ (sm4 b u eb)
            · rw [hto, List.filter_append, List.map_append, show [o].filter (fun o => inB r.1 o.1) = [o] by rw [List.filter_cons, if_pos hb]; rfl]
              have tr : TD H5 (.ref ao) (ruleD o) := .tup (sm5 _ _ (sm4 _ _ hao)) (.cons (tco.mono (TK.same (sm4.trans sm5))) (.cons (.int _) .nil))
              exact (nb5.2.append (.cons tr .nil)).mono (TK.lst nb5.1)
          · refine ⟨rb, sm4.trans sm5, ?_⟩
            rw [hto, List.filter_append, show [o].filter (fun o => inB r.1 o.1) = [] by rw [List.filter_cons, if_neg hb]; rfl, List.append_nil]
            exact nb.same sm5
        rintro H4 ⟨rb, sm4, nb⟩
        rw [na.len, List.take_length] at nb
        refine ⟨Nat.zero_le _, fun e he => ?_⟩
        have smE : Same H4 (upd H4 e (.lst [])) := Same.new he
        have s34 : Same H3 (upd H4 e (.lst [])) := sm4.trans smE
        have nd5 := nd3.same s34
        refine ⟨_, _, (nb.same smE).dp, .lst (SqL.of upd_same) .nil, shaped_rulesL _, shaped_nilL, _, rfl, ?_⟩
        rw [eqv_nilL]
        have ek : keepB rs cs r = decide ((as.filter fun o => inB r.1 o.1) = []) := by unfold keepB aheadL; rw [hin, hAh]; rfl
        rw [← ek]
        refine ite2 (fun hk => ?_) (fun hk => ?_)
        · refine ⟨_, rfl, .inl ⟨rfl, _, SqL.of nd5.1⟩, _, rfl, _, rfl, (by decide : 2 ≤ sizeLine), fun p hp => ?_⟩
          have smp : Same (upd H4 e (.lst [])) (upd (upd H4 e (.lst [])) p (.tup [.ref c, .int r.2])) := Same.new hp
          have nd6 := nd5.same smp
          have s06 := s03.trans (s34.trans smp)
          refine ⟨D, rf, _, rfl, rfl, nd6.1, ?_, rf ++ [.ref p], _, _, _, _, rfl, ?_, ⟨upd_same, ?_⟩⟩
          · have z1 := nd.len
            have z2 := List.length_filter_le (keepB rs cs) (rs.take i)
            rw [List.length_take] at z2
            rw [sizeLine_eq]; omega
          · exact fun b u eb => by rw [upd_ne (ne_of_none eb hD)]; exact s06 b u eb
          · rw [hts, List.filter_append, List.map_append, show [r].filter (keepB rs cs) = [r] by rw [List.filter_cons, if_pos hk]; rfl]
            have tr : TD (upd (upd H4 e (.lst [])) p (.tup [.ref c, .int r.2])) (.ref p) (ruleD r) := .tup upd_same (.cons (tc.mono (TK.same s06)) (.cons (.int _) .nil))
            exact (nd6.2.append (.cons tr .nil)).mono (TK.lst nd6.1)
        · refine ⟨rf, _, _, _, _, rfl, s03.trans s34, ?_⟩
          rw [hts, List.filter_append, show [r].filter (keepB rs cs) = [] by rw [List.filter_cons, if_neg hk]; rfl, List.append_nil]
          exact nd5
    · rintro σ H1 ⟨rf, o3, o4, o5, o6, rfl, sm, nd⟩
      rw [nr.len, List.take_length, ← keep_eq] at nd
      exact ⟨_, rfl, q _ D rf sm hD nd⟩
end
end Cr

namespace Cr
open PySem PySem.Spec PyProof.Rows L2

theorem SB.fresh {S : Addr} {H A B : Hp} (h : Same H A) (sb : SB S A B) (n : H S = none) : Same H B := fun b o e => sb b o (ne_of_none e n) (h b o e)
theorem RulesOk.up {n m : Nat} {rs : List Rule} (h : RulesOk n rs) (hm : n ≤ m) : RulesOk m rs := ⟨h.each, h.nd, Nat.le_trans h.few hm⟩
theorem Holds.sb {S : Addr} {H H' : Hp} {C x : Addr} {rs : List Rule} (h : Holds H C x rs) (sb : SB S H H') (hS : Src H S) : Holds H' C x rs := by
  obtain ⟨dx, t, xs, h1, h2, h3⟩ := h
  obtain ⟨i, j, k, e⟩ := id hS
  exact ⟨dx, t, xs, sb _ _ (ne_of h1 e (by intro z; cases z)) h1, sb _ _ (ne_of h2 e (by intro z; cases z)) h2, h3.mono (sb.tk hS)⟩
theorem Holds.lst {H : Hp} {C x p : Addr} {rs : List Rule} {ys : List V} {o : HO} (h : Holds H C x rs) (hp : H p = some (.lst ys)) : Holds (upd H p o) C x rs := by
  obtain ⟨dx, t, xs, h1, h2, h3⟩ := h
  exact ⟨dx, t, xs, by rw [upd_ne (ne_of h1 hp (by intro z; cases z))]; exact h1, by rw [upd_ne (ne_of h2 hp (by intro z; cases z))]; exact h2, h3.mono (TK.lst hp)⟩
theorem turns_lo (n : Nat) : -(2 ^ 62) ≤ (if (if (3 : Int) < (n : Int) then (3 : Int) else (n : Int)) > 1 then (if (3 : Int) < (n : Int) then (3 : Int) else (n : Int)) else 1) := by omega
theorem turns_hi (n : Nat) : (if (if (3 : Int) < (n : Int) then (3 : Int) else (n : Int)) > 1 then (if (3 : Int) < (n : Int) then (3 : Int) else (n : Int)) else 1) < 2 ^ 62 := by omega
theorem nodict_all {α : Type} {f : α → PyData} (h : ∀ x, (f x).hasDict = false) : ∀ xs : List α, PyData.hasDictAll (xs.map f) = false
  | [] => by simp [PyData.hasDictAll]
  | x :: xs => by rw [List.map_cons, PyData.hasDictAll, h x, nodict_all h xs]; rfl
theorem cond_nodict (c : Cond) : (condD c).hasDict = false := by simp [condD, PyData.hasDict, PyData.hasDictAll]
theorem case_nodict (c : Case) : (caseD c).hasDict = false := by simp only [caseD, PyData.hasDict]; exact nodict_all cond_nodict c
theorem rule_nodict (r : Rule) : (ruleD r).hasDict = false := by simp [ruleD, PyData.hasDict, PyData.hasDictAll, case_nodict]
theorem rules_nodict (rs : List Rule) : (PyData.tuple (rs.map ruleD)).hasDict = false := by simp only [PyData.hasDict]; exact nodict_all rule_nodict rs
theorem rules_dep (rs : List Rule) : (PyData.tuple (rs.map ruleD)).depth ≤ 60 := by have h := dep_all rule_dep rs; simp only [PyData.depth]; omega
section
variable {P : Program} {w : World} {K : PySem.W.Frag} {mg : Str → Option Value} {base : Heap}
theorem FnG.mono {CX : CXT} {j k : Nat} {f : Addr} {sp : Sp} (F : FnG P w K mg base CX j f sp) (h : j ≤ k) : FnG P w K mg base CX k f sp := fun A outer s H us vs Q E hg hr => F A outer s H us vs Q E hg (hr.mono h)
end
/-! ### ints -/
theorem asc_eq : ∀ {a b : List Int}, a.Pairwise (· < ·) → b.Pairwise (· < ·) → (∀ k, k ∈ a ↔ k ∈ b) → a = b
  | [], [], _, _, _ => rfl
  | [], y :: b, _, _, h => absurd ((h y).mpr List.mem_cons_self) (by simp)
  | x :: a, [], _, _, h => absurd ((h x).mp List.mem_cons_self) (by simp)
  | x :: a, y :: b, pa, pb, h => by
    obtain ⟨pa1, pa2⟩ := List.pairwise_cons.mp pa
    obtain ⟨pb1, pb2⟩ := List.pairwise_cons.mp pb
    have e : x = y := by
      rcases List.mem_cons.mp ((h x).mp List.mem_cons_self) with e | e
      · exact e
      rcases List.mem_cons.mp ((h y).mpr List.mem_cons_self) with e2 | e2
      · exact e2.symm
      have := pb1 x e
      have := pa1 y e2
      omega
    subst e
    congr 1
    refine asc_eq pa2 pb2 fun k => ⟨fun z => ?_, fun z => ?_⟩
    · rcases List.mem_cons.mp ((h k).mp (List.mem_cons_of_mem _ z)) with e | e
      · have := pa1 k z; omega
      · exact e
    · rcases List.mem_cons.mp ((h k).mpr (List.mem_cons_of_mem _ z)) with e | e
      · have := pb1 k z; omega
      · exact e
theorem ints_td {H : Hp} : ∀ ns : List Int, TDs H (ns.map V.int) (ns.map PyData.int)
  | [] => .nil
  | n :: ns => .cons (.int n) (ints_td ns)
theorem shaped_ints (ns : List Int) : SeqAt.shaped (.tuple (ns.map PyData.int)) = true := shaped_of (by simp only [PyData.canLay0]; exact lay_all (fun x => by simp [PyData.canLay0]) ns) (by have h := dep_all (f := PyData.int) (n := 0) (fun x => by simp [PyData.depth]) ns; simp only [PyData.depth]; omega)
theorem eqv_ints : ∀ ns : List Int, PyData.eqvAll (ns.map PyData.int) (ns.map PyData.int) = true
  | [] => by simp [PyData.eqvAll]
  | n :: ns => by rw [List.map_cons, PyData.eqvAll, eqv_ints ns]; simp [PyData.eqv]
theorem inV_nums (a : Int) (ns : List Int) : inV (.int a) (ns.map V.int) = decide (a ∈ ns) := by
  have h := inV_ints a (ns.map fun n => (n, 0))
  rw [List.map_map, List.map_map] at h
  rw [show (ns.map V.int) = ns.map ((fun x : Cond => V.int x.1) ∘ fun n => (n, 0)) from rfl, h]
  congr 2
  exact List.map_id ns
theorem flat_nums (ns : List Int) : (ns.map V.int).all flatV = true := by
  have h := flat_ints (ns.map fun n => (n, 0))
  rw [List.map_map] at h
  exact h
theorem pair_shown (a b : PyData) : (PyData.list [a, b]).shown.length ≤ a.shown.length + b.shown.length + 10 := by
  have e : (PyData.list [a, b]).shown = listText [a.shown, b.shown] := by simp only [PyData.shown, PyData.shownAll]
  rw [e]
  have e2 : listText [a.shown, b.shown] = (Str.ofString "[" ++ Str.ofString "" ++ a.shown ++ Str.ofString ", " ++ b.shown ++ Str.ofString "]") := by unfold listText; simp [textFrom]
  rw [e2]
  simp only [strcat_len]
  have h1 : (Str.ofString "[").length = 1 := by decide +kernel
  have h2 : (Str.ofString "").length = 0 := by decide +kernel
  have h3 : (Str.ofString ", ").length = 2 := by decide +kernel
  have h4 : (Str.ofString "]").length = 1 := by decide +kernel
  omega
theorem two_shown {d : PyData} (h1 : d.shown.length ≤ 100000) (h2 : d.showable = true) (h3 : d.hasDict = false) (h4 : d.depth ≤ 40) :
    (PyData.list [d, d]).showable = true ∧ (PyData.list [d, d]).hasDict = false ∧ (PyData.list [d, d]).depth ≤ 60 ∧ (PyData.list [d, d]).shown.length ≤ sizeLine := by
  refine ⟨by simp only [PyData.showable, PyData.showableAll, h2]; rfl, by simp only [PyData.hasDict, PyData.hasDictAll, h3]; rfl, by simp only [PyData.depth, PyData.depthAll]; omega, ?_⟩
  have := pair_shown d d
  rw [sizeLine_eq]; omega
theorem rules_short {rs : List Rule} (h : ∀ r ∈ rs, RuleOk r) (hl : rs.length ≤ 1000) : (PyData.tuple (rs.map ruleD)).shown.length ≤ 100000 ∧ (PyData.tuple (rs.map ruleD)).showable = true := by
  refine ⟨?_, ?_⟩
  · have e : (PyData.tuple (rs.map ruleD)).shown = tupleText (rs.map fun x => (ruleD x).shown) := by simp only [PyData.shown]; rw [shownAll_map]
    rw [e]
    have a := tupleText_le (rs.map fun x => (ruleD x).shown)
    have b : ((rs.map fun x => (ruleD x).shown).map (·.length)).sum ≤ (rs.map fun x => (ruleD x).shown).length * 84 := sum_le fun x hx => by
      obtain ⟨y, hy, rfl⟩ := List.mem_map.mp hx
      exact (rule_shown (h y hy)).1
    rw [List.length_map] at a b
    omega
  · simp only [PyData.showable]
    exact showableAll_map _ _ fun x hx => (rule_shown (h x hx)).2
theorem rules_flat (rs : List Rule) : (PyData.tuple (rs.map ruleD)).depth ≤ 40 := by have h := dep_all rule_dep rs; simp only [PyData.depth]; omega
/-- the results below three, in their order -/
theorem three_eq {rs : List Rule} {cs : Case} {ns : List Int} (h : ResOf rs cs ns) (hr : ∀ r ∈ rs, 0 ≤ r.2 ∧ r.2 ≤ 2) : ns = (([0, 1, 2] : List Int).filter fun k => decide (k ∈ (unb rs cs).map (·.2))) := by
  refine asc_eq h.1 (List.Pairwise.filter _ (by decide)) fun k => ?_
  rw [h.2 k, List.mem_filter, decide_eq_true_eq, List.mem_map]
  constructor
  · rintro ⟨r, hu, rfl⟩
    obtain ⟨h0, h2⟩ := hr r (unb_mem hu)
    refine ⟨?_, r, hu, rfl⟩
    have : r.2 = 0 ∨ r.2 = 1 ∨ r.2 = 2 := by omega
    rcases this with e | e | e <;> rw [e] <;> decide
  · rintro ⟨_, r, hu, e⟩
    exact ⟨r, hu, e⟩
theorem three_take : ∀ i : Nat, i < 3 → ([0, 1, 2] : List Int).take (i + 1) = ([0, 1, 2] : List Int).take i ++ [0 + (i : Int)] := by decide

/-- what the top says of the class -/
structure RulT (K : PySem.W.Frag) (mg : Str → Option Value) (C : Addr) (mc : Value) (pR fR fCl pP fG : Addr) : Prop where
  mR : mg "Rules" = some (.ref C)
  cl : Cls K C
  nh : NoAttr K C "held"
  rd : ClX.CRead K C mc
  cm : ClX.CMet K C mc "read" pR fR
  co : StX.CallO K C fCl
  pr : PropOf K C "rules" pP fG
  ha : PySem.W.findIn K (.ref C) "__class__" = some (some (.builtin "object.__class__"))
  hn : PySem.W.specialIn K (.builtin "object.__class__") "__get__" = some (some (.builtin "getset_descriptor.__get__"))
  htk : PySem.W.takesIn K (.builtin "object.__class__") = some true
  hm : PySem.W.mroIn K C (.type "object") = some true
end Cr

namespace Cr
open PySem PySem.Spec PyProof.Rows L2

theorem TDs.pick {H : Hp} {vs : List V} {cs : List Case} (h : TDs H vs (cs.map caseD)) {v : V} (hv : v ∈ vs) : ∃ c ∈ cs, TD H v (caseD c) := by
  obtain ⟨i, hi⟩ := List.mem_iff_getElem?.mp hv
  obtain ⟨d, hd, t⟩ := h.get hi
  rw [List.getElem?_map] at hd
  cases e : cs[i]? with
  | none => rw [e] at hd; cases hd
  | some c => rw [e] at hd; obtain rfl := Option.some.inj hd; exact ⟨c, List.mem_of_getElem? e, t⟩
def spLRes : Sp := fun vs H Q _ => ∃ (l t : Addr) (refs : List V) (rs : List Rule) (cs : Case), vs = [.ref l, .ref t] ∧ NewRules H l refs rs ∧ RulesOk 12 rs ∧ TD H (.ref t) (caseD cs) ∧
  ∀ H' p ns, Same H H' → H' p = some (.tup (ns.map V.int)) → ResOf rs cs ns → Q (.ref p) H'
/-- a list of cases, new -/
structure NewCases (H : Hp) (tl : Addr) (trefs : List V) (cs : List Case) : Prop where
  at_ : H tl = some (.lst trefs)
  td : TDs H trefs (cs.map caseD)
  ok : ∀ c ∈ cs, CaseOk c
theorem NewCases.len {H : Hp} {tl : Addr} {trefs : List V} {cs : List Case} (h : NewCases H tl trefs cs) : trefs.length = cs.length := by rw [h.td.length, List.length_map]
theorem NewCases.same {H H' : Hp} {tl : Addr} {trefs : List V} {cs : List Case} (h : NewCases H tl trefs cs) (s : Same H H') : NewCases H' tl trefs cs := ⟨s _ _ h.at_, h.td.mono (TK.same s), h.ok⟩
theorem NewCases.sb {S : Addr} {H H' : Hp} {tl : Addr} {trefs : List V} {cs : List Case} (h : NewCases H tl trefs cs) (s : SB S H H') (hS : Src H S) (n : tl ≠ S) : NewCases H' tl trefs cs := ⟨s _ _ n h.at_, h.td.mono (s.tk hS), h.ok⟩
theorem NewCases.snoc {H : Hp} {tl t : Addr} {trefs : List V} {cs : List Case} {c : Case} (h : NewCases H tl trefs cs) (ht : TD H (.ref t) (caseD c)) (hc : CaseOk c) : NewCases (upd H tl (.lst (trefs ++ [.ref t]))) tl (trefs ++ [.ref t]) (cs ++ [c]) := by
  refine ⟨upd_same, ?_, fun x hx => ?_⟩
  · rw [List.map_append]
    exact (h.td.append (.cons ht .nil)).mono (TK.lst h.at_)
  · rcases List.mem_append.mp hx with z | z
    · exact h.ok x z
    · rw [List.mem_singleton.mp z]; exact hc
def spCases : Sp := fun vs H Q _ => ∃ (S l : Addr) (refs : List V) (rs : List Rule), vs = [.ref S, .ref l] ∧ Src H S ∧ l ≠ S ∧ NewRules H l refs rs ∧ RulesOk 12 rs ∧
  ∀ H' tl trefs cs, SB S H H' → Src H' S → H tl = none → tl ≠ S → NewCases H' tl trefs cs → cs.length ≤ 100 → Q (.ref tl) H'
abbrev nCases : List Str := ["_law_source_here", "_law_some_here", "_law_case_here", "_law_result", "_law_found", "_law_turn", "_law_names", "_law_more", "_law_attribute", "_law_value", "_law_part_here"]
section
variable {P : Program} {w : World} {K : PySem.W.Frag} {mg : Str → Option Value} {base : Heap}
theorem sc_lres : FnScope ["_law_some_here", "_law_case_here", "_law_rule"] ["_law_some_here", "_law_case_here"] (defScope s_law_results) := ⟨rfl, rfl, rfl, by decide +kernel, rfl, by decide +kernel, by decide +kernel⟩
theorem ok_lres {f fU fI : Addr} {fd dU dI : FuncData} (F : Fun K "_law_results" "_law_results" s_law_results f fd) (B : Blt mg) (U : Df K mg "_law_unbeaten" s_law_unbeaten ["_law_some_here", "_law_case_here"] fU dU)
    (I : Df K mg "_law_inside" s_law_inside ["_law_some_here", "_law_others"] fI dI) : FnOk P w K mg base CX0 3 f fd ["_law_some_here", "_law_case_here"] spLRes := by
  have GU : FnOk P w K mg base CX0 2 fU dU ["_law_some_here", "_law_case_here"] spUnb := ok_unb U.F B I
  refine F.ok sc_lres (fun vs H Q E h => ?_) (fun cdv A outer s H vs Q E hr h => ?_)
  · obtain ⟨l, t, refs, rs, cs, rfl, _⟩ := h
    rfl
  · obtain ⟨l, t, refs, rs, cs, rfl, nr, ok, ht, q⟩ := h
    refine ⟨_, pss_one (ps_ret (pe_callTy call_tuple_of (by rfl) B.tuple (by decide +kernel) (pa_cons (pe_callB (cr_sortedSet rfl) (by rfl) B.sorted (by decide +kernel) (pa_cons (pe_callTy (cr_setOfI rfl) (by rfl) B.set (by decide +kernel) (pa_cons
      (pe_lc (own := [("_law_rule", 2)]) (g := gName 2) (tt := tYes) rfl sc_lres.nd (pi_list (pe_call GU hr rfl U.m U.F.kp U.b .nil pass0 (pa_cons (pv 0) (pa_cons (pv 1) pa_nil)))) (blkOk_by (own := [("_law_rule", 2)]) (N := ["_law_some_here", "_law_case_here", "_law_rule"]) (sc := defScope s_law_results) (by decide +kernel))
        (fun _ _ _ _ _ => pg_name (i := 2) sc_lres.nd rfl (Or.inl rfl)) (fun _ _ _ _ _ => pts_nil) (fun _ _ _ _ _ => pe_ix (show IxR _ (rIxT K) from ix_tup) (pv 2) pe_int (fun _ _ => rfl))) pa_nil)) pa_nil)) pa_nil))), ?_⟩
    refine ⟨_, rfl, _, rfl, l, t, refs, rs, cs, rfl, nr, ok, ht, fun H1 D rf sm1 hD nd => ?_⟩
    have ulen : (unb rs cs).length ≤ 12 := Nat.le_trans (unb_len rs cs) ok.few
    refine ⟨D, rfl, ⟨_, SqL.of nd.1⟩, fun G hG => ?_⟩
    refine lc_list (K := K) (a := D) (xs := rf) (fun i H' => Same H1 H' ∧ H' G = some (.lst (((unb rs cs).take i).map fun r => V.int r.2))) ⟨Same.new hG, upd_same⟩ (fun i H' _ h => SqL.of (h.1 _ _ nd.1)) ?_ ?_
    · rintro i y H2 hy ⟨sm2, hL⟩
      obtain ⟨r, ar, cr, hr', rfl, har, tcr, hts⟩ := rule_get nd.2 hy
      refine ⟨rfl, _, rfl, ar, _, 1, .int r.2, rfl, rfl, SqT.of (sm2 _ _ har), rfl, _, hL, ?_, ?_, ?_⟩
      · rw [List.length_map, List.length_take, sizeLine_eq]; omega
      · exact fun b o eb => by rw [upd_ne (ne_of_none eb hG)]; exact sm2 b o eb
      · rw [hts, List.map_append]; exact upd_same
    rintro H2 ⟨sm2, hL⟩
    rw [nd.len, List.take_length] at hL
    have hL : H2 G = some (.lst (((unb rs cs).map (·.2)).map V.int)) := by rw [hL, List.map_map]; rfl
    refine ⟨G, (unb rs cs).map (·.2), rfl, SqL.of hL, by rw [List.length_map]; omega, fun p n hn hp => ?_⟩
    rw [List.length_map] at hn
    have smp : Same H2 (upd H2 p (SetO w p (fun j => decide (j ∈ (unb rs cs).map (·.2))) n)) := Same.new hp
    refine ⟨p, _, n, rfl, upd_same, by omega, fun ns l2 pw mem len hl2 => ?_⟩
    refine ⟨l2, ns.map V.int, rfl, .inl ⟨SqL.of upd_same, fun p2 hp2 => ?_⟩⟩
    refine q _ p2 ns (sm1.trans (sm2.trans (smp.trans ((Same.new hl2).trans (Same.new hp2))))) upd_same ⟨pw, fun k => ?_⟩
    rw [mem k, decide_eq_true_eq, List.mem_map]
theorem sc_cases : FnScope nCases ["_law_source_here", "_law_some_here"] (defScope s_law_cases) := ⟨rfl, rfl, rfl, by decide +kernel, rfl, by decide +kernel, by decide +kernel⟩
/-- between two appends -/
def CasesAt (S l tl : Addr) (H : Hp) (rs : List Rule) (n : Nat) : L2.St → Hp → Prop := fun σ H' => ∃ (refs trefs : List V) (cs : List Case) (o2 o3 o5 o6 o7 o8 o9 o10 : Option V),
  σ = [some (.ref S), some (.ref l), o2, o3, some (.ref tl), o5, o6, o7, o8, o9, o10] ∧ SB S H H' ∧ Src H' S ∧ NewRules H' l refs rs ∧ NewCases H' tl trefs cs ∧ 1 ≤ cs.length ∧ cs.length ≤ n
theorem ok_cases {f fD fC fK fP : Addr} {fd dD dC dK dP : FuncData} (F : Fun K "_law_cases" "_law_cases" s_law_cases f fd) (B : Blt mg) (L : LawFns K mg fD fC fK fP dD dC dK dP) : FnOk P w K mg base CX0 3 f fd ["_law_source_here", "_law_some_here"] spCases := by
  have GD : FnOk P w K mg base CX0 2 fD dD ["_law_source_here", "_law_many"] spDraw := (ok_draw L.FD).mono (by decide)
  have GC : FnOk P w K mg base CX0 2 fC dC ["_law_source_here", "_law_values"] spChoose := ok_choose L.FC B L.mD L.FD L.bD
  have GK : FnOk P w K mg base CX0 2 fK dK ["_law_source_here", "_law_many", "_law_most"] spCase := ok_case L.FK B L.mD L.FD L.bD
  refine F.ok sc_cases (fun vs H Q E h => ?_) (fun cdv A outer s H vs Q E hr h => ?_)
  · obtain ⟨S, l, refs, rs, rfl, _⟩ := h
    rfl
  · obtain ⟨S, l, refs, rs, rfl, hS, hlS, nr, ok, q⟩ := h
    refine ⟨_, pss_cons (ps_set (i := 4) sc_cases.nd rfl (.inl rfl) (pe_op op_cat (pe_lst (pa_cons (pe_tup pa_nil) (pa_cons (pe_tup (pa_cons (pe_tup (pa_cons pe_int (pa_cons pe_int pa_nil))) pa_nil)) pa_nil)))
          (pe_lc (own := [("_law_case_here", 2), ("_law_result", 3)]) (g := gTup K 2 (gCons (gName 2) (gCons (gName 3) gNil))) (tt := tYes) rfl sc_cases.nd (pi_list (pv 1))
            (blkOk_by (own := [("_law_case_here", 2), ("_law_result", 3)]) (N := nCases) (sc := defScope s_law_cases) (by decide +kernel))
            (fun _ _ _ _ _ => pg_tup rfl (pgs_cons (pg_name (i := 2) sc_cases.nd rfl (Or.inl rfl)) (pgs_cons (pg_name (i := 3) sc_cases.nd rfl (Or.inl rfl)) pgs_nil)))
            (fun _ _ _ _ _ => pts_nil) (fun _ _ _ _ _ => pv 2))))
      (C8.pss_cut (ps_for PassesOwn.never rfl (pi_range1 rfl B.range (pa_cons pe_int pa_nil)) (pg_name (i := 5) sc_cases.nd rfl (.inl rfl))
        (pss_one (ps_expr (pe_bm PySem.F.plainAttrs_list PySem.F.slot_list_append PySem.F.type_list_append mt_append (pv 4) (pa_cons (pe_call GK hr rfl L.mK L.FK.kp L.bK .nil pass0 (pa_cons (pv 0)
            (pa_cons (pe_op op_add pe_int (pe_call GD hr rfl L.mD L.FD.kp L.bD .nil pass0 (pa_cons (pv 0) (pa_cons pe_int pa_nil))))
            (pa_cons (pe_op op_add pe_int (pe_call GD hr rfl L.mD L.FD.kp L.bD .nil pass0 (pa_cons (pv 0) (pa_cons pe_int pa_nil)))) pa_nil)))) pa_nil)))))
      (C8.pss_cut (ps_for PassesOwn.never rfl (pi_list (pv 1)) (pg_tup rfl (pgs_cons (pg_name (i := 2) sc_cases.nd rfl (.inl rfl)) (pgs_cons (pg_name (i := 3) sc_cases.nd rfl (.inl rfl)) pgs_nil)))
        (pss_cons (ps_set (i := 6) sc_cases.nd rfl (.inr rfl) (pe_lc (own := [("_law_attribute", 8), ("_law_value", 9)]) (g := gTup K 2 (gCons (gName 8) (gCons (gName 9) gNil))) (tt := tYes) rfl sc_cases.nd (pi_tup (pv 2))
            (blkOk_by (own := [("_law_attribute", 8), ("_law_value", 9)]) (N := nCases) (sc := defScope s_law_cases) (by decide +kernel))
            (fun _ _ _ _ _ => pg_tup rfl (pgs_cons (pg_name (i := 8) sc_cases.nd rfl (Or.inl rfl)) (pgs_cons (pg_name (i := 9) sc_cases.nd rfl (Or.inl rfl)) pgs_nil))) (fun _ _ _ _ _ => pts_nil) (fun _ _ _ _ _ => pv 8)))
        (pss_cons (ps_set (i := 7) sc_cases.nd rfl (.inl rfl) (pe_call GC hr rfl L.mC L.FC.kp L.bC .nil pass0 (pa_cons (pv 0) (pa_cons (pv 4) pa_nil))))
        (pss_one (ps_expr (pe_bm PySem.F.plainAttrs_list PySem.F.slot_list_append PySem.F.type_list_append mt_append (pv 4) (pa_cons (pe_callTy call_tuple_of (by rfl) B.tuple (by decide +kernel) (pa_cons (pe_callB cr_sortedPO (by rfl) B.sorted (by decide +kernel) (pa_cons
            (pe_op op_cat (pe_callTy call_list_of (by rfl) B.list (by decide +kernel) (pa_cons (pv 2) pa_nil))
              (pe_lc (own := [("_law_part_here", 10)]) (g := gName 10) rfl sc_cases.nd (pi_tup (pv 7)) (blkOk_by (own := [("_law_part_here", 10)]) (N := nCases) (sc := defScope s_law_cases) (by decide +kernel))
                (fun _ _ _ _ _ => pg_name (i := 10) sc_cases.nd rfl (Or.inl rfl))
                (fun _ _ _ _ _ => pts_one (pt_cmpR (show OpR _ (compareOp .NotIn) (rIn K true) from op_notIn_seq) (pe_ix (show IxR _ (rIxT K) from ix_tup) (pv 10) pe_int (fun _ _ => rfl)) (pv 6) (by rfl))) (fun _ _ _ _ _ => pv 10))) pa_nil)) pa_nil)) pa_nil)))))))
      (pss_one (ps_ret (pv 4))))), ?_⟩
    have few := ok.few
    refine ⟨by decide, fun p1 hp1 => ⟨by decide, fun p2 hp2 => ⟨(by decide : 1 ≤ sizeLine), fun p3 hp3 => ⟨(by decide : 2 ≤ sizeLine), fun p4 hp4 => ?_⟩⟩⟩⟩
    have k1 : Same H (upd H p1 (.tup [])) := Same.new hp1
    generalize hA1 : upd H p1 (.tup []) = A1 at *
    have e1 : A1 p1 = some (.tup []) := by rw [← hA1]; exact upd_same
    have k2 : Same A1 (upd A1 p2 (.tup [.int 4, .int 9])) := Same.new hp2
    generalize hA2 : upd A1 p2 (.tup [.int 4, .int 9]) = A2 at *
    have e2 : A2 p2 = some (.tup [.int 4, .int 9]) := by rw [← hA2]; exact upd_same
    have k3 : Same A2 (upd A2 p3 (.tup [.ref p2])) := Same.new hp3
    generalize hA3 : upd A2 p3 (.tup [.ref p2]) = A3 at *
    have e3 : A3 p3 = some (.tup [.ref p2]) := by rw [← hA3]; exact upd_same
    have k4 : Same A3 (upd A3 p4 (.lst [.ref p1, .ref p3])) := Same.new hp4
    generalize hA4 : upd A3 p4 (.lst [.ref p1, .ref p3]) = A4 at *
    have e4 : A4 p4 = some (.lst [.ref p1, .ref p3]) := by rw [← hA4]; exact upd_same
    have sm4 : Same H A4 := k1.trans (k2.trans (k3.trans k4))
    have nr4 : NewRules A4 l refs rs := nr.same sm4
    refine ⟨_, rfl, l, rfl, ⟨_, SqL.of nr4.1⟩, fun D' hD => ?_⟩
    refine lc_list (K := K) (a := l) (xs := refs) (fun i H' => ∃ rf, Same A4 H' ∧ H' D' = some (.lst rf) ∧ TDs H' rf ((rs.take i).map fun r => caseD r.1))
      ⟨[], Same.new hD, upd_same, .nil⟩ (fun i H' _ ⟨_, h, _⟩ => SqL.of (h _ _ nr4.1)) ?_ ?_
    · rintro i' y H7 hy ⟨rf, sm7, hL, td⟩
      obtain ⟨r, a', c', hr', rfl, ha', tc, hts⟩ := rule_get nr4.2 hy
      refine ⟨a', _, rfl, SqT.of (sm7 _ _ ha'), rfl, _, _, rfl, _, _, rfl, rfl, rfl, _, rfl, rf, hL, ?_, rf ++ [.ref c'], ?_, upd_same, ?_⟩
      · have := td.length
        rw [List.length_map, List.length_take] at this
        rw [sizeLine_eq]; omega
      · exact fun b o eb => by rw [upd_ne (ne_of_none eb hD)]; exact sm7 b o eb
      · rw [hts, List.map_append]
        exact (td.append (.cons (tc.mono (TK.same sm7)) .nil)).mono (TK.lst hL)
    rintro H7 ⟨rf, sm7, hL, td⟩
    rw [nr.len, List.take_length] at td
    have hrf : rf.length ≤ 12 := by have := td.length; rw [List.length_map] at this; omega
    refine ⟨p4, D', _, rf, rfl, rfl, sm7 _ _ e4, hL, ?_, fun tl htl => ?_⟩
    · show 2 + rf.length ≤ sizeLine
      rw [sizeLine_eq]; omega
    have smT : Same H7 (upd H7 tl (.lst ([.ref p1, .ref p3] ++ rf))) := Same.new htl
    have smHT : Same H (upd H7 tl (.lst ([.ref p1, .ref p3] ++ rf))) := sm4.trans (sm7.trans smT)
    have htl0 : H tl = none := (sm4.trans sm7).free htl
    have hltl : l ≠ tl := ne_of_none (sm7 _ _ nr4.1) htl
    have hStl : tl ≠ S := (hS.same (sm4.trans sm7)).ne htl
    have app : ∀ {refs trefs : List V} {cs : List Case} {n : Nat} {t : Addr} {c0 : Case} {H8 : Hp} {o2 o3 o5 o6 o7 o8 o9 o10 : Option V}, SB S H H8 → Src H8 S → NewRules H8 l refs rs → NewCases H8 tl trefs cs → cs.length ≤ n → TD H8 (.ref t) (caseD c0) → CaseOk c0 →
        CasesAt S l tl H rs (n + 1) [some (.ref S), some (.ref l), o2, o3, some (.ref tl), o5, o6, o7, o8, o9, o10] (upd H8 tl (.lst (trefs ++ [.ref t]))) := by
      intro refs trefs cs n t c0 H8 o2 o3 o5 o6 o7 o8 o9 o10 sb hS8 nr8 nc len tt okt
      refine ⟨refs, trefs ++ [.ref t], cs ++ [c0], _, _, _, _, _, _, _, _, rfl, ?_, ?_, ?_, nc.snoc tt okt, ?_, ?_⟩
      · exact fun b o nb e => by rw [upd_ne (ne_of_none e htl0)]; exact sb b o nb e
      · obtain ⟨x0, y0, z0, e⟩ := hS8
        exact ⟨x0, y0, z0, by rw [upd_ne hStl.symm]; exact e⟩
      · exact ⟨by rw [upd_ne hltl]; exact nr8.1, nr8.2.mono (TK.lst nc.at_)⟩
      · rw [List.length_append, List.length_singleton]; omega
      · rw [List.length_append, List.length_singleton]; omega
    refine ⟨CasesAt S l tl H rs 20, ?_, ?_⟩
    · refine ⟨6, rfl, by decide, by decide, for_range (lo := 0) (n := 6) (fun n => CasesAt S l tl H rs (14 + n)) ?_ ?_ (fun σ H' h => h)⟩
      · refine ⟨refs, [.ref p1, .ref p3] ++ rf, [] :: [(4, 9)] :: rs.map (·.1), _, _, _, _, _, _, _, _, rfl, SB.same smHT, hS.same smHT, nr4.same (sm7.trans smT), ⟨upd_same, ?_, ?_⟩, ?_, ?_⟩
        · have t1 : TD A4 (.ref p1) (caseD []) := .tup (k4 _ _ (k3 _ _ (k2 _ _ e1))) .nil
          have t2 : TD A4 (.ref p3) (caseD [(4, 9)]) := .tup (k4 _ _ e3) (.cons (condD_td (k4 _ _ (k3 _ _ e2))) .nil)
          have t3 : TDs H7 rf ((rs.map (·.1)).map caseD) := by rw [List.map_map]; exact td
          exact (TDs.append (.cons (t1.mono (TK.same sm7)) (.cons (t2.mono (TK.same sm7)) .nil)) t3).mono (TK.same smT)
        · intro c0 hc
          rcases List.mem_cons.mp hc with rfl | hc
          · exact CaseOk.nil
          rcases List.mem_cons.mp hc with rfl | hc
          · exact CaseOk.nil.snoc (a := 4) (v := 9) (fun x hx => (nomatch hx)) (by decide) (by decide) (by decide) (by decide)
          obtain ⟨r, hr', rfl⟩ := List.mem_map.mp hc
          exact (ok.each r hr').case
        · simp only [List.length_cons]; omega
        · simp only [List.length_cons, List.length_map]; omega
      · rintro n σ H8 hn ⟨refs, trefs, cs, o2, o3, o5, o6, o7, o8, o9, o10, rfl, sb8, hS8, nr8, nc, len1, len⟩
        refine ⟨_, rfl, .inl ⟨rfl, _, SqL.of nc.at_⟩, _, rfl, _, rfl, S, 5, rfl, hS8, by decide, by decide, fun H9 r9 sb9 hS9 r90 r91 => ⟨_, _, rfl, rfl, _, rfl, S, 4, rfl, hS9, by decide, by decide, fun H10 r10 sb10 hS10 r100 r101 => ?_⟩⟩
        refine ⟨_, _, rfl, rfl, S, _, _, rfl, hS10, by omega, by omega, fun H11 t c0 sb11 hS11 tt okt => ?_⟩
        have sb : SB S H8 H11 := sb9.trans (sb10.trans sb11)
        have nc11 := nc.sb sb hS8 hStl
        have tlen := nc.len
        refine ⟨tl, trefs, _, rfl, rfl, nc11.at_, by rw [sizeLine_eq]; omega, ?_⟩
        exact app (sb8.trans sb) hS11 (nr8.mono sb hS8 hlS) nc11 len tt okt
    · rintro σ H8 ⟨refs8, trefs, cs, o2, o3, o5, o6, o7, o8, o9, o10, rfl, sb8, hS8, nr8, nc, len1, len⟩
      refine ⟨CasesAt S l tl H rs 40, ?_, ?_⟩
      · refine ⟨_, rfl, l, rfl, ⟨_, SqL.of nr8.1⟩, for_list (K := K) (a := l) (xs := refs8) (fun n σ H' => CasesAt S l tl H rs (20 + n) σ H' ∧ NewRules H' l refs8 rs)
          ⟨⟨refs8, trefs, cs, o2, o3, o5, o6, o7, o8, o9, o10, rfl, sb8, hS8, nr8, nc, len1, len⟩, nr8⟩ (fun n σ H' _ ⟨_, h⟩ => SqL.of h.1) ?_ ?_⟩
        · clear nc len1 len sb8 hS8
          rintro n v σ H9 hv ⟨⟨_, trefs, cs, o2, o3, o5, o6, o7, o8, o9, o10, rfl, sb9, hS9, _, nc, len1, len⟩, nr9⟩
          have hn : n < 12 := by have := (List.getElem?_eq_some_iff.mp hv).1; have := nr9.len; omega
          obtain ⟨r, a, c, hr', rfl, ha, hc2, hts⟩ := rule_get nr9.2 hv
          have okc := (ok.each r (List.mem_of_getElem? hr')).case
          refine ⟨a, _, rfl, SqT.of ha, rfl, _, _, rfl, _, _, rfl, rfl, ?_⟩
          obtain ⟨_, ocs, eoc, hoc, toc⟩ := hc2.tupv
          cases eoc
          -- names
          refine ⟨_, rfl, c, rfl, ⟨_, SqT.of hoc⟩, fun D hD => ?_⟩
          refine lc_tup (K := K) (a := c) (xs := ocs) (fun i H' => Same H9 H' ∧ H' D = some (.lst ((r.1.take i).map fun x => V.int x.1))) ⟨Same.new hD, upd_same⟩ (fun i H' _ h => SqT.of (h.1 _ _ hoc)) ?_ ?_
          · rintro i x Ha hxi ⟨sm, hL⟩
            obtain ⟨cc, hcc, tx, hti⟩ := cond_get toc hxi
            obtain ⟨ac, rfl, hac⟩ := cond_at (tx.mono (TK.same sm))
            refine ⟨ac, _, rfl, SqT.of hac, rfl, _, _, rfl, _, _, rfl, rfl, rfl, _, rfl, _, hL, ?_, ?_, ?_⟩
            · rw [List.length_map, List.length_take, sizeLine_eq]; have := okc.len; omega
            · exact fun b o eb => by rw [upd_ne (ne_of_none eb hD)]; exact sm b o eb
            · rw [hti, List.map_append]; exact upd_same
          rintro Ha ⟨sma, hN⟩
          have elen : ocs.length = r.1.length := by rw [toc.length, List.length_map]
          rw [elen, List.take_length] at hN
          have hSa := hS9.same sma
          have nca := nc.same sma
          have tlen := nc.len
          have hDS : D ≠ S := hS9.ne hD
          -- more
          refine ⟨_, rfl, _, rfl, S, tl, trefs, rfl, hSa, hStl, nca.at_, by omega, by omega, fun Hb v sb hSb hvm => ?_⟩
          have ncb := nca.sb sb hSa hStl
          obtain ⟨cs2, hcs2, tv⟩ := ncb.td.pick hvm
          have okm := nc.ok cs2 hcs2
          obtain ⟨t, tcs, rfl, htc, ttc⟩ := TD.tupv tv
          have nrb := (nr9.same sma).mono sb hSa hlS
          have sbb : SB S H Hb := sb9.trans ((SB.same sma).trans sb)
          have hoc2 : Hb c = some (.tup ocs) := by
            obtain ⟨i0, j0, k0, es⟩ := id hSa
            exact sb _ _ (ne_of (sma _ _ hoc) es (by intro z; cases z)) (sma _ _ hoc)
          have toc2 : TDs Hb ocs (r.1.map condD) := (toc.mono (TK.same sma)).mono (sb.tk hSa)
          have hNb : Hb D = some (.lst (r.1.map fun x => V.int x.1)) := sb _ _ hDS hN
          -- append(tuple(sorted(list(case) + [..])))
          refine ⟨_, rfl, .inl ⟨rfl, _, SqL.of ncb.at_⟩, _, rfl, c, _, rfl, .inr (SqT.of hoc2), fun l2 hl2 => ?_⟩
          have sm8 : Same Hb (upd Hb l2 (.lst ocs)) := Same.new hl2
          generalize hHc : upd Hb l2 (.lst ocs) = Hc at *
          have el2 : Hc l2 = some (.lst ocs) := by rw [← hHc]; exact upd_same
          refine ⟨_, rfl, t, rfl, ⟨_, SqT.of (sm8 _ _ htc)⟩, fun D2 hD2 => ?_⟩
          refine lc_tup (K := K) (a := t) (xs := tcs) (fun i H' => ∃ rf, Same Hc H' ∧ H' D2 = some (.lst rf) ∧ TDs H' rf (((cs2.take i).filter (notNamed r.1)).map condD))
            ⟨[], Same.new hD2, upd_same, .nil⟩ (fun i H' _ ⟨_, h, _⟩ => SqT.of (h _ _ (sm8 _ _ htc))) ?_ ?_
          · rintro i x Hd hxi ⟨rf, smd, hL, tdd⟩
            obtain ⟨cc, hcc, tx, hti⟩ := cond_get ttc hxi
            have txd := tx.mono (TK.same (sm8.trans smd))
            obtain ⟨ac, rfl, hac⟩ := cond_at txd
            refine ⟨rfl, _, rfl, ac, _, 0, .int cc.1, rfl, rfl, SqT.of hac, rfl, _, rfl, D, _, rfl, .inl (SqL.of (smd _ _ (sm8 _ _ hNb))), rfl, flat_ints _, _, rfl, ?_⟩
            refine ite2 (fun hb => ?_) (fun hb => ?_)
            · have hnot : cc.1 ∉ r.1.map (·.1) := by
                have z : (!inV (.int cc.1) (r.1.map fun x => V.int x.1)) = true := hb
                rw [inV_ints] at z
                simpa using z
              refine ⟨_, rfl, rf, hL, ?_, rf ++ [.ref ac], ?_, upd_same, ?_⟩
              · have z1 := tdd.length
                rw [List.length_map] at z1
                have z2 := List.length_filter_le (notNamed r.1) (cs2.take i)
                rw [List.length_take] at z2
                have := okm.len
                rw [sizeLine_eq]; omega
              · exact fun b o eb => by rw [upd_ne (ne_of_none eb hD2)]; exact smd b o eb
              · have ef : ([cc].filter (notNamed r.1)) = [cc] := by rw [List.filter_cons, show notNamed r.1 cc = true from decide_eq_true hnot]; rfl
                rw [hti, List.filter_append, List.map_append, ef]
                exact (tdd.append (.cons txd .nil)).mono (TK.lst hL)
            · have hin : cc.1 ∈ r.1.map (·.1) := by
                have z : ¬ (!inV (.int cc.1) (r.1.map fun x => V.int x.1)) = true := hb
                rw [inV_ints] at z
                simpa using z
              refine ⟨rf, smd, hL, ?_⟩
              have ef : ([cc].filter (notNamed r.1)) = [] := by rw [List.filter_cons, show notNamed r.1 cc = false from decide_eq_false (fun z => z hin)]; rfl
              rw [hti, List.filter_append, ef, List.append_nil]
              exact tdd
          rintro Hd ⟨rf, smd, hL, tdd⟩
          have clen : tcs.length = cs2.length := by rw [ttc.length, List.length_map]
          rw [clen, List.take_length] at tdd
          refine ⟨l2, D2, _, _, rfl, rfl, smd _ _ el2, hL, ?_, fun p3 hp3 => ?_⟩
          · have z1 := tdd.length
            rw [List.length_map] at z1
            have z2 := List.length_filter_le (notNamed r.1) cs2
            have := okm.len
            have := okc.len
            rw [sizeLine_eq]; omega
          have sme : Same Hd (upd Hd p3 (.lst (ocs ++ rf))) := Same.new hp3
          have tall : TDs (upd Hd p3 (.lst (ocs ++ rf))) (ocs ++ rf) ((r.1 ++ cs2.filter (notNamed r.1)).map condD) := by
            rw [List.map_append]
            exact ((toc2.mono (TK.same (sm8.trans smd))).append tdd).mono (TK.same sme)
          obtain ⟨ep1, ep2⟩ := conds_pairs tall
          refine ⟨p3, _, pairAt (upd Hd p3 (.lst (ocs ++ rf))), rfl, SqL.of upd_same, ep2, fun ys p4 so st hp4 => ?_⟩
          have smf : Same (upd Hd p3 (.lst (ocs ++ rf))) (upd (upd Hd p3 (.lst (ocs ++ rf))) p4 (.lst ys)) := Same.new hp4
          refine ⟨p4, ys, rfl, .inl ⟨SqL.of upd_same, fun p5 hp5 => ?_⟩⟩
          have smg : Same (upd (upd Hd p3 (.lst (ocs ++ rf))) p4 (.lst ys)) (upd (upd (upd Hd p3 (.lst (ocs ++ rf))) p4 (.lst ys)) p5 (.tup ys)) := Same.new hp5
          have smz : Same Hb (upd (upd (upd Hd p3 (.lst (ocs ++ rf))) p4 (.lst ys)) p5 (.tup ys)) := sm8.trans (smd.trans (sme.trans (smf.trans smg)))
          have tys := (pairs_conds ys fun x hx => ep2 x (st.perm.mem_iff.mp hx)).mono (TK.same (smf.trans smg))
          have okz : CaseOk (ys.map (pairAt (upd Hd p3 (.lst (ocs ++ rf))))) := by
            refine merged_ok okc okm ?_ ?_
            · have z := st.perm.map (pairAt (upd Hd p3 (.lst (ocs ++ rf))))
              rw [ep1] at z
              exact z
            · exact List.pairwise_map.mpr so
          have ncz := ncb.same smz
          refine ⟨tl, trefs, _, rfl, rfl, ncz.at_, by rw [sizeLine_eq]; omega, ?_, ?_⟩
          · exact app (sbb.trans (SB.same smz)) (hSb.same smz) (nrb.same smz) ncz len (.tup upd_same tys) okz
          · have nz := nrb.same smz
            exact ⟨by rw [upd_ne hltl]; exact nz.1, nz.2.mono (TK.lst ncz.at_)⟩
        · rintro σ H9 ⟨⟨r9, trefs, cs, o2, o3, o5, o6, o7, o8, o9, o10, rfl, sb9, hS9, nr9, nc, len1, len⟩, nr10⟩
          have := nr10.len
          exact ⟨r9, trefs, cs, o2, o3, o5, o6, o7, o8, o9, o10, rfl, sb9, hS9, nr9, nc, len1, by omega⟩
      · rintro σ H9 ⟨r9, trefs, cs, o2, o3, o5, o6, o7, o8, o9, o10, rfl, sb9, hS9, nr9, nc, len1, len⟩
        exact ⟨_, rfl, q _ tl trefs cs sb9 hS9 htl0 hStl nc (by omega)⟩
end
end Cr

namespace Cr
open PySem PySem.Spec PyProof.Rows L2

def spWide : Sp := fun vs H Q _ => ∃ S : Addr, vs = [.ref S] ∧ Src H S ∧ ∀ H', SB S H H' → Src H' S → Q (.bl true) H'
abbrev nWide : List Str := ["_law_source_here", "_law_case_here", "_law_by", "_law_step", "_law_some_here", "_law_rules", "_law_due", "_law_at", "_law_result", "_law_conditions"]
def wideV (b s : Int) (i : Nat) : Int := (b + s * (0 + (i : Int))) % 100
def wideR (c : Case) (b s : Int) (n : Nat) : List Rule := (List.range n).map fun i => (c, wideV b s i)
theorem wide_inj {b s : Int} (hs : s = 1 ∨ s = 3 ∨ s = 7 ∨ s = 9 ∨ s = 11 ∨ s = 49) {i j : Nat} (hi : i < 12) (hj : j < 12) (e : wideV b s i = wideV b s j) : i = j := by
  unfold wideV at e
  rcases hs with rfl | rfl | rfl | rfl | rfl | rfl <;> omega
theorem wide_ok {c : Case} {b s : Int} (hc : CaseOk c) (hs : s = 1 ∨ s = 3 ∨ s = 7 ∨ s = 9 ∨ s = 11 ∨ s = 49) : RulesOk 12 (wideR c b s 12) := by
  refine ⟨fun r hr => ?_, ?_, by unfold wideR; simp⟩
  · obtain ⟨i, hi, rfl⟩ := List.mem_map.mp hr
    refine ⟨hc, ?_, ?_⟩
    · show 0 ≤ wideV b s i
      unfold wideV; omega
    · show wideV b s i ≤ 99
      unfold wideV; omega
  · unfold wideR
    refine List.Pairwise.map _ (R := fun i j => i < 12 ∧ j < 12 ∧ i ≠ j) (fun i j h e => ?_) ?_
    · exact h.2.2 (wide_inj hs h.1 h.2.1 (Prod.mk.inj e).2)
    · decide
theorem inB_self (c : Case) : inB c c = true := by
  unfold inB
  rw [List.all_eq_true]
  intro x hx
  exact decide_eq_true hx
theorem unb_wide (c : Case) (b s : Int) : unb (wideR c b s 12) c = wideR c b s 12 := by
  have e1 : (wideR c b s 12).filter (fun r => inB r.1 c) = wideR c b s 12 := List.filter_eq_self.mpr fun r hr => by
    obtain ⟨i, _, rfl⟩ := List.mem_map.mp hr
    exact inB_self c
  unfold unb
  rw [e1]
  refine List.filter_eq_self.mpr fun r hr => ?_
  obtain ⟨i, _, rfl⟩ := List.mem_map.mp hr
  have : beatB (wideR c b s 12) (c, wideV b s i) = false := by
    unfold beatB
    rw [List.any_eq_false]
    intro q hq
    obtain ⟨j, _, rfl⟩ := List.mem_map.mp hq
    unfold strictB
    simp
  rw [this]
  rfl
theorem unb_none {c : Case} (h : c ≠ []) (b s : Int) : unb (wideR c b s 12) [] = [] := by
  have e1 : (wideR c b s 12).filter (fun r => inB r.1 []) = [] := List.filter_eq_nil_iff.mpr fun r hr => by
    obtain ⟨i, _, rfl⟩ := List.mem_map.mp hr
    cases c with
    | nil => exact absurd rfl h
    | cons x c => simp [inB]
  unfold unb
  rw [e1]
  rfl
theorem ints_short {ns : List Int} (h : ∀ n ∈ ns, 0 ≤ n ∧ n ≤ 99) (hl : ns.length ≤ 100) : (PyData.tuple (ns.map PyData.int)).shown.length ≤ 1000 ∧ (PyData.tuple (ns.map PyData.int)).showable = true := by
  refine ⟨?_, ?_⟩
  · have e : (PyData.tuple (ns.map PyData.int)).shown = tupleText (ns.map fun x => (PyData.int x).shown) := by simp only [PyData.shown]; rw [shownAll_map]; simp only [PyData.shown]
    rw [e]
    have a := tupleText_le (ns.map fun x => (PyData.int x).shown)
    have b : ((ns.map fun x => (PyData.int x).shown).map (·.length)).sum ≤ (ns.map fun x => (PyData.int x).shown).length * 2 := sum_le fun x hx => by
      obtain ⟨y, hy, rfl⟩ := List.mem_map.mp hx
      exact (int_shown (h y hy).1 (h y hy).2).1
    rw [List.length_map] at a b
    omega
  · simp only [PyData.showable]
    exact showableAll_map _ _ fun x hx => (int_shown (h x hx).1 (h x hx).2).2
theorem ints_nodict (ns : List Int) : (PyData.tuple (ns.map PyData.int)).hasDict = false := by simp only [PyData.hasDict]; exact nodict_all (fun x => by simp [PyData.hasDict]) ns
theorem ints_flat (ns : List Int) : (PyData.tuple (ns.map PyData.int)).depth ≤ 40 := by have h := dep_all (f := PyData.int) (n := 0) (fun x => by simp [PyData.depth]) ns; simp only [PyData.depth]; omega
theorem pair_ok {a b : PyData} (a1 : a.shown.length ≤ 100000) (a2 : a.showable = true) (a3 : a.hasDict = false) (a4 : a.depth ≤ 40) (b1 : b.shown.length ≤ 100000) (b2 : b.showable = true) (b3 : b.hasDict = false) (b4 : b.depth ≤ 40) :
    (PyData.list [a, b]).showable = true ∧ (PyData.list [a, b]).hasDict = false ∧ (PyData.list [a, b]).depth ≤ 60 ∧ (PyData.list [a, b]).shown.length ≤ sizeLine := by
  refine ⟨by simp only [PyData.showable, PyData.showableAll, a2, b2]; rfl, by simp only [PyData.hasDict, PyData.hasDictAll, a3, b3]; rfl, by simp only [PyData.depth, PyData.depthAll]; omega, ?_⟩
  have := pair_shown a b
  rw [sizeLine_eq]; omega
theorem res_same {rs : List Rule} {cs : Case} {a b : List Int} (h1 : ResOf rs cs a) (h2 : ResOf rs cs b) : a = b := asc_eq h1.1 h2.1 fun k => by rw [h1.2 k, h2.2 k]
theorem res_bound {rs : List Rule} {cs : Case} {a : List Int} (h : ResOf rs cs a) (ok : ∀ r ∈ rs, RuleOk r) : ∀ n ∈ a, 0 ≤ n ∧ n ≤ 99 := fun n hn => by
  obtain ⟨r, hr, rfl⟩ := (h.2 n).mp hn
  exact ⟨(ok r (unb_mem hr)).lo, (ok r (unb_mem hr)).hi⟩
theorem asc_few : ∀ {a : List Int} (lo : Int), a.Pairwise (· < ·) → (∀ n ∈ a, lo ≤ n ∧ n ≤ 99) → lo ≤ 100 → (a.length : Int) ≤ 100 - lo
  | [], lo, _, _, hl => by simp; omega
  | x :: a, lo, p, h, hl => by
    obtain ⟨p1, p2⟩ := List.pairwise_cons.mp p
    have hx := h x List.mem_cons_self
    have := asc_few (x + 1) p2 (fun n hn => ⟨by have := p1 n hn; omega, (h n (List.mem_cons_of_mem _ hn)).2⟩) (by omega)
    rw [List.length_cons]
    omega
theorem res_few {rs : List Rule} {cs : Case} {a : List Int} (h : ResOf rs cs a) (ok : ∀ r ∈ rs, RuleOk r) : a.length ≤ 100 := by
  have := asc_few 0 h.1 (res_bound h ok) (by decide)
  omega
end Cr

namespace Cr
open PySem PySem.Spec PyProof.Rows L2

theorem wide_res {c : Case} {b s : Int} (hs : s = 1 ∨ s = 3 ∨ s = 7 ∨ s = 9 ∨ s = 11 ∨ s = 49) {ns : List Int} (pm : ns.Perm ((wideR c b s 12).map (·.2))) (pw : ns.Pairwise (· ≤ ·)) : ResOf (wideR c b s 12) c ns := by
  have nd0 : ((wideR c b s 12).map (·.2)).Nodup := by
    unfold wideR
    rw [List.map_map]
    refine List.Pairwise.map _ (R := fun i j => i < 12 ∧ j < 12 ∧ i ≠ j) (fun i j h e => h.2.2 (wide_inj hs h.1 h.2.1 e)) (by decide)
  have nd : ns.Nodup := pm.nodup_iff.mpr nd0
  refine ⟨(pw.and nd).imp fun {x y} h => ?_, fun k => ?_⟩
  · obtain ⟨h1, h2⟩ := h
    omega
  · rw [unb_wide, pm.mem_iff, List.mem_map]
section
variable {P : Program} {w : World} {K : PySem.W.Frag} {mg : Str → Option Value} {base : Heap}
structure LawDefs (K : PySem.W.Frag) (mg : Str → Option Value) (fS fL fO fT fI fU fR fC fW fQ : Addr) (dS dL dO dT dI dU dR dC dW dQ : FuncData) : Prop where
  S : Df K mg "_law_source" s_law_source ["_law_cell_here"] fS dS
  L : Df K mg "_law_cell" s_law_cell ["_law_script", "_law_index"] fL dL
  O : Df K mg "_law_some" s_law_some ["_law_source_here", "_law_most"] fO dO
  T : Df K mg "_law_text" s_law_text ["_law_some_here"] fT dT
  I : Df K mg "_law_inside" s_law_inside ["_law_some_here", "_law_others"] fI dI
  U : Df K mg "_law_unbeaten" s_law_unbeaten ["_law_some_here", "_law_case_here"] fU dU
  R : Df K mg "_law_results" s_law_results ["_law_some_here", "_law_case_here"] fR dR
  C : Df K mg "_law_cases" s_law_cases ["_law_source_here", "_law_some_here"] fC dC
  W : Df K mg "_law_is_wide" s_law_is_wide ["_law_source_here"] fW dW
  Q : Df K mg "_law_is_equal" s_law_is_equal ["_law_actual", "_law_expected"] fQ dQ
theorem sc_wide : FnScope nWide ["_law_source_here"] (defScope s_law_is_wide) := ⟨rfl, rfl, rfl, by decide +kernel, rfl, by decide +kernel, by decide +kernel⟩
theorem ok_wide {fD fC' fK fP fS fL fO fT fI fU fR' fC fW fQ C pR fR fCl pP fG : Addr} {mc : Value} {dD dC' dK dP dS dL dO dT dI dU dR' dC dW dQ dR dCl : FuncData}
    (B : Blt mg) (L : LawFns K mg fD fC' fK fP dD dC' dK dP) (W : LawDefs K mg fS fL fO fT fI fU fR' fC fW fQ dS dL dO dT dI dU dR' dC dW dQ) (T : RulT K mg C mc pR fR fCl pP fG)
    (GR : FnOk P w K mg base CX0 9 fR dR ["cls", "text"] (spRead C)) (bR : Binds K dR ["cls", "text"] []) (GX : FnOk P w K mg base CX0 6 fCl dCl ["self", "case"] (spCallR C)) (bX : Binds K dCl ["self", "case"] []) : FnG P w K mg base CX0 10 fW spWide := by
  have GD : FnOk P w K mg base CX0 9 fD dD ["_law_source_here", "_law_many"] spDraw := (ok_draw L.FD).mono (by decide)
  have GC : FnOk P w K mg base CX0 9 fC' dC' ["_law_source_here", "_law_values"] spChoose := (ok_choose L.FC B L.mD L.FD L.bD).mono (by decide)
  have GK : FnOk P w K mg base CX0 9 fK dK ["_law_source_here", "_law_many", "_law_most"] spCase := (ok_case L.FK B L.mD L.FD L.bD).mono (by decide)
  have GT : FnOk P w K mg base CX0 9 fT dT ["_law_some_here"] spText := (ok_text W.T.F B).mono (by decide)
  have GQ : FnG P w K mg base CX0 9 fQ (spSame K) := (ok_same W.Q.F W.Q.b B).mono (by decide)
  have RR := GR.raw bR .nil
  have RX := (GX.mono (show 6 ≤ 9 by decide)).raw bX .nil
  refine okG W.W.F sc_wide W.W.b (fun vs H Q E h => ?_) (fun cdv A outer s H vs Q E hg hr h => ?_)
  · obtain ⟨S, rfl, _⟩ := h
    rfl
  · obtain ⟨S, rfl, hS, q⟩ := h
    have hg' : (A.deeper (envOfC "_law_is_wide" (defScope s_law_is_wide) s.heap.objs.size fW cdv)).guards = some [] := hg
    refine ⟨_, pss_cons (ps_asg (pe_tup (pa_cons (pe_call GK hr rfl L.mK L.FK.kp L.bK .nil pass0 (pa_cons (pv 0) (pa_cons pe_int (pa_cons pe_int pa_nil)))) (pa_cons (pe_call GD hr rfl L.mD L.FD.kp L.bD .nil pass0 (pa_cons (pv 0) (pa_cons pe_int pa_nil)))
          (pa_cons (pe_call GC hr rfl L.mC L.FC.kp L.bC .nil pass0 (pa_cons (pv 0) (pa_cons (pe_lst (pa_cons pe_int (pa_cons pe_int (pa_cons pe_int (pa_cons pe_int (pa_cons pe_int (pa_cons pe_int pa_nil))))))) pa_nil))) pa_nil))))
        (pg_tup rfl (pgs_cons (pg_name (i := 1) sc_wide.nd rfl (.inr rfl)) (pgs_cons (pg_name (i := 2) sc_wide.nd rfl (.inr rfl)) (pgs_cons (pg_name (i := 3) sc_wide.nd rfl (.inr rfl)) pgs_nil)))))
      (pss_cons (ps_setLc (i := 4) (own := [("_law_at", 7)]) (g := gName 7) (tt := tYes) rfl sc_wide.nd rfl rfl rfl (pi_range1 rfl B.range (pa_cons pe_int pa_nil)) (blkOk_by (own := [("_law_at", 7)]) (N := nWide) (sc := defScope s_law_is_wide) (by decide +kernel))
          (fun _ _ _ _ _ => pg_name (i := 7) sc_wide.nd rfl (Or.inl rfl)) (fun _ _ _ _ _ => pts_nil)
          (fun _ _ _ _ _ => pe_tup (pa_cons (pv 1) (pa_cons (pe_op op_mod (pe_op op_add (pv 2) (pe_op op_mul (pv 3) (pv 7))) pe_int) pa_nil))))
      (pss_cons (ps_set (i := 5) sc_wide.nd rfl (.inl rfl) (ClX.pe_cmeth (E := E0) (pe_glob (v := .ref C) rfl T.mR rfl) T.rd T.cm RR hr passAny (pa_cons (pe_call GT hr rfl W.T.m W.T.F.kp W.T.b .nil pass0 (pa_cons (pv 4) pa_nil)) pa_nil)))
      (pss_cons (ps_set (i := 6) sc_wide.nd rfl (.inl rfl) (pe_callTy call_tuple_of (by rfl) B.tuple (by decide +kernel) (pa_cons (pe_callB cr_sortedI (by rfl) B.sorted (by decide +kernel) (pa_cons
          (pe_lc (own := [("_law_conditions", 9), ("_law_result", 8)]) (g := gTup K 2 (gCons (gName 9) (gCons (gName 8) gNil))) (tt := tYes) rfl sc_wide.nd (pi_list (pv 4)) (blkOk_by (own := [("_law_conditions", 9), ("_law_result", 8)]) (N := nWide) (sc := defScope s_law_is_wide) (by decide +kernel))
            (fun _ _ _ _ _ => pg_tup rfl (pgs_cons (pg_name (i := 9) sc_wide.nd rfl (Or.inl rfl)) (pgs_cons (pg_name (i := 8) sc_wide.nd rfl (Or.inl rfl)) pgs_nil))) (fun _ _ _ _ _ => pts_nil) (fun _ _ _ _ _ => pv 8)) pa_nil)) pa_nil)))
      (pss_one (ps_ret (pe_callG (E := E0) GQ hg' hr rfl W.Q.m W.Q.F.kp passAny
        (pa_cons (pe_lst (pa_cons (StX.pe_callO (E := E0) (pv 5) T.co RX hr passAny (pa_cons (pv 1) pa_nil)) (pa_cons (StX.pe_callO (E := E0) (pv 5) T.co RX hr passAny (pa_cons (pe_tup pa_nil) pa_nil)) pa_nil)))
        (pa_cons (pe_lst (pa_cons (pv 6) (pa_cons (pe_ifExp (pt_cmpR (op_eqD hr.units) (pv 1) (pe_tup pa_nil) (nomark _)) (pv 6) (pe_tup pa_nil)) pa_nil))) pa_nil)))))))), ?_⟩
    -- case_here, by, step
    refine ⟨_, rfl, S, 3, 3, rfl, hS, by decide, by decide, fun H1 t c sb1 hS1 tt okt => ?_⟩
    refine ⟨_, rfl, S, 100, rfl, hS1, by decide, by decide, fun H2 b sb2 hS2 b0 b1 => ?_⟩
    refine ⟨_, rfl, by decide, fun p hp => ⟨S, p, _, rfl, hS2.same (Same.new hp), hS2.ne hp, upd_same, by decide, by decide, fun H3 v sb3 hS3 hv => ?_⟩⟩
    obtain ⟨st, rfl, hst⟩ : ∃ st : Int, v = .int st ∧ (st = 1 ∨ st = 3 ∨ st = 7 ∨ st = 9 ∨ st = 11 ∨ st = 49) := by
      simp only [List.mem_cons, List.mem_singleton, List.not_mem_nil, or_false] at hv
      rcases hv with rfl | rfl | rfl | rfl | rfl | rfl <;> exact ⟨_, rfl, by decide⟩
    have sbA : SB S H H3 := sb1.trans (sb2.trans ((SB.new hp).trans sb3))
    have tt3 : TD H3 (.ref t) (caseD c) := ((tt.mono (sb2.tk hS1)).mono (TK.new hp)).mono (sb3.tk (hS2.same (Same.new hp)))
    refine ⟨(by decide : 3 ≤ sizeLine), fun p2 hp2 => ⟨p2, _, rfl, SqT.of upd_same, rfl, _, _, rfl, _, _, rfl, _, _, rfl, rfl, ?_⟩⟩
    have sm4 : Same H3 (upd H3 p2 (.tup [.ref t, .int b, .int st])) := Same.new hp2
    generalize hH4 : upd H3 p2 (.tup [.ref t, .int b, .int st]) = H4 at *
    have hS4 := hS3.same sm4
    have tt4 := tt3.mono (TK.same sm4)
    have okw := wide_ok (b := b) okt hst
    -- some_here
    refine ⟨12, rfl, by decide, by decide, fun D hD => ?_⟩
    refine lc_range (lo := 0) (n := 12) (fun i H' => ∃ rf, Same H4 H' ∧ NewRules H' D rf (wideR c b st i)) ⟨[], Same.new hD, ⟨upd_same, .nil⟩⟩ ?_ ?_
    · rintro i H5 hi ⟨rf, sm5, nr⟩
      refine ⟨rfl, _, rfl, _, rfl, _, rfl, _, rfl, _, _, rfl, rfl, .inl ⟨by omega, by omega⟩, _, _, rfl, rfl, _, _, rfl, rfl, (by show (0 : Int) < 100; decide), (by decide : 2 ≤ sizeLine), fun p5 hp5 => ?_⟩
      have smp : Same H5 (upd H5 p5 (.tup [.ref t, .int (wideV b st i)])) := Same.new hp5
      have nr6 := nr.same smp
      refine ⟨rf, nr6.1, ?_, rf ++ [.ref p5], ?_, ⟨upd_same, ?_⟩⟩
      · have := nr.len
        have e : (wideR c b st i).length = i := by unfold wideR; simp
        rw [sizeLine_eq]; omega
      · exact fun b' o eb => by rw [upd_ne (ne_of_none eb hD)]; exact smp _ _ (sm5 b' o eb)
      · have e : wideR c b st (i + 1) = wideR c b st i ++ [(c, wideV b st i)] := by unfold wideR; rw [List.range_succ, List.map_append]; rfl
        rw [e, List.map_append]
        have tr : TD (upd H5 p5 (.tup [.ref t, .int (wideV b st i)])) (.ref p5) (ruleD (c, wideV b st i)) := .tup upd_same (.cons (tt4.mono (TK.same (sm5.trans smp))) (.cons (.int _) .nil))
        exact (nr6.2.append (.cons tr .nil)).mono (TK.lst nr6.1)
    rintro H5 ⟨rf, sm5, nr⟩
    -- rules
    refine ⟨rfl, _, rfl, D, rf, _, rfl, nr, okw.up (by decide), fun H6 sm6 => ⟨_, rfl, okw, fun H7 x sm7 hx hold => ?_⟩⟩
    have s57 : Same H5 H7 := sm6.trans sm7
    have nr7 := nr.same s57
    -- due
    refine ⟨_, rfl, D, rfl, ⟨_, SqL.of nr7.1⟩, fun G hG => ?_⟩
    refine lc_list (K := K) (a := D) (xs := rf) (fun i H' => Same H7 H' ∧ H' G = some (.lst (((wideR c b st 12).take i).map fun r => V.int r.2))) ⟨Same.new hG, upd_same⟩ (fun i H' _ h => SqL.of (h.1 _ _ nr7.1)) ?_ ?_
    · rintro i y H8 hy ⟨sm8, hL⟩
      obtain ⟨r, ar, cr, hr', rfl, har, tcr, hts⟩ := rule_get nr7.2 hy
      refine ⟨ar, _, rfl, SqT.of (sm8 _ _ har), rfl, _, _, rfl, _, _, rfl, rfl, rfl, _, rfl, _, hL, ?_, ?_, ?_⟩
      · have := okw.few
        rw [List.length_map, List.length_take, sizeLine_eq]; omega
      · exact fun b' o eb => by rw [upd_ne (ne_of_none eb hG)]; exact sm8 b' o eb
      · rw [hts, List.map_append]; exact upd_same
    rintro H8 ⟨sm8, hL⟩
    rw [nr.len, List.take_length] at hL
    have hL : H8 G = some (.lst (((wideR c b st 12).map (·.2)).map V.int)) := by rw [hL, List.map_map]; rfl
    refine ⟨G, _, rfl, SqL.of hL, fun ns p9 pm pw hp9 => ⟨p9, ns.map V.int, rfl, .inl ⟨SqL.of upd_same, fun dt hdt => ?_⟩⟩⟩
    have res := wide_res (c := c) hst pm pw
    have sm9 : Same H8 (upd H8 p9 (.lst (ns.map V.int))) := Same.new hp9
    have smd : Same (upd H8 p9 (.lst (ns.map V.int))) (upd (upd H8 p9 (.lst (ns.map V.int))) dt (.tup (ns.map V.int))) := Same.new hdt
    generalize hH9 : upd (upd H8 p9 (.lst (ns.map V.int))) dt (.tup (ns.map V.int)) = H9 at *
    have edt : H9 dt = some (.tup (ns.map V.int)) := by rw [← hH9]; exact upd_same
    have s79 : Same H7 H9 := sm8.trans (sm9.trans smd)
    have s49 : Same H4 H9 := sm5.trans (s57.trans s79)
    have hold9 := hold.same s79
    have tt9 := tt4.mono (TK.same s49)
    obtain ⟨dx, _, _, hx9, _, _⟩ := id hold9
    -- rules(case), rules(())
    refine ⟨_, rfl, x, rfl, _, rfl, .inr ⟨dx, _, hx9⟩, x, t, _, c, rfl, hold9, okw, tt9, okt, fun H11 p11 n11 sm11 hp11 r11 => ?_⟩
    obtain rfl : n11 = ns := res_same r11 res
    refine ⟨_, rfl, x, rfl, by decide, fun e0 he0 => ?_⟩
    have sme : Same H11 (upd H11 e0 (.tup [])) := Same.new he0
    refine ⟨.inr ⟨dx, _, sme _ _ (sm11 _ _ hx9)⟩, x, e0, _, [], rfl, hold9.same (sm11.trans sme), okw, .tup upd_same .nil, CaseOk.nil, fun H12 p12 n12 sm12 hp12 r12 => ?_⟩
    have s12 : Same H11 H12 := sme.trans sm12
    refine ⟨(by decide : 2 ≤ sizeLine), fun q1 hq1 => ?_⟩
    have sa : Same H12 (upd H12 q1 (.lst [.ref p11, .ref p12])) := Same.new hq1
    generalize hB1 : upd H12 q1 (.lst [.ref p11, .ref p12]) = B1 at *
    have eb1 : B1 q1 = some (.lst [.ref p11, .ref p12]) := by rw [← hB1]; exact upd_same
    refine ⟨_, rfl, _, rfl, by decide, fun e1 he1 => ?_⟩
    have sb' : Same B1 (upd B1 e1 (.tup [])) := Same.new he1
    generalize hB2 : upd B1 e1 (.tup []) = B2 at *
    have eb2 : B2 e1 = some (.tup []) := by rw [← hB2]; exact upd_same
    have s92 : Same H9 B2 := sm11.trans (s12.trans (sa.trans sb'))
    refine ⟨_, _, (tt9.mono (TK.same s92)).dp, TD.dp (show TD B2 (.ref e1) (caseD []) from .tup eb2 .nil), shaped_case c, shaped_case [], _, rfl, ?_⟩
    rw [eqv_case]
    have t11 : TD B2 (.ref p11) (.tuple (n11.map PyData.int)) := .tup (sb' _ _ (sa _ _ (s12 _ _ hp11))) (ints_td n11)
    have t12 : TD B2 (.ref p12) (.tuple (n12.map PyData.int)) := .tup (sb' _ _ (sa _ _ hp12)) (ints_td n12)
    have tdt : TD B2 (.ref dt) (.tuple (n11.map PyData.int)) := .tup (s92 _ _ edt) (ints_td n11)
    obtain ⟨h1, h2⟩ := ints_short (res_bound res okw.each) (res_few res okw.each)
    have sbZ : SB S H B2 := sbA.trans (SB.same (sm4.trans (s49.trans s92)))
    have hSZ : Src B2 S := hS4.same (s49.trans s92)
    refine ite2 (fun hc => ?_) (fun hc => ?_)
    · obtain rfl : c = [] := of_decide_eq_true hc
      obtain rfl : n12 = n11 := res_same r12 res
      refine ⟨_, rfl, (by decide : 2 ≤ sizeLine), fun q2 hq2 => ?_⟩
      have sc : Same B2 (upd B2 q2 (.lst [.ref dt, .ref dt])) := Same.new hq2
      obtain ⟨w1, w2, w3, w4⟩ := pair_ok (Nat.le_trans h1 (by decide)) h2 (ints_nodict n12) (ints_flat n12) (Nat.le_trans h1 (by decide)) h2 (ints_nodict n12) (ints_flat n12)
      exact ⟨q1, q2, _, rfl, .lst (SqL.of (sc _ _ (sb' _ _ eb1))) (TDs.dp ((TDs.cons t11 (.cons t12 .nil)).mono (TK.same sc))), .lst (SqL.of upd_same) (TDs.dp ((TDs.cons tdt (.cons tdt .nil)).mono (TK.same sc))), w1, w2, w3, w4, q _ (sbZ.trans (SB.same sc)) (hSZ.same sc)⟩
    · have hne : c ≠ [] := fun z => hc (decide_eq_true z)
      obtain rfl : n12 = [] := by
        refine asc_eq r12.1 .nil fun k => ?_
        rw [r12.2 k, unb_none hne]
        simp
      refine ⟨by decide, fun e2 he2 => ⟨(by decide : 2 ≤ sizeLine), fun q2 hq2 => ?_⟩⟩
      have sx : Same B2 (upd B2 e2 (.tup [])) := Same.new he2
      have sy : Same (upd B2 e2 (.tup [])) (upd (upd B2 e2 (.tup [])) q2 (.lst [.ref dt, .ref e2])) := Same.new hq2
      have sc := sx.trans sy
      have te2 : TD (upd (upd B2 e2 (.tup [])) q2 (.lst [.ref dt, .ref e2])) (.ref e2) (.tuple (([] : List Int).map PyData.int)) := .tup (sy _ _ upd_same) .nil
      obtain ⟨g1, g2⟩ := ints_short (ns := []) (fun n hn => (nomatch hn)) (by decide)
      obtain ⟨w1, w2, w3, w4⟩ := pair_ok (Nat.le_trans h1 (by decide)) h2 (ints_nodict n11) (ints_flat n11) (Nat.le_trans g1 (by decide)) g2 (ints_nodict []) (ints_flat [])
      exact ⟨q1, q2, _, rfl, .lst (SqL.of (sc _ _ (sb' _ _ eb1))) (TDs.dp ((TDs.cons t11 (.cons t12 .nil)).mono (TK.same sc))), .lst (SqL.of upd_same) (TDs.dp (.cons (tdt.mono (TK.same sc)) (.cons te2 .nil))), w1, w2, w3, w4, q _ (sbZ.trans (SB.same sc)) (hSZ.same sc)⟩
def spLaw05 (K : PySem.W.Frag) : Sp := fun vs H Q _ => ∃ (a : Addr) (ns : List Int), vs = [.ref a] ∧ SqL K H a (ns.map V.int) ∧ ns.length ≤ 63 ∧ ∀ H', Q (.bl true) H'
abbrev nLaw05 : List Str := ["_law_script", "_law_k", "_law_source_here", "_law_lap", "_law_some_here", "_law_rules", "_law_case_here", "_law_due"]
theorem sc_law05 : FnScope nLaw05 ["_law_script"] (defScope s_law) := ⟨rfl, rfl, rfl, by decide +kernel, rfl, by decide +kernel, by decide +kernel⟩
theorem ok_law05 {f fD fC' fK fP fS fL fO fT fI fU fR' fC fW fQ C D pR fR fCl pP fG : Addr} {mc : Value} {fd dD dC' dK dP dS dL dO dT dI dU dR' dC dW dQ dR dCl dG : FuncData}
    (F : Fun K "law" "law" s_law f fd) (b : Binds K fd ["_law_script"] []) (B : Blt mg) (L : LawFns K mg fD fC' fK fP dD dC' dK dP) (W : LawDefs K mg fS fL fO fT fI fU fR' fC fW fQ dS dL dO dT dI dU dR' dC dW dQ) (T : RulT K mg C mc pR fR fCl pP fG)
    (mL : mg "Listing" = some (.ref D)) (isi : PySem.W.kitOne K (.ref C) (.ref D) = some true)
    (GR : FnOk P w K mg base CX0 9 fR dR ["cls", "text"] (spRead C)) (bR : Binds K dR ["cls", "text"] []) (GX : FnOk P w K mg base CX0 6 fCl dCl ["self", "case"] (spCallR C)) (bX : Binds K dCl ["self", "case"] [])
    (GG : FnOk P w K mg base CX0 1 fG dG ["self"] (getSp C "held")) (bG : Binds K dG ["self"] []) : FnG P w K mg base CX0 11 f (spLaw05 K) := by
  have GW : FnG P w K mg base CX0 10 fW spWide := ok_wide B L W T GR bR GX bX
  have GC : FnOk P w K mg base CX0 10 fC' dC' ["_law_source_here", "_law_values"] spChoose := (ok_choose L.FC B L.mD L.FD L.bD).mono (by decide)
  have GS : FnOk P w K mg base CX0 10 fS dS ["_law_cell_here"] spSource := (ok_source W.S.F B).mono (by decide)
  have GL : FnOk P w K mg base CX0 10 fL dL ["_law_script", "_law_index"] (spCell K) := (ok_cell W.L.F B).mono (by decide)
  have GO : FnOk P w K mg base CX0 10 fO dO ["_law_source_here", "_law_most"] spSome := (ok_some W.O.F B L).mono (by decide)
  have GT : FnOk P w K mg base CX0 10 fT dT ["_law_some_here"] spText := (ok_text W.T.F B).mono (by decide)
  have GN : FnOk P w K mg base CX0 10 fR' dR' ["_law_some_here", "_law_case_here"] spLRes := (ok_lres W.R.F B W.U W.I).mono (by decide)
  have GA : FnOk P w K mg base CX0 10 fC dC ["_law_source_here", "_law_some_here"] spCases := (ok_cases W.C.F B L).mono (by decide)
  have GQ : FnG P w K mg base CX0 10 fQ (spSame K) := (ok_same W.Q.F W.Q.b B).mono (by decide)
  have RR := (GR.mono (show 9 ≤ 10 by decide)).raw bR .nil
  have RX := (GX.mono (show 6 ≤ 10 by decide)).raw bX .nil
  refine okG F sc_law05 b (fun vs H Q E h => ?_) (fun cdv A outer s H vs Q E hg hr h => ?_)
  · obtain ⟨a, ns, rfl, _⟩ := h
    rfl
  · obtain ⟨a, ns, rfl, hA, hlen, q⟩ := h
    have hr2 : Room 2 (A.deeper (envOfC "law" (defScope s_law) s.heap.objs.size f cdv)) := hr.mono (by decide)
    have hg' : (A.deeper (envOfC "law" (defScope s_law) s.heap.objs.size f cdv)).guards = some [] := hg
    refine ⟨_, pss_one (ps_try_thru0 (pss_cons (ps_for PassesOwn.never rfl
        (pi_range1 rfl B.range (pa_cons (pe_callB (call_max2 rfl) (by rfl) B.max (by decide +kernel) (pa_cons pe_int (pa_cons (pe_callB (call_min2 rfl) (by rfl) B.min (by decide +kernel) (pa_cons (pe_callB call_len_seq (by rfl) B.len PySem.boot_len (pa_cons (pv 0) pa_nil)) (pa_cons pe_int pa_nil))) pa_nil))) pa_nil)) (pg_name (i := 1) sc_law05.nd rfl (.inl rfl))
        (pss_cons (ps_set (i := 2) sc_law05.nd rfl (.inl rfl) (pe_call GS hr rfl W.S.m W.S.F.kp W.S.b .nil pass0 (pa_cons (pe_call GL hr rfl W.L.m W.L.F.kp W.L.b .nil pass0 (pa_cons (pv 0) (pa_cons (pv 1) pa_nil))) pa_nil)))
        (pss_cons (ps_if (pt_not (pt_val (pe_callG (E := E0) GW hg' hr rfl W.W.m W.W.F.kp passAny (pa_cons (pv 2) pa_nil)))) (pss_one ps_never) pss_nil)
        (pss_one (ps_for PassesOwn.never rfl (pi_range1 rfl B.range (pa_cons pe_int pa_nil)) (pg_name (i := 3) sc_law05.nd rfl (.inl rfl))
          (pss_cons (ps_set (i := 4) sc_law05.nd rfl (.inl rfl) (pe_call GO hr rfl W.O.m W.O.F.kp W.O.b .nil pass0 (pa_cons (pv 2) (pa_cons (pe_call GC hr rfl L.mC L.FC.kp L.bC .nil pass0 (pa_cons (pv 2) (pa_cons (pe_lst (pa_cons pe_int (pa_cons pe_int (pa_cons pe_int pa_nil)))) pa_nil))) pa_nil))))
          (pss_cons (ps_set (i := 5) sc_law05.nd rfl (.inl rfl) (ClX.pe_cmeth (E := E0) (pe_glob (v := .ref C) rfl T.mR rfl) T.rd T.cm RR hr passAny (pa_cons (pe_call GT hr rfl W.T.m W.T.F.kp W.T.b .nil pass0 (pa_cons (pv 4) pa_nil)) pa_nil)))
          (pss_cons (ps_for PassesOwn.never rfl (pi_list (pe_call GA hr rfl W.C.m W.C.F.kp W.C.b .nil pass0 (pa_cons (pv 2) (pa_cons (pv 4) pa_nil)))) (pg_name (i := 6) sc_law05.nd rfl (.inl rfl))
              (pss_cons (ps_set (i := 7) sc_law05.nd rfl (.inl rfl) (pe_call GN hr rfl W.R.m W.R.F.kp W.R.b .nil pass0 (pa_cons (pv 4) (pa_cons (pv 6) pa_nil))))
              (pss_one (ps_if (pt_not (pt_val (pe_callG (E := E0) GQ hg' hr rfl W.Q.m W.Q.F.kp passAny
                (pa_cons (pe_lst (pa_cons (StX.pe_callO (E := E0) (pv 5) T.co RX hr passAny (pa_cons (pv 6) pa_nil)) (pa_cons (StX.pe_callO (E := E0) (pv 5) T.co RX hr passAny (pa_cons (pv 6) pa_nil)) pa_nil))) (pa_cons (pe_lst (pa_cons (pv 7) (pa_cons (pv 7) pa_nil))) pa_nil)))))
                (pss_one ps_never) pss_nil))))
          (pss_one (ps_if (PW.pt (pw_or (pt_not (pt_val (pe_callB call_isi (by rfl) B.isinstance boot_isinstance' (pa_cons (pv 5) (pa_cons (pe_glob (v := .ref D) rfl mL rfl) pa_nil)))))
              (pw_or1 (pt_not (pt_val (pe_callG (E := E0) GQ hg' hr rfl W.Q.m W.Q.F.kp passAny (pa_cons (pe_prop (E := E0) (pv 5) T.cl T.pr GG hr2 bG .nil passAny rfl) (pa_cons (pe_callTy call_tuple_of (by rfl) B.tuple (by decide +kernel) (pa_cons (pv 4) pa_nil)) pa_nil))))))))
              (pss_one ps_never) pss_nil))))))))))
        (pss_one (ps_ret pe_bl)))), ?_⟩
    refine ⟨_, rfl, a, _, rfl, .inl hA, _, _, rfl, _, _, rfl, _, rfl, turns_lo _, turns_hi _, ?_⟩
    refine for_range (lo := 0) (fun i σ H' => ∃ o1 o2 o3 o4 o5 o6 o7 : Option V, σ = [some (.ref a), o1, o2, o3, o4, o5, o6, o7] ∧ Same H H') ⟨none, none, none, none, none, none, none, rfl, Same.refl _⟩ ?_ (fun σ H' _ => q H')
    rintro i σ H1 hi ⟨o1, o2, o3, o4, o5, o6, o7, rfl, sm1⟩
    refine ⟨_, rfl, _, rfl, a, ns, i, by rw [Int.zero_add]; rfl, sm1.seq hA, fun c => ⟨c, rfl, fun H2 S hS1 sm2 hS2 => ?_⟩⟩
    have hS0 : H S = none := sm1.free hS1
    refine ⟨_, rfl, S, rfl, hS2, fun H3 sb3 hS3 => ⟨true, rfl, iteF ?_⟩⟩
    have sm3 : Same H H3 := SB.fresh (sm1.trans sm2) sb3 hS0
    refine ⟨6, rfl, by decide, by decide, for_range (lo := 0) (n := 6) (fun j σ H' => ∃ o3 o4 o5 o6 o7 : Option V, σ = [some (.ref a), some (.int (0 + (i : Int))), some (.ref S), o3, o4, o5, o6, o7] ∧ Same H H' ∧ Src H' S)
      ⟨o3, o4, o5, o6, o7, rfl, sm3, hS3⟩ ?_ ?_⟩
    · clear hS2 sm2 sb3 hS3 sm3
      rintro j σ H2 hj ⟨o3, o4, o5, o6, o7, rfl, sm2, hS2⟩
      refine ⟨_, rfl, _, rfl, by decide, fun p hp => ⟨S, p, _, rfl, hS2.same (Same.new hp), hS2.ne hp, upd_same, by decide, by decide, fun H3 v sb3 hS3 hv => ?_⟩⟩
      obtain ⟨m, rfl, m0, m12⟩ : ∃ m : Int, v = .int m ∧ 0 ≤ m ∧ m ≤ 12 := by
        simp only [List.mem_cons, List.mem_singleton, List.not_mem_nil, or_false] at hv
        rcases hv with rfl | rfl | rfl
        · exact ⟨3, rfl, by decide, by decide⟩
        · exact ⟨6, rfl, by decide, by decide⟩
        · exact ⟨12, rfl, by decide, by decide⟩
      refine ⟨S, m, rfl, hS3, m0, m12, fun H4 l refs rs sb4 hS4 hl hlS nr ok => ?_⟩
      have sm4 : Same H H4 := SB.fresh (SB.fresh (sm2.trans (Same.new hp)) sb3 hS0) sb4 hS0
      have ok12 : RulesOk 12 rs := ok.toRulesOk.up (by omega)
      refine ⟨rfl, _, rfl, l, refs, rs, rfl, nr, ok12.up (by decide), fun H5 sm5 => ⟨rs, rfl, ok12, fun H6 x sm6 hx hold => ?_⟩⟩
      have s46 := sm5.trans sm6
      have nr6 := nr.same s46
      have hS6 := hS4.same s46
      -- for case in cases(..)
      refine ⟨_, rfl, _, rfl, S, l, refs, rs, rfl, hS6, hlS, nr6, ok12, fun H7 tl trefs cs sb7 hS7 htl htlS nc clen => ?_⟩
      have sm7 : Same H H7 := SB.fresh (sm4.trans s46) sb7 hS0
      have nr7 := nr6.mono sb7 hS6 hlS
      have hold7 := hold.sb sb7 hS6
      refine ⟨tl, rfl, ⟨_, SqL.of nc.at_⟩, for_list (K := K) (a := tl) (xs := trefs) (fun n σ H' => ∃ o6 o7 : Option V, σ = [some (.ref a), some (.int (0 + (i : Int))), some (.ref S), some (.int (0 + (j : Int))), some (.ref l), some (.ref x), o6, o7] ∧ Same H7 H')
        ⟨o6, o7, rfl, Same.refl _⟩ (fun n σ H' _ ⟨_, _, _, h⟩ => SqL.of (h _ _ nc.at_)) ?_ ?_⟩
      · rintro n v σ H9 hv ⟨o6, o7, rfl, sm9⟩
        obtain ⟨c0, hc0, tv⟩ := nc.td.pick (List.mem_of_getElem? hv)
        have okc0 := nc.ok c0 hc0
        obtain ⟨t, _, rfl, _, _⟩ := TD.tupv tv
        refine ⟨_, rfl, _, rfl, l, t, refs, rs, c0, rfl, nr7.same sm9, ok12, tv.mono (TK.same sm9), fun H10 dt nd sm10 hdt res => ?_⟩
        have s10 : Same H7 H10 := sm9.trans sm10
        obtain ⟨dx, _, _, hx1, _, _⟩ := id (hold7.same s10)
        refine ⟨_, rfl, x, rfl, _, rfl, .inr ⟨dx, _, hx1⟩, x, t, rs, c0, rfl, hold7.same s10, ok12, tv.mono (TK.same s10), okc0, fun H11 p11 n11 sm11 hp11 r11 => ?_⟩
        obtain rfl : n11 = nd := res_same r11 res
        have s11 : Same H7 H11 := s10.trans sm11
        refine ⟨_, rfl, x, rfl, _, rfl, .inr ⟨dx, _, sm11 _ _ hx1⟩, x, t, rs, c0, rfl, hold7.same s11, ok12, tv.mono (TK.same s11), okc0, fun H12 p12 n12 sm12 hp12 r12 => ?_⟩
        obtain rfl : n12 = n11 := res_same r12 res
        refine ⟨(by decide : 2 ≤ sizeLine), fun q1 hq1 => ⟨_, rfl, _, rfl, (by decide : 2 ≤ sizeLine), fun q2 hq2 => ?_⟩⟩
        have sa : Same H12 (upd H12 q1 (.lst [.ref p11, .ref p12])) := Same.new hq1
        generalize hB1 : upd H12 q1 (.lst [.ref p11, .ref p12]) = B1 at *
        have eb1 : B1 q1 = some (.lst [.ref p11, .ref p12]) := by rw [← hB1]; exact upd_same
        have sb' : Same B1 (upd B1 q2 (.lst [.ref dt, .ref dt])) := Same.new hq2
        have s2 := sa.trans sb'
        have t11 : TD (upd B1 q2 (.lst [.ref dt, .ref dt])) (.ref p11) (.tuple (n12.map PyData.int)) := .tup (s2 _ _ (sm12 _ _ hp11)) (ints_td n12)
        have t12 : TD (upd B1 q2 (.lst [.ref dt, .ref dt])) (.ref p12) (.tuple (n12.map PyData.int)) := .tup (s2 _ _ hp12) (ints_td n12)
        have tdt : TD (upd B1 q2 (.lst [.ref dt, .ref dt])) (.ref dt) (.tuple (n12.map PyData.int)) := .tup (s2 _ _ (sm12 _ _ (sm11 _ _ hdt))) (ints_td n12)
        obtain ⟨h1, h2⟩ := ints_short (res_bound res ok12.each) (res_few res ok12.each)
        obtain ⟨w1, w2, w3, w4⟩ := pair_ok (Nat.le_trans h1 (by decide)) h2 (ints_nodict n12) (ints_flat n12) (Nat.le_trans h1 (by decide)) h2 (ints_nodict n12) (ints_flat n12)
        refine ⟨q1, q2, _, rfl, .lst (SqL.of (sb' _ _ eb1)) (TDs.dp (.cons t11 (.cons t12 .nil))), .lst (SqL.of upd_same) (TDs.dp (.cons tdt (.cons tdt .nil))), w1, w2, w3, w4, true, rfl, iteF ?_⟩
        exact ⟨_, _, rfl, s11.trans (sm12.trans s2)⟩
      · rintro σ H9 ⟨o6, o7, rfl, sm9⟩
        have nr9 := nr7.same sm9
        obtain ⟨dx, t1, xs, hx1, ht1, tx⟩ := hold7.same sm9
        refine ⟨_, rfl, _, _, _, _, true, rfl, .own D, .base (.ins hx1 T.cl T.ha T.hn T.htk T.hm), isi, true, rfl, ?_⟩
        refine iteF ⟨_, rfl, x, dx, _, rfl, hx1, x, dx, _, _, rfl, hx1, rfl, _, rfl, l, refs, rfl, .inl ⟨SqL.of nr9.1, fun t2 ht2 => ?_⟩⟩
        have sa : Same H9 (upd H9 t2 (.tup refs)) := Same.new ht2
        obtain ⟨w1, w2⟩ := rules_shown ok12 (by decide)
        refine ⟨t1, t2, .tuple (rs.map ruleD), rfl, .tup (SqT.of (sa _ _ ht1)) (tx.mono (TK.same sa)).dp, .tup (SqT.of upd_same) (nr9.2.mono (TK.same sa)).dp, w2, rules_nodict rs, rules_dep rs, w1, true, rfl, iteF ?_⟩
        exact ⟨_, _, _, _, _, rfl, sm7.trans (sm9.trans sa), (hS7.same sm9).same sa⟩
    · rintro σ H' ⟨o3, o4, o5, o6, o7, rfl, sm, _⟩
      exact ⟨_, _, _, _, _, _, _, rfl, sm⟩
end
end Cr

namespace Cr
open PySem PySem.Spec PyProof.Rows L2
theorem kit_own {K : PySem.W.Frag} {C D : Addr} {cd : ClassData} (h1 : PySem.W.clsIn K D = some cd) (h2 : PySem.W.typeIn K (.ref D) = some (.type "type")) (h3 : PySem.W.subIn K (.ref C) (.ref D) = some true) : PySem.W.kitOne K (.ref C) (.ref D) = some true := by
  unfold PySem.W.kitOne
  split
  · rfl
  · show (if ((PySem.W.clsIn K D).isSome && PySem.W.typeIn K (.ref D) == some (.type "type")) = true then PySem.W.subIn K (.ref C) (.ref D) else none) = some true
    rw [h1, h2, h3]
    exact if_pos (by simp)
theorem lookup_free : ∀ {l : List (Str × NameKind)}, (∀ p ∈ l, p.2 = .free → p.1 = ("__class__" : Str)) → ∀ y, l.lookup y = some .free → y = ("__class__" : Str)
  | [], _, y, h => by cases h
  | (a, b) :: l, hl, y, h => by
    rw [List.lookup_cons] at h
    cases e : y == a with
    | true =>
      rw [e] at h
      obtain rfl := eq_of_beq e
      exact hl _ List.mem_cons_self (Option.some.inj h)
    | false =>
      rw [e] at h
      exact lookup_free (fun p hp => hl p (List.mem_cons_of_mem _ hp)) y h
theorem all_mk05 {P : Program} {w : World} {K : PySem.W.Frag} {h : Heap} {mg : Str → Option Value} {fa : Addr} (X : K.In h) (G : h.Ns mainGlobals mg) (hfa : mg "law" = some (.ref fa))
    {fiN : Addr} {ociN kViN dciN pmiN cdiN ctiN : Value} {odiN aniN : Option Addr} {sliN : Array (Option Value)}
    {fiC : Addr} {ociC kViC dciC pmiC cdiC ctiC : Value} {odiC aniC : Option Addr} {sliC : Array (Option Value)}
    {fiK : Addr} {ociK kViK dciK pmiK cdiK ctiK : Value} {odiK aniK : Option Addr} {sliK : Array (Option Value)}
    {fiR : Addr} {ociR kViR dciR pmiR cdiR ctiR : Value} {odiR aniR : Option Addr} {sliR : Array (Option Value)}
    {faR : Addr} {ocaR kVaR dcaR pmaR cdaR ctaR : Value} {odaR anaR : Option Addr} {slaR : Array (Option Value)}
    {fnC : Addr} {ocnC kVnC dcnC pmnC cdnC ctnC : Value} {odnC annC : Option Addr} {slnC : Array (Option Value)}
    {flW : Addr} {oclW kVlW dclW pmlW cdlW ctlW : Value} {odlW anlW : Option Addr} {sllW : Array (Option Value)}
    {fmtR : Addr} {ocmtR kVmtR dcmtR pmmtR cdmtR ctmtR : Value} {odmtR anmtR : Option Addr} {slmtR : Array (Option Value)}
    {fsW : Addr} {ocsW kVsW dcsW pmsW cdsW ctsW : Value} {odsW ansW : Option Addr} {slsW : Array (Option Value)}
    {fbn : Addr} {ocbn kVbn dcbn pmbn cdbn ctbn : Value} {odbn anbn : Option Addr} {slbn : Array (Option Value)}
    {fdc : Addr} {ocdc kVdc dcdc pmdc cddc ctdc : Value} {oddc andc : Option Addr} {sldc : Array (Option Value)}
    {frf : Addr} {ocrf kVrf dcrf pmrf cdrf ctrf : Value} {odrf anrf : Option Addr} {slrf : Array (Option Value)}
    {frN : Addr} {ocrN kVrN dcrN pmrN cdrN ctrN : Value} {odrN anrN : Option Addr} {slrN : Array (Option Value)}
    {frC : Addr} {ocrC kVrC dcrC pmrC cdrC ctrC : Value} {odrC anrC : Option Addr} {slrC : Array (Option Value)}
    {frR : Addr} {ocrR kVrR dcrR pmrR cdrR ctrR : Value} {odrR anrR : Option Addr} {slrR : Array (Option Value)}
    {frA : Addr} {ocrA kVrA dcrA pmrA cdrA ctrA : Value} {odrA anrA : Option Addr} {slrA : Array (Option Value)}
    {fwL : Addr} {ocwL kVwL dcwL pmwL cdwL ctwL : Value} {odwL anwL : Option Addr} {slwL : Array (Option Value)}
    {fwS : Addr} {ocwS kVwS dcwS pmwS cdwS ctwS : Value} {odwS anwS : Option Addr} {slwS : Array (Option Value)}
    {fwD : Addr} {ocwD kVwD dcwD pmwD cdwD ctwD : Value} {odwD anwD : Option Addr} {slwD : Array (Option Value)}
    {fwC : Addr} {ocwC kVwC dcwC pmwC cdwC ctwC : Value} {odwC anwC : Option Addr} {slwC : Array (Option Value)}
    {fwQ : Addr} {ocwQ kVwQ dcwQ pmwQ cdwQ ctwQ : Value} {odwQ anwQ : Option Addr} {slwQ : Array (Option Value)}
    {fwK : Addr} {ocwK kVwK dcwK pmwK cdwK ctwK : Value} {odwK anwK : Option Addr} {slwK : Array (Option Value)}
    {fwP : Addr} {ocwP kVwP dcwP pmwP cdwP ctwP : Value} {odwP anwP : Option Addr} {slwP : Array (Option Value)}
    {fwO : Addr} {ocwO kVwO dcwO pmwO cdwO ctwO : Value} {odwO anwO : Option Addr} {slwO : Array (Option Value)}
    {fwT : Addr} {ocwT kVwT dcwT pmwT cdwT ctwT : Value} {odwT anwT : Option Addr} {slwT : Array (Option Value)}
    {fwI : Addr} {ocwI kVwI dcwI pmwI cdwI ctwI : Value} {odwI anwI : Option Addr} {slwI : Array (Option Value)}
    {fwU : Addr} {ocwU kVwU dcwU pmwU cdwU ctwU : Value} {odwU anwU : Option Addr} {slwU : Array (Option Value)}
    {fwR : Addr} {ocwR kVwR dcwR pmwR cdwR ctwR : Value} {odwR anwR : Option Addr} {slwR : Array (Option Value)}
    {fwCs : Addr} {ocwCs kVwCs dcwCs pmwCs cdwCs ctwCs : Value} {odwCs anwCs : Option Addr} {slwCs : Array (Option Value)}
    {fwW : Addr} {ocwW kVwW dcwW pmwW cdwW ctwW : Value} {odwW anwW : Option Addr} {slwW : Array (Option Value)}
    {flaw : Addr} {oclaw kVlaw dclaw pmlaw cdlaw ctlaw : Value} {odlaw anlaw : Option Addr} {sllaw : Array (Option Value)}
    {C D pR pP fO fI cda cc : Addr} {mc : Value} {cdC cdD : ClassData} {restR restP : List Value}
    {ocO kVO dcO pmO ctO ccl cl0 : Value} {odO anO cdd cld : Option Addr} {slO ccs csl : Array (Option Value)} {vs : Array Value} {file : Str} {tf : Tok}
    {ocI kVI dcI pmI cdI ctI : Value} {odI anI : Option Addr} {slI : Array (Option Value)}
    {fmR : Addr} {ocmR kVmR dcmR pmmR cdmR ctmR : Value} {odmR anmR : Option Addr} {slmR : Array (Option Value)}
    {fmX : Addr} {ocmX kVmX dcmX pmmX cdmX ctmX : Value} {odmX anmX : Option Addr} {slmX : Array (Option Value)}
    {fG : Addr} {ocG kVG dcG pmG cdG ctG : Value} {odG anG : Option Addr} {slG : Array (Option Value)}
    {t_attr : Tok}
    {t_val : Tok}
    {t_res : Tok}
    {t_rules : Tok}
    (a_iN : PySem.W.nsIn K mainGlobals "is_number" = some (some (.ref fiN)))
    (l_iN : K.lookup fiN = some ⟨ociN, odiN, .func (PySem.W.fnOf "is_number" "is_number" (defArgs s_is_number) (defBody s_is_number) (defScope s_is_number) .none kViN dciN pmiN aniN cdiN ctiN), sliN⟩) (c_iN : PySem.W.codeIn K cdiN "is_number" = true)
    (k_iN : PySem.W.keepIn K (.ref fiN) = true)
    (a_iC : PySem.W.nsIn K mainGlobals "is_condition" = some (some (.ref fiC)))
    (l_iC : K.lookup fiC = some ⟨ociC, odiC, .func (PySem.W.fnOf "is_condition" "is_condition" (defArgs s_is_condition) (defBody s_is_condition) (defScope s_is_condition) .none kViC dciC pmiC aniC cdiC ctiC), sliC⟩) (c_iC : PySem.W.codeIn K cdiC "is_condition" = true)
    (k_iC : PySem.W.keepIn K (.ref fiC) = true)
    (a_iK : PySem.W.nsIn K mainGlobals "is_case" = some (some (.ref fiK)))
    (l_iK : K.lookup fiK = some ⟨ociK, odiK, .func (PySem.W.fnOf "is_case" "is_case" (defArgs s_is_case) (defBody s_is_case) (defScope s_is_case) .none kViK dciK pmiK aniK cdiK ctiK), sliK⟩) (c_iK : PySem.W.codeIn K cdiK "is_case" = true)
    (k_iK : PySem.W.keepIn K (.ref fiK) = true)
    (a_iR : PySem.W.nsIn K mainGlobals "is_rule" = some (some (.ref fiR)))
    (l_iR : K.lookup fiR = some ⟨ociR, odiR, .func (PySem.W.fnOf "is_rule" "is_rule" (defArgs s_is_rule) (defBody s_is_rule) (defScope s_is_rule) .none kViR dciR pmiR aniR cdiR ctiR), sliR⟩) (c_iR : PySem.W.codeIn K cdiR "is_rule" = true)
    (k_iR : PySem.W.keepIn K (.ref fiR) = true)
    (a_aR : PySem.W.nsIn K mainGlobals "are_rules" = some (some (.ref faR)))
    (l_aR : K.lookup faR = some ⟨ocaR, odaR, .func (PySem.W.fnOf "are_rules" "are_rules" (defArgs s_are_rules) (defBody s_are_rules) (defScope s_are_rules) .none kVaR dcaR pmaR anaR cdaR ctaR), slaR⟩) (c_aR : PySem.W.codeIn K cdaR "are_rules" = true)
    (k_aR : PySem.W.keepIn K (.ref faR) = true)
    (a_nC : PySem.W.nsIn K mainGlobals "need_case" = some (some (.ref fnC)))
    (l_nC : K.lookup fnC = some ⟨ocnC, odnC, .func (PySem.W.fnOf "need_case" "need_case" (defArgs s_need_case) (defBody s_need_case) (defScope s_need_case) .none kVnC dcnC pmnC annC cdnC ctnC), slnC⟩) (c_nC : PySem.W.codeIn K cdnC "need_case" = true)
    (k_nC : PySem.W.keepIn K (.ref fnC) = true)
    (a_lW : PySem.W.nsIn K mainGlobals "lies_within" = some (some (.ref flW)))
    (l_lW : K.lookup flW = some ⟨oclW, odlW, .func (PySem.W.fnOf "lies_within" "lies_within" (defArgs s_lies_within) (defBody s_lies_within) (defScope s_lies_within) .none kVlW dclW pmlW anlW cdlW ctlW), sllW⟩) (c_lW : PySem.W.codeIn K cdlW "lies_within" = true)
    (k_lW : PySem.W.keepIn K (.ref flW) = true)
    (a_mtR : PySem.W.nsIn K mainGlobals "matching_rules" = some (some (.ref fmtR)))
    (l_mtR : K.lookup fmtR = some ⟨ocmtR, odmtR, .func (PySem.W.fnOf "matching_rules" "matching_rules" (defArgs s_matching_rules) (defBody s_matching_rules) (defScope s_matching_rules) .none kVmtR dcmtR pmmtR anmtR cdmtR ctmtR), slmtR⟩) (c_mtR : PySem.W.codeIn K cdmtR "matching_rules" = true)
    (k_mtR : PySem.W.keepIn K (.ref fmtR) = true)
    (a_sW : PySem.W.nsIn K mainGlobals "lies_strictly_within" = some (some (.ref fsW)))
    (l_sW : K.lookup fsW = some ⟨ocsW, odsW, .func (PySem.W.fnOf "lies_strictly_within" "lies_strictly_within" (defArgs s_lies_strictly_within) (defBody s_lies_strictly_within) (defScope s_lies_strictly_within) .none kVsW dcsW pmsW ansW cdsW ctsW), slsW⟩) (c_sW : PySem.W.codeIn K cdsW "lies_strictly_within" = true)
    (k_sW : PySem.W.keepIn K (.ref fsW) = true)
    (a_bn : PySem.W.nsIn K mainGlobals "is_beaten" = some (some (.ref fbn)))
    (l_bn : K.lookup fbn = some ⟨ocbn, odbn, .func (PySem.W.fnOf "is_beaten" "is_beaten" (defArgs s_is_beaten) (defBody s_is_beaten) (defScope s_is_beaten) .none kVbn dcbn pmbn anbn cdbn ctbn), slbn⟩) (c_bn : PySem.W.codeIn K cdbn "is_beaten" = true)
    (k_bn : PySem.W.keepIn K (.ref fbn) = true)
    (a_dc : PySem.W.nsIn K mainGlobals "deciding_rules" = some (some (.ref fdc)))
    (l_dc : K.lookup fdc = some ⟨ocdc, oddc, .func (PySem.W.fnOf "deciding_rules" "deciding_rules" (defArgs s_deciding_rules) (defBody s_deciding_rules) (defScope s_deciding_rules) .none kVdc dcdc pmdc andc cddc ctdc), sldc⟩) (c_dc : PySem.W.codeIn K cddc "deciding_rules" = true)
    (k_dc : PySem.W.keepIn K (.ref fdc) = true)
    (a_rf : PySem.W.nsIn K mainGlobals "results_for" = some (some (.ref frf)))
    (l_rf : K.lookup frf = some ⟨ocrf, odrf, .func (PySem.W.fnOf "results_for" "results_for" (defArgs s_results_for) (defBody s_results_for) (defScope s_results_for) .none kVrf dcrf pmrf anrf cdrf ctrf), slrf⟩) (c_rf : PySem.W.codeIn K cdrf "results_for" = true)
    (k_rf : PySem.W.keepIn K (.ref frf) = true)
    (a_rN : PySem.W.nsIn K mainGlobals "read_number" = some (some (.ref frN)))
    (l_rN : K.lookup frN = some ⟨ocrN, odrN, .func (PySem.W.fnOf "read_number" "read_number" (defArgs s_read_number) (defBody s_read_number) (defScope s_read_number) .none kVrN dcrN pmrN anrN cdrN ctrN), slrN⟩) (c_rN : PySem.W.codeIn K cdrN "read_number" = true)
    (k_rN : PySem.W.keepIn K (.ref frN) = true)
    (a_rC : PySem.W.nsIn K mainGlobals "read_condition" = some (some (.ref frC)))
    (l_rC : K.lookup frC = some ⟨ocrC, odrC, .func (PySem.W.fnOf "read_condition" "read_condition" (defArgs s_read_condition) (defBody s_read_condition) (defScope s_read_condition) .none kVrC dcrC pmrC anrC cdrC ctrC), slrC⟩) (c_rC : PySem.W.codeIn K cdrC "read_condition" = true)
    (k_rC : PySem.W.keepIn K (.ref frC) = true)
    (a_rR : PySem.W.nsIn K mainGlobals "read_rule" = some (some (.ref frR)))
    (l_rR : K.lookup frR = some ⟨ocrR, odrR, .func (PySem.W.fnOf "read_rule" "read_rule" (defArgs s_read_rule) (defBody s_read_rule) (defScope s_read_rule) .none kVrR dcrR pmrR anrR cdrR ctrR), slrR⟩) (c_rR : PySem.W.codeIn K cdrR "read_rule" = true)
    (k_rR : PySem.W.keepIn K (.ref frR) = true)
    (a_rA : PySem.W.nsIn K mainGlobals "read_rules" = some (some (.ref frA)))
    (l_rA : K.lookup frA = some ⟨ocrA, odrA, .func (PySem.W.fnOf "read_rules" "read_rules" (defArgs s_read_rules) (defBody s_read_rules) (defScope s_read_rules) .none kVrA dcrA pmrA anrA cdrA ctrA), slrA⟩) (c_rA : PySem.W.codeIn K cdrA "read_rules" = true)
    (k_rA : PySem.W.keepIn K (.ref frA) = true)
    (a_wL : PySem.W.nsIn K mainGlobals "_law_cell" = some (some (.ref fwL)))
    (l_wL : K.lookup fwL = some ⟨ocwL, odwL, .func (PySem.W.fnOf "_law_cell" "_law_cell" (defArgs s_law_cell) (defBody s_law_cell) (defScope s_law_cell) .none kVwL dcwL pmwL anwL cdwL ctwL), slwL⟩) (c_wL : PySem.W.codeIn K cdwL "_law_cell" = true)
    (k_wL : PySem.W.keepIn K (.ref fwL) = true)
    (a_wS : PySem.W.nsIn K mainGlobals "_law_source" = some (some (.ref fwS)))
    (l_wS : K.lookup fwS = some ⟨ocwS, odwS, .func (PySem.W.fnOf "_law_source" "_law_source" (defArgs s_law_source) (defBody s_law_source) (defScope s_law_source) .none kVwS dcwS pmwS anwS cdwS ctwS), slwS⟩) (c_wS : PySem.W.codeIn K cdwS "_law_source" = true)
    (k_wS : PySem.W.keepIn K (.ref fwS) = true)
    (a_wD : PySem.W.nsIn K mainGlobals "_law_draw" = some (some (.ref fwD)))
    (l_wD : K.lookup fwD = some ⟨ocwD, odwD, .func (PySem.W.fnOf "_law_draw" "_law_draw" (defArgs s_law_draw) (defBody s_law_draw) (defScope s_law_draw) .none kVwD dcwD pmwD anwD cdwD ctwD), slwD⟩) (c_wD : PySem.W.codeIn K cdwD "_law_draw" = true)
    (k_wD : PySem.W.keepIn K (.ref fwD) = true)
    (a_wC : PySem.W.nsIn K mainGlobals "_law_choose" = some (some (.ref fwC)))
    (l_wC : K.lookup fwC = some ⟨ocwC, odwC, .func (PySem.W.fnOf "_law_choose" "_law_choose" (defArgs s_law_choose) (defBody s_law_choose) (defScope s_law_choose) .none kVwC dcwC pmwC anwC cdwC ctwC), slwC⟩) (c_wC : PySem.W.codeIn K cdwC "_law_choose" = true)
    (k_wC : PySem.W.keepIn K (.ref fwC) = true)
    (a_wQ : PySem.W.nsIn K mainGlobals "_law_is_equal" = some (some (.ref fwQ)))
    (l_wQ : K.lookup fwQ = some ⟨ocwQ, odwQ, .func (PySem.W.fnOf "_law_is_equal" "_law_is_equal" (defArgs s_law_is_equal) (defBody s_law_is_equal) (defScope s_law_is_equal) .none kVwQ dcwQ pmwQ anwQ cdwQ ctwQ), slwQ⟩) (c_wQ : PySem.W.codeIn K cdwQ "_law_is_equal" = true)
    (k_wQ : PySem.W.keepIn K (.ref fwQ) = true)
    (a_wK : PySem.W.nsIn K mainGlobals "_law_case" = some (some (.ref fwK)))
    (l_wK : K.lookup fwK = some ⟨ocwK, odwK, .func (PySem.W.fnOf "_law_case" "_law_case" (defArgs s_law_case) (defBody s_law_case) (defScope s_law_case) .none kVwK dcwK pmwK anwK cdwK ctwK), slwK⟩) (c_wK : PySem.W.codeIn K cdwK "_law_case" = true)
    (k_wK : PySem.W.keepIn K (.ref fwK) = true)
    (a_wP : PySem.W.nsIn K mainGlobals "_law_part" = some (some (.ref fwP)))
    (l_wP : K.lookup fwP = some ⟨ocwP, odwP, .func (PySem.W.fnOf "_law_part" "_law_part" (defArgs s_law_part) (defBody s_law_part) (defScope s_law_part) .none kVwP dcwP pmwP anwP cdwP ctwP), slwP⟩) (c_wP : PySem.W.codeIn K cdwP "_law_part" = true)
    (k_wP : PySem.W.keepIn K (.ref fwP) = true)
    (a_wO : PySem.W.nsIn K mainGlobals "_law_some" = some (some (.ref fwO)))
    (l_wO : K.lookup fwO = some ⟨ocwO, odwO, .func (PySem.W.fnOf "_law_some" "_law_some" (defArgs s_law_some) (defBody s_law_some) (defScope s_law_some) .none kVwO dcwO pmwO anwO cdwO ctwO), slwO⟩) (c_wO : PySem.W.codeIn K cdwO "_law_some" = true)
    (k_wO : PySem.W.keepIn K (.ref fwO) = true)
    (a_wT : PySem.W.nsIn K mainGlobals "_law_text" = some (some (.ref fwT)))
    (l_wT : K.lookup fwT = some ⟨ocwT, odwT, .func (PySem.W.fnOf "_law_text" "_law_text" (defArgs s_law_text) (defBody s_law_text) (defScope s_law_text) .none kVwT dcwT pmwT anwT cdwT ctwT), slwT⟩) (c_wT : PySem.W.codeIn K cdwT "_law_text" = true)
    (k_wT : PySem.W.keepIn K (.ref fwT) = true)
    (a_wI : PySem.W.nsIn K mainGlobals "_law_inside" = some (some (.ref fwI)))
    (l_wI : K.lookup fwI = some ⟨ocwI, odwI, .func (PySem.W.fnOf "_law_inside" "_law_inside" (defArgs s_law_inside) (defBody s_law_inside) (defScope s_law_inside) .none kVwI dcwI pmwI anwI cdwI ctwI), slwI⟩) (c_wI : PySem.W.codeIn K cdwI "_law_inside" = true)
    (k_wI : PySem.W.keepIn K (.ref fwI) = true)
    (a_wU : PySem.W.nsIn K mainGlobals "_law_unbeaten" = some (some (.ref fwU)))
    (l_wU : K.lookup fwU = some ⟨ocwU, odwU, .func (PySem.W.fnOf "_law_unbeaten" "_law_unbeaten" (defArgs s_law_unbeaten) (defBody s_law_unbeaten) (defScope s_law_unbeaten) .none kVwU dcwU pmwU anwU cdwU ctwU), slwU⟩) (c_wU : PySem.W.codeIn K cdwU "_law_unbeaten" = true)
    (k_wU : PySem.W.keepIn K (.ref fwU) = true)
    (a_wR : PySem.W.nsIn K mainGlobals "_law_results" = some (some (.ref fwR)))
    (l_wR : K.lookup fwR = some ⟨ocwR, odwR, .func (PySem.W.fnOf "_law_results" "_law_results" (defArgs s_law_results) (defBody s_law_results) (defScope s_law_results) .none kVwR dcwR pmwR anwR cdwR ctwR), slwR⟩) (c_wR : PySem.W.codeIn K cdwR "_law_results" = true)
    (k_wR : PySem.W.keepIn K (.ref fwR) = true)
    (a_wCs : PySem.W.nsIn K mainGlobals "_law_cases" = some (some (.ref fwCs)))
    (l_wCs : K.lookup fwCs = some ⟨ocwCs, odwCs, .func (PySem.W.fnOf "_law_cases" "_law_cases" (defArgs s_law_cases) (defBody s_law_cases) (defScope s_law_cases) .none kVwCs dcwCs pmwCs anwCs cdwCs ctwCs), slwCs⟩) (c_wCs : PySem.W.codeIn K cdwCs "_law_cases" = true)
    (k_wCs : PySem.W.keepIn K (.ref fwCs) = true)
    (a_wW : PySem.W.nsIn K mainGlobals "_law_is_wide" = some (some (.ref fwW)))
    (l_wW : K.lookup fwW = some ⟨ocwW, odwW, .func (PySem.W.fnOf "_law_is_wide" "_law_is_wide" (defArgs s_law_is_wide) (defBody s_law_is_wide) (defScope s_law_is_wide) .none kVwW dcwW pmwW anwW cdwW ctwW), slwW⟩) (c_wW : PySem.W.codeIn K cdwW "_law_is_wide" = true)
    (k_wW : PySem.W.keepIn K (.ref fwW) = true)
    (a_law : PySem.W.nsIn K mainGlobals "law" = some (some (.ref flaw)))
    (l_law : K.lookup flaw = some ⟨oclaw, odlaw, .func (PySem.W.fnOf "law" "law" (defArgs s_law) (defBody s_law) (defScope s_law) .none kVlaw dclaw pmlaw anlaw cdlaw ctlaw), sllaw⟩) (c_law : PySem.W.codeIn K cdlaw "law" = true)
    (k_law : PySem.W.keepIn K (.ref flaw) = true)
    (aC : PySem.W.nsIn K mainGlobals "Rules" = some (some (.ref C)))
    (aD : PySem.W.nsIn K mainGlobals "Listing" = some (some (.ref D)))
    (pg : PySem.W.plainGet K C Str.empty = true)
    (hd : PySem.W.hasDictIn K C = true)
    (po : PySem.W.plainOver K C = true)
    (sa : PySem.W.findIn K (.ref C) "__setattr__" = some (some (.builtin "object.__setattr__")))
    (nh : PySem.W.findIn K (.ref C) "held" = some none)
    (mk : PySem.W.makesIn K C = true)
    (aO : PySem.W.findIn K (.ref C) "__init__" = some (some (.ref fO)))
    (iO : PySem.W.isFn K (.ref fO) = true)
    (kc : PySem.W.keepIn K (.ref C) = true)
    (lO : K.lookup fO = some ⟨ocO, odO, .func (PySem.W.ksFn "__init__" "Rules.__init__" (defArgs s_K_init) (defBody s_K_init) (defScope s_K_init) .none kVO dcO pmO anO (.ref cda) ctO cc), slO⟩)
    (cO : PySem.W.codeIn K (.ref cda) "Rules.__init__" = true)
    (lcd : K.lookup cda = some ⟨ccl, cdd, .fields vs, ccs⟩)
    (hv : vs[2]? = some (.str file tf))
    (hf : ((P.main.file : Str) == file) = true)
    (lcc : K.lookup cc = some ⟨cl0, cld, .cell (some (.ref C)), csl⟩)
    (kC : PySem.W.clsIn K C = some cdC)
    (kD : PySem.W.clsIn K D = some cdD)
    (sub : PySem.W.mroIn K C (.ref C) = some true)
    (sup : PySem.W.nsIn K mainGlobals "super" = some none)
    (top : (P.main.scope.names.lookup ("super" : Str)).isSome = false)
    (opq : PySem.W.nsIn K cStatics "thirdparty.any" = some none)
    (nxt : PySem.W.ks_superIn K C C "__init__" = some (some (.ref fI)))
    (tyI : PySem.W.typeIn K (.ref fI) = some (.type "function"))
    (hfnI : PySem.W.fnIn K fI = true)
    (lI : K.lookup fI = some ⟨ocI, odI, .func (PySem.W.fnOf "__init__" "Listing.__init__" (defArgs s_Listing_init) (defBody s_Listing_init) (defScope s_Listing_init) .none kVI dcI pmI anI cdI ctI), slI⟩)
    (cI : PySem.W.codeIn K cdI "Listing.__init__" = true)
    (ga : PySem.W.specialIn K (.ref C) "__getattribute__" = some (some (.builtin "type.__getattribute__")))
    (tyC : PySem.W.typeIn K (.ref C) = some mc)
    (rd : PySem.W.readsIn K C mc = true)
    (fc : PySem.W.findCls K (.ref C) mc "read" = some (.get (.builtin "classmethod.__get__") (.ref pR) .none (.ref C)))
    (rc : PySem.W.recIn K pR "classmethod" = some (.ref fmR :: restR))
    (hfnR : PySem.W.fnIn K fmR = true)
    (l_mR : K.lookup fmR = some ⟨ocmR, odmR, .func (PySem.W.fnOf "read" "Rules.read" (defArgs s_K_read) (defBody s_K_read) (defScope s_K_read) .none kVmR dcmR pmmR anmR cdmR ctmR), slmR⟩) (c_mR : PySem.W.codeIn K cdmR "Rules.read" = true)
    (k_mR : PySem.W.keepIn K (.ref fmR) = true)
    (aX : PySem.W.findIn K (.ref C) "__call__" = some (some (.ref fmX)))
    (inX : PySem.W.isFn K (.ref fmX) = true)
    (hfnX : PySem.W.fnIn K fmX = true)
    (l_mX : K.lookup fmX = some ⟨ocmX, odmX, .func (PySem.W.fnOf "__call__" "Rules.__call__" (defArgs s_K_call) (defBody s_K_call) (defScope s_K_call) .none kVmX dcmX pmmX anmX cdmX ctmX), slmX⟩) (c_mX : PySem.W.codeIn K cdmX "Rules.__call__" = true)
    (k_mX : PySem.W.keepIn K (.ref fmX) = true)
    (aP : PySem.W.findIn K (.ref C) "rules" = some (some (.ref pP)))
    (gP : PySem.W.specialIn K (.ref pP) "__get__" = some (some (.builtin "property.__get__")))
    (tP : PySem.W.takesIn K (.ref pP) = some true)
    (rP : PySem.W.recIn K pP "property" = some (.ref fG :: restP))
    (l_G : K.lookup fG = some ⟨ocG, odG, .func (PySem.W.fnOf "rules" "Rules.rules" (defArgs s_K_rules) (defBody s_K_rules) (defScope s_K_rules) .none kVG dcG pmG anG cdG ctG), slG⟩) (c_G : PySem.W.codeIn K cdG "Rules.rules" = true)
    (k_G : PySem.W.keepIn K (.ref fG) = true)
    (ha : PySem.W.findIn K (.ref C) "__class__" = some (some (.builtin "object.__class__")))
    (hn : PySem.W.specialIn K (.builtin "object.__class__") "__get__" = some (some (.builtin "getset_descriptor.__get__")))
    (htk : PySem.W.takesIn K (.builtin "object.__class__") = some true)
    (hm : PySem.W.mroIn K C (.type "object") = some true)
    (tyD : PySem.W.typeIn K (.ref D) = some (.type "type"))
    (sD : PySem.W.subIn K (.ref C) (.ref D) = some true)
    (n_attr : PySem.W.nsIn K mainGlobals "MOST_ATTRIBUTE" = some (some (.int 4 t_attr)))
    (n_val : PySem.W.nsIn K mainGlobals "MOST_VALUE" = some (some (.int 9 t_val)))
    (n_res : PySem.W.nsIn K mainGlobals "MOST_RESULT" = some (some (.int 99 t_res)))
    (n_rules : PySem.W.nsIn K mainGlobals "MOST_RULES" = some (some (.int 12 t_rules)))
    (z_len : PySem.W.nsIn K mainGlobals "len" = some none)
    (z_max : PySem.W.nsIn K mainGlobals "max" = some none)
    (z_min : PySem.W.nsIn K mainGlobals "min" = some none)
    (z_range : PySem.W.nsIn K mainGlobals "range" = some none)
    (z_tuple : PySem.W.nsIn K mainGlobals "tuple" = some none)
    (z_sorted : PySem.W.nsIn K mainGlobals "sorted" = some none)
    (z_list : PySem.W.nsIn K mainGlobals "list" = some none)
    (z_str : PySem.W.nsIn K mainGlobals "str" = some none)
    (z_repr : PySem.W.nsIn K mainGlobals "repr" = some none)
    (z_isinstance : PySem.W.nsIn K mainGlobals "isinstance" = some none)
    (z_set : PySem.W.nsIn K mainGlobals "set" = some none)
    (z_all : PySem.W.nsIn K mainGlobals "all" = some none)
    (z_zip : PySem.W.nsIn K mainGlobals "zip" = some none)
    (z_int : PySem.W.nsIn K mainGlobals "int" = some none)
    (z_bool : PySem.W.nsIn K mainGlobals "bool" = some none)
    (z_any : PySem.W.nsIn K mainGlobals "any" = some none) :
    ∀ base : Heap, K.In base → base.Ns mainGlobals mg → FnG P w K mg base CX0 11 fa (spLaw05 K) := by
  have e := hfa.symm.trans (PySem.W.mg_of X G a_law)
  cases e
  intro base _ _
  have FiN := fun_mk (st := s_is_number) l_iN c_iN k_iN
  have biN := FiN.binds (ps := ["thing", "most"]) fun _ _ _ _ _ _ us hl => match us, hl with | [_, _], _ => rfl
  have DiN : Df K mg "is_number" s_is_number ["thing", "most"] fiN _ := ⟨PySem.W.mg_of X G a_iN, FiN, biN⟩
  have FiC := fun_mk (st := s_is_condition) l_iC c_iC k_iC
  have biC := FiC.binds (ps := ["thing"]) fun _ _ _ _ _ _ us hl => match us, hl with | [_], _ => rfl
  have DiC : Df K mg "is_condition" s_is_condition ["thing"] fiC _ := ⟨PySem.W.mg_of X G a_iC, FiC, biC⟩
  have FiK := fun_mk (st := s_is_case) l_iK c_iK k_iK
  have biK := FiK.binds (ps := ["thing"]) fun _ _ _ _ _ _ us hl => match us, hl with | [_], _ => rfl
  have DiK : Df K mg "is_case" s_is_case ["thing"] fiK _ := ⟨PySem.W.mg_of X G a_iK, FiK, biK⟩
  have FiR := fun_mk (st := s_is_rule) l_iR c_iR k_iR
  have biR := FiR.binds (ps := ["thing"]) fun _ _ _ _ _ _ us hl => match us, hl with | [_], _ => rfl
  have DiR : Df K mg "is_rule" s_is_rule ["thing"] fiR _ := ⟨PySem.W.mg_of X G a_iR, FiR, biR⟩
  have FaR := fun_mk (st := s_are_rules) l_aR c_aR k_aR
  have baR := FaR.binds (ps := ["things"]) fun _ _ _ _ _ _ us hl => match us, hl with | [_], _ => rfl
  have DaR : Df K mg "are_rules" s_are_rules ["things"] faR _ := ⟨PySem.W.mg_of X G a_aR, FaR, baR⟩
  have FnC := fun_mk (st := s_need_case) l_nC c_nC k_nC
  have bnC := FnC.binds (ps := ["thing"]) fun _ _ _ _ _ _ us hl => match us, hl with | [_], _ => rfl
  have DnC : Df K mg "need_case" s_need_case ["thing"] fnC _ := ⟨PySem.W.mg_of X G a_nC, FnC, bnC⟩
  have FlW := fun_mk (st := s_lies_within) l_lW c_lW k_lW
  have blW := FlW.binds (ps := ["inner", "outer"]) fun _ _ _ _ _ _ us hl => match us, hl with | [_, _], _ => rfl
  have DlW : Df K mg "lies_within" s_lies_within ["inner", "outer"] flW _ := ⟨PySem.W.mg_of X G a_lW, FlW, blW⟩
  have FmtR := fun_mk (st := s_matching_rules) l_mtR c_mtR k_mtR
  have bmtR := FmtR.binds (ps := ["rules", "case"]) fun _ _ _ _ _ _ us hl => match us, hl with | [_, _], _ => rfl
  have DmtR : Df K mg "matching_rules" s_matching_rules ["rules", "case"] fmtR _ := ⟨PySem.W.mg_of X G a_mtR, FmtR, bmtR⟩
  have FsW := fun_mk (st := s_lies_strictly_within) l_sW c_sW k_sW
  have bsW := FsW.binds (ps := ["inner", "outer"]) fun _ _ _ _ _ _ us hl => match us, hl with | [_, _], _ => rfl
  have DsW : Df K mg "lies_strictly_within" s_lies_strictly_within ["inner", "outer"] fsW _ := ⟨PySem.W.mg_of X G a_sW, FsW, bsW⟩
  have Fbn := fun_mk (st := s_is_beaten) l_bn c_bn k_bn
  have bbn := Fbn.binds (ps := ["rule", "rules"]) fun _ _ _ _ _ _ us hl => match us, hl with | [_, _], _ => rfl
  have Dbn : Df K mg "is_beaten" s_is_beaten ["rule", "rules"] fbn _ := ⟨PySem.W.mg_of X G a_bn, Fbn, bbn⟩
  have Fdc := fun_mk (st := s_deciding_rules) l_dc c_dc k_dc
  have bdc := Fdc.binds (ps := ["rules", "case"]) fun _ _ _ _ _ _ us hl => match us, hl with | [_, _], _ => rfl
  have Ddc : Df K mg "deciding_rules" s_deciding_rules ["rules", "case"] fdc _ := ⟨PySem.W.mg_of X G a_dc, Fdc, bdc⟩
  have Frf := fun_mk (st := s_results_for) l_rf c_rf k_rf
  have brf := Frf.binds (ps := ["rules", "case"]) fun _ _ _ _ _ _ us hl => match us, hl with | [_, _], _ => rfl
  have Drf : Df K mg "results_for" s_results_for ["rules", "case"] frf _ := ⟨PySem.W.mg_of X G a_rf, Frf, brf⟩
  have FrN := fun_mk (st := s_read_number) l_rN c_rN k_rN
  have brN := FrN.binds (ps := ["word"]) fun _ _ _ _ _ _ us hl => match us, hl with | [_], _ => rfl
  have DrN : Df K mg "read_number" s_read_number ["word"] frN _ := ⟨PySem.W.mg_of X G a_rN, FrN, brN⟩
  have FrC := fun_mk (st := s_read_condition) l_rC c_rC k_rC
  have brC := FrC.binds (ps := ["word"]) fun _ _ _ _ _ _ us hl => match us, hl with | [_], _ => rfl
  have DrC : Df K mg "read_condition" s_read_condition ["word"] frC _ := ⟨PySem.W.mg_of X G a_rC, FrC, brC⟩
  have FrR := fun_mk (st := s_read_rule) l_rR c_rR k_rR
  have brR := FrR.binds (ps := ["line"]) fun _ _ _ _ _ _ us hl => match us, hl with | [_], _ => rfl
  have DrR : Df K mg "read_rule" s_read_rule ["line"] frR _ := ⟨PySem.W.mg_of X G a_rR, FrR, brR⟩
  have FrA := fun_mk (st := s_read_rules) l_rA c_rA k_rA
  have brA := FrA.binds (ps := ["text"]) fun _ _ _ _ _ _ us hl => match us, hl with | [_], _ => rfl
  have DrA : Df K mg "read_rules" s_read_rules ["text"] frA _ := ⟨PySem.W.mg_of X G a_rA, FrA, brA⟩
  have FwL := fun_mk (st := s_law_cell) l_wL c_wL k_wL
  have bwL := FwL.binds (ps := ["_law_script", "_law_index"]) fun _ _ _ _ _ _ us hl => match us, hl with | [_, _], _ => rfl
  have DwL : Df K mg "_law_cell" s_law_cell ["_law_script", "_law_index"] fwL _ := ⟨PySem.W.mg_of X G a_wL, FwL, bwL⟩
  have FwS := fun_mk (st := s_law_source) l_wS c_wS k_wS
  have bwS := FwS.binds (ps := ["_law_cell_here"]) fun _ _ _ _ _ _ us hl => match us, hl with | [_], _ => rfl
  have DwS : Df K mg "_law_source" s_law_source ["_law_cell_here"] fwS _ := ⟨PySem.W.mg_of X G a_wS, FwS, bwS⟩
  have FwD := fun_mk (st := s_law_draw) l_wD c_wD k_wD
  have bwD := FwD.binds (ps := ["_law_source_here", "_law_many"]) fun _ _ _ _ _ _ us hl => match us, hl with | [_, _], _ => rfl
  have DwD : Df K mg "_law_draw" s_law_draw ["_law_source_here", "_law_many"] fwD _ := ⟨PySem.W.mg_of X G a_wD, FwD, bwD⟩
  have FwC := fun_mk (st := s_law_choose) l_wC c_wC k_wC
  have bwC := FwC.binds (ps := ["_law_source_here", "_law_values"]) fun _ _ _ _ _ _ us hl => match us, hl with | [_, _], _ => rfl
  have DwC : Df K mg "_law_choose" s_law_choose ["_law_source_here", "_law_values"] fwC _ := ⟨PySem.W.mg_of X G a_wC, FwC, bwC⟩
  have FwQ := fun_mk (st := s_law_is_equal) l_wQ c_wQ k_wQ
  have bwQ := FwQ.binds (ps := ["_law_actual", "_law_expected"]) fun _ _ _ _ _ _ us hl => match us, hl with | [_, _], _ => rfl
  have DwQ : Df K mg "_law_is_equal" s_law_is_equal ["_law_actual", "_law_expected"] fwQ _ := ⟨PySem.W.mg_of X G a_wQ, FwQ, bwQ⟩
  have FwK := fun_mk (st := s_law_case) l_wK c_wK k_wK
  have bwK := FwK.binds (ps := ["_law_source_here", "_law_many", "_law_most"]) fun _ _ _ _ _ _ us hl => match us, hl with | [_, _, _], _ => rfl
  have DwK : Df K mg "_law_case" s_law_case ["_law_source_here", "_law_many", "_law_most"] fwK _ := ⟨PySem.W.mg_of X G a_wK, FwK, bwK⟩
  have FwP := fun_mk (st := s_law_part) l_wP c_wP k_wP
  have bwP := FwP.binds (ps := ["_law_source_here", "_law_case_here"]) fun _ _ _ _ _ _ us hl => match us, hl with | [_, _], _ => rfl
  have DwP : Df K mg "_law_part" s_law_part ["_law_source_here", "_law_case_here"] fwP _ := ⟨PySem.W.mg_of X G a_wP, FwP, bwP⟩
  have FwO := fun_mk (st := s_law_some) l_wO c_wO k_wO
  have bwO := FwO.binds (ps := ["_law_source_here", "_law_most"]) fun _ _ _ _ _ _ us hl => match us, hl with | [_, _], _ => rfl
  have DwO : Df K mg "_law_some" s_law_some ["_law_source_here", "_law_most"] fwO _ := ⟨PySem.W.mg_of X G a_wO, FwO, bwO⟩
  have FwT := fun_mk (st := s_law_text) l_wT c_wT k_wT
  have bwT := FwT.binds (ps := ["_law_some_here"]) fun _ _ _ _ _ _ us hl => match us, hl with | [_], _ => rfl
  have DwT : Df K mg "_law_text" s_law_text ["_law_some_here"] fwT _ := ⟨PySem.W.mg_of X G a_wT, FwT, bwT⟩
  have FwI := fun_mk (st := s_law_inside) l_wI c_wI k_wI
  have bwI := FwI.binds (ps := ["_law_some_here", "_law_others"]) fun _ _ _ _ _ _ us hl => match us, hl with | [_, _], _ => rfl
  have DwI : Df K mg "_law_inside" s_law_inside ["_law_some_here", "_law_others"] fwI _ := ⟨PySem.W.mg_of X G a_wI, FwI, bwI⟩
  have FwU := fun_mk (st := s_law_unbeaten) l_wU c_wU k_wU
  have bwU := FwU.binds (ps := ["_law_some_here", "_law_case_here"]) fun _ _ _ _ _ _ us hl => match us, hl with | [_, _], _ => rfl
  have DwU : Df K mg "_law_unbeaten" s_law_unbeaten ["_law_some_here", "_law_case_here"] fwU _ := ⟨PySem.W.mg_of X G a_wU, FwU, bwU⟩
  have FwR := fun_mk (st := s_law_results) l_wR c_wR k_wR
  have bwR := FwR.binds (ps := ["_law_some_here", "_law_case_here"]) fun _ _ _ _ _ _ us hl => match us, hl with | [_, _], _ => rfl
  have DwR : Df K mg "_law_results" s_law_results ["_law_some_here", "_law_case_here"] fwR _ := ⟨PySem.W.mg_of X G a_wR, FwR, bwR⟩
  have FwCs := fun_mk (st := s_law_cases) l_wCs c_wCs k_wCs
  have bwCs := FwCs.binds (ps := ["_law_source_here", "_law_some_here"]) fun _ _ _ _ _ _ us hl => match us, hl with | [_, _], _ => rfl
  have DwCs : Df K mg "_law_cases" s_law_cases ["_law_source_here", "_law_some_here"] fwCs _ := ⟨PySem.W.mg_of X G a_wCs, FwCs, bwCs⟩
  have FwW := fun_mk (st := s_law_is_wide) l_wW c_wW k_wW
  have bwW := FwW.binds (ps := ["_law_source_here"]) fun _ _ _ _ _ _ us hl => match us, hl with | [_], _ => rfl
  have DwW : Df K mg "_law_is_wide" s_law_is_wide ["_law_source_here"] fwW _ := ⟨PySem.W.mg_of X G a_wW, FwW, bwW⟩
  have Flaw := fun_mk (st := s_law) l_law c_law k_law
  have blaw := Flaw.binds (ps := ["_law_script"]) fun _ _ _ _ _ _ us hl => match us, hl with | [_], _ => rfl
  have FmR := fun_mk (st := s_K_read) l_mR c_mR k_mR
  have bmR := FmR.binds (ps := ["cls", "text"]) fun _ _ _ _ _ _ us hl => match us, hl with | [_, _], _ => rfl
  have FmX := fun_mk (st := s_K_call) l_mX c_mX k_mX
  have bmX := FmX.binds (ps := ["self", "case"]) fun _ _ _ _ _ _ us hl => match us, hl with | [_, _], _ => rfl
  have B : Blt mg := ⟨PySem.W.mg_none_of X G z_len, PySem.W.mg_none_of X G z_max, PySem.W.mg_none_of X G z_min, PySem.W.mg_none_of X G z_range, PySem.W.mg_none_of X G z_tuple, PySem.W.mg_none_of X G z_sorted, PySem.W.mg_none_of X G z_list, PySem.W.mg_none_of X G z_str, PySem.W.mg_none_of X G z_repr, PySem.W.mg_none_of X G z_isinstance, PySem.W.mg_none_of X G z_set, PySem.W.mg_none_of X G z_all, PySem.W.mg_none_of X G z_zip, PySem.W.mg_none_of X G z_int, PySem.W.mg_none_of X G z_bool⟩
  have N : Nums mg := ⟨⟨_, PySem.W.mg_of X G n_attr⟩, ⟨_, PySem.W.mg_of X G n_val⟩, ⟨_, PySem.W.mg_of X G n_res⟩, ⟨_, PySem.W.mg_of X G n_rules⟩⟩
  have T : Forms K mg fiN fiC fiK fiR _ _ _ _ := ⟨DiN, DiC, DiK, DiR⟩
  have R : Reads K mg frN frC frR faR _ _ _ _ := ⟨DrN, DrC, DrR, DaR⟩
  have c : Cls K C := ⟨pg, hd, po, sa⟩
  have su : SupDef P K fO C C fI "rules" := ⟨⟨_, _, _, _, _, _, _, _, _, _, _, _, _, _, _, _, _, _, _, _, _, _, _, _, _, _, _, _, _, _, _, _, lO, cO, rfl, rfl, lcd, hv, hf, lcc,
    ⟨rfl, rfl, rfl, rfl, rfl, rfl, rfl, by decide +kernel, lookup_free (by decide +kernel)⟩, fun u rest => by cases rest <;> rfl⟩, ⟨_, kC⟩, ⟨_, kC⟩, sub, sup, top, opq, nxt, tyI, hfnI, by decide⟩
  have O : OrdC P K C C fO fI := ⟨c, nh, ⟨mk, aO, iO, kc⟩, su⟩
  have GR : FnOk P w K mg base CX0 9 fmR _ ["cls", "text"] (spRead C) := ok_read FmR O lI cI B N T R DrA
  have U : Close K mg flW fsW fbn fmtR fdc frf _ _ _ _ _ _ := ⟨PySem.W.mg_none_of X G z_any, DlW, DsW, Dbn, DmtR, Ddc, Drf⟩
  have GX : FnOk P w K mg base CX0 6 fmX _ ["self", "case"] (spCallR C) := ok_callR FmX B N T DnC U c nh
  have GG : FnOk P w K mg base CX0 1 fG _ ["self"] (getSp C "held") := fn_getter (k := 0) (N := ["self"]) l_G c_G ⟨rfl, rfl, rfl, by decide +kernel, rfl, by decide +kernel, by decide +kernel⟩ rfl rfl c nh
  have bG := (fun_mk (st := s_K_rules) l_G c_G k_G).binds (ps := ["self"]) fun _ _ _ _ _ _ us hl => match us, hl with | [_], _ => rfl
  have L : LawFns K mg fwD fwC fwK fwP _ _ _ _ := ⟨DwD.m, DwD.F, DwD.b, DwC.m, DwC.F, DwC.b, DwK.m, DwK.F, DwK.b, DwP.m, DwP.F, DwP.b⟩
  have W : LawDefs K mg fwS fwL fwO fwT fwI fwU fwR fwCs fwW fwQ _ _ _ _ _ _ _ _ _ _ := ⟨DwS, DwL, DwO, DwT, DwI, DwU, DwR, DwCs, DwW, DwQ⟩
  have OT : RulT K mg C mc pR fmR fmX pP fG := ⟨PySem.W.mg_of X G aC, c, nh, ⟨rd, ga⟩, ⟨fc, ⟨_, rc⟩, hfnR⟩, ⟨aX, inX, hfnX⟩, ⟨aP, gP, tP, ⟨_, rP⟩⟩, ha, hn, htk, hm⟩
  exact ok_law05 Flaw blaw B L W OT (PySem.W.mg_of X G aD) (kit_own kD tyD sD) GR bmR GX bmX GG bG
end Cr

open PySem PySem.W PyProof.Rows in
set_option maxHeartbeats 0 in
theorem PySem.Challenge.cw_closestrule_k05_results_for_a_case_holds : PySem.Challenge.rw_closestrule_k05_results_for_a_case.Holds := by
  w_on; o_law; k_head; (case hw => w_witness2)
  k_fill
  refine Cr.walk_G (l := PySem.Challenge.rw_closestrule_k05_results_for_a_case) (n := 63) (k := 11) (CX := fun _ => L2.CX0) (sp := fun w => Cr.spLaw05 _) rfl (by decide) rfl ⟨rfl, by decide, by decide⟩ (fun w h Y => PySem.W.kIn_of Y) ?F (fun _ _ a ns hl _ hS => ⟨a, ns, rfl, hS, hl, fun _ => rfl⟩) fun _ _ _ _ _ z => z
  case F =>
    intro w mg fa h KX G hmg
    refine' Cr.all_mk05 KX G hmg ?a_iN ?l_iN ?c_iN ?k_iN ?a_iC ?l_iC ?c_iC ?k_iC ?a_iK ?l_iK ?c_iK ?k_iK ?a_iR ?l_iR ?c_iR ?k_iR ?a_aR ?l_aR ?c_aR ?k_aR ?a_nC ?l_nC ?c_nC ?k_nC ?a_lW ?l_lW ?c_lW ?k_lW ?a_mtR ?l_mtR ?c_mtR ?k_mtR ?a_sW ?l_sW ?c_sW ?k_sW ?a_bn ?l_bn ?c_bn ?k_bn ?a_dc ?l_dc ?c_dc ?k_dc ?a_rf ?l_rf ?c_rf ?k_rf ?a_rN ?l_rN ?c_rN ?k_rN ?a_rC ?l_rC ?c_rC ?k_rC ?a_rR ?l_rR ?c_rR ?k_rR ?a_rA ?l_rA ?c_rA ?k_rA ?a_wL ?l_wL ?c_wL ?k_wL ?a_wS ?l_wS ?c_wS ?k_wS ?a_wD ?l_wD ?c_wD ?k_wD ?a_wC ?l_wC ?c_wC ?k_wC ?a_wQ ?l_wQ ?c_wQ ?k_wQ ?a_wK ?l_wK ?c_wK ?k_wK ?a_wP ?l_wP ?c_wP ?k_wP ?a_wO ?l_wO ?c_wO ?k_wO ?a_wT ?l_wT ?c_wT ?k_wT ?a_wI ?l_wI ?c_wI ?k_wI ?a_wU ?l_wU ?c_wU ?k_wU ?a_wR ?l_wR ?c_wR ?k_wR ?a_wCs ?l_wCs ?c_wCs ?k_wCs ?a_wW ?l_wW ?c_wW ?k_wW ?a_law ?l_law ?c_law ?k_law ?aC ?aD ?pg ?hd ?po ?sa ?nh ?mk ?aO ?iO ?kc ?lO ?cO ?lcd ?hv ?hf ?lcc ?kC ?kD ?sub ?sup ?top ?opq ?nxt ?tyI ?hfnI ?lI ?cI ?ga ?tyC ?rd ?fc ?rc ?hfnR ?l_mR ?c_mR ?k_mR ?aX ?inX ?hfnX ?l_mX ?c_mX ?k_mX ?aP ?gP ?tP ?rP ?l_G ?c_G ?k_G ?ha ?hn ?htk ?hm ?tyD ?sD ?n_attr ?n_val ?n_res ?n_rules ?z_len ?z_max ?z_min ?z_range ?z_tuple ?z_sorted ?z_list ?z_str ?z_repr ?z_isinstance ?z_set ?z_all ?z_zip ?z_int ?z_bool ?z_any
    (case a_iN => k_is)
    (case l_iN => k_is)
    (case c_iN => k_is)
    (case k_iN => k_is)
    (case a_iC => k_is)
    (case l_iC => k_is)
    (case c_iC => k_is)
    (case k_iC => k_is)
    (case a_iK => k_is)
    (case l_iK => k_is)
    (case c_iK => k_is)
    (case k_iK => k_is)
    (case a_iR => k_is)
    (case l_iR => k_is)
    (case c_iR => k_is)
    (case k_iR => k_is)
    (case a_aR => k_is)
    (case l_aR => k_is)
    (case c_aR => k_is)
    (case k_aR => k_is)
    (case a_nC => k_is)
    (case l_nC => k_is)
    (case c_nC => k_is)
    (case k_nC => k_is)
    (case a_lW => k_is)
    (case l_lW => k_is)
    (case c_lW => k_is)
    (case k_lW => k_is)
    (case a_mtR => k_is)
    (case l_mtR => k_is)
    (case c_mtR => k_is)
    (case k_mtR => k_is)
    (case a_sW => k_is)
    (case l_sW => k_is)
    (case c_sW => k_is)
    (case k_sW => k_is)
    (case a_bn => k_is)
    (case l_bn => k_is)
    (case c_bn => k_is)
    (case k_bn => k_is)
    (case a_dc => k_is)
    (case l_dc => k_is)
    (case c_dc => k_is)
    (case k_dc => k_is)
    (case a_rf => k_is)
    (case l_rf => k_is)
    (case c_rf => k_is)
    (case k_rf => k_is)
    (case a_rN => k_is)
    (case l_rN => k_is)
    (case c_rN => k_is)
    (case k_rN => k_is)
    (case a_rC => k_is)
    (case l_rC => k_is)
    (case c_rC => k_is)
    (case k_rC => k_is)
    (case a_rR => k_is)
    (case l_rR => k_is)
    (case c_rR => k_is)
    (case k_rR => k_is)
    (case a_rA => k_is)
    (case l_rA => k_is)
    (case c_rA => k_is)
    (case k_rA => k_is)
    (case a_wL => k_is)
    (case l_wL => k_is)
    (case c_wL => k_is)
    (case k_wL => k_is)
    (case a_wS => k_is)
    (case l_wS => k_is)
    (case c_wS => k_is)
    (case k_wS => k_is)
    (case a_wD => k_is)
    (case l_wD => k_is)
    (case c_wD => k_is)
    (case k_wD => k_is)
    (case a_wC => k_is)
    (case l_wC => k_is)
    (case c_wC => k_is)
    (case k_wC => k_is)
    (case a_wQ => k_is)
    (case l_wQ => k_is)
    (case c_wQ => k_is)
    (case k_wQ => k_is)
    (case a_wK => k_is)
    (case l_wK => k_is)
    (case c_wK => k_is)
    (case k_wK => k_is)
    (case a_wP => k_is)
    (case l_wP => k_is)
    (case c_wP => k_is)
    (case k_wP => k_is)
    (case a_wO => k_is)
    (case l_wO => k_is)
    (case c_wO => k_is)
    (case k_wO => k_is)
    (case a_wT => k_is)
    (case l_wT => k_is)
    (case c_wT => k_is)
    (case k_wT => k_is)
    (case a_wI => k_is)
    (case l_wI => k_is)
    (case c_wI => k_is)
    (case k_wI => k_is)
    (case a_wU => k_is)
    (case l_wU => k_is)
    (case c_wU => k_is)
    (case k_wU => k_is)
    (case a_wR => k_is)
    (case l_wR => k_is)
    (case c_wR => k_is)
    (case k_wR => k_is)
    (case a_wCs => k_is)
    (case l_wCs => k_is)
    (case c_wCs => k_is)
    (case k_wCs => k_is)
    (case a_wW => k_is)
    (case l_wW => k_is)
    (case c_wW => k_is)
    (case k_wW => k_is)
    (case a_law => k_is)
    (case l_law => k_is)
    (case c_law => k_is)
    (case k_law => k_is)
    (case aC => k_is)
    (case aD => k_is)
    (case pg => k_is)
    (case hd => k_is)
    (case po => k_is)
    (case sa => k_is)
    (case nh => k_is)
    (case mk => k_is)
    (case aO => k_is)
    (case iO => k_is)
    (case kc => k_is)
    (case lO => k_is)
    (case cO => k_is)
    (case lcd => k_is)
    (case hv => rfl)
    (case hf => rfl)
    (case lcc => k_is)
    (case kC => k_is)
    (case kD => k_is)
    (case sub => k_is)
    (case sup => k_is)
    (case top => rfl)
    (case opq => k_is)
    (case nxt => ks_is)
    (case tyI => k_is)
    (case hfnI => k_is)
    (case lI => k_is)
    (case cI => k_is)
    (case ga => k_is)
    (case tyC => k_is)
    (case rd => k_is)
    (case fc => k_is)
    (case rc => k_is)
    (case hfnR => k_is)
    (case l_mR => k_is)
    (case c_mR => k_is)
    (case k_mR => k_is)
    (case aX => k_is)
    (case inX => k_is)
    (case hfnX => k_is)
    (case l_mX => k_is)
    (case c_mX => k_is)
    (case k_mX => k_is)
    (case aP => k_is)
    (case gP => k_is)
    (case tP => k_is)
    (case rP => k_is)
    (case l_G => k_is)
    (case c_G => k_is)
    (case k_G => k_is)
    (case ha => k_is)
    (case hn => k_is)
    (case htk => k_is)
    (case hm => k_is)
    (case tyD => k_is)
    (case sD => k_is)
    (case n_attr => k_is)
    (case n_val => k_is)
    (case n_res => k_is)
    (case n_rules => k_is)
    (case z_len => k_is)
    (case z_max => k_is)
    (case z_min => k_is)
    (case z_range => k_is)
    (case z_tuple => k_is)
    (case z_sorted => k_is)
    (case z_list => k_is)
    (case z_str => k_is)
    (case z_repr => k_is)
    (case z_isinstance => k_is)
    (case z_set => k_is)
    (case z_all => k_is)
    (case z_zip => k_is)
    (case z_int => k_is)
    (case z_bool => k_is)
    (case z_any => k_is)
