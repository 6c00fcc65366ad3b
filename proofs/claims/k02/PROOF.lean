import PyProof.Rows.All
import Wide.All
import OpenK.AllK
import Wide.FinOn
import HandS.ForMost
import HandS.ForExc
import HandS.Walk
import HandS.Codes
import HandS.IsInst
import HandS.Star
import HandS.StrMore
import HandS.RaiseMore
import HandS.FStr
import HandS.Small
import HandS.Deep
import KE.KUnpackStar
import HandS.SortKw
import KE.GoesZip
import KE.GoesMore
import HandS.ExcCtx
import HandS.ForDict
import KE.IntTextText
import HandS.ExcIs
import HandS.HotCalls
import PySem.Challenge.RW_batchends_k02_strings_that_are_unreadabl
set_option Elab.async false
set_option linter.all false
set_option maxRecDepth 100000
section
/-! tools of mine over the layer: a def by its name, pure comprehensions -/
namespace Tl
open PySem PySem.Spec PyProof.Rows L2
/-- the def x stands in the text as st -/
structure Dn (K : PySem.W.Frag) (mg : Str → Option Value) (x : Str) (st : Stmt) (ps : List Str) : Prop where
  ex : ∃ f fd, mg x = some (.ref f) ∧ Fun K x x st f fd ∧ Binds K fd ps []
theorem dn_mk {K : PySem.W.Frag} {h : Heap} {mg : Str → Option Value} {x : Str} {st : Stmt} {ps : List Str} {f : Addr} {oc : Value} {od an : Option Addr} {osl : Array (Option Value)} {kV doc pm cdv ct : Value} (X : K.In h) (G : h.Ns mainGlobals mg)
    (a : PySem.W.nsIn K mainGlobals x = some (some (.ref f))) (l : K.lookup f = some ⟨oc, od, .func (PySem.W.fnOf x x (defArgs st) (defBody st) (defScope st) .none kV doc pm an cdv ct), osl⟩)
    (c : PySem.W.codeIn K cdv x = true) (k : PySem.W.keepIn K (.ref f) = true)
    (b : ∀ (kV doc pm : Value) (an : Option Addr) (cdv ct : Value) (us : List Value), us.length = ps.length → bindArgs (PySem.W.fnOf x x (defArgs st) (defBody st) (defScope st) .none kV doc pm an cdv ct) ⟨us, []⟩ = pure (ps.zip us)) : Dn K mg x st ps := by
  have F := fun_mk l c k
  exact ⟨⟨_, _, PySem.W.mg_of X G a, F, F.binds b⟩⟩
/-- the promise of the def named x -/
structure Pr (P : Program) (w : World) (K : PySem.W.Frag) (mg : Str → Option Value) (base : Heap) (CX : CXT) (k : Nat) (x : Str) (ps : List Str) (sp : Sp) : Prop where
  ex : ∃ f fd, mg x = some (.ref f) ∧ PySem.W.keepIn K (.ref f) = true ∧ Binds K fd ps [] ∧ FnOk P w K mg base CX k f fd ps sp
section
variable {P : Program} {w : World} {K : PySem.W.Frag} {mg : Str → Option Value} {base : Heap}
/-- a def that lets no exception out -/
theorem pr0 {x : Str} {st : Stmt} {N ps : List Str} {k : Nat} {sp : Sp} (D : Dn K mg x st ps) (S : FnScope N ps (defScope st)) (len : ∀ vs H Q E, sp vs H Q E → vs.length = ps.length)
    (hbody : ∀ (f : Addr) (cdv : Value) (A : Around) (outer : List Env) (s : Shared) (H : Hp) (vs : List V) (Q : VK) (E : XK), Room k (A.deeper (envOfC x (defScope st) s.heap.objs.size f cdv)) → sp vs H Q E →
      ∃ t, PSs (cxOf CX0 P w K mg base N x (defScope st) f cdv A outer s H E).nox (defBody st) t ∧ t { nx := fun _ H' => Q .non H', rt := Q } (start N vs) H) : Pr P w K mg base CX0 (k + 1) x ps sp := by
  obtain ⟨f, fd, hm, F, b⟩ := D.ex
  exact ⟨f, fd, hm, F.kp, b, F.ok S len (hbody f)⟩
/-- a def that may raise -/
theorem prX {x : Str} {st : Stmt} {N ps : List Str} {k : Nat} {sp : Sp} (D : Dn K mg x st ps) (S : FnScope N ps (defScope st)) (len : ∀ vs H Q E, sp vs H Q E → vs.length = ps.length)
    (hbody : ∀ (f : Addr) (cdv : Value) (A : Around) (outer : List Env) (s : Shared) (H : Hp) (vs : List V) (Q : VK) (E : XK), Room k (A.deeper (envOfC x (defScope st) s.heap.objs.size f cdv)) → sp vs H Q E →
      ∃ t, PSs (cxOf (L2.CX P w) P w K mg base N x (defScope st) f cdv A outer s H E) (defBody st) t ∧ t { nx := fun _ H' => Q .non H', rt := Q } (start N vs) H) : Pr P w K mg base (L2.CX P w) (k + 1) x ps sp := by
  obtain ⟨f, fd, hm, F, b⟩ := D.ex
  exact ⟨f, fd, hm, F.kp, b, F.okX S len (hbody f)⟩
end
section
variable {X : Cx} {k j : Nat} {x : Str} {ps : List Str} {sp : Sp} {p pos : Pos} {e : Expr} {es : List Expr} {t : TA} {CX : CXT} {E : XK}
theorem pe_k (c : Pr X.prog X.w X.K X.mg X.base CX k x ps sp) (hr : Room j X.A) (hk : k ≤ j) (hx : Passes CX X E) (hg : Gl X x) (ha : PA X (e :: es) t)
    (hdb : (x == ("__debug__" : Str)) = false := by decide) (he : starEach (e :: es) X.env = (false, eval e X.env) :: starEach es X.env := by rfl) (hpl : (backTo pos (starEach es X.env)).any (·.1) = false := by rfl) :
    PE X (.Call (.Name x p) (e :: es) [] pos) (tCall sp [] E t) := by
  obtain ⟨f, fd, hm, kp, b, F⟩ := c.ex
  exact pe_call F (hr.mono hk) hg hm kp b .nil hx ha hdb he hpl
end
/-! ### heaps -/
theorem same_upd {H : Hp} {p : Addr} {o : HO} (h : H p = none) : Same H (upd H p o) := fun b x e => by
  rw [upd_ne (ne_of_none e h)]
  exact e
/-- what is new behind H1 may change: a store at an address that was free -/
theorem same_put {H H' : Hp} {p : Addr} {o : HO} (h : H p = none) (s : Same H H') : Same H (upd H' p o) := fun b x e => by
  rw [upd_ne (ne_of_none e h)]
  exact s b x e
theorem Same.tup {K : PySem.W.Frag} {H H' : Hp} {a : Addr} {xs : List V} (e : Same H H') (h : SqT K H a xs) : SqT K H' a xs := by
  rcases h with (h | ⟨o, h⟩) | h
  · exact .inl (.inl (e _ _ h))
  · exact .inl (.inr ⟨o, e _ _ h⟩)
  · exact .inr h
/-! ### a comprehension whose elements are flat values known before -/
theorem lc_acc {J : It} {n : Nat} {G : Hp → Prop} {Y : Nat → Hp → V → Hp → Prop} (w : Walk J n G Y) {g : TG} {tt : TT} {te : TE} {vs : List Nat} {σ : L2.St} {H1 : Hp} {Qd : Addr → Hp → Prop} (acc : Nat → List V) (h0 : acc 0 = [])
    (hz : ∀ i, i < n → (acc i).length < sizeLine) (hG : ∀ H, Same H1 H → G H)
    (hs : ∀ (i : Nat) (x : V) (H H' : Hp) (R : V → Hp → Prop) (Nn : Hp → Prop), i < n → Same H1 H → Y i H x H' → (∀ z H4, Same H H4 → acc (i + 1) = acc i ++ [z] → R z H4) → (∀ H4, Same H H4 → acc (i + 1) = acc i → Nn H4) →
      g x (wipe σ vs) H' fun σ2 H2 => wipe σ2 vs = wipe σ vs ∧ tt σ2 H2 fun b H3 => if b = true then te σ2 H3 R else Nn H3)
    (hd : ∀ H D, Same H1 H → H1 D = none → H D = some (.lst (acc n)) → Qd D H) :
    ∀ D, H1 D = none → ∃ W : Nat → Nat → Hp → Prop, (∃ m, W 0 m (upd H1 D (.lst []))) ∧ ∀ i m H, W i m H →
      (J.stop i H ∧ Qd D H) ∨ (J.go i H ∧ ∃ Nx : Hp → Prop, (∀ H', Nx H' → ∃ m', m' < m ∧ W (i + 1) m' H') ∧ ∀ x H', J.yld i H x H' → g x (wipe σ vs) H' fun σ2 H2 => wipe σ2 vs = wipe σ vs ∧ tt σ2 H2 fun b H3 =>
        if b = true then te σ2 H3 fun y H4 => ∃ acc, H4 D = some (.lst acc) ∧ acc.length < sizeLine ∧ Nx (upd H4 D (.lst (acc ++ [y]))) else Nx H3) := by
  intro D hD
  refine lc_it (Qd := fun H => Qd D H) w (fun i H => Same H1 H ∧ H D = some (.lst (acc i))) ⟨same_upd hD, by rw [h0]; exact upd_same⟩ (fun i H _ h => hG H h.1) ?_ (fun H h => hd H D h.1 hD h.2)
  intro i x H H' hi hP hY
  obtain ⟨sm, eD⟩ := hP
  refine hs i x H H' _ _ hi sm hY (fun z H4 s4 e => ?_) (fun H4 s4 e => ?_)
  · exact ⟨acc i, s4 _ _ eD, hz i hi, same_put hD (sm.trans s4), by rw [upd_same, e]⟩
  · exact ⟨sm.trans s4, by rw [e]; exact s4 _ _ eD⟩
theorem take_next {α : Type} {l : List α} {i : Nat} {x : α} (h : l[i]? = some x) : l.take (i + 1) = l.take i ++ [x] := by
  rw [List.take_add_one, h]; rfl
/-- .. without a condition, the elements known before -/
theorem lc_pure {J : It} {n : Nat} {G : Hp → Prop} {Y : Nat → Hp → V → Hp → Prop} (w : Walk J n G Y) {g : TG} {te : TE} {vs : List Nat} {σ : L2.St} {H1 : Hp} {Qd : Addr → Hp → Prop} (ys : List V) (hn : ys.length = n)
    (hz : n ≤ sizeLine) (hG : ∀ H, Same H1 H → G H)
    (hs : ∀ (i : Nat) (x : V) (H H' : Hp) (y : V) (R : V → Hp → Prop), i < n → ys[i]? = some y → Same H1 H → Y i H x H' → (∀ H4, Same H H4 → R y H4) →
      g x (wipe σ vs) H' fun σ2 H2 => wipe σ2 vs = wipe σ vs ∧ te σ2 H2 R)
    (hd : ∀ H D, Same H1 H → H1 D = none → H D = some (.lst ys) → Qd D H) :
    ∀ D, H1 D = none → ∃ W : Nat → Nat → Hp → Prop, (∃ m, W 0 m (upd H1 D (.lst []))) ∧ ∀ i m H, W i m H →
      (J.stop i H ∧ Qd D H) ∨ (J.go i H ∧ ∃ Nx : Hp → Prop, (∀ H', Nx H' → ∃ m', m' < m ∧ W (i + 1) m' H') ∧ ∀ x H', J.yld i H x H' → g x (wipe σ vs) H' fun σ2 H2 => wipe σ2 vs = wipe σ vs ∧ tYes σ2 H2 fun b H3 =>
        if b = true then te σ2 H3 fun y H4 => ∃ acc, H4 D = some (.lst acc) ∧ acc.length < sizeLine ∧ Nx (upd H4 D (.lst (acc ++ [y]))) else Nx H3) := by
  refine lc_acc w (fun i => ys.take i) (by simp) (fun i hi => ?_) hG ?_ (fun H D sm f h => hd H D sm f (by rw [h, List.take_of_length_le (by omega)]))
  · rw [List.length_take]; omega
  · intro i x H H' R Nn hi sm hY kR kN
    have g1 : ys[i]? = some ys[i] := List.getElem?_eq_getElem (by omega)
    exact hs i x H H' ys[i] R hi g1 sm hY fun H4 s4 => kR _ H4 s4 (take_next g1)
end Tl
end
section
namespace Tl
open PySem PySem.Spec PyProof.Rows L2
/-- (x, *rest) = a list of one or more: rest is a new list -/
def gStarOne (K : PySem.W.Frag) (t : TGs) : TG := fun v σ H Q => ∃ (a : Addr) (x : V) (xs : List V), v = .ref a ∧ SqL K H a (x :: xs) ∧ xs.length ≤ 10000 ∧ ∀ p, H p = none → t [x, .ref p] σ (upd H p (.lst xs)) Q
section
variable {X : Cx} {pos : Pos}
theorem pg_starOne {es : List Expr} {kk : Nat} {t : TGs} (quiet : X.calm = true) (hes : PGs X es t)
    (two : (assignEach es X.env).length = 2 := by rfl) (second : (assignEach es X.env).findIdx? (·.1) = some 1 := by rfl) : PG X (.Tuple es kk pos) (gStarOne X.K t) := by
  constructor
  intro pins s σ H v u Q I r want
  obtain ⟨a, x, xs, ev, seq, small, want⟩ := want
  subst ev
  cases r
  obtain ⟨vals, rel, place, _⟩ := I.list seq
  have isl : s.heap.IsList a vals.toArray := by
    obtain ⟨ob, m, e1, e2, e3, e4⟩ := place
    exact ⟨ob, e1, e2, m, e4⟩
  cases rel with
  | @cons _ y _ ys rel0 rels =>
  have lens : xs.length = ys.length := rels.length
  have apart : a ≠ s.heap.objs.size := by
    obtain ⟨ob, ho, _⟩ := isl
    exact Nat.ne_of_lt (Heap.lt_size ho)
  rw [PyProof.Rows.assign_Tuple]
  refine wpAny_bind (wpAny_standAt ?_)
  unfold unpack
  rw [two, second]
  refine wpAny_bind (wpAny_holding ?_)
  unfold unpackItems notIterableAtAll
  refine wpAny_bind (wpAny_bind (wpAny_specialOf isl.typeIs slot_list_iter.lookup (wpAny_pure ?_)))
  simp only [Bool.false_eq_true, if_false]
  refine wpAny_bind (wpAny_holding (wpAny_pyIter_list isl ?_))
  have isl0 := isl.push { cls := .type "list_iterator", data := .fields #[.ref a, .int 0 0] }
  refine wpAny_bind (wpAny_holding (PySem.W.kun_draw apart 1 0 _ _ ⟨_, Heap.get?_push_size _ rfl, rfl, rfl⟩ isl0 (by simp) fun h1 it1 same1 => ?_))
  have isl1 : h1.IsList a (y :: ys).toArray := isl0.extBut same1.extBut apart
  have hh : X.A.handled = none := I.ok.hd quiet
  obtain ⟨oi, hoi, _⟩ := id it1
  obtain ⟨ol, hol, _⟩ := id isl1
  have e1 : List.take 1 (List.drop 0 (y :: ys).toArray.toList) = [y] := rfl
  rw [e1, if_neg (show ¬ [y].length < 1 from Nat.lt_irrefl 1)]
  refine wpAny_bind (wpAny_holding (PySem.W.kun_collect (s := { s with heap := h1 }) (T := "list_iterator") (.inr (.inr (.inl rfl))) (Walks.list (A := X.A.in1) hh s.heap.objs.size a apart (y :: ys).toArray) (fun j u st => st.1.typeIs) (k := 1) (by simp) ⟨it1, isl1⟩ (Heap.lt_size hoi) (Heap.lt_size hol) (fun h2 tk keep2 => ?_) (by rw [sizeLine_eq]; simp; omega)))
  have e2 : (y :: ys).toArray.toList.drop 1 = ys := rfl
  rw [e2]
  simp only [Nat.sub_self, Nat.not_lt_zero, if_false, Nat.sub_zero, List.take_length, List.drop_length, Nat.reduceSub]
  refine wpAny_bind (PySem.wpAny_newList ?_ ?_)
  · have old : ∀ b u, s.heap.get? b = some u → h2.get? b = some u := fun b u e =>
      keep2 b u (Nat.ne_of_lt (Heap.lt_size e)) (same1.extBut b u (Nat.ne_of_lt (Heap.lt_size e)) (Heap.get?_push_of_some _ e))
    have I2 : L2.Inv X pins σ H ⟨h2, s.gens, s.drawn, tk, s.os⟩ := I.kept (h' := h2) (t' := tk) old
    have hf : H h2.objs.size = none := I2.hok.fresh (Nat.le_refl _)
    have I3 : L2.Inv X pins σ (upd H h2.objs.size (.lst xs)) ⟨h2.push { cls := .type "list", data := .seq ys.toArray }, s.gens, s.drawn, tk, s.os⟩ :=
      I2.laid (t' := tk) (fun b u e => Heap.get?_push_of_some _ e) (Nat.le_refl _) ⟨by rw [sizeLine_eq]; omega, ys, 0, rels, Heap.get?_push_size _ rfl⟩
    exact wpAny_pure (hes.run pins _ σ _ [x, .ref h2.objs.size] _ Q I3 (.cons rel0 (.cons rfl .nil)) (want _ hf))
  · rw [sizeLine_eq]; omega
end
end Tl
end
section
namespace Tl
open PySem PySem.Spec PyProof.Rows L2
section
variable {X : Cx} {pos : Pos}
/-- a starred target among several -/
theorem pgs_star {e : Expr} {p : Pos} {es : List Expr} {t : TG} {u : TGs} (h1 : PG X e t) (h2 : PGs X es u)
    (hs : (assignEach (.Starred e p :: es) X.env).map (·.2) = assign e X.env :: (assignEach es X.env).map (·.2) := by rfl) : PGs X (.Starred e p :: es) (gCons t u) := by
  constructor
  intro pins s σ H vs us Q I r h
  obtain ⟨v, vr, rfl, h⟩ := h
  cases r with
  | cons r rr =>
    rw [hs]
    exact assignInOrder_cons (thn (h1.run pins s σ H _ _ _ I r h) fun _ s1 ⟨σ1, H1, I1, q1⟩ => h2.run pins s1 σ1 H1 _ _ Q I1 rr q1)
/-- x not in (a tuple), by depth -/
def rNotInT (K : PySem.W.Frag) : R2 := fun x y H Q => ∃ d ds, Dp K H x d ∧ Dp K H y (.tuple ds) ∧ SeqAt.shaped d = true ∧ SeqAt.shaped (.tuple ds) = true ∧ Q (.bl (!ds.any fun z => PyData.eqv z d)) H
theorem op_notInT (hu : X.A.units + 65 < cLine) : OpR X (compareOp .NotIn) (rNotInT X.K) := by
  intro pins s σ H x y v u Q I rx ry h
  obtain ⟨d, ds, hd, he, sd, se, q⟩ := h
  obtain ⟨as, r1⟩ := Dp.reads I d x v hd rx
  obtain ⟨bs, r2⟩ := Dp.reads I (.tuple ds) y u he ry
  exact SeqAt.notIn_tuple_reads r2 r1 (SeqAt.canLay_of_shaped se) (SeqAt.canLay_of_shaped sd) (room_in_shaped sd hu) ⟨.bl _, H, I, rfl, q⟩
/-- D.get(k, x), D a dict of the module with text keys -/
def tKGet2 (d : Addr) (es : Array DictEntry) (td ty tx : TE) : TE := fun σ H Q => td σ H fun x H1 => x = .ref d ∧ ty σ H1 fun y H2 => tx σ H2 fun z H3 => ∃ k : Str, y = .str k ∧
  (∀ u0, findBy Value.isStrOf es k = some u0 → ∃ v0, RelV v0 u0 ∧ Q v0 H3) ∧ (findBy Value.isStrOf es k = none → Q z H3)
theorem pe_kget2 {o e f : Expr} {td ty tx : TE} {d : Addr} {es : Array DictEntry} {n : Nat} {apos cpos : Pos} (D : KDict X.K X.w d es n) (ho : PE X o td) (he : PE X e ty) (hf : PE X f tx) (m : M2 X o "get" apos e f cpos) :
    PE X (.Call (.Attribute o "get" apos) [e, f] [] cpos) (tKGet2 d es td ty tx) := by
  constructor
  intro pins s σ H Q I h
  refine wpAny_Call_method m.base m.few m.line PySem.F.plainAttrs_dict PySem.F.slot_dict_get PySem.F.type_dict_get (thn (ho.run pins s σ H _ I h) fun u s1 hh => ?_)
  obtain ⟨x, H1, I1, rx, ex, q1⟩ := hh
  subst ex
  obtain rfl : u = Value.ref d := rx
  have map1 := PySem.W.mapOf_K (prog := X.prog) (w := X.w) I1.kIn D.at_ D.lit
  refine ⟨map1.typeIs, fun b q => ?_, ?_⟩
  · cases q; exact ⟨_, I1.kIn _ _ D.at_, rfl⟩
  rw [m.trees]
  refine Calls.callWith_builtin rfl (Calls.evalArgs_plain (Calls.spliced_cons (thn (he.run pins s1 σ H1 _ I1 q1) fun iv s2 hh2 => ?_)))
  obtain ⟨y, H2, I2, ry, q2⟩ := hh2
  refine Calls.spliced_cons (thn (hf.run pins s2 σ H2 _ I2 q2) fun fv s3 hh3 => Calls.spliced_nil ?_)
  obtain ⟨z, H3, I3, rz, k, rfl, there, miss⟩ := hh3
  obtain ⟨t, rfl⟩ := ry
  have map3 := PySem.W.mapOf_K (prog := X.prog) (w := X.w) I3.kIn D.at_ D.lit
  refine call_meetsIn PySem.F.slot_dict_get map3.typeIs PySem.F.entry_dict_get (PySem.F.args_dict_get_3 _ _ _) (meets_dict_get_default (strKind X.prog X.w) d (strKind_is X.prog X.w k t) D.low fv) ⟨_, map3, ?_⟩
  cases e0 : findBy Value.isStrOf es k with
  | some u0 =>
    obtain ⟨v0, r0, q⟩ := there u0 e0
    exact ⟨v0, H3, I3.tok _, r0, q⟩
  | none => exact ⟨z, H3, I3.tok _, rz, miss e0⟩
/-- xs[-1], for xs[-1] op= e -/
def rGetLast (K : PySem.W.Frag) : V → V → Hp → VK → Prop := fun o i H Q => ∃ p xs x, o = .ref p ∧ i = .int (-1) ∧ SqL K H p (xs ++ [x]) ∧ Q x H
theorem get_last : PGet X (rGetLast X.K) := by
  intro pins s σ H o i ov iv Q I ro ri h
  obtain ⟨p, xs, x, rfl, rfl, sq, q⟩ := h
  cases ro
  obtain ⟨t, rfl⟩ := ri
  obtain ⟨its, rv, pl, hz⟩ := I.list sq
  have len := rv.length
  rw [List.length_append, List.length_singleton] at len
  obtain ⟨u, gu, ru⟩ := rv.get (i := xs.length) (x := x) (by simp)
  have e : ((-1 : Int) + (its.toArray.size : Int)).toNat = xs.length := by rw [List.size_toArray]; omega
  exact wpAny_getItem_list_neg pl.isList (by decide) (by rw [List.size_toArray]; omega) (by decide) (by rw [e]; simpa using gu) ⟨x, H, I, ru, q⟩
theorem ip_of {op : Operator} {r : R2} (h : OpR X (inplaceOp op) r) : PIp X op r := fun pins s σ H x y v u Q I rx ry q => h pins s σ H x y v u Q I rx ry q
theorem ixN_last (n : Nat) : ixN (n + 1) (-1) = some n := by
  unfold ixN
  rw [if_neg (by decide), if_pos (by omega)]
  congr 1
  omega
end
end Tl
end
section
/-! max(list of ints, default=d) -/
namespace Tl
open PySem PySem.Spec PyProof.Rows L2
def biggest (m : Int) (ns : List Int) : Int := ns.foldl (fun a b => if b > a then b else a) m
def bestKw (d : Value) : List (Str × Value) := [(Str.ofString "default", d)]
theorem args_maxD (a d : Value) : argsOk "max" ⟨[a], bestKw d⟩ := by unfold argsOk bestKw; kernel_rfl
theorem maxLoopName : (toString "max" ++ toString ".loop" : String) = "max.loop" := by decide
theorem gt_ints {prog : Program} {w : World} {A : Around} {E : Value → Shared → Prop} {s : Shared} {a b : Int} {t u : Tok} {Q : Value → Shared → Prop} (h : Q (.bool (decide (a > b))) s) : wpAny (model prog w) A (richCompare .Gt (.int a t) (.int b u)) Q E s :=
  CmpOf.ints_gt (P := fun i v => if i = 0 then v = .int a t else v = .int b u) (fun i => if i = 0 then a else b) (fun i v hv => by by_cases z : i = 0 <;> simp only [z, if_true, if_false] at hv ⊢ <;> exact ⟨_, hv⟩) 0 1 _ _ s Q E rfl rfl h
section
variable {prog : Program} {w : World} {A : Around} {R : Result → Shared → Prop} {I : Addr} {fp wr : List Addr} {St : Nat → Heap → Prop} {d : Value} {its : List Value} {ns : List Int}
theorem maxD_turns (W : Walks prog w A.in1 I fp wr its.length (fun i v => its[i]? = some v) St) (hi : Vals (ns.map V.int) its) (S : Addr) (off : S ∉ fp) : ∀ (left j : Nat) (s : Shared) (m : Int) (t : Tok) (c : Nat),
    its.length - j = left → j ≤ its.length → St j s.heap → s.heap.get? S = some { cls := .type "list", dict := none, data := .seq #[.int m t, .int m t] c, slots := #[] } →
    (∀ t' h' tk, (∀ b o, b ∉ wr → b ≠ S → s.heap.get? b = some o → h'.get? b = some o) → R (.ok (.ret (.int (biggest m (ns.drop j)) t'))) { s with heap := h', toks := tk }) →
    codeAny (model prog w) A (.builtin "max.loop" ⟨[.ref I, .none, .ref S], bestKw d⟩) R s := by
  have off2 : S ∉ wr := fun z => off (W.sub _ z)
  have len : ns.length = its.length := by have := hi.length; rwa [List.length_map] at this
  intro left
  induction left with
  | zero =>
    intro j s m t c e1 e2 st at1 fin
    have e3 : j = its.length := by omega
    subst e3
    refine codeAny_builtin F.entry_max_loop ?_
    rw [Around.under_plainId F.plain_max_loop _]; show wpAny (model prog w) A.in1 (seqItems? (.ref S) >>= _) _ _ s; refine wpAny_bind (wpAny_seqItems at1 rfl ?_)
    show wpAny (model prog w) A.in1 (tryCatch (pyNext (.ref I)) _ >>= _) _ _ s
    refine wpAny_bind (wpAny_tryCatch (W.done s _ _ st fun h' tk keep => ?_))
    have at2 := keep S _ off2 at1
    show wpAny (model prog w) A.in1 (updateSeq S (fun _ => #[]) >>= _) _ _ _
    refine wpAny_bind (wpAny_updateSeq at2 rfl (wpAny_bind (wpAny_letGo (wpAny_pure ?_))))
    have e4 : ns.drop its.length = [] := List.drop_eq_nil_of_le (by omega)
    rw [e4] at fin
    exact fin t _ tk fun b o hw hS e => (Heap.get?_update_other _ _ (Ne.symm hS)).trans (keep b o hw e)
  | succ left ih =>
    intro j s m t c e1 e2 st at1 fin
    have lt : j < its.length := by omega
    refine codeAny_builtin F.entry_max_loop ?_
    rw [Around.under_plainId F.plain_max_loop _]; show wpAny (model prog w) A.in1 (seqItems? (.ref S) >>= _) _ _ s; refine wpAny_bind (wpAny_seqItems at1 rfl ?_)
    show wpAny (model prog w) A.in1 (tryCatch (pyNext (.ref I)) _ >>= _) _ _ s
    refine wpAny_bind (wpAny_tryCatch (W.item j s _ _ lt st fun v h' tk gv st' keep => ?_))
    have at2 := keep S _ off2 at1
    have gn : ns[j]? = some ns[j] := List.getElem?_eq_getElem (by omega)
    obtain ⟨v', gv', t1, rfl⟩ := hi.get (i := j) (x := .int ns[j]) (by rw [List.getElem?_map, gn]; rfl)
    have ev : v = .int ns[j] t1 := Option.some.inj (gv.symm.trans gv')
    subst ev
    have e4 : ns.drop j = ns[j] :: ns.drop (j + 1) := List.drop_eq_getElem_cons (by omega)
    rw [e4] at fin
    show wpAny (model prog w) A.in1 (tryCatch (holding [_, _] (richCompare .Gt _ (.int m t) >>= _)) _ >>= _) _ _ _
    refine wpAny_bind (wpAny_tryCatch (wpAny_holding (wpAny_bind ?cmp)))
    case cmp =>
      refine gt_ints ?_
      refine wpAny_bind (wpAny_holding (wpAny_truthy_bool (wpAny_bind (wpAny_letGo (wpAny_pure ?_)))))
      by_cases bt : ns[j] > m
      · rw [decide_eq_true bt]
        simp only [if_true]
        refine wpAny_bind (wpAny_updateSeq at2 rfl (wpAny_bind (wpAny_letGo ?_)))
        rw [maxLoopName]
        refine wpAny_pure ⟨plainId_quiet F.plain_max_loop _, ih (j + 1) _ ns[j] t1 _ (by omega) lt (W.frame _ _ _ st' fun b hb o e => (Heap.get?_update_other _ _ (fun z : S = b => off (by rw [z]; exact hb))).trans e) (Heap.get?_update_self _ at2 rfl) fun t' h2 tk2 keep2 => ?_⟩
        rw [show biggest m (ns[j] :: ns.drop (j + 1)) = biggest ns[j] (ns.drop (j + 1)) by unfold biggest; rw [List.foldl_cons, if_pos bt]] at fin
        exact fin t' h2 tk2 fun b o hw hS e => keep2 b o hw hS ((Heap.get?_update_other _ _ (Ne.symm hS)).trans (keep b o hw e))
      · rw [decide_eq_false bt]
        simp only [Bool.false_eq_true, if_false]
        refine wpAny_bind (wpAny_letGo ?_)
        rw [maxLoopName]
        refine wpAny_pure ⟨plainId_quiet F.plain_max_loop _, ih (j + 1) _ m t c (by omega) lt st' at2 fun t' h2 tk2 keep2 => ?_⟩
        rw [show biggest m (ns[j] :: ns.drop (j + 1)) = biggest m (ns.drop (j + 1)) by unfold biggest; rw [List.foldl_cons, if_neg bt]] at fin
        exact fin t' h2 tk2 fun b o hw hS e => keep2 b o hw hS (keep b o hw e)
/-- the whole loop: it begins with an empty list of the best -/
theorem maxD_first (W : Walks prog w A.in1 I fp wr its.length (fun i v => its[i]? = some v) St) (hi : Vals (ns.map V.int) its) (S : Addr) (off : S ∉ fp) {s : Shared} {c : Nat} (st : St 0 s.heap) (at1 : s.heap.get? S = some { cls := .type "list", dict := none, data := .seq #[] c, slots := #[] })
    (none' : ns = [] → ∀ h' tk, (∀ b o, b ∉ wr → b ≠ S → s.heap.get? b = some o → h'.get? b = some o) → R (.ok (.ret d)) { s with heap := h', toks := tk })
    (some' : ∀ m r, ns = m :: r → ∀ t' h' tk, (∀ b o, b ∉ wr → b ≠ S → s.heap.get? b = some o → h'.get? b = some o) → R (.ok (.ret (.int (biggest m r) t'))) { s with heap := h', toks := tk }) :
    codeAny (model prog w) A (.builtin "max.loop" ⟨[.ref I, .none, .ref S], bestKw d⟩) R s := by
  have off2 : S ∉ wr := fun z => off (W.sub _ z)
  have len : ns.length = its.length := by have := hi.length; rwa [List.length_map] at this
  refine codeAny_builtin F.entry_max_loop ?_
  rw [Around.under_plainId F.plain_max_loop _]; show wpAny (model prog w) A.in1 (seqItems? (.ref S) >>= _) _ _ s; refine wpAny_bind (wpAny_seqItems at1 rfl ?_)
  show wpAny (model prog w) A.in1 (tryCatch (pyNext (.ref I)) _ >>= _) _ _ s
  cases ns with
  | nil =>
    have e0 : its.length = 0 := len.symm
    refine wpAny_bind (wpAny_tryCatch (W.done s _ _ (by rw [e0]; exact st) fun h' tk keep => ?_))
    show wpAny (model prog w) A.in1 (rule _ >>= fun _ => ret d) _ _ _
    exact wpAny_bind (wpAny_rule (wpAny_pure (none' rfl h' tk fun b o hw _ e => keep b o hw e)))
  | cons m r =>
    have lt : 0 < its.length := by rw [← len]; exact Nat.succ_pos _
    refine wpAny_bind (wpAny_tryCatch (W.item 0 s _ _ lt st fun v h' tk gv st' keep => ?_))
    obtain ⟨v', gv', t1, rfl⟩ := hi.get (i := 0) (x := .int m) rfl
    have ev : v = .int m t1 := Option.some.inj (gv.symm.trans gv')
    subst ev
    have at2 := keep S _ off2 at1
    show wpAny (model prog w) A.in1 (updateSeq S (fun _ => #[Value.int m t1, Value.int m t1]) >>= _) _ _ _
    refine wpAny_bind (wpAny_updateSeq at2 rfl ?_)
    rw [maxLoopName]
    refine wpAny_pure ⟨plainId_quiet F.plain_max_loop _, maxD_turns W hi S off _ 1 _ m t1 _ rfl lt (W.frame _ _ _ st' fun b hb o e => (Heap.get?_update_other _ _ (fun z : S = b => off (by rw [z]; exact hb))).trans e) (Heap.get?_update_self _ at2 rfl) fun t' h2 tk2 keep2 => ?_⟩
    exact some' m r rfl t' h2 tk2 fun b o hw hS e => keep2 b o hw hS ((Heap.get?_update_other _ _ (Ne.symm hS)).trans (keep b o hw e))
end
/-- max(a list of ints, default=d): an int -/
def rMaxD (K : PySem.W.Frag) : List V → List V → Hp → VK → Prop := fun vs zs H Q => ∃ (a : Addr) (ns : List Int) (d : Int), vs = [V.ref a] ∧ zs = [.int d] ∧ SqL K H a (ns.map V.int) ∧
  Q (.int (match ns with | [] => d | m :: r => biggest m r)) H
theorem cr_maxD {X : Cx} (hc : X.calm = true) : CallRK X (.builtin "max") [Str.ofString "default"] (rMaxD X.K) := by
  intro pins s σ H vs zs us ws Q I r rz h
  obtain ⟨a, ns, d, rfl, rfl, hs, q⟩ := h
  obtain ⟨its, rv, place, _⟩ := I.list hs
  rw [Vals.ref1 r]
  cases rz with
  | cons rd rn =>
  cases rn
  obtain ⟨td, rfl⟩ := rd
  have isl : s.heap.IsList a its.toArray := by
    obtain ⟨ob, m, e1, e2, e3, e4⟩ := place
    exact ⟨ob, e1, e2, m, e4⟩
  have apart : a ≠ s.heap.objs.size := by
    obtain ⟨ob, ho, _⟩ := isl
    exact Nat.ne_of_lt (Heap.lt_size ho)
  have small : a < s.heap.objs.size := by
    obtain ⟨ob, ho, _⟩ := isl
    exact Heap.lt_size ho
  refine kmk_tree F.kind_max F.plain_max F.entry_max (args_maxD _ _) ?_
  show wpAny _ X.A.in1 (Builtin.Builtins.bindParams "max" ["key", "default"] 0 ⟨[], bestKw (.int d td)⟩ >>= _) _ _ s
  refine wpAny_bind (wpAny_of_eq (show Builtin.Builtins.bindParams "max" ["key", "default"] 0 ⟨[], bestKw (.int d td)⟩ = pure [none, some (.int d td)] from rfl) (wpAny_bind (wpAny_pure ?_)))
  refine wpAny_bind (wpAny_pyIter_list isl (wpAny_bind (wpAny_newObj_type ?_)))
  rw [maxLoopName]
  have W : Walks X.prog X.w X.A.in1 s.heap.objs.size [s.heap.objs.size, a] [s.heap.objs.size] its.length (fun i v => its[i]? = some v) (fun i h => h.IsListIter s.heap.objs.size a i ∧ h.IsList a its.toArray) := by
    simpa using Walks.list (prog := X.prog) (w := X.w) (A := X.A.in1) (I.ok.hd hc) s.heap.objs.size a apart its.toArray
  have z1 : (s.heap.push { cls := .type "list_iterator", data := .fields #[.ref a, .int 0 0] }).objs.size = s.heap.objs.size + 1 := Heap.size_push ..
  have off : (s.heap.push { cls := .type "list_iterator", data := .fields #[.ref a, .int 0 0] }).objs.size ∉ [s.heap.objs.size, a] := by
    rw [z1]; simp only [List.mem_cons, List.not_mem_nil, or_false, not_or]; exact ⟨Nat.succ_ne_self _, (Nat.ne_of_lt (Nat.lt_succ_of_lt small)).symm⟩
  have done : ∀ (z : Int) (t' : Tok) (h' : Heap) (tk : Nat), Q (.int z) H → (∀ b o, b ∉ [s.heap.objs.size] → b ≠ (s.heap.push { cls := .type "list_iterator", data := .fields #[.ref a, .int 0 0] }).objs.size →
      ((s.heap.push { cls := .type "list_iterator", data := .fields #[.ref a, .int 0 0] }).push { cls := .type "list", data := .seq #[] }).get? b = some o → h'.get? b = some o) → EP X pins σ Q (.int z t') ⟨h', s.gens, s.drawn, tk, s.os⟩ := fun z t' h' tk q keep => by
    refine ⟨.int z, H, I.kept (h' := h') (t' := tk) fun b o e => keep b o ?_ ?_ (Heap.get?_push_of_some _ (Heap.get?_push_of_some _ e)), ⟨_, rfl⟩, q⟩
    · simp only [List.mem_cons, List.not_mem_nil, or_false]; exact Nat.ne_of_lt (Heap.lt_size e)
    · rw [z1]; exact Nat.ne_of_lt (Nat.lt_succ_of_lt (Heap.lt_size e))
  refine wpAny_pure ⟨plainId_quiet F.plain_max_loop _, maxD_first (d := .int d td) W rv _ off ⟨⟨_, Heap.get?_push_of_some _ (Heap.get?_push_size _ rfl), rfl, rfl⟩, (isl.push _).push _⟩ (Heap.get?_push_size _ rfl) (fun e h' tk keep => ?_) (fun m r e t' h' tk keep => ?_)⟩
  · subst e; exact done d td h' tk q keep
  · subst e; exact done (biggest m r) t' h' tk q keep
end Tl
end
section
/-! for a, b in zip(a text, a list) -/
namespace Tl
open PySem PySem.Spec PyProof.Rows L2
def Itzs (K : PySem.W.Frag) (x : Str) (b : Addr) : It :=
  ⟨fun i H => i < x.cps.size ∧ ∃ (ys : List V) (y : V), SqL K H b ys ∧ ys[i]? = some y,
    fun i H v H' => ∃ T c y, v = .ref T ∧ H T = none ∧ H' = upd H T (.tup [.str ⟨#[c]⟩, y]) ∧ x.cps[i]? = some c ∧ ∀ ys, SqL K H b ys → ys[i]? = some y,
    fun i H => ∃ ys : List V, SqL K H b ys ∧ i = x.cps.size ∧ i ≤ ys.length⟩
theorem sep_zs {z TI TO i1 i2 b : Addr} (D : ZipApart z TI TO i1 i2 b b) (h : b ≠ i1) : ZipSep2 z TI TO i1 i2 [i1] [i2, b] where
  TIz := D.TIz
  TOz := D.TOz
  TITO := D.TITO
  TIi1 := D.TIi1
  mem1 := by simp
  zf1 := by simp; exact D.i1z.symm
  Tf1 := by simp; exact D.TOi1
  TIi2 := D.TIi2
  mem2 := by simp
  zf2 := by simp; exact ⟨D.i2z.symm, D.l1z.symm⟩
  Tf2 := by simp; exact ⟨D.TOi2, D.l1TO.symm⟩
  sep1_2 := by simp; exact ⟨D.i12, h.symm⟩
  sep2_1 := by simp; exact D.i12.symm
theorem turn_zs {P : Program} {w : World} {K : PySem.W.Frag} {elts : List Expr} {kk : Nat} {tpos : Pos} {x : Str} {t : Tok} {b z TI TO i1 i2 : Addr} (D : ZipApart z TI TO i1 i2 b b) :
    Turn P w K (.Tuple elts kk tpos) (Itzs K x b) [z, TI, TO, i1, i2] z (fun i h => IsZip h z TI TO .none ∧ IsTupOf2 h TI (.ref i1) (.ref i2) ∧ (∃ u v, IsTupOf2 h TO u v) ∧ h.IsStrIter i1 (strIterType x) x t i ∧ h.IsListIter i2 b i) where
  mem := by simp
  obj := fun i h st c hc => by
    obtain ⟨zz, zI, ⟨u, v, zO⟩, ⟨o1, e1, _, d1⟩, ⟨o2, e2, _, d2⟩⟩ := st
    simp only [List.mem_cons, List.not_mem_nil, or_false] at hc
    rcases hc with rfl | rfl | rfl | rfl | rfl
    · exact ⟨_, zz, fun v q => nomatch q⟩
    · exact ⟨_, zI, fun v q => nomatch q⟩
    · exact ⟨_, zO, fun v q => nomatch q⟩
    · exact ⟨o1, e1, fun v q => by rw [d1] at q; cases q⟩
    · exact ⟨o2, e2, fun v q => by rw [d2] at q; cases q⟩
  keep := fun i h h' st k => by
    obtain ⟨zz, zI, ⟨u, v, zO⟩, ⟨o1, e1, r1⟩, s2⟩ := st
    exact ⟨k z (by simp) _ zz, k TI (by simp) _ zI, ⟨u, v, k TO (by simp) _ zO⟩, ⟨o1, k i1 (by simp) _ e1, r1⟩, s2.at fun o q => k i2 (by simp) o q⟩
  item := by
    intro X hP hw hK hc i pins s σ H E I hf st hg
    subst hP hw hK
    obtain ⟨zz, zI, ⟨u0, v0, zO⟩, s1, s2⟩ := st
    obtain ⟨lt1, ys, y, sq, gy⟩ := hg
    obtain ⟨its, rv, pl, _⟩ := I.list sq
    have isl : s.heap.IsList b its.toArray := pl.isList
    have lt2 : i < its.length := by have := rv.length; have := (List.getElem?_eq_some_iff.mp gy).1; omega
    have D1 := Draws.text (prog := X.prog) (w := X.w) (A := X.A.in1) (I.ok.hd hc) i1 x t
    have D2 := Draws.list (prog := X.prog) (w := X.w) (A := X.A.in1) (I.ok.hd hc) i2 b D.l1i2 its.toArray
    refine wpAny_pyNext_zipD2_item (sep_zs D D.l1i1) D1 D2 zz zI zO s1 ⟨s2, isl⟩ lt1 (by simpa using lt2) fun x1 x2 h' tk p1 p2 zz' zO' t1 t2 nT hsz kp => ?_
    obtain ⟨c, tc, gc, rfl⟩ := p1
    obtain ⟨u2, gu2, r2⟩ := rv.get gy
    have e2 : x2 = u2 := by have p2' : its[i]? = some x2 := by simpa using p2
                            exact Option.some.inj (p2'.symm.trans gu2)
    subst e2
    refine ⟨_, rfl, wpAny_letOwnedTupleGo_zip (s := ⟨h', s.gens, s.drawn, tk, s.os⟩) zz' fun h2 zz2 sb => ?_⟩
    have zlt : z < s.heap.objs.size := Heap.lt_size zz
    have nT2 : h2.get? s.heap.objs.size = some { cls := .type "tuple", data := .seq #[.str ⟨#[c]⟩ tc, x2] } := (sb.2 _ (Nat.ne_of_gt zlt)).trans nT
    have new : ObjOk X.prog X.w (upd H s.heap.objs.size (.tup [.str ⟨#[c]⟩, y])) h2 s.heap.objs.size (.tup [.str ⟨#[c]⟩, y]) :=
      ⟨by show 2 ≤ sizeLine; decide, [.str ⟨#[c]⟩ tc, x2], .cons ⟨_, rfl⟩ (.cons r2 .nil), ⟨_, nT2, rfl, _, rfl⟩⟩
    have I1 : L2.Inv X pins σ (upd H s.heap.objs.size (.tup [.str ⟨#[c]⟩, y])) { s with heap := h2, toks := tk } :=
      I.turnedNew (t' := tk) (ch := [z, TI, TO, i1, i2]) (fun d o hb q => (sb.2 d (fun q' => hb (by simp [q']))).trans (kp d o (fun q' => hb (by simp [q'])) (fun q' => hb (by simp [q'])) (fun q' => hb (by simp [q'])) (fun q' => hb (by simp [q'])) q)) hf (Nat.le_refl _) new
    refine ⟨.ref s.heap.objs.size, _, I1, rfl, ⟨_, c, y, rfl, I.hok.fresh (Nat.le_refl _), rfl, gc, fun l hl => by rw [I.list_inj hl sq]; exact gy⟩, ⟨zz2, ?_, ⟨.str ⟨#[c]⟩ tc, x2, ?_⟩, ?_, ?_⟩, fun d hd => ?_⟩
    · exact (sb.2 _ D.TIz).trans (kp _ _ D.TIz D.TITO D.TIi1 D.TIi2 zI)
    · exact (sb.2 _ D.TOz).trans zO'
    · obtain ⟨o1, e1, r1⟩ := t1; exact ⟨o1, (sb.2 _ D.i1z).trans e1, r1⟩
    · exact t2.1.at fun o q => (sb.2 _ D.i2z).trans q
    · have young : d < s.heap.objs.size := by
        have hd' := hd
        simp only [List.mem_cons, List.not_mem_nil, or_false] at hd'
        rcases hd' with rfl | rfl | rfl | rfl | rfl
        · exact zlt
        · exact Heap.lt_size zI
        · exact Heap.lt_size zO
        · obtain ⟨_, e1, _⟩ := s1; exact Heap.lt_size e1
        · obtain ⟨_, e2, _⟩ := s2; exact Heap.lt_size e2
      rw [upd_ne (Nat.ne_of_lt young)]; exact (hf d hd).1
  done := by
    intro X hP hw hK hc i pins s σ H E I hf st hg
    subst hP hw hK
    obtain ⟨zz, zI, ⟨u0, v0, zO⟩, s1, s2⟩ := st
    obtain ⟨ys, sq, e1, le2⟩ := hg
    obtain ⟨its, rv, pl, _⟩ := I.list sq
    have len := rv.length
    have D1 := Draws.text (prog := X.prog) (w := X.w) (A := X.A.in1) (I.ok.hd hc) i1 x t
    have D2 := Draws.list (prog := X.prog) (w := X.w) (A := X.A.in1) (I.ok.hd hc) i2 b D.l1i2 its.toArray
    exact wpAny_pyNext_zipD2_end (sep_zs D D.l1i1) D1 D2 zz zI zO s1 ⟨s2, pl.isList⟩ (by omega) (by simp; omega) (.inl e1) fun h' tk kp => ⟨rfl, I.turnedL (t' := tk) (ch := [z, TI, TO, i1, i2]) (fun d o hb q =>
      kp d o (fun q' => hb (by simp [q'])) (fun q' => hb (by simp [q'])) (fun q' => hb (by simp [q'])) (fun q' => hb (by simp [q'])) q) hf⟩
  self := fun A i s Q E st h => wpAny_pyIter_zip st.1 h
def iZipS (K : PySem.W.Frag) (ta : TA) : TI := fun σ H R => ta σ H fun vs H1 => ∃ x b ys, vs = [.str x, .ref b] ∧ SqL K H1 b ys ∧ R (Itzs K x b) H1
theorem pi_zipS {X : Cx} {e e2 : Expr} {ta : TA} {p pos tpos : Pos} {elts : List Expr} {kk : Nat} (hg : Gl X "zip") (hm : X.mg "zip" = none) (ha : PA X [e, e2] ta)
    (hs : starEach [e, e2] X.env = (false, eval e X.env) :: starEach [e2] X.env := by rfl) (hpl : (backTo pos (starEach [e2] X.env)).any (·.1) = false := by rfl) :
    PI X (.Tuple elts kk tpos) (.Call (.Name "zip" p) [e, e2] [] pos) (iZipS X.K ta) := by
  constructor
  intro pins s σ H R I h
  refine Call_ (ld_blt I hg hm PyProof.Rows.boot_zip (PyProof.Rows.callWith_type1 (thn (ha.run pos pins s σ H _ I h) fun us s1 hh => ?_) hs hpl))
  obtain ⟨vs, H1, I1, r1, x, b, ys, ex, sq, q⟩ := hh
  subst ex
  cases r1 with
  | cons r rr =>
  cases rr with
  | cons r' rr =>
  cases rr
  cases r'
  obtain ⟨t, rfl⟩ := r
  obtain ⟨its, rv, pl, _⟩ := I1.list sq
  have lb : b < s1.heap.objs.size := pl.lt
  refine zip_begins2 (begins_text x t) (begins_list b its.toArray) trivial pl.isList fun h' zz zI zO g1 g2 hsz kp => wpAny_pyIter_zip zz ?_
  have I2 : L2.Inv X pins σ H1 { s1 with heap := h' } := I1.kept (t' := s1.toks) kp
  refine ⟨s1.heap.objs.size + 4, [s1.heap.objs.size + 4, s1.heap.objs.size + 2, s1.heap.objs.size + 3, s1.heap.objs.size, s1.heap.objs.size + 1], _, _, H1, rfl, I2, turn_zs (t := t) (PySem.W.ktu_apart s1.heap.objs.size b b lb lb), ⟨zz, zI, ⟨_, _, zO⟩, ⟨_, g1, rfl, rfl⟩, ⟨_, g2, rfl, rfl⟩⟩, fun d hd => ?_, q⟩
  simp only [List.mem_cons, List.not_mem_nil, or_false] at hd
  have old : s1.heap.objs.size ≤ d := by
    rcases hd with rfl | rfl | rfl | rfl | rfl <;> first | exact Nat.le_refl _ | exact Nat.le_add_right _ _
  exact I1.fpOk old (I1.hok.fresh old)
theorem walk_zs {K : PySem.W.Frag} {x : Str} {b : Addr} {ys : List V} {n : Nat} (h1 : x.cps.size = n) (h2 : ys.length = n) : Walk (Itzs K x b) n (fun H => SqL K H b ys)
    (fun i H v H' => ∃ T c y, v = .ref T ∧ H T = none ∧ H' = upd H T (.tup [.str ⟨#[c]⟩, y]) ∧ x.cps[i]? = some c ∧ ys[i]? = some y ∧ SqL K H b ys) where
  goes := fun i H hi q => ⟨by omega, ys, ys[i], q, List.getElem?_eq_getElem (by omega)⟩
  stops := fun H q => ⟨ys, q, by omega, by omega⟩
  yields := fun i H v H' hi q y => by
    obtain ⟨T, c, z, a1, a2, a3, a4, a5⟩ := y
    exact ⟨T, c, z, a1, a2, a3, a4, a5 ys q, q⟩
end Tl
end
section
/-! an exception that leaves from inside a list comprehension -/
namespace CqN
open PySem PySem.Spec PyProof.Rows L2
/-- in flight over the frames l, B the ground, fl what its traceback says -/
def Trk (B : Heap) (l : List Env) (a : Addr) (Z : Obj → Prop) (fl : Value) (h : Heap) : Prop :=
  B.StaysIn h ∧ B.get? a = none ∧ h.FunFrames B l ∧ HandSPX.TracedZ h B a Z fl
/-- as CX, whatever the traceback says of its flight -/
def Fl (P : Program) (w : World) (l : List Env) (H : Hp) (s : Shared) (E : XK) (a : Addr) (fl : Value) (s' : Shared) : Prop :=
  ∃ (B : Heap) (H' : Hp) (cls : Value) (d : Option Addr), Trk B l a (L2N.Zn cls d) fl s'.heap ∧ HOk P w H' B ∧ UB (frs l) H H' s.heap B s'.heap ∧ H' a = none ∧ s'.os = s.os ∧ AllBare s'.gens ∧ E cls d H'
theorem mem_frs {l : List Env} {b : Addr} {B h : Heap} (hl : h.FunFrames B l) (hb : b ∈ frs l) : ∃ o, h.get? b = some o ∧ ∀ vs, o.data ≠ .fields vs := (hl.mem hb).2
section
variable {P : Program} {w : World} {l : List Env} {H : Hp} {s s' : Shared} {E : XK} {a C : Addr} {fl fl' : Value}
/-- the exception's own objects and the frames' slots move -/
theorem Fl.up {h' : Heap} {B : Heap} {H' : Hp} {cls : Value} {d : Option Addr} (t : Trk B l a (L2N.Zn cls d) fl s'.heap) (ok : HOk P w H' B) (ub : UB (frs l) H H' s.heap B s'.heap) (na : H' a = none) (os : s'.os = s.os) (ag : AllBare s'.gens) (e : E cls d H')
    (t' : Trk B l a (L2N.Zn cls d) fl' h') (up : s'.heap.UpToSlots h') : Fl P w l H s E a fl' { s' with heap := h' } := by
  refine ⟨B, H', cls, d, t', ok, ⟨ub.keep, fun b o q hb => ?_, ub.free, ub.there, ub.tups, ub.frzs, ub.tbls⟩, na, os, ag, e⟩
  obtain ⟨sl, q1⟩ := ub.slot b o q hb
  obtain ⟨o2, q2, nf⟩ := mem_frs t.2.2.1 hb
  rw [q1] at q2
  cases q2
  obtain ⟨sl2, q3⟩ := up b _ q1 nf
  exact ⟨sl2, q3⟩
theorem frames_on {B h h' : Heap} : ∀ {l : List Env}, (∀ b ∈ frs l, ∀ o, h.get? b = some o → h'.get? b = some o) → h.FunFrames B l → h'.FunFrames B l
  | [], _, _ => trivial
  | env :: l, k, hl => by
    obtain ⟨hk, ⟨L, o, hf, hn, ho, hd⟩, hr⟩ := hl
    have sub : ∀ b ∈ frs l, b ∈ frs (env :: l) := fun b hb => by
      unfold frs
      rw [List.filterMap_cons, hf]
      exact List.mem_cons_of_mem _ hb
    have here : L ∈ frs (env :: l) := by
      unfold frs
      rw [List.filterMap_cons, hf]
      exact List.mem_cons_self
    exact ⟨hk, ⟨L, o, hf, hn, k L here o ho, hd⟩, frames_on (fun b hb => k b (sub b hb)) hr⟩
/-- an untracked object of the callee's time is let go: the ground is without it -/
theorem Fl.less {oC : Obj} {h2 : Heap} (hC : s.heap.get? C = some oC) (nC : H C = none) (fC : C ∉ frs l) (sb : Heap.SameBut C s'.heap h2) (c : Fl P w l H s E a fl s') :
    Fl P w l H { s with heap := PySem.W.hideAll s.heap [C] } E a fl { s' with heap := h2 } := by
  obtain ⟨B, H', cls, d, ⟨t1, t2, t3, t4⟩, ok, ub, na, os, ag, e⟩ := c
  have BC : B.get? C = some oC := ub.keep C oC hC nC fC
  have HC : H' C = none := ub.free C oC hC nC
  have inB : ∀ b o, (PySem.W.hideAll B [C]).get? b = some o → B.get? b = some o ∧ b ≠ C := fun b o q => ⟨PySem.W.of_hideAll _ q, fun z => by
    rw [z, PySem.W.hideAll_none [C] (List.mem_cons_self ..)] at q; cases q⟩
  have inS : ∀ b o, (PySem.W.hideAll s.heap [C]).get? b = some o → s.heap.get? b = some o ∧ b ≠ C := fun b o q => ⟨PySem.W.of_hideAll _ q, fun z => by
    rw [z, PySem.W.hideAll_none [C] (List.mem_cons_self ..)] at q; cases q⟩
  have toB : ∀ b o, b ≠ C → B.get? b = some o → (PySem.W.hideAll B [C]).get? b = some o := fun b o n q => PySem.W.hideAll_get _ q fun m => n (List.mem_singleton.mp m)
  have nB : ∀ b, B.get? b = none → (PySem.W.hideAll B [C]).get? b = none := fun b q => by
    cases z : (PySem.W.hideAll B [C]).get? b with
    | none => rfl
    | some o => rw [(inB b o z).1] at q; cases q
  have same : ∀ b, b ≠ C → h2.get? b = s'.heap.get? b := sb.2
  obtain ⟨oe, vs, T, oT, ts, he, hz, hd, h1, hnT, hTe, hT, hdT, h3⟩ := t4
  have aC : a ≠ C := fun z => by rw [z, BC] at t2; cases t2
  have TC : T ≠ C := fun z => by rw [z, BC] at hnT; cases hnT
  refine ⟨PySem.W.hideAll B [C], H', cls, d, ⟨fun b o q => ?_, nB a t2, ?_, ?_⟩, fun b o q => ?_, ⟨fun b o q n m => ?_, fun b o q m => ?_, fun b o q => ub.free b o (inS b o q).1, fun b o q m => ?_, ub.tups, ub.frzs, ub.tbls⟩, na, os, ag, e⟩
  · obtain ⟨q1, q2⟩ := inB b o q
    exact (same b q2).trans (t1 b o q1)
  · refine frames_on (fun b hb o q => (same b fun z => fC (z ▸ hb)).trans q) (funFrames_none t3 fun L hL => nB L ?_)
    exact (t3.mem hL).1
  · exact ⟨oe, vs, T, oT, ts, (same a aC).trans he, hz, hd, h1, nB T hnT, hTe, (same T TC).trans hT, hdT, h3⟩
  · refine (ok b o q).stay (fun c u hc r => toB c u (fun z => ?_) r) (fun _ r => r) fun _ _ r => r
    rcases hc with hc | hc
    · rw [← hc, z, HC] at q; cases q
    · rw [z, HC] at hc; cases hc
  · obtain ⟨q1, q2⟩ := inS b o q
    exact toB b o q2 (ub.keep b o q1 n m)
  · obtain ⟨q1, q2⟩ := inS b o q
    obtain ⟨sl, q3⟩ := ub.slot b o q1 m
    exact ⟨sl, (same b q2).trans q3⟩
  · obtain ⟨q1, q2⟩ := inS b o q
    obtain ⟨o', q3⟩ := ub.there b o q1 m
    exact ⟨o', toB b o' q2 q3⟩
theorem Fl.of {u : Value} (c : L2N.CX P w l H s E u s') : ∃ a, u = .ref a ∧ Fl P w l H s E a .none s' := by
  obtain ⟨a, B, H', cls, d, rfl, ⟨k1, k2, k3, k4⟩, ok, ub, na, os, ag, e⟩ := c
  exact ⟨a, rfl, B, H', cls, d, ⟨k1, k2, k3, k4⟩, ok, ub, na, os, ag, e⟩
section
variable {M : Model} {A : Around} {E₁ : Value → Shared → Prop} {env : Env} {outer : List Env} {L : Addr}
/-- the frame notes it -/
theorem Fl.note {Q : Unit → Shared → Prop} (hfr : A.frames = some (env :: outer)) (hf : env.frame = some L) (c : Fl P w (env :: outer) H s E a .none s')
    (hQ : ∀ h', Fl P w (env :: outer) H s E a (rawInt L) { s' with heap := h' } → s'.heap.UpToSlots h' → Q () { s' with heap := h' }) : wpAny M A (noteFrame (.ref a) env) Q E₁ s' := by
  obtain ⟨B, H', cls, d, ⟨t1, t2, t3, t4⟩, ok, ub, na, os, ag, e⟩ := c
  refine PXN.looks_onZ (Z := L2N.Zn cls d) L2N.Zn.steady hfr hf ⟨t1, t2, t3, t4⟩ fun h' hh up => hQ h' ?_ up
  exact Fl.up (fl := .none) ⟨t1, t2, t3, t4⟩ ok ub na os ag e hh up
/-- passed on: whatever frame is told -/
theorem Fl.passOn {what : String} {cenv : Env} {α : Type} {Q : α → Shared → Prop} (c : Fl P w l H s E a fl s') (hE : ∀ h' fl', Fl P w l H s E a fl' { s' with heap := h' } → E₁ (.ref a) { s' with heap := h' }) :
    wpAny M A (PySem.passOn what (.ref a) cenv : Sem α) Q E₁ s' := by
  obtain ⟨B, H', cls, d, ⟨t1, t2, t3, t4⟩, ok, ub, na, os, ag, e⟩ := c
  obtain ⟨oe, vs, T, oT, ts, he, hz, hd, h1, hnT, hTe, hT, hdT, h3⟩ := id t4
  unfold PySem.passOn
  refine wpAny_bind (wpAny_field he hd h1 ?_)
  rw [if_neg (show ¬ ((Value.ref T == Value.none) = true) by simp)]
  refine wpAny_bind (HandSPX.setFlight_anyZ t1 t3 t4 fun h' k1 k2 k3 k4 => wpAny_throw (hE h' (cenv.frame.elim Value.none fun f => rawInt f) ?_))
  exact Fl.up ⟨t1, t2, t3, t4⟩ ok ub na os ag e ⟨k1, t2, k2, k3⟩ k4
/-- it leaves the frame, whatever its traceback says -/
theorem leaves_any {B : Heap} {Z : Obj → Prop} {Q : Unit → Shared → Prop} (hZ : PXN.Steady1 Z) (hfr : A.frames = some (env :: outer)) (hf : env.frame = some L) (t : Trk B (env :: outer) a Z fl s.heap)
    (hQ : ∀ h', HandSPX.FlyingZ B outer a Z h' → s.heap.UpToSlots h' → Q () { s with heap := h' }) : wpAny M A (leaving env (.ref a)) Q E₁ s := by
  obtain ⟨hkb, hen, hl, tr⟩ := t
  by_cases hfl : (fl == rawInt L) = true
  · have e : fl = rawInt L := by simpa using hfl
    exact HandSPX.leaves_heldZ hf ⟨hkb, hen, hl, e ▸ tr⟩ hQ
  obtain ⟨oe, vs, T, oT, ts, he, hz, hd, h1, hnT, hTe, hT, hdT, h3⟩ := tr
  unfold leaving noteFrame
  simp only [hf]
  refine wpAny_bind (wpAny_bind (wpAny_field he hd h1 ?_))
  rw [if_pos (show (Value.ref T != Value.none) = true from by simp)]
  refine wpAny_bind (wpAny_field hT hdT h3 ?_)
  rw [if_neg hfl]
  have h3s : 3 < ts.size := (Array.getElem?_eq_some_iff.mp h3).1
  refine wpAny_bind (wpAny_setField hT hdT h3s ?_)
  generalize hG : s.heap.update T (Obj.mapFields (·.setIfInBounds 3 Value.none)) = G
  have oth : ∀ b, b ≠ T → G.get? b = s.heap.get? b := fun b hb => by
    rw [← hG]
    exact Heap.get?_update_other _ _ (Ne.symm hb)
  have norec : ∀ b o, s.heap.get? b = some o → (∀ vs, o.data ≠ .fields vs) → b ≠ T := fun b o hb hnf q => by
    rw [q, hT] at hb
    cases hb
    exact hnf ts hdT
  refine PXN.wpAny_newEntryZ hZ hfr (hl.of_keeps fun b o hb hnf => ⟨o, (oth b (norec b o hb hnf)).trans hb, rfl⟩) hf ((oth a (Ne.symm hTe)).trans he)
    (fun b o q => (oth b fun z => ?_).trans (hkb b o q)) hen hd (Array.getElem?_eq_some_iff.mp h1).1 hz fun h' hL => ?_
  · rw [z, hnT] at q; cases q
  · obtain ⟨x1, ⟨_, _, x2⟩, x3, x4⟩ := hL
    exact hQ h' ⟨x1, hen, x2, x3⟩ fun b o hb hnf => x4 b o ((oth b (norec b o hb hnf)).trans hb) hnf
end
end
section
variable {X : Cx} {pins : List (Addr × Obj)} {σ : L2.St} {H : Hp} {s s' : Shared} {E : XK} {a : Addr} {fl : Value}
/-- out of the def, from a state of its body -/
theorem Fl.leave {E₁ : Value → Shared → Prop} (hs : X.stack = X.env :: X.outer) (hf : X.env.frame = some X.env.locals) (hex : X.ex = []) (I : Inv X pins σ H s) (c : Fl X.prog X.w X.stack H s E a fl s') :
    wpAny (model X.prog X.w) X.A (leaving X.env (.ref a)) (fun _ s'' => L2N.CX X.prog X.w X.outer X.H_0 X.s_0 E (.ref a) s'') E₁ s' := by
  obtain ⟨B, H', cls, d, t, ok, ub, na, os, ag, e⟩ := c
  have hfr : X.A.frames = some (X.env :: X.outer) := by rw [I.ok.frames, hs]
  have nst : ∀ b o, X.s_0.heap.get? b = some o → b ∉ X.fs → b ∉ frs X.stack := fun b o q hb hm => by
    rcases List.mem_cons.mp (I.stkSub b hm) with z | z
    · have z1 := Heap.lt_size q
      rw [z] at z1
      exact absurd (Nat.lt_of_lt_of_le z1 I.ok.above) (Nat.lt_irrefl _)
    · exact hb z
  have nex : ∀ b, b ∉ X.ex := fun b hb => by rw [hex] at hb; cases hb
  have fsub : ∀ b, b ∈ X.fs → b ∈ frs X.stack := fun b hb => by
    rw [hs]
    unfold frs
    rw [List.filterMap_cons, hf]
    exact List.mem_cons_of_mem _ hb
  refine leaves_any (Z := L2N.Zn cls d) L2N.Zn.steady hfr hf (hs ▸ t) fun h' fly up => ?_
  refine ⟨a, B, H', cls, d, rfl, fly, ok, ⟨fun b o q n hb => ?_, fun b o q hb => ?_, fun b o q n => ?_, fun b o q hb => ?_, fun b xs q => ?_, fun b o u q => ?_, fun b ps q => ?_⟩, na, os.trans I.os, ag, e⟩
  · exact ub.keep b o (I.base.keep b o q n hb (nex b)) (I.base.free b o q n (nex b)) (nst b o q hb)
  · obtain ⟨sl, q1⟩ := I.base.slot b o q (I.ok.frf b hb) hb (nex b)
    obtain ⟨sl2, q2⟩ := ub.slot b _ q1 (fsub b hb)
    obtain ⟨o3, q3, nf⟩ := mem_frs t.2.2.1 (fsub b hb)
    rw [q2] at q3
    cases q3
    obtain ⟨sl3, q4⟩ := up b _ q2 nf
    exact ⟨sl3, q4⟩
  · obtain ⟨o', q1⟩ := I.base.there b o q (nex b)
    exact ub.free b o' q1 (I.base.free b o q n (nex b))
  · obtain ⟨o', q1⟩ := I.base.there b o q (nex b)
    exact ub.there b o' q1 (nst b o q hb)
  · exact ub.tups b xs (I.base.tups b xs q)
  · exact ub.frzs b o u (I.base.frzs b o u q)
  · obtain ⟨m1, q1⟩ := I.base.tbls b ps q
    obtain ⟨m2, q2⟩ := ub.tbls b _ q1
    exact ⟨m1 ++ m2, by rw [q2, Array.append_assoc]⟩
end
/-- what a block wishes of an exception: noted, the block's names let go, passed on -/
def xeC (X : Cx) (ce : Env) : Value → Shared → Prop := notedBy (model X.prog X.w) X.A ce fun x s1 => ∃ m, s1.heap.Ns ce.locals m ∧
  ∀ h', Heap.SameBut ce.locals s1.heap h' → ∀ cenv : Env, cenv.locals = ce.locals → wpAny (model X.prog X.w) X.A (PySem.passOn "comprehension.variables-let-go" x cenv : Sem Value) (fun _ _ => False) X.xe { s1 with heap := h' }
/-- how a block stands in its def -/
structure In (X : Cx) (s : Shared) (H : Hp) (scope : Scope) (ce : Env) (fp : List Addr) : Prop where
  inv : ∃ pins σ, Inv X pins σ H s ∧ ∀ b ∈ fp, FpOk X pins H b
  loc : ce.locals = s.heap.objs.size
  frm : ce.frame = X.env.frame
/-- a def's body -/
structure Body (X : Cx) (E : XK) : Prop where
  hs : X.stack = X.env :: X.outer
  hf : X.env.frame = some X.env.locals
  hex : X.ex = []
  hx : ∃ E₁ : Value → Shared → Prop, X.xe = fun e s' => wpAny (model X.prog X.w) X.A (leaving X.env e) (fun _ s'' => L2N.CX X.prog X.w X.outer X.H_0 X.s_0 E e s'') E₁ s'
theorem noteFrame_as {env env' : Env} {e : Value} (h : env.frame = env'.frame) : noteFrame e env = noteFrame e env' := by
  unfold noteFrame PySem.frameOf
  rw [h]
theorem passes_blk {X : Cx} {s : Shared} {H : Hp} {scope : Scope} {ce : Env} {fp : List Addr} {E : XK} (b : Body X E) (i : In X s H scope ce fp) : Passes (L2N.CX X.prog X.w) ((X.blk s H scope ce fp).wish (xeC X ce)) E := by
  intro pinsb σb H1 s1 u s' I c
  obtain ⟨pins, σ, J, hfp⟩ := i.inv
  have I := I.unwish
  have cL : ce.locals = s.heap.objs.size := i.loc
  -- the block's names
  obtain ⟨m, hn, _⟩ := I.loc
  have hn : s1.heap.Ns ce.locals m := hn
  obtain ⟨oC, es, ep, hC, hdC, _⟩ := id hn
  have nC : H1 ce.locals = none := I.free
  have fC : ce.locals ∉ frs X.stack := fun hm => by
    obtain ⟨o, q, _⟩ := mem_frs J.stack hm
    have z := Heap.lt_size q
    rw [cL] at z
    exact absurd z (Nat.lt_irrefl _)
  -- the def's state ahead of the call, the block's names left out
  generalize hG : PySem.W.hideAll s1.heap [ce.locals] = G
  have inS : ∀ b o, b ≠ ce.locals → s1.heap.get? b = some o → G.get? b = some o := fun b o n q => by
    rw [← hG]
    exact PySem.W.hideAll_get _ q fun z => n (List.mem_singleton.mp z)
  have old : ∀ b o, s.heap.get? b = some o → b ≠ ce.locals := fun b o q z => by
    have y := Heap.lt_size q
    rw [z, cL] at y
    exact absurd y (Nat.lt_irrefl _)
  have un := I.base
  have J2 : Inv X pins σ H1 { s1 with heap := G } := by
    refine J.call' (ch := fp) I.os ⟨fun b o q n h1 h2 => inS b o (old b o q) (un.keep b o q n h1 h2), fun b o q n h1 h2 => ?_, un.free, fun b o q h2 => ?_, un.tups, un.frzs, un.tbls⟩ (fun b o q => ?_) I.bare fun b hb => ⟨(hfp b hb).2.2.2.1, (hfp b hb).2.1, (hfp b hb).2.2.2.2.1, (hfp b hb).2.2.2.2.2⟩
    · obtain ⟨sl, q1⟩ := un.slot b o q n h1 h2
      exact ⟨sl, inS b _ (old b o q) q1⟩
    · obtain ⟨o', q1⟩ := un.there b o q h2
      exact ⟨o', inS b _ (old b o q) q1⟩
    · refine (I.hok b o q).stay (fun c u hc r => inS c u (fun z => ?_) r) (fun _ r => r) fun _ _ r => r
      rcases hc with hc | hc
      · rw [← hc, z, nC] at q; cases q
      · rw [z, nC] at hc; cases hc
  obtain ⟨a, rfl, c1⟩ := Fl.of c
  have c1 : Fl X.prog X.w X.stack H1 s1 E a .none s' := c1
  have sC : s'.heap.Ns ce.locals m := by
    obtain ⟨B, H', cls, d, ⟨t1, _⟩, _, ub, _⟩ := id c1
    exact ⟨oC, es, ep, t1 _ _ (ub.keep _ _ hC nC fC), hdC, (by obtain ⟨o, es', ep', q, qd, r⟩ := hn; rw [hC] at q; cases q; rw [hdC] at qd; cases qd; exact r)⟩
  show xeC X ce _ _
  unfold xeC notedBy
  rw [noteFrame_as (env' := X.env) i.frm]
  have hfr : X.A.frames = some (X.env :: X.outer) := by rw [J.ok.frames, b.hs]
  rw [b.hs] at c1
  refine Fl.note hfr b.hf c1 fun h1 c2 up => ⟨m, up.ns sC, fun h2 sb cenv _ => ?_⟩
  rw [← b.hs] at c2
  have c3 := Fl.less hC nC fC sb c2
  rw [hG] at c3
  refine Fl.passOn c3 fun h3 fl c4 => ?_
  obtain ⟨E₁, hx⟩ := b.hx
  rw [hx]
  exact Fl.leave b.hs b.hf b.hex J2 c4
end CqN
end
section
namespace CqN
open PySem PySem.Spec PyProof.Rows L2
/-- a block's own iterator turns within the block -/
theorem turns_in {X : Cx} {s s' : Shared} {H H' : Hp} {scope : Scope} {ce : Env} {fp : List Addr} {τ : L2.St} (J : Inv (X.blk s H scope ce fp) [] τ H' s') (n : ∀ b ∈ fp, H' b = none) : ∀ b ∈ fp, FpOk (X.blk s H scope ce fp) [] H' b := by
  intro b hb
  have z := J.ok.exf b hb
  exact ⟨n b hb, z.1, J.ok.exfs b hb, Or.inl hb, z.2, fun p hp => by
    rw [show (X.blk s H scope ce fp).pn ++ [] = [] from rfl] at hp
    cases hp⟩
/-- [elt for target in iter if ..] in a def's body; the element may raise what the def may -/
theorem pe_lcX {X : Cx} {E : XK} {elt tg iter : Expr} {ifs : List Expr} {scope : Scope} {own : List (Str × Nat)} {pos : Pos} {wi : TI} {g : TG} {tt : TT} {te : TE}
    (hb : Body X E) (hc : X.calm = true) (hN : X.N.Nodup) (hi : PI X tg iter wi) (ok : BlkOk X.N X.env.scope scope own)
    (hg : ∀ s H C cl fp, PG (X.blk s H scope (compEnvC scope cl C X.env) fp) tg g)
    (ht : ∀ s H C cl fp, PTs (X.blk s H scope (compEnvC scope cl C X.env) fp) ifs tt)
    (he : ∀ s H C cl fp, In X s H scope (compEnvC scope cl C X.env) fp → PE ((X.blk s H scope (compEnvC scope cl C X.env) fp).wish (xeC X (compEnvC scope cl C X.env))) elt te)
    (hs : ∀ x, foldedSetIterable iter X.env x = pure x := by intro _; rfl) : PE X (.ListComp elt [⟨tg, iter, ifs, 0⟩] scope pos) (tLc wi g tt te (own.map (·.2))) := by
  refine ⟨fun pins s σ H Q I want => ?_⟩
  rw [eval_ListComp]
  have free : ∀ y ∈ scope.names, y.2 = .free → ∃ c, X.env.cells.lookup y.1 = some c := by
    intro y hy e
    exact (ok.free y hy e).elim (fun k => I.ok.has _ (.inl k)) fun k => I.ok.has _ (.inr k)
  refine wpAny_comprehension_free (use := none) rfl hs (closure_ok free) ok.kind (fun y hy e => (ok.uniq y hy).trans (by rw [e])) ?_
  refine thn (hi.run pins s σ H _ I want) fun xv sa hx => thn hx fun itv sb hy => ?_
  obtain ⟨it, fp, tn, J, H2, rfl, I2, T, begun, own2, q⟩ := hy
  refine wpAny_newObj_type (newEnv_comp ?_) (Nat.zero_le _)
  -- the new list at D
  obtain ⟨D, hD⟩ : ∃ D, D = sb.heap.objs.size := ⟨_, rfl⟩
  have nD : H2 D = none := I2.hok.fresh (by rw [hD]; exact Nat.le_refl _)
  obtain ⟨W, ⟨m0, w0⟩, turn⟩ := q D nD
  rw [← hD]
  have atD : (sb.heap.push { cls := .type "list", data := .seq ([] : List Value).toArray }).get? D = some { cls := .type "list", data := .seq ([] : List Value).toArray } := by
    rw [hD]
    exact Heap.get?_push_size _ rfl
  obtain ⟨sc, hsc⟩ : ∃ sc : Shared, sc = { sb with heap := sb.heap.push { cls := .type "list", data := .seq ([] : List Value).toArray } } := ⟨_, rfl⟩
  have more : ∀ b o, sb.heap.get? b = some o → sc.heap.get? b = some o := fun b o e => by
    rw [hsc]
    exact Heap.get?_push_of_some _ e
  have Ic : Inv X pins σ (upd H2 D (.lst [])) sc := by
    have := I2.laid (a := D) (o := .lst []) (t' := sb.toks) (h' := sc.heap) more (by rw [hD]; exact Nat.le_refl _) ⟨Nat.zero_le _, [], 0, .nil, by rw [hsc]; exact atD⟩
    rw [hsc] at this ⊢
    exact this
  have under : ∀ b ∈ fp, b < sb.heap.objs.size := fun b hbf => by
    obtain ⟨o, e, _⟩ := T.obj _ _ begun b hbf
    exact Heap.lt_size e
  have sz : sc.heap.objs.size = sb.heap.objs.size + 1 := by rw [hsc]; exact Heap.size_push ..
  have fine : ∀ b ∈ fp, FpOk X pins (upd H2 D (.lst [])) b ∧ b < sc.heap.objs.size := fun b hbf => by
    have lt := under b hbf
    have z := own2 b hbf
    refine ⟨⟨?_, z.2⟩, by rw [sz]; exact Nat.lt_succ_of_lt lt⟩
    rw [upd_ne (by rw [hD]; exact Nat.ne_of_lt lt)]
    exact z.1
  have begun3 : tn 0 sc.heap := T.keep _ _ _ begun fun b _ o e => more b o e
  have I4 := block_start Ic ok hN fine
  obtain ⟨cl, hcl⟩ : ∃ cl, cl = cellsFrom (sc.heap.objs.size + 1) scope.names (cloFrom X.env.cells scope.names []) := ⟨_, rfl⟩
  obtain ⟨C, hC⟩ : ∃ C, C = sc.heap.objs.size := ⟨_, rfl⟩
  obtain ⟨ce, hce⟩ : ∃ ce, ce = compEnvC scope cl C X.env := ⟨_, rfl⟩
  obtain ⟨H3, hH3⟩ : ∃ H3, H3 = upd H2 D (.lst []) := ⟨_, rfl⟩
  rw [← hH3] at Ic w0 fine I4
  have inX : In X sc H3 scope (compEnvC scope cl C X.env) fp := ⟨⟨pins, σ, Ic, fun b hbf => (fine b hbf).1⟩, hC, rfl⟩
  have pg := hg sc H3 C cl fp
  have pt := ht sc H3 C cl fp
  have pe := he sc H3 C cl fp inX
  rw [← hcl, ← hC, ← hce] at I4
  rw [← hce] at pg pt pe
  have cL : ce.locals = C := by rw [hce]; rfl
  obtain ⟨sd, hsd⟩ : ∃ sd : Shared, sd = { sc with heap := pushCells (sc.heap.push { cls := .type "dict", data := .dict #[] }) scope.names } := ⟨_, rfl⟩
  rw [← hsd] at I4
  have begun4 : tn 0 sd.heap := T.keep _ _ _ begun3 fun b _ o e => by
    rw [hsd]
    exact pushCells_keeps _ _ _ _ (Heap.get?_push_of_some _ e)
  have nfp : ∀ b ∈ fp, H3 b = none := fun b hbf => (fine b hbf).1.1
  have goal : codeAny (model X.prog X.w) X.A (.compStart (.ListComp elt [⟨tg, iter, ifs, 0⟩] scope pos) 0 (.ref it) (.ref D) ce)
      (compPost (model X.prog X.w) X.A X.xe none (EP X pins σ Q) (.ref D) C) sd := by
    have loop : codeAny (model X.prog X.w) X.A (.compLoop (.ListComp elt [⟨tg, iter, ifs, 0⟩] scope pos) 0 (.ref it) (.ref D) ce)
        (compPost (model X.prog X.w) X.A X.xe none (EP X pins σ Q) (.ref D) C) sd := by
      refine compLoop_any (fun n s' => ∃ i H', Inv (X.blk sc H3 scope ce fp) [] (wipe σ (own.map (·.2))) H' s' ∧ tn i s'.heap ∧ (∀ b ∈ fp, H' b = none) ∧ W i n H') ?_ m0 ⟨0, H3, I4, begun4, nfp, w0⟩
      rintro n s5 ⟨i, H5, I5, at5, n5, w5⟩
      rcases turn i n H5 w5 with ⟨stop, fin⟩ | ⟨go, Nx, hNx, step⟩
      · have ends := T.done (X.blk sc H3 scope ce fp) rfl rfl rfl hc i [] s5 _ H5 (fun _ _ => False) I5 (turns_in I5 n5) at5 stop
        refine thnF ends fun r s6 ⟨er, I6⟩ => ?_
        subst er
        have I7 : Inv X pins σ H5 s6 := Ic.call' (ch := fp) I6.os I6.base I6.hok I6.bare fun b hbf => by
          obtain ⟨z1, z2, z3, z4, z5, z6⟩ := (fine b hbf).1
          exact ⟨z4, z2, z5, z6⟩
        obtain ⟨m, hn, _⟩ := I6.loc
        have hn : s6.heap.Ns ce.locals m := hn
        have nC : H5 ce.locals = none := I6.free
        rw [cL] at hn nC
        refine ⟨m, hn, fun h'' sb'' => ?_⟩
        obtain ⟨f0, f1, f2, f3, f4, f5⟩ := Ic.fpOk (b := C) (by rw [hC]; exact Nat.le_refl _) nC
        exact ⟨.ref D, H5, I7.turned (t' := s6.toks) (fun b o ne e => (sb''.2 b ne).trans e) f0 f1 f3 f4 f5, rfl, fin⟩
      · have draw := T.item (X.blk sc H3 scope ce fp) rfl rfl rfl hc i [] s5 _ H5 (fun _ _ => False) I5 (turns_in I5 n5) at5 go
        refine thnF draw fun r s6 ⟨u, er, h6⟩ => ?_
        subst er
        refine thnF h6 fun _ s7 ⟨x, H7, I7, r7, y7, at7, n7⟩ => ?_
        have I7p := I7.pinned (turns_in I7 n7) (T.obj _ _ at7)
        refine thnF (pg.run _ s7 _ H7 x u _ I7p r7 (step x H7 y7)) fun _ s8 ⟨σ8, H8, I8, hw8, q8⟩ => ?_
        refine thnF (pt.run _ s8 σ8 H8 _ I8 q8) fun b s9 ⟨H9, I9, q9⟩ => ?_
        have again : ∀ {s' : Shared} {H' : Hp}, Inv (X.blk sc H3 scope ce fp) ([] ++ pinsAt fp s7.heap) σ8 H' s' → Nx H' →
            ∃ m, m < n ∧ ∃ i H', Inv (X.blk sc H3 scope ce fp) [] (wipe σ (own.map (·.2))) H' s' ∧ tn i s'.heap ∧ (∀ b ∈ fp, H' b = none) ∧ W i m H' := by
          intro s' H' K nx
          obtain ⟨m', lt, w'⟩ := hNx H' nx
          have pinned : ∀ b ∈ fp, ∀ o, s7.heap.get? b = some o → s'.heap.get? b = some o ∧ H' b = none := by
            intro b hbf o e
            have z := K.pin (b, o) (List.mem_append_right _ (List.mem_append_right _ (mem_pinsAt hbf e)))
            exact ⟨z.1, z.2.1⟩
          have len : (wipe σ (own.map (·.2))).length = σ8.length := by
            rw [← hw8, wipe_length]
          refine ⟨m', lt, i + 1, H', (K.unpinned (pins := [])).weak len (fun j v e => (wipe_some (hw8 ▸ e)).1), T.keep _ _ _ at7 (fun b hbf o e => (pinned b hbf o e).1), fun b hbf => ?_, w'⟩
          obtain ⟨o, e, _⟩ := T.obj _ _ at7 b hbf
          exact (pinned b hbf o e).2
        cases b with
        | false =>
          simp only [Bool.false_eq_true, if_false] at q9 ⊢
          exact again I9 q9
        | true =>
          simp only [if_true] at q9 ⊢
          refine wpAny_mono (pe.run _ s9 σ8 H9 _ (I9.wish _) q9) (fun z sz ⟨yv, H10, I10, r10, acc, atD10, lt10, nx⟩ => ?_) (fun e se he' => ?_)
          · exact app_ok (X := X.blk sc H3 scope ce fp) I10.unwish atD10 lt10 r10 fun s11 I11 => again I11 nx
          · have he' : xeC X ce e se := hce ▸ he'
            unfold xeC at he'
            rw [cL] at he'
            exact he'
    exact codeAny_compStart_list loop (T.self X.A 0 _ _ _ begun4 loop)
  rw [hsc] at hcl hC hsd
  rw [hce, hcl, hC, hsd] at goal
  exact goal
end CqN
end
section
/-! defs whose exceptions have no context -/
namespace Tl
open PySem PySem.Spec PyProof.Rows L2
section
variable {P : Program} {w : World} {K : PySem.W.Frag} {mg : Str → Option Value} {base : Heap}
theorem prN {x : Str} {st : Stmt} {N ps : List Str} {k : Nat} {sp : Sp} (D : Dn K mg x st ps) (S : FnScope N ps (defScope st)) (len : ∀ vs H Q E, sp vs H Q E → vs.length = ps.length)
    (hbody : ∀ (f : Addr) (cdv : Value) (A : Around) (outer : List Env) (s : Shared) (H : Hp) (vs : List V) (Q : VK) (E : XK), Room k (A.deeper (envOfC x (defScope st) s.heap.objs.size f cdv)) → sp vs H Q E →
      ∃ t, PSs (cxOf (L2N.CX P w) P w K mg base N x (defScope st) f cdv A outer s H E) (defBody st) t ∧ t { nx := fun _ H' => Q .non H', rt := Q } (start N vs) H) : Pr P w K mg base (L2N.CX P w) (k + 1) x ps sp := by
  obtain ⟨f, fd, hm, F, b⟩ := D.ex
  obtain ⟨oc, od, kV, doc, pm, an, cdv, ct, osl, rfl, lk, hcd⟩ := F.ex
  exact ⟨f, _, hm, F.kp, b, fn_of lk hcd S len fun A outer s H vs Q E hr hsp => hbody f cdv A outer s H vs Q E hr hsp⟩
end
section
variable {X : Cx}
/-- X(e), its context is None -/
theorem pmk_ownN1 {C : Addr} {bmB : List Value} {B newId initId : String} {x : Str} {e : Expr} {ta : TE} {p pos : Pos} (F : ExcBaseFacts B newId initId bmB) (q : PySem.W.excIn X.K C bmB newId = true) (gC : X.mg x = some (.ref C))
    (kC : PySem.W.keepIn X.K (.ref C) = true) (r : Raises X (.ref C)) (hg : Gl X x) (he : PE X e ta)
    (hs : starEach [e] X.env = (false, eval e X.env) :: starEach [] X.env := by rfl) (hdb : (x == ("__debug__" : Str)) = false := by decide) :
    L2N.PMk X (.Call (.Name x p) [e] [] pos) (fun σ H Q => ta σ H fun _ H1 => Q (.ref C) none H1) := by
  intro pins s σ H Q I want
  refine wpAny_Call_Name_kw (ld_glob I hg gC (PySem.W.callWith_K (h₀ := X.base) I.ok.mod.kin kC ?_ hs (by rfl)) hdb)
  rw [hs]
  show wpAny _ _ (spliced ((false, eval e X.env) :: backTo pos (starEach [] X.env))) _ _ s
  refine Calls.spliced_cons (thn (he.run pins s σ H _ I want) fun u s1 hh => Calls.spliced_nil ?_)
  obtain ⟨v, H1, I1, r1, q1⟩ := hh
  refine ⟨I1.kIn, ?_⟩
  show wpAny _ _ (call (.ref C) [u]) _ _ _
  obtain ⟨bm, N, nm, qn, bs, hdct, sn, sub, ab, col, dd, k0, k1, k2, k3, k4, k5, hC, hN, hni, T⟩ := exc_obj I1.kIn q
  exact wpAny_call_exc_subT F T hC hN hni (fun h' e hm => L2N.mk_of I1 hm r q1 (I1.hok.gone hm.new)) (by show 1 ≤ sizeLine; rw [sizeLine_eq]; omega)
end
end Tl
end
section
/-! texts as lists of codes -/
namespace Mx
open PySem PySem.Spec PyProof.Rows L2 SX
theorem S_one (c : Nat) : (⟨#[c]⟩ : Str) = S [c] := rfl
theorem sub0 (l : List Nat) (c : Nat) : PySem.Builtin.Str.subAt (S l) (S [c]) 0 = decide (l.head? = some c) := by
  unfold PySem.Builtin.Str.subAt
  cases l with
  | nil => simp [S, Str.length]
  | cons a r =>
    simp [S, Str.length]
    by_cases h : a = c
    · subst h; simp
    · simp [h]
theorem starts (l : List Nat) (c : Nat) : Txt.startswith (S l) (S [c]) = decide (l.head? = some c) := by
  unfold Txt.startswith
  rw [sub0]
  cases l with
  | nil => simp [S, Str.length]
  | cons a r => simp [S, Str.length]
theorem ends (l : List Nat) (c : Nat) : Txt.endswith (S l) (S [c]) = decide (l.getLast? = some c) := by
  unfold Txt.endswith PySem.Builtin.Str.subAt
  rcases List.eq_nil_or_concat l with rfl | ⟨r, a, rfl⟩
  · simp [S, Str.length]
  · simp [S, Str.length]
    by_cases h : a = c
    · subst h; simp
    · simp [h]
theorem noPrefix (l : List Nat) (c : Nat) : Txt.removeprefix (S l) (S [c]) = S (if l.head? = some c then l.drop 1 else l) := by
  unfold Txt.removeprefix
  rw [sub0]
  by_cases h : l.head? = some c
  · rw [decide_eq_true h, if_pos rfl, if_pos h]
    cases l with
    | nil => cases h
    | cons a r =>
      unfold Txt.affix
      simp [S, Str.length, PySem.Builtin.Str.strSub]
  · rw [decide_eq_false h, if_neg Bool.false_ne_true, if_neg h]
    rfl
theorem cutMid (l : List Nat) : cutS (S l) (some 1) (some (-1)) = S (l.drop 1).dropLast := by
  unfold cutS
  have e : (S l).length = l.length := S_len l
  rw [e]
  show S _ = S _
  congr 1
  rw [show HT.sIx l.length 0 (some 1) = min 1 l.length from HT.sIx_nat l.length 0 1]
  have e2 : HT.sIx l.length l.length (some (-1)) = l.length - 1 := by
    show (if (-1 : Int) < 0 then ((-1 : Int) + (l.length : Int)).toNat else min (-1 : Int).toNat l.length) = _
    rw [if_pos (by decide)]
    omega
  rw [e2]
  cases l with
  | nil => rfl
  | cons a r =>
    rw [show min 1 (a :: r).length = 1 by rw [List.length_cons]; omega]
    rw [List.dropLast_eq_take]
    simp
theorem cutOne (l : List Nat) : cutS (S l) (some 1) none = S (l.drop 1) := by
  unfold cutS
  have e : (S l).length = l.length := S_len l
  rw [e]
  show S _ = S _
  congr 1
  rw [show HT.sIx l.length 0 (some 1) = min 1 l.length from HT.sIx_nat l.length 0 1, HT.sIx_none]
  cases l with
  | nil => rfl
  | cons a r =>
    rw [show min 1 (a :: r).length = 1 by rw [List.length_cons]; omega]
    exact List.take_of_length_le (by simp)
def isDig (c : Nat) : Bool := decide (48 ≤ c ∧ c ≤ 57)
theorem dig128 : ∀ c : Nat, c < 128 → PySem.Unicode.isDigit c = isDig c := by decide +kernel
theorem allDigits (l : List Nat) (h : ∀ c ∈ l, c < 128) : Txt.isdigit (S l) = (decide (l ≠ []) && l.all isDig) := by
  unfold Txt.isdigit
  rw [S_len]
  congr 1
  · cases l <;> simp
  · rw [← Array.all_toList]
    show l.all _ = _
    rw [Bool.eq_iff_iff, List.all_eq_true, List.all_eq_true]
    exact ⟨fun q c hc => by rw [← dig128 c (h c hc)]; exact q c hc, fun q c hc => by rw [dig128 c (h c hc)]; exact q c hc⟩
/-! ### numbers -/
def intS (n : Int) : List Nat := if n < 0 then 45 :: TL.numL n.natAbs else TL.numL n.natAbs
theorem str_int (n : Int) : Str.ofString (toString n) = S (intS n) := by
  unfold intS
  by_cases h : n < 0
  · rw [if_pos h, toString_neg h]
    have e : (0 : Int) - n = ((n.natAbs : Nat) : Int) := by omega
    rw [e]
    have a : ∀ x y : String, Str.ofString (x ++ y) = Str.ofString x ++ Str.ofString y := fun x y => by
      apply TL.ext_tl
      rw [TL.tl_append]
      show cpsOfBytes 0 0 (x ++ y).toByteArray.data.toList = cpsOfBytes 0 0 x.toByteArray.data.toList ++ cpsOfBytes 0 0 y.toByteArray.data.toList
      rw [cpsOfBytes_string, cpsOfBytes_string, cpsOfBytes_string, String.toList_append, List.map_append]
    rw [a, num_S]
    show S [45] ++ S _ = _
    rw [S_cat]; rfl
  · rw [if_neg h]
    have e : n = ((n.natAbs : Nat) : Int) := by omega
    conv => lhs; rw [e]
    exact num_S _
theorem intS_val {l : List Nat} (hl : l.length ≤ 4300) (hd : (if l.head? = some 45 then l.drop 1 else l).all isDig = true) (hne : (if l.head? = some 45 then l.drop 1 else l) ≠ []) :
    intText? (S l) = some (if l.head? = some 45 then -((NumText.digitsVal (l.drop 1) : Nat) : Int) else ((NumText.digitsVal l : Nat) : Int)) := by
  have all : ∀ {r : List Nat}, r.all isDig = true → NumText.AllDigits r := fun q c hc => of_decide_eq_true (List.all_eq_true.mp q c hc)
  by_cases h : l.head? = some 45
  · rw [if_pos h] at hd hne ⊢
    cases l with
    | nil => cases h
    | cons a r =>
      have ea : a = 45 := Option.some.inj h
      subst ea
      exact PySem.intText_neg (x := S (45 :: r)) (cs := r) rfl (all hd) hne (by rw [S_len]; exact hl)
  · rw [if_neg h] at hd hne ⊢
    exact PySem.intText_digits (x := S l) (all hd) hne (by rw [S_len]; exact hl)
theorem digits_lt : ∀ (l : List Nat) (a : Nat), l.all isDig = true → l.foldl (fun acc c => acc * 10 + (c - 48)) a < (a + 1) * 10 ^ l.length
  | [], a, _ => by simp
  | c :: r, a, h => by
    rw [List.all_cons, Bool.and_eq_true_iff] at h
    have hc : 48 ≤ c ∧ c ≤ 57 := of_decide_eq_true h.1
    have ih := digits_lt r (a * 10 + (c - 48)) h.2
    rw [List.foldl_cons, List.length_cons, Nat.pow_succ]
    have z : (a * 10 + (c - 48) + 1) * 10 ^ r.length ≤ ((a + 1) * 10) * 10 ^ r.length := Nat.mul_le_mul_right _ (by omega)
    rw [show (a + 1) * (10 ^ r.length * 10) = ((a + 1) * 10) * 10 ^ r.length by rw [Nat.mul_assoc, Nat.mul_comm 10 (10 ^ r.length)]]
    omega
theorem pow_200 {n k : Nat} (h : n < 10 ^ k) (hk : k ≤ 200) : n.log2 < 1920 := by
  by_cases z : n = 0
  · subst z; decide
  · rw [Nat.log2_lt z]
    have a : 10 ^ k ≤ 10 ^ 200 := Nat.pow_le_pow_right (by decide) hk
    have b : (10 : Nat) ^ 200 ≤ 2 ^ 1920 := by decide +kernel
    omega
theorem val_small {l : List Nat} (hl : l.length ≤ 200) (hd : (if l.head? = some 45 then l.drop 1 else l).all isDig = true) :
    (if l.head? = some 45 then -((NumText.digitsVal (l.drop 1) : Nat) : Int) else ((NumText.digitsVal l : Nat) : Int)).natAbs.log2 < 1920 := by
  by_cases h : l.head? = some 45
  · rw [if_pos h] at hd ⊢
    have z := digits_lt (l.drop 1) 0 hd
    rw [Nat.zero_add, Nat.one_mul] at z
    rw [Int.natAbs_neg, Int.natAbs_natCast]
    exact pow_200 z (by rw [List.length_drop]; omega)
  · rw [if_neg h] at hd ⊢
    have z := digits_lt l 0 hd
    rw [Nat.zero_add, Nat.one_mul] at z
    rw [Int.natAbs_natCast]
    exact pow_200 z hl
theorem intS_digits (n : Int) : (if (intS n).head? = some 45 then (intS n).drop 1 else intS n) = TL.numL n.natAbs := by
  unfold intS
  by_cases h : n < 0
  · rw [if_pos h]; rfl
  · rw [if_neg h, if_neg]
    intro z
    have m : (45 : Nat) ∈ TL.numL n.natAbs := List.mem_of_head? z
    exact TL.numL_free (Or.inl (by decide)) m
theorem intS_all (n : Int) : (if (intS n).head? = some 45 then (intS n).drop 1 else intS n).all isDig = true := by
  rw [intS_digits, List.all_eq_true]
  intro c hc
  exact decide_eq_true (TL.numL_digits _ c hc)
theorem intS_ne (n : Int) : (if (intS n).head? = some 45 then (intS n).drop 1 else intS n) ≠ [] := by
  rw [intS_digits]; exact TL.numL_ne _
theorem intS_back (n : Int) : (if (intS n).head? = some 45 then -((NumText.digitsVal ((intS n).drop 1) : Nat) : Int) else ((NumText.digitsVal (intS n) : Nat) : Int)) = n := by
  unfold intS
  by_cases h : n < 0
  · rw [if_pos h, if_pos (show (45 :: TL.numL n.natAbs).head? = some 45 from rfl)]
    show -((NumText.digitsVal (TL.numL n.natAbs) : Nat) : Int) = n
    rw [TL.numL_val]; omega
  · rw [if_neg h, if_neg, TL.numL_val]
    · omega
    · intro z
      have m : (45 : Nat) ∈ TL.numL n.natAbs := List.mem_of_head? z
      exact TL.numL_free (Or.inl (by decide)) m
theorem intS_codes (n : Int) : ∀ c ∈ intS n, c = 45 ∨ (48 ≤ c ∧ c ≤ 57) := by
  unfold intS
  intro c hc
  by_cases h : n < 0
  · rw [if_pos h] at hc
    rcases List.mem_cons.mp hc with e | hc
    · exact Or.inl e
    · exact Or.inr (TL.numL_digits _ c hc)
  · rw [if_neg h] at hc
    exact Or.inr (TL.numL_digits _ c hc)
end Mx
end
section
/-! statements: what the program finds, plainly -/
namespace Mx
open PySem PySem.Spec PyProof.Rows L2 SX
def sgn (c : Nat) : Bool := decide (32 ≤ c ∧ c ≤ 126 ∧ c ≠ 37)
def lettersC : List Nat := [97, 98, 99, 100, 101, 102, 103, 104, 105, 106, 107, 108, 109, 110, 111, 112, 113, 114, 115, 116, 117, 118, 119, 120, 121, 122]
def isLet (c : Nat) : Bool := decide (c ∈ lettersC)
def nameM (l : List Nat) : Bool := decide (1 ≤ l.length) && decide (l.length ≤ 8) && l.all isLet
def textM (l : List Nat) : Bool := decide (l.length ≤ 40) && (!decide (39 ∈ l) && l.all sgn)
def numM (n : Int) : Bool := decide (-2147483648 ≤ n) && decide (n ≤ 2147483647)
/-- a part of a statement; names and texts as codes -/
inductive Part where
  | name (l : List Nat) | num (n : Int) | text (l : List Nat) | par (n : Int)
  deriving DecidableEq
def numOf (l : List Nat) : Option Int :=
  let n : Int := if l.head? = some 45 then -((NumText.digitsVal (l.drop 1) : Nat) : Int) else ((NumText.digitsVal l : Nat) : Int)
  if intS n = l ∧ numM n = true then some n else none
def textOf (l : List Nat) : Option (List Nat) := if 2 ≤ l.length ∧ l.getLast? = some 39 ∧ textM (l.drop 1).dropLast = true then some (l.drop 1).dropLast else none
def parOf (l : List Nat) : Option Int := if l = [36, 49] then some 1 else if l = [36, 50] then some 2 else if l = [36, 51] then some 3 else if l = [36, 52] then some 4 else none
def termOf (l : List Nat) : Option Part :=
  if l.head? = some 39 then (textOf l).map .text else match parOf l with
    | some n => some (.par n)
    | none => (numOf l).map .num
def partOf (c : Nat) (l : List Nat) : Option Part := if c = 84 ∨ c = 78 then (if nameM l = true then some (.name l) else none) else termOf l
/-- one sign more: the pieces so far, whether within a text -/
def splitStep (st : List (List Nat) × Bool) (c : Nat) : List (List Nat) × Bool :=
  let q : Bool := if c = 39 then !st.2 else st.2
  if c = 32 ∧ q = false then (st.1 ++ [[]], q) else (st.1.dropLast ++ [st.1.getLastD [] ++ [c]], q)
def splitS (l : List Nat) : List (List Nat) × Bool := l.foldl splitStep ([[]], false)
def splitM (l : List Nat) : List (List Nat) := (splitS l).1
def formTable : List (Str × List Str) := [("create", ["T"]), ("drop", ["T"]), ("put", ["TXY"]), ("delete", ["TX"]), ("get", ["TX"]), ("scan", ["T", "TXY"]), ("total", ["T"]), ("begin", [""]), ("commit", [""]), ("rollback", [""]), ("save", ["N"]), ("undo", ["N"])]
def formsOf (w : Str) : Option (List Str) := formTable.lookup w
def formOf (w : Str) (n : Nat) : Option Str := ((formsOf w).getD []).find? fun f => f.length == n
def parNo : Part → Option Int
  | .par n => some n
  | _ => none
def parsOf (ps : List Part) : List Int := ps.filterMap parNo
def mostOf (ps : List Part) : Int := match parsOf ps with
  | [] => 0
  | m :: r => r.foldl (fun a b => if b > a then b else a) m
def partsOf : List Nat → List (List Nat) → Option (List Part)
  | c :: cs, l :: ls => match partOf c l with
    | none => none
    | some p => match partsOf cs ls with
      | none => none
      | some ps => some (p :: ps)
  | _, _ => some []
/-- every parameter up to the greatest one occurs -/
def full (ps : List Part) : Bool := (List.range (mostOf ps - 1).toNat).all fun i => decide (Part.par (1 + (i : Int)) ∈ ps)
def stmtM (l : List Nat) : Option (Str × List Part) :=
  if l.length ≤ 200 ∧ l.all sgn = true then match splitM l with
    | [] => none
    | w :: ls => match formOf (S w) ls.length with
      | none => none
      | some f => match partsOf f.cps.toList ls with
        | none => none
        | some ps => if full ps = true then some (S w, ps) else none
  else none
/-! ### how a part stands in the heap -/
def IsP (H : Hp) (v : V) : Part → Prop
  | .name l => v = .str (S l)
  | .num n => v = .int n
  | .text l => ∃ a, v = .ref a ∧ H a = some (.tup [.str "text", .str (S l)])
  | .par n => ∃ a, v = .ref a ∧ H a = some (.tup [.str "parameter", .int n])
theorem IsP.same {H H' : Hp} {v : V} {p : Part} (s : Same H H') (h : IsP H v p) : IsP H' v p := by
  cases p with
  | name l => exact h
  | num n => exact h
  | text l => obtain ⟨a, e, h⟩ := h; exact ⟨a, e, s _ _ h⟩
  | par n => obtain ⟨a, e, h⟩ := h; exact ⟨a, e, s _ _ h⟩
/-- only tuples count -/
theorem IsP.over {H H' : Hp} {v : V} {p : Part} (s : ∀ a t, H a = some (.tup t) → H' a = some (.tup t)) (h : IsP H v p) : IsP H' v p := by
  cases p with
  | name l => exact h
  | num n => exact h
  | text l => obtain ⟨a, e, h⟩ := h; exact ⟨a, e, s _ _ h⟩
  | par n => obtain ⟨a, e, h⟩ := h; exact ⟨a, e, s _ _ h⟩
theorem over_lst {H : Hp} {D : Addr} {xs : List V} {o : HO} (e : H D = some (.lst xs)) : ∀ a t, H a = some (.tup t) → (upd H D o) a = some (.tup t) := fun a t h => by
  rw [upd_ne (by intro z; rw [z, e] at h; cases h)]
  exact h
def ArePs (H : Hp) : List V → List Part → Prop := Paired (IsP H)
theorem ArePs.same {H H' : Hp} (s : Same H H') : ∀ {vs : List V} {ps : List Part}, ArePs H vs ps → ArePs H' vs ps
  | _, _, .nil => .nil
  | _, _, .cons h t => .cons (h.same s) (ArePs.same s t)
theorem ArePs.over {H H' : Hp} (s : ∀ a t, H a = some (.tup t) → H' a = some (.tup t)) : ∀ {vs : List V} {ps : List Part}, ArePs H vs ps → ArePs H' vs ps
  | _, _, .nil => .nil
  | _, _, .cons h t => .cons (h.over s) (ArePs.over s t)
theorem ArePs.snoc {H : Hp} {v : V} {p : Part} : ∀ {vs : List V} {ps : List Part}, ArePs H vs ps → IsP H v p → ArePs H (vs ++ [v]) (ps ++ [p])
  | _, _, .nil, h => .cons h .nil
  | _, _, .cons a t, h => .cons a (ArePs.snoc t h)
end Mx
end
section
namespace Mx
open PySem PySem.Spec PyProof.Rows L2 SX
def okP : Part → Bool
  | .name l => nameM l
  | .num n => numM n
  | .text l => textM l
  | .par n => decide (1 ≤ n) && decide (n ≤ 4)
theorem parOf_ok {l : List Nat} {n : Int} (h : parOf l = some n) : 1 ≤ n ∧ n ≤ 4 := by
  unfold parOf at h
  by_cases a1 : l = [36, 49]
  · rw [if_pos a1] at h; have := Option.some.inj h; omega
  · rw [if_neg a1] at h
    by_cases a2 : l = [36, 50]
    · rw [if_pos a2] at h; have := Option.some.inj h; omega
    · rw [if_neg a2] at h
      by_cases a3 : l = [36, 51]
      · rw [if_pos a3] at h; have := Option.some.inj h; omega
      · rw [if_neg a3] at h
        by_cases a4 : l = [36, 52]
        · rw [if_pos a4] at h; have := Option.some.inj h; omega
        · rw [if_neg a4] at h; cases h
theorem numOf_ok {l : List Nat} {n : Int} (h : Mx.numOf l = some n) : intS n = l ∧ numM n = true := by
  unfold Mx.numOf at h
  generalize (if l.head? = some 45 then -((NumText.digitsVal (l.drop 1) : Nat) : Int) else ((NumText.digitsVal l : Nat) : Int)) = n0 at h
  dsimp only at h
  by_cases d : intS n0 = l ∧ numM n0 = true
  · rw [if_pos d] at h; obtain rfl := Option.some.inj h; exact d
  · rw [if_neg d] at h; cases h
theorem partOf_ok {c : Nat} {l : List Nat} {p : Part} (h : partOf c l = some p) : okP p = true := by
  unfold partOf at h
  by_cases a : c = 84 ∨ c = 78
  · rw [if_pos a] at h
    by_cases b : nameM l = true
    · rw [if_pos b] at h; obtain rfl := Option.some.inj h; exact b
    · rw [if_neg b] at h; cases h
  · rw [if_neg a] at h
    unfold termOf at h
    by_cases b : l.head? = some 39
    · rw [if_pos b] at h
      unfold textOf at h
      by_cases d : 2 ≤ l.length ∧ l.getLast? = some 39 ∧ textM (l.drop 1).dropLast = true
      · rw [if_pos d] at h; obtain rfl := Option.some.inj h; exact d.2.2
      · rw [if_neg d] at h; cases h
    · rw [if_neg b] at h
      cases e : parOf l with
      | some n =>
        rw [e] at h
        obtain rfl := Option.some.inj h
        have := parOf_ok e
        show (decide (1 ≤ n) && decide (n ≤ 4)) = true
        rw [decide_eq_true this.1, decide_eq_true this.2]; rfl
      | none =>
        rw [e] at h
        change (Mx.numOf l).map Part.num = some p at h
        obtain ⟨n, e2, rfl⟩ := Option.map_eq_some_iff.mp h
        exact (numOf_ok e2).2
theorem partsOf_at : ∀ {cs : List Nat} {ls : List (List Nat)} {ps : List Part}, partsOf cs ls = some ps → cs.length = ls.length → ps.length = ls.length ∧ ∀ (i c : Nat) (l : List Nat), cs[i]? = some c → ls[i]? = some l → ∃ p, ps[i]? = some p ∧ partOf c l = some p
  | [], [], ps, h, _ => by
    obtain rfl := Option.some.inj h
    exact ⟨rfl, fun i c l h _ => by simp at h⟩
  | [], _ :: _, _, _, e => by simp at e
  | _ :: _, [], _, _, e => by simp at e
  | c :: cs, l :: ls, ps, h, e => by
    unfold partsOf at h
    cases e1 : partOf c l with
    | none => rw [e1] at h; cases h
    | some p =>
      cases e2 : partsOf cs ls with
      | none => rw [e1, e2] at h; cases h
      | some qs =>
        rw [e1, e2] at h
        obtain rfl := Option.some.inj h
        obtain ⟨z1, z2⟩ := partsOf_at e2 (by simpa using e)
        refine ⟨by simp [z1], fun i c' l' h1 h2 => ?_⟩
        cases i with
        | zero => simp at h1 h2; subst h1 h2; exact ⟨p, rfl, e1⟩
        | succ i => simp at h1 h2; obtain ⟨q, g1, g2⟩ := z2 i c' l' h1 h2; exact ⟨q, by simpa using g1, g2⟩
theorem partsOf_ok : ∀ {cs : List Nat} {ls : List (List Nat)} {ps : List Part}, partsOf cs ls = some ps → ∀ p ∈ ps, okP p = true
  | [], ls, ps, h, p, hp => by unfold partsOf at h; obtain rfl := Option.some.inj h; cases hp
  | c :: cs, [], ps, h, p, hp => by unfold partsOf at h; obtain rfl := Option.some.inj h; cases hp
  | c :: cs, l :: ls, ps, h, p, hp => by
    unfold partsOf at h
    cases e1 : partOf c l with
    | none => rw [e1] at h; cases h
    | some q =>
      cases e2 : partsOf cs ls with
      | none => rw [e1, e2] at h; cases h
      | some qs =>
        rw [e1, e2] at h
        obtain rfl := Option.some.inj h
        rcases List.mem_cons.mp hp with rfl | hp
        · exact partOf_ok e1
        · exact partsOf_ok e2 p hp
theorem formOf_len {w : Str} {n : Nat} {f : Str} (h : formOf w n = some f) : f.length = n := by
  unfold formOf at h
  have := List.find?_some h
  simpa using this
/-- the greatest parameter is among those there are -/
theorem fold_most : ∀ (r : List Int) (m : Int), (∀ x ∈ r, 1 ≤ x ∧ x ≤ 4) → (1 ≤ m ∧ m ≤ 4) → 1 ≤ r.foldl (fun a b => if b > a then b else a) m ∧ r.foldl (fun a b => if b > a then b else a) m ≤ 4
  | [], m, _, h => h
  | x :: r, m, h, hm => by
    rw [List.foldl_cons]
    have hx := h x (List.mem_cons_self ..)
    refine fold_most r _ (fun y hy => h y (List.mem_cons_of_mem _ hy)) ?_
    split
    · exact hx
    · exact hm
theorem most_le {ps : List Part} (h : ∀ p ∈ ps, okP p = true) : 0 ≤ mostOf ps ∧ mostOf ps ≤ 4 := by
  have all : ∀ n ∈ parsOf ps, 1 ≤ n ∧ n ≤ 4 := fun n hn => by
    unfold parsOf at hn
    obtain ⟨p, hp, e⟩ := List.mem_filterMap.mp hn
    have := h p hp
    cases p with
    | par m =>
      obtain rfl := Option.some.inj e
      have z : (decide (1 ≤ m) && decide (m ≤ 4)) = true := this
      rw [Bool.and_eq_true_iff] at z
      exact ⟨of_decide_eq_true z.1, of_decide_eq_true z.2⟩
    | name l => cases e
    | num m => cases e
    | text l => cases e
  unfold mostOf
  cases e : parsOf ps with
  | nil => simp
  | cons m r =>
    rw [e] at all
    have z := fold_most r m (fun x hx => all x (List.mem_cons_of_mem _ hx)) (all m (List.mem_cons_self ..))
    exact ⟨Int.le_trans (by decide) z.1, z.2⟩
/-! ### what a part is, as data -/
def dataP : Part → PyData
  | .name l => .str (S l)
  | .num n => .int n
  | .text l => .tuple [.str "text", .str (S l)]
  | .par n => .tuple [.str "parameter", .int n]
theorem data_dp {K : PySem.W.Frag} {H : Hp} {v : V} {p : Part} (h : IsP H v p) : Dp K H v (dataP p) := by
  cases p with
  | name l => obtain rfl := h; exact .str _
  | num n => obtain rfl := h; exact .int _
  | text l => obtain ⟨a, rfl, h⟩ := h; exact .tup (SqT.of h) (.cons (.str _) (.cons (.str _) .nil))
  | par n => obtain ⟨a, rfl, h⟩ := h; exact .tup (SqT.of h) (.cons (.str _) (.cons (.int _) .nil))
theorem all_lt {l : List Nat} (h : ∀ c ∈ l, c < 128) : PyData.strOk (S l) = true := by
  unfold PyData.strOk
  rw [← Array.all_toList, List.all_eq_true]
  intro c hc
  have := h c hc
  exact decide_eq_true (by omega)
theorem sgn_lt {l : List Nat} (h : l.all sgn = true) : ∀ c ∈ l, c < 128 := fun c hc => by
  have : 32 ≤ c ∧ c ≤ 126 ∧ c ≠ 37 := of_decide_eq_true (List.all_eq_true.mp h c hc)
  omega
theorem let_lt {l : List Nat} (h : l.all isLet = true) : ∀ c ∈ l, c < 128 := fun c hc => by
  have z : c ∈ lettersC := of_decide_eq_true (List.all_eq_true.mp h c hc)
  have : ∀ x ∈ lettersC, x < 128 := by decide
  exact this c z
theorem lay_P {p : Part} (h : okP p = true) : (dataP p).canLay0 = true ∧ (dataP p).depth ≤ 1 := by
  have t1 : PyData.strOk "text" = true := by decide +kernel
  have t2 : PyData.strOk "parameter" = true := by decide +kernel
  cases p with
  | name l =>
    have h : (decide (1 ≤ l.length) && decide (l.length ≤ 8) && l.all isLet) = true := h
    rw [Bool.and_eq_true_iff] at h
    exact ⟨by show PyData.canLay0 (.str (S l)) = true; rw [PyData.canLay0]; exact all_lt (let_lt h.2), Nat.zero_le _⟩
  | num n => exact ⟨by show PyData.canLay0 (.int n) = true; rw [PyData.canLay0], Nat.zero_le _⟩
  | text l =>
    have h : (decide (l.length ≤ 40) && (!decide (39 ∈ l) && l.all sgn)) = true := h
    rw [Bool.and_eq_true_iff, Bool.and_eq_true_iff] at h
    refine ⟨?_, Nat.le_refl _⟩
    show PyData.canLay0 (.tuple [.str "text", .str (S l)]) = true
    rw [PyData.canLay0, PyData.canLayAll0, PyData.canLayAll0, PyData.canLayAll0, PyData.canLay0, PyData.canLay0, t1, all_lt (sgn_lt h.2.2)]; rfl
  | par n =>
    refine ⟨?_, Nat.le_refl _⟩
    show PyData.canLay0 (.tuple [.str "parameter", .int n]) = true
    rw [PyData.canLay0, PyData.canLayAll0, PyData.canLayAll0, PyData.canLayAll0, PyData.canLay0, PyData.canLay0, t2]; rfl
theorem lay_all : ∀ {ps : List Part}, (∀ p ∈ ps, okP p = true) → PyData.canLayAll0 (ps.map dataP) = true ∧ PyData.depthAll (ps.map dataP) ≤ 1
  | [], _ => ⟨by rw [List.map_nil, PyData.canLayAll0], by rw [List.map_nil, PyData.depthAll]; omega⟩
  | p :: ps, h => by
    have a := lay_P (h p (List.mem_cons_self ..))
    have b := lay_all (fun q hq => h q (List.mem_cons_of_mem _ hq))
    rw [List.map_cons, PyData.canLayAll0, PyData.depthAll, a.1, b.1]
    exact ⟨rfl, by have := a.2; have := b.2; omega⟩
theorem shaped_all {ps : List Part} (h : ∀ p ∈ ps, okP p = true) : SeqAt.shaped (.tuple (ps.map dataP)) = true := by
  have a := lay_all h
  unfold SeqAt.shaped
  rw [PyData.canLay0, a.1, PyData.depth, decide_eq_true (by have := a.2; omega)]; rfl
theorem shaped_P {p : Part} (h : okP p = true) : SeqAt.shaped (dataP p) = true := by
  have a := lay_P h
  unfold SeqAt.shaped
  rw [a.1, decide_eq_true (by have := a.2; omega)]; rfl
theorem shaped_word {w : List Nat} {ps : List Part} (hw : ∀ c ∈ w, c < 128) (h : ∀ p ∈ ps, okP p = true) : SeqAt.shaped (.tuple ((Part.name w :: ps).map dataP)) = true := by
  have a := lay_all h
  unfold SeqAt.shaped
  rw [List.map_cons, PyData.canLay0, PyData.canLayAll0, a.1, PyData.depth, PyData.depthAll]
  show (PyData.canLay0 (.str (S w)) && true && decide (max (PyData.depth (.str (S w))) _ + 1 ≤ 64)) = true
  rw [PyData.canLay0, all_lt hw, PyData.depth, decide_eq_true (by have := a.2; omega)]; rfl
theorem eqv_par (n : Int) : PyData.eqv (dataP (.par n)) (dataP (.par n)) = true := by
  show PyData.eqv (.tuple [.str "parameter", .int n]) (.tuple [.str "parameter", .int n]) = true
  simp [PyData.eqv, PyData.eqvAll]
theorem any_par {w : List Nat} {ps : List Part} {n : Int} (h : Part.par n ∈ ps) : (((Part.name w :: ps).map dataP).any fun z => PyData.eqv z (dataP (.par n))) = true := by
  rw [List.any_eq_true]
  exact ⟨dataP (.par n), List.mem_map.mpr ⟨_, List.mem_cons_of_mem _ h, rfl⟩, eqv_par n⟩
theorem data_all {K : PySem.W.Frag} {H : Hp} : ∀ {vs : List V} {ps : List Part}, ArePs H vs ps → DpAll K H vs (ps.map dataP)
  | _, _, .nil => .nil
  | _, _, .cons h t => .cons (data_dp h) (data_all t)
end Mx
end
section
namespace Mx
open PySem PySem.Spec PyProof.Rows L2 SX
/-- every parameter up to the greatest one is there -/
def good (ps : List Part) : Prop := ∀ m : Int, 1 ≤ m → m ≤ mostOf ps → Part.par m ∈ ps
theorem good_full {ps : List Part} (h : good ps) : full ps = true := by
  unfold full
  rw [List.all_eq_true]
  intro i hi
  rw [List.mem_range] at hi
  exact decide_eq_true (h _ (by omega) (by omega))
def upto (m : Int) : List Int → Int := fun r => r.foldl (fun a b => if b > a then b else a) m
theorem most_eq (ps : List Part) (h : ∀ n ∈ parsOf ps, 1 ≤ n) : mostOf ps = upto 0 (parsOf ps) := by
  unfold mostOf upto
  cases e : parsOf ps with
  | nil => rfl
  | cons m r =>
    have : 1 ≤ m := h m (by rw [e]; exact List.mem_cons_self ..)
    show _ = List.foldl _ (if m > 0 then m else 0) r
    rw [if_pos (by omega)]
theorem pars_pos {ps : List Part} (h : ∀ p ∈ ps, okP p = true) : ∀ n ∈ parsOf ps, 1 ≤ n := fun n hn => by
  unfold parsOf at hn
  obtain ⟨p, hp, e⟩ := List.mem_filterMap.mp hn
  have := h p hp
  cases p with
  | par m =>
    obtain rfl := Option.some.inj e
    have z : (decide (1 ≤ m) && decide (m ≤ 4)) = true := this
    rw [Bool.and_eq_true_iff] at z
    exact of_decide_eq_true z.1
  | name l => cases e
  | num m => cases e
  | text l => cases e
theorem pars_app (a b : List Part) : parsOf (a ++ b) = parsOf a ++ parsOf b := List.filterMap_append
theorem most_snoc {ps : List Part} {p : Part} (h : ∀ q ∈ ps ++ [p], okP q = true) : mostOf (ps ++ [p]) = match parNo p with
    | none => mostOf ps
    | some m => if m > mostOf ps then m else mostOf ps := by
  rw [most_eq _ (pars_pos h), most_eq ps (pars_pos fun q hq => h q (List.mem_append_left _ hq)), pars_app]
  unfold upto
  rw [List.foldl_append]
  cases p with
  | par m => rfl
  | name l => rfl
  | num m => rfl
  | text l => rfl
theorem good_snoc {ps : List Part} {p : Part} (h : ∀ q ∈ ps ++ [p], okP q = true) (g : good ps) (hp : ∀ m, p = .par m → m ≤ mostOf ps + 1) : good (ps ++ [p]) := by
  intro m m1 m2
  rw [most_snoc h] at m2
  cases e : parNo p with
  | none => rw [e] at m2; exact List.mem_append_left _ (g m m1 m2)
  | some k =>
    have ep : p = .par k := by
      cases p with
      | par m => rw [Option.some.inj e]
      | name l => cases e
      | num m => cases e
      | text l => cases e
    rw [e] at m2
    have := hp k ep
    by_cases c : m ≤ mostOf ps
    · exact List.mem_append_left _ (g m m1 c)
    · have : m = k := by
        dsimp only at m2
        split at m2 <;> omega
      rw [this, ep]
      exact List.mem_append_right _ (List.mem_singleton.mpr rfl)
/-- the greatest of 0 and the parameters -/
theorem most_max {ps : List Part} (h : ∀ p ∈ ps, okP p = true) {m : Int} (hm : m ∈ 0 :: parsOf ps) (hx : ∀ y ∈ 0 :: parsOf ps, y ≤ m) : m = mostOf ps := by
  have key : ∀ (r : List Int) (a : Int), (upto a r = a ∨ upto a r ∈ r) ∧ a ≤ upto a r ∧ ∀ x ∈ r, x ≤ upto a r := by
    intro r
    induction r with
    | nil => intro a; exact ⟨Or.inl rfl, Int.le_refl _, fun x hx => nomatch hx⟩
    | cons b r ih =>
      intro a
      have e : upto a (b :: r) = upto (if b > a then b else a) r := rfl
      obtain ⟨i1, i2, i3⟩ := ih (if b > a then b else a)
      rw [e]
      refine ⟨?_, ?_, ?_⟩
      · rcases i1 with i1 | i1
        · by_cases c : b > a
          · rw [if_pos c] at i1 ⊢; rw [i1]; exact Or.inr (List.mem_cons_self ..)
          · rw [if_neg c] at i1 ⊢; exact Or.inl i1
        · exact Or.inr (List.mem_cons_of_mem _ i1)
      · refine Int.le_trans ?_ i2
        split <;> omega
      · intro x hx
        rcases List.mem_cons.mp hx with rfl | hx
        · refine Int.le_trans ?_ i2
          split <;> omega
        · exact i3 x hx
  rw [most_eq ps (pars_pos h)]
  obtain ⟨k1, k2, k3⟩ := key (parsOf ps) 0
  have a : upto 0 (parsOf ps) ≤ m := by
    rcases k1 with k1 | k1
    · rw [k1]; exact hx 0 (List.mem_cons_self ..)
    · exact hx _ (List.mem_cons_of_mem _ k1)
  have b : m ≤ upto 0 (parsOf ps) := by
    rcases List.mem_cons.mp hm with rfl | hm
    · exact k2
    · exact k3 m hm
  omega
/-! ### statements as the law makes them -/
/-- what a letter of a form asks of a part -/
def fits (c : Nat) : Part → Prop := fun p => if c = 84 ∨ c = 78 then ∃ l, p = .name l ∧ nameM l = true else okP p = true ∧ ∀ l, p ≠ .name l
structure okS (wl : List Nat) (ps : List Part) : Prop where
  nm : nameM wl = true
  ex : ∃ f, formOf (S wl) ps.length = some f ∧ Paired fits f.cps.toList ps
  gd : good ps
def wordsV : List V := [.str "create", .str "put", .str "put", .str "scan", .str "begin", .str "commit", .str "put", .str "get", .str "delete", .str "total", .str "scan", .str "save", .str "undo", .str "rollback", .str "drop", .str "create", .str "put", .str "begin", .str "save", .str "undo", .str "scan"]
def aloneV : List V := [.str "begin", .str "commit", .str "rollback"]
def cntK (b : Int) : List (Key × V) := [(.inr "put", .int 2), (.inr "get", .int 1), (.inr "delete", .int 1), (.inr "scan", .int (2 * b))]
/-- a word of the list: alone, or with a name and some terms -/
def wordKind (wl : List Nat) : Prop := nameM wl = true ∧ ((inV (.str (S wl)) aloneV = true ∧ formOf (S wl) 0 = some "") ∨
  (inV (.str (S wl)) aloneV = false ∧ ∀ b : Int, (b = 0 ∨ b = 1) → ∃ cnt : Nat, cnt ≤ 2 ∧ (valV (mergeK [] (cntK b)) (.inr (S wl))).getD (.int 0) = .int (cnt : Int) ∧ ∃ f c0, formOf (S wl) (1 + cnt) = some f ∧ (c0 = 84 ∨ c0 = 78) ∧ f.cps.toList = c0 :: [88, 89].take cnt))
theorem kind_of : ∀ v ∈ wordsV, ∃ wl, v = .str (S wl) ∧ wordKind wl := by
  intro v hv
  unfold wordsV at hv
  simp only [List.mem_cons, List.not_mem_nil, or_false] at hv
  rcases hv with rfl | rfl | rfl | rfl | rfl | rfl | rfl | rfl | rfl | rfl | rfl | rfl | rfl | rfl | rfl | rfl | rfl | rfl | rfl | rfl | rfl
  · exact ⟨_, rfl, by decide +kernel, Or.inr ⟨by decide +kernel, fun b hb => ⟨0, by decide, by rcases hb with rfl | rfl <;> decide +kernel, _, 84, rfl, Or.inl rfl, by decide +kernel⟩⟩⟩
  · exact ⟨_, rfl, by decide +kernel, Or.inr ⟨by decide +kernel, fun b hb => ⟨2, by decide, by rcases hb with rfl | rfl <;> decide +kernel, _, 84, rfl, Or.inl rfl, by decide +kernel⟩⟩⟩
  · exact ⟨_, rfl, by decide +kernel, Or.inr ⟨by decide +kernel, fun b hb => ⟨2, by decide, by rcases hb with rfl | rfl <;> decide +kernel, _, 84, rfl, Or.inl rfl, by decide +kernel⟩⟩⟩
  · exact ⟨_, rfl, by decide +kernel, Or.inr ⟨by decide +kernel, fun b hb => by
      rcases hb with rfl | rfl
      · exact ⟨0, by decide, by decide +kernel, _, 84, rfl, Or.inl rfl, by decide +kernel⟩
      · exact ⟨2, by decide, by decide +kernel, _, 84, rfl, Or.inl rfl, by decide +kernel⟩⟩⟩
  · exact ⟨_, rfl, by decide +kernel, Or.inl ⟨by decide +kernel, by decide +kernel⟩⟩
  · exact ⟨_, rfl, by decide +kernel, Or.inl ⟨by decide +kernel, by decide +kernel⟩⟩
  · exact ⟨_, rfl, by decide +kernel, Or.inr ⟨by decide +kernel, fun b hb => ⟨2, by decide, by rcases hb with rfl | rfl <;> decide +kernel, _, 84, rfl, Or.inl rfl, by decide +kernel⟩⟩⟩
  · exact ⟨_, rfl, by decide +kernel, Or.inr ⟨by decide +kernel, fun b hb => ⟨1, by decide, by rcases hb with rfl | rfl <;> decide +kernel, _, 84, rfl, Or.inl rfl, by decide +kernel⟩⟩⟩
  · exact ⟨_, rfl, by decide +kernel, Or.inr ⟨by decide +kernel, fun b hb => ⟨1, by decide, by rcases hb with rfl | rfl <;> decide +kernel, _, 84, rfl, Or.inl rfl, by decide +kernel⟩⟩⟩
  · exact ⟨_, rfl, by decide +kernel, Or.inr ⟨by decide +kernel, fun b hb => ⟨0, by decide, by rcases hb with rfl | rfl <;> decide +kernel, _, 84, rfl, Or.inl rfl, by decide +kernel⟩⟩⟩
  · exact ⟨_, rfl, by decide +kernel, Or.inr ⟨by decide +kernel, fun b hb => by
      rcases hb with rfl | rfl
      · exact ⟨0, by decide, by decide +kernel, _, 84, rfl, Or.inl rfl, by decide +kernel⟩
      · exact ⟨2, by decide, by decide +kernel, _, 84, rfl, Or.inl rfl, by decide +kernel⟩⟩⟩
  · exact ⟨_, rfl, by decide +kernel, Or.inr ⟨by decide +kernel, fun b hb => ⟨0, by decide, by rcases hb with rfl | rfl <;> decide +kernel, _, 78, rfl, Or.inr rfl, by decide +kernel⟩⟩⟩
  · exact ⟨_, rfl, by decide +kernel, Or.inr ⟨by decide +kernel, fun b hb => ⟨0, by decide, by rcases hb with rfl | rfl <;> decide +kernel, _, 78, rfl, Or.inr rfl, by decide +kernel⟩⟩⟩
  · exact ⟨_, rfl, by decide +kernel, Or.inl ⟨by decide +kernel, by decide +kernel⟩⟩
  · exact ⟨_, rfl, by decide +kernel, Or.inr ⟨by decide +kernel, fun b hb => ⟨0, by decide, by rcases hb with rfl | rfl <;> decide +kernel, _, 84, rfl, Or.inl rfl, by decide +kernel⟩⟩⟩
  · exact ⟨_, rfl, by decide +kernel, Or.inr ⟨by decide +kernel, fun b hb => ⟨0, by decide, by rcases hb with rfl | rfl <;> decide +kernel, _, 84, rfl, Or.inl rfl, by decide +kernel⟩⟩⟩
  · exact ⟨_, rfl, by decide +kernel, Or.inr ⟨by decide +kernel, fun b hb => ⟨2, by decide, by rcases hb with rfl | rfl <;> decide +kernel, _, 84, rfl, Or.inl rfl, by decide +kernel⟩⟩⟩
  · exact ⟨_, rfl, by decide +kernel, Or.inl ⟨by decide +kernel, by decide +kernel⟩⟩
  · exact ⟨_, rfl, by decide +kernel, Or.inr ⟨by decide +kernel, fun b hb => ⟨0, by decide, by rcases hb with rfl | rfl <;> decide +kernel, _, 78, rfl, Or.inr rfl, by decide +kernel⟩⟩⟩
  · exact ⟨_, rfl, by decide +kernel, Or.inr ⟨by decide +kernel, fun b hb => ⟨0, by decide, by rcases hb with rfl | rfl <;> decide +kernel, _, 78, rfl, Or.inr rfl, by decide +kernel⟩⟩⟩
  · exact ⟨_, rfl, by decide +kernel, Or.inr ⟨by decide +kernel, fun b hb => by
      rcases hb with rfl | rfl
      · exact ⟨0, by decide, by decide +kernel, _, 84, rfl, Or.inl rfl, by decide +kernel⟩
      · exact ⟨2, by decide, by decide +kernel, _, 84, rfl, Or.inl rfl, by decide +kernel⟩⟩⟩
end Mx
end
section
/-! the law's own reading of a string, plainly; it is the program's -/
namespace Mx
open PySem PySem.Spec PyProof.Rows L2 SX
def digsOf (w : List Nat) : List Nat := if w.head? = some 45 then w.drop 1 else w
def lawNum (w : List Nat) : Option Int :=
  if 1 ≤ (digsOf w).length ∧ (digsOf w).length ≤ 10 ∧ (digsOf w).all isDig = true then
    if (digsOf w).head? = some 48 ∧ w ≠ [48] then none else
      let n : Int := if w.head? = some 45 then -((NumText.digitsVal (w.drop 1) : Nat) : Int) else ((NumText.digitsVal w : Nat) : Int)
      if n < -2147483648 ∨ 2147483647 < n then none else some n
  else none
def lawText (w : List Nat) : Option (List Nat) :=
  if w.length < 2 ∨ w.getLast? ≠ some 39 ∨ 39 ∈ (w.drop 1).dropLast ∨ 40 < (w.drop 1).dropLast.length then none else some (w.drop 1).dropLast
def lawTerm (w : List Nat) : Option Part :=
  if w.head? = some 39 then (lawText w).map .text else if w.head? = some 36 then (parOf w).map .par else (lawNum w).map .num
def lawStep (st : List (List Nat) × Bool) (c : Nat) : List (List Nat) × Bool :=
  if c = 32 ∧ st.2 = false then (st.1 ++ [[]], st.2)
  else (st.1.dropLast ++ [st.1.getLastD [] ++ [c]], if c = 39 ∧ (st.2 = true ∨ st.1.getLastD [] = []) then !st.2 else st.2)
def lawSplit (l : List Nat) : List (List Nat) × Bool := l.foldl lawStep ([[]], false)
def lawPieces (l : List Nat) : List (List Nat) := if (lawSplit l).2 = true then [] else (lawSplit l).1
def termsOf : List (List Nat) → Option (List Part)
  | [] => some []
  | l :: ls => match lawTerm l with
    | none => none
    | some p => match termsOf ls with
      | none => none
      | some ps => some (p :: ps)
/-- every parameter up to the greatest one is among the terms -/
def fullL (ps : List Part) : Bool := (List.range (mostOf ps).toNat).all fun i => decide ((1 + (i : Int)) ∈ parsOf ps)
def lawTail : List (List Nat) → Option (Str × List Part)
  | [] => none
  | w :: ls => if (formOf (S w) ls.length).isSome = true then match ls with
      | [] => some (S w, [])
      | n :: ts => if nameM n = true then match termsOf ts with
          | none => none
          | some ps => if fullL ps = true then some (S w, .name n :: ps) else none
        else none
    else none
def lawRead (l : List Nat) : Option (Str × List Part) := if l.length ≤ 200 ∧ l.all sgn = true then lawTail (lawPieces l) else none
def progTail : List (List Nat) → Option (Str × List Part)
  | [] => none
  | w :: ls => match formOf (S w) ls.length with
    | none => none
    | some f => match partsOf f.cps.toList ls with
      | none => none
      | some ps => if full ps = true then some (S w, ps) else none
theorem stmt_tail (l : List Nat) : stmtM l = if l.length ≤ 200 ∧ l.all sgn = true then progTail (splitM l) else none := by
  unfold stmtM
  by_cases h : l.length ≤ 200 ∧ l.all sgn = true
  · rw [if_pos h, if_pos h]
    cases splitM l <;> rfl
  · rw [if_neg h, if_neg h]
/-! ### numbers -/
theorem numL_back {d : List Nat} (h : d.all isDig = true) (ne : d ≠ []) (z : d.head? = some 48 → d = [48]) : TL.numL (NumText.digitsVal d) = d := by
  have all : NumText.AllDigits d := fun c hc => of_decide_eq_true (List.all_eq_true.mp h c hc)
  cases d with
  | nil => exact absurd rfl ne
  | cons c r =>
    have hc := all c (List.mem_cons_self ..)
    have lead : r.length = 0 ∨ ∃ c' r', c :: r = c' :: r' ∧ 49 ≤ c' := by
      by_cases e : c = 48
      · subst e
        have q := z rfl
        left
        rw [(List.cons.inj q).2]; rfl
      · exact Or.inr ⟨c, r, rfl, by omega⟩
    unfold TL.numL
    rw [NumText.toDigits_digitsVal r.length (c :: r) rfl all lead, List.map_map]
    have : ∀ x ∈ c :: r, (Char.toNat ∘ Char.ofNat) x = x := fun x hx => by
      have := all x hx
      have e : ∀ i : Nat, 48 ≤ i → i ≤ 57 → (Char.ofNat i).toNat = i := by
        intro i a b
        have : i = 48 ∨ i = 49 ∨ i = 50 ∨ i = 51 ∨ i = 52 ∨ i = 53 ∨ i = 54 ∨ i = 55 ∨ i = 56 ∨ i = 57 := by omega
        rcases this with rfl | rfl | rfl | rfl | rfl | rfl | rfl | rfl | rfl | rfl <;> rfl
      exact e x this.1 this.2
    rw [List.map_congr_left this, List.map_id']
theorem digs_intS (n : Int) : digsOf (intS n) = TL.numL n.natAbs := intS_digits n
theorem numL_small {m : Nat} (h : m ≤ 2147483648) : (TL.numL m).length ≤ 10 := TL.numL_len (by decide) (by omega)
theorem numL_lead {m : Nat} (h : (TL.numL m).head? = some 48) : m = 0 := by
  induction m using Nat.strongRecOn with
  | ind m ih =>
    by_cases c : m < 10
    · rw [TL.numL_lt c] at h
      have := Option.some.inj h
      omega
    · have e := TL.numL_step (n := m) (by omega)
      rw [e] at h
      have ne := TL.numL_ne (m / 10)
      have h' : (TL.numL (m / 10)).head? = some 48 := by
        cases d : TL.numL (m / 10) with
        | nil => exact absurd d ne
        | cons a r => rw [d] at h; exact h
      have := ih (m / 10) (by omega) h'
      omega
theorem lawNum_eq (w : List Nat) : lawNum w = Mx.numOf w := by
  have back : ∀ n : Int, intS n = w → numM n = true → lawNum w = some n := by
    intro n e nm
    subst e
    have nb : (decide (-2147483648 ≤ n) && decide (n ≤ 2147483647)) = true := nm
    rw [Bool.and_eq_true_iff] at nb
    have b1 := of_decide_eq_true nb.1
    have b2 := of_decide_eq_true nb.2
    unfold lawNum
    have dd := digs_intS n
    have c1 : 1 ≤ (digsOf (intS n)).length ∧ (digsOf (intS n)).length ≤ 10 ∧ (digsOf (intS n)).all isDig = true := by
      refine ⟨?_, ?_, intS_all n⟩
      · rw [dd]
        have := TL.numL_ne n.natAbs
        cases h : TL.numL n.natAbs with
        | nil => exact absurd h this
        | cons a r => simp
      · rw [dd]; exact numL_small (by omega)
    rw [if_pos c1, if_neg, intS_back n]
    · dsimp only
      rw [if_neg (by omega)]
    · rintro ⟨h1, h2⟩
      rw [dd] at h1
      have z := numL_lead h1
      have : n = 0 := by omega
      subst this
      exact h2 (by decide +kernel)
  have fwd : ∀ n : Int, lawNum w = some n → intS n = w ∧ numM n = true := by
    intro n h
    unfold lawNum at h
    by_cases c1 : 1 ≤ (digsOf w).length ∧ (digsOf w).length ≤ 10 ∧ (digsOf w).all isDig = true
    · rw [if_pos c1] at h
      by_cases c2 : (digsOf w).head? = some 48 ∧ w ≠ [48]
      · rw [if_pos c2] at h; cases h
      · rw [if_neg c2] at h
        have ne : digsOf w ≠ [] := fun e => by rw [e] at c1; simp at c1
        have can : TL.numL (NumText.digitsVal (digsOf w)) = digsOf w := numL_back c1.2.2 ne fun e => by
          have : w = [48] := Classical.byContradiction fun q => c2 ⟨e, q⟩
          subst this; rfl
        dsimp only at h
        generalize en : (if w.head? = some 45 then -((NumText.digitsVal (w.drop 1) : Nat) : Int) else ((NumText.digitsVal w : Nat) : Int)) = m at h
        by_cases c3 : m < -2147483648 ∨ 2147483647 < m
        · rw [if_pos c3] at h; cases h
        · rw [if_neg c3] at h
          obtain rfl := Option.some.inj h
          refine ⟨?_, ?_⟩
          · by_cases hm : w.head? = some 45
            · rw [if_pos hm] at en
              have ed : digsOf w = w.drop 1 := by unfold digsOf; rw [if_pos hm]
              rw [ed] at can c2 c1
              have ew : w = 45 :: w.drop 1 := by
                cases w with
                | nil => cases hm
                | cons a r => rw [Option.some.inj hm]; rfl
              unfold intS
              have pos : 0 < NumText.digitsVal (w.drop 1) := by
                rcases Nat.eq_zero_or_pos (NumText.digitsVal (w.drop 1)) with z | z
                · rw [z] at can
                  have z2 : w.drop 1 = [48] := by rw [← can]; decide +kernel
                  exact absurd ⟨by rw [z2]; rfl, by rw [ew]; intro q; cases q⟩ c2
                · exact z
              rw [← en, if_pos (by omega), show (-((NumText.digitsVal (w.drop 1) : Nat) : Int)).natAbs = NumText.digitsVal (w.drop 1) by omega, can]
              exact ew.symm
            · rw [if_neg hm] at en
              have ed : digsOf w = w := by unfold digsOf; rw [if_neg hm]
              rw [ed] at can
              unfold intS
              rw [← en, if_neg (by omega), Int.natAbs_natCast, can]
          · show (decide (-2147483648 ≤ m) && decide (m ≤ 2147483647)) = true
            rw [decide_eq_true (by omega), decide_eq_true (by omega)]; rfl
    · rw [if_neg c1] at h; cases h
  cases e : Mx.numOf w with
  | some n => exact back n (numOf_ok e).1 (numOf_ok e).2
  | none =>
    cases e2 : lawNum w with
    | none => rfl
    | some n =>
      obtain ⟨h1, h2⟩ := fwd n e2
      exfalso
      unfold Mx.numOf at e
      dsimp only at e
      rw [← h1, intS_back n, if_pos ⟨rfl, h2⟩] at e
      cases e
theorem numOf_head {w : List Nat} {c : Nat} (h : w.head? = some c) (hc : c ≠ 45 ∧ ¬ (48 ≤ c ∧ c ≤ 57)) : Mx.numOf w = none := by
  cases e : Mx.numOf w with
  | none => rfl
  | some n =>
    have z := (numOf_ok e).1
    have := intS_codes n c (by rw [z]; exact List.mem_of_head? h)
    omega
theorem numOf_mem {w : List Nat} {c : Nat} (h : c ∈ w) (hc : c ≠ 45 ∧ ¬ (48 ≤ c ∧ c ≤ 57)) : Mx.numOf w = none := by
  cases e : Mx.numOf w with
  | none => rfl
  | some n =>
    have z := (numOf_ok e).1
    have := intS_codes n c (by rw [z]; exact h)
    omega
theorem parOf_head {w : List Nat} {n : Int} (h : parOf w = some n) : w.head? = some 36 ∧ 39 ∉ w := by
  unfold parOf at h
  by_cases a1 : w = [36, 49]
  · subst a1; exact ⟨rfl, by decide⟩
  · rw [if_neg a1] at h
    by_cases a2 : w = [36, 50]
    · subst a2; exact ⟨rfl, by decide⟩
    · rw [if_neg a2] at h
      by_cases a3 : w = [36, 51]
      · subst a3; exact ⟨rfl, by decide⟩
      · rw [if_neg a3] at h
        by_cases a4 : w = [36, 52]
        · subst a4; exact ⟨rfl, by decide⟩
        · rw [if_neg a4] at h; cases h
theorem mem_mid {w : List Nat} {c : Nat} (h : c ∈ (w.drop 1).dropLast) : c ∈ w := List.mem_of_mem_drop (List.dropLast_subset _ h)
theorem lawTerm_eq {w : List Nat} (h : w.all sgn = true) : lawTerm w = termOf w := by
  unfold lawTerm termOf
  by_cases c1 : w.head? = some 39
  · rw [if_pos c1, if_pos c1]
    congr 1
    unfold lawText textOf textM
    have al : (w.drop 1).dropLast.all sgn = true := List.all_eq_true.mpr fun c hc => List.all_eq_true.mp h c (mem_mid hc)
    rw [al, Bool.and_true]
    by_cases d : w.length < 2 ∨ w.getLast? ≠ some 39 ∨ 39 ∈ (w.drop 1).dropLast ∨ 40 < (w.drop 1).dropLast.length
    · rw [if_pos d, if_neg]
      rintro ⟨a1, a2, a3⟩
      rw [Bool.and_eq_true_iff] at a3
      have b1 := of_decide_eq_true a3.1
      have b2 : ¬ 39 ∈ (w.drop 1).dropLast := by simpa using a3.2
      rcases d with d | d | d | d
      · omega
      · exact d a2
      · exact b2 d
      · omega
    · rw [if_neg d, if_pos]
      have d1 : ¬ w.length < 2 := fun z => d (Or.inl z)
      have d2 : w.getLast? = some 39 := Classical.byContradiction fun z => d (Or.inr (Or.inl z))
      have d3 : ¬ 39 ∈ (w.drop 1).dropLast := fun z => d (Or.inr (Or.inr (Or.inl z)))
      have d4 : ¬ 40 < (w.drop 1).dropLast.length := fun z => d (Or.inr (Or.inr (Or.inr z)))
      refine ⟨by omega, d2, ?_⟩
      rw [decide_eq_true (by omega), decide_eq_false d3]; rfl
  · rw [if_neg c1, if_neg c1]
    by_cases c2 : w.head? = some 36
    · rw [if_pos c2]
      cases e : parOf w with
      | some n => rfl
      | none =>
        rw [numOf_head c2 (by decide)]; rfl
    · rw [if_neg c2, lawNum_eq]
      cases e : parOf w with
      | some n => exact absurd (parOf_head e).1 c2
      | none => rfl
/-! ### forms -/
theorem form_mem {w : Str} {n : Nat} {f : Str} (h : formOf w n = some f) : f = "T" ∨ f = "TX" ∨ f = "TXY" ∨ f = "" ∨ f = "N" := by
  unfold formOf at h
  have m := List.mem_of_find?_eq_some h
  cases e : formsOf w with
  | none => rw [e] at m; simp at m
  | some fs =>
    rw [e] at m
    unfold formsOf at e
    have q := PySem.mem_of_lookup e
    unfold formTable at q
    have m : f ∈ fs := m
    simp only [List.mem_cons, List.not_mem_nil, or_false, Prod.mk.injEq] at q
    rcases q with ⟨_, rfl⟩ | ⟨_, rfl⟩ | ⟨_, rfl⟩ | ⟨_, rfl⟩ | ⟨_, rfl⟩ | ⟨_, rfl⟩ | ⟨_, rfl⟩ | ⟨_, rfl⟩ | ⟨_, rfl⟩ | ⟨_, rfl⟩ | ⟨_, rfl⟩ | ⟨_, rfl⟩ <;> simp only [List.mem_cons, List.not_mem_nil, or_false] at m
    all_goals first | (subst m; simp; done) | (rcases m with rfl | rfl <;> simp)
theorem form_word {w : List Nat} {n : Nat} {f : Str} (h : formOf (S w) n = some f) : 39 ∉ w := by
  unfold formOf at h
  have m := List.mem_of_find?_eq_some h
  cases e : formsOf (S w) with
  | none => rw [e] at m; simp at m
  | some fs =>
    unfold formsOf at e
    have q := PySem.mem_of_lookup e
    unfold formTable at q
    simp only [List.mem_cons, List.not_mem_nil, or_false, Prod.mk.injEq] at q
    have go : ∀ x : Str, S w = x → 39 ∉ x.cps.toList → 39 ∉ w := fun x ex hx hm => hx (by rw [← ex]; simpa [S] using hm)
    rcases q with ⟨q, _⟩ | ⟨q, _⟩ | ⟨q, _⟩ | ⟨q, _⟩ | ⟨q, _⟩ | ⟨q, _⟩ | ⟨q, _⟩ | ⟨q, _⟩ | ⟨q, _⟩ | ⟨q, _⟩ | ⟨q, _⟩ | ⟨q, _⟩ <;> exact go _ q (by decide +kernel)
/-- no word, no name and no term -/
structure Unus (p : List Nat) : Prop where
  q : 39 ∈ p
  t : termOf p = none
theorem Unus.name {p : List Nat} (h : Unus p) : nameM p = false := by
  cases e : nameM p with
  | false => rfl
  | true =>
    unfold nameM at e
    rw [Bool.and_eq_true_iff] at e
    have z := List.all_eq_true.mp e.2 39 h.q
    exact absurd z (by decide)
theorem Unus.part {p : List Nat} (h : Unus p) (c : Nat) : partOf c p = none := by
  unfold partOf
  rw [h.name, h.t]
  by_cases e : c = 84 ∨ c = 78
  · rw [if_pos e]; rfl
  · rw [if_neg e]
theorem Unus.word {p : List Nat} (h : Unus p) (n : Nat) : formOf (S p) n = none := by
  cases e : formOf (S p) n with
  | none => rfl
  | some f => exact absurd h.q (form_word e)
theorem parts_unus : ∀ {cs : List Nat} {ls : List (List Nat)}, cs.length = ls.length → (∃ p ∈ ls, Unus p) → partsOf cs ls = none
  | [], [], _, ⟨p, hp, _⟩ => by cases hp
  | [], _ :: _, e, _ => by simp at e
  | _ :: _, [], e, _ => by simp at e
  | c :: cs, l :: ls, e, ⟨p, hp, u⟩ => by
    unfold partsOf
    rcases List.mem_cons.mp hp with rfl | hp
    · rw [u.part]
    · cases partOf c l with
      | none => rfl
      | some z => dsimp only; rw [parts_unus (by simpa using e) ⟨p, hp, u⟩]
theorem prog_cons (w : List Nat) (ls : List (List Nat)) : progTail (w :: ls) = match formOf (S w) ls.length with
    | none => none
    | some f => match partsOf f.cps.toList ls with
      | none => none
      | some ps => if full ps = true then some (S w, ps) else none := rfl
theorem law_cons (w : List Nat) (ls : List (List Nat)) : lawTail (w :: ls) = if (formOf (S w) ls.length).isSome = true then match ls with
      | [] => some (S w, [])
      | n :: ts => if nameM n = true then match termsOf ts with
          | none => none
          | some ps => if fullL ps = true then some (S w, .name n :: ps) else none
        else none
    else none := rfl
theorem form_len {w : Str} {n : Nat} {f : Str} (h : formOf w n = some f) : f.cps.toList.length = n := by
  have := formOf_len h
  rw [Array.length_toList]
  exact this
theorem prog_unus {ps : List (List Nat)} (h : ∃ p ∈ ps, Unus p) : progTail ps = none := by
  cases ps with
  | nil => rfl
  | cons w ls =>
    rw [prog_cons]
    cases e : formOf (S w) ls.length with
    | none => rfl
    | some f =>
      obtain ⟨p, hp, u⟩ := h
      rcases List.mem_cons.mp hp with rfl | hp
      · rw [u.word] at e; cases e
      · dsimp only
        rw [parts_unus (form_len e) ⟨p, hp, u⟩]
theorem tail_eq {ps : List (List Nat)} (h : ∀ p ∈ ps, p.all sgn = true) : lawTail ps = progTail ps := by
  cases ps with
  | nil => rfl
  | cons w ls =>
    rw [prog_cons, law_cons]
    cases e : formOf (S w) ls.length with
    | none => rfl
    | some f =>
      rw [if_pos (show (some f).isSome = true from rfl)]
      dsimp only
      have fl := formOf_len e
      have full_eq : ∀ qs : List Part, fullL qs = full qs → True := fun _ _ => trivial
      have c1 : ("T" : Str).cps.toList = [84] := by decide +kernel
      have c2 : ("TX" : Str).cps.toList = [84, 88] := by decide +kernel
      have c3 : ("TXY" : Str).cps.toList = [84, 88, 89] := by decide +kernel
      have c4 : ("" : Str).cps.toList = [] := by decide +kernel
      have c5 : ("N" : Str).cps.toList = [78] := by decide +kernel
      have nm : ∀ (l : List Nat) (c : Nat), (c = 84 ∨ c = 78) → partOf c l = if nameM l = true then some (.name l) else none := fun l c hc => by unfold partOf; rw [if_pos hc]
      have tm : ∀ (l : List Nat) (c : Nat), ¬ (c = 84 ∨ c = 78) → l.all sgn = true → partOf c l = lawTerm l := fun l c hc hl => by unfold partOf; rw [if_neg hc, lawTerm_eq hl]
      have fu : ∀ (l : List Nat) (qs : List Part), fullL qs = true ↔ full (.name l :: qs) = true := by
        intro l qs
        have em : mostOf (.name l :: qs) = mostOf qs := rfl
        unfold fullL full
        rw [em, List.all_eq_true, List.all_eq_true]
        have mem : ∀ k : Int, k ∈ parsOf qs ↔ Part.par k ∈ Part.name l :: qs := fun k => by
          unfold parsOf
          rw [List.mem_filterMap]
          constructor
          · rintro ⟨p, hp, e⟩
            cases p with
            | par m => obtain rfl := Option.some.inj e; exact List.mem_cons_of_mem _ hp
            | name l => cases e
            | num m => cases e
            | text l => cases e
          · intro hk
            rcases List.mem_cons.mp hk with hk | hk
            · cases hk
            · exact ⟨_, hk, rfl⟩
        have top : 1 ≤ mostOf qs → mostOf qs ∈ parsOf qs := by
          intro h1
          unfold mostOf at h1 ⊢
          cases e : parsOf qs with
          | nil => rw [e] at h1; exact absurd h1 (by decide)
          | cons m r =>
            dsimp only
            have key : ∀ (r : List Int) (a : Int), r.foldl (fun a b => if b > a then b else a) a = a ∨ r.foldl (fun a b => if b > a then b else a) a ∈ r := by
              intro r
              induction r with
              | nil => intro a; exact Or.inl rfl
              | cons b r ih =>
                intro a
                rw [List.foldl_cons]
                rcases ih (if b > a then b else a) with z | z
                · rw [z]
                  by_cases c : b > a
                  · rw [if_pos c]; exact Or.inr (List.mem_cons_self ..)
                  · rw [if_neg c]; exact Or.inl rfl
                · exact Or.inr (List.mem_cons_of_mem _ z)
            rcases key r m with z | z
            · rw [z]; exact List.mem_cons_self ..
            · exact List.mem_cons_of_mem _ z
        constructor
        · intro h i hi
          rw [List.mem_range] at hi
          have z := of_decide_eq_true (h i (by rw [List.mem_range]; omega))
          exact decide_eq_true ((mem _).mp z)
        · intro h i hi
          rw [List.mem_range] at hi
          by_cases c : i < (mostOf qs - 1).toNat
          · exact decide_eq_true ((mem _).mpr (of_decide_eq_true (h i (by rw [List.mem_range]; exact c))))
          · have e1 : (1 + (i : Int)) = mostOf qs := by omega
            rw [e1]
            exact decide_eq_true (top (by omega))
      rcases form_mem e with rfl | rfl | rfl | rfl | rfl
      · -- T
        rw [c1]
        match ls, fl with
        | [n], _ =>
          simp only [termsOf, partsOf, nm n 84 (Or.inl rfl)]
          by_cases hn : nameM n = true
          · rw [if_pos hn, if_pos hn]; rfl
          · rw [if_neg hn, if_neg hn]
      · rw [c2]
        match ls, fl, h with
        | [n, x], _, h =>
          simp only [termsOf, partsOf, nm n 84 (Or.inl rfl), tm x 88 (by decide) (h x (by simp))]
          by_cases hn : nameM n = true
          · rw [if_pos hn, if_pos hn]
            cases lawTerm x with
            | none => rfl
            | some p =>
              dsimp only
              by_cases hf : fullL [p] = true
              · rw [if_pos hf, if_pos ((fu n _).mp hf)]
              · rw [if_neg hf, if_neg (fun z => hf ((fu n _).mpr z))]
          · rw [if_neg hn, if_neg hn]
      · rw [c3]
        match ls, fl, h with
        | [n, x, y], _, h =>
          simp only [termsOf, partsOf, nm n 84 (Or.inl rfl), tm x 88 (by decide) (h x (by simp)), tm y 89 (by decide) (h y (by simp))]
          by_cases hn : nameM n = true
          · rw [if_pos hn, if_pos hn]
            cases lawTerm x with
            | none => rfl
            | some p =>
              cases lawTerm y with
              | none => rfl
              | some r =>
                dsimp only
                by_cases hf : fullL [p, r] = true
                · rw [if_pos hf, if_pos ((fu n _).mp hf)]
                · rw [if_neg hf, if_neg (fun z => hf ((fu n _).mpr z))]
          · rw [if_neg hn, if_neg hn]
      · rw [c4]
        match ls, fl with
        | [], _ => rfl
      · rw [c5]
        match ls, fl with
        | [n], _ =>
          simp only [termsOf, partsOf, nm n 78 (Or.inr rfl)]
          by_cases hn : nameM n = true
          · rw [if_pos hn, if_pos hn]; rfl
          · rw [if_neg hn, if_neg hn]
end Mx
end
section
namespace Mx
open PySem PySem.Spec PyProof.Rows L2 SX
theorem step_two (st : List (List Nat) × Bool) (c : Nat) : (splitStep st c).1 = st.1 ++ [[]] ∨ (splitStep st c).1 = st.1.dropLast ++ [st.1.getLastD [] ++ [c]] := by
  unfold splitStep
  dsimp only
  by_cases h : c = 32 ∧ (if c = 39 then !st.2 else st.2) = false
  · rw [if_pos h]; exact Or.inl rfl
  · rw [if_neg h]; exact Or.inr rfl
theorem step_law (st : List (List Nat) × Bool) (c : Nat) : (lawStep st c).1 = st.1 ++ [[]] ∨ (lawStep st c).1 = st.1.dropLast ++ [st.1.getLastD [] ++ [c]] := by
  unfold lawStep
  by_cases h : c = 32 ∧ st.2 = false
  · rw [if_pos h]; exact Or.inl rfl
  · rw [if_neg h]; exact Or.inr rfl
def Bad (p : List Nat) : Prop := (p.head? ≠ some 39 ∧ 39 ∈ p) ∨ 3 ≤ p.count 39
theorem Bad.snoc {p : List Nat} (h : Bad p) (c : Nat) : Bad (p ++ [c]) := by
  rcases h with ⟨h1, h2⟩ | h
  · left
    refine ⟨?_, List.mem_append_left _ h2⟩
    cases p with
    | nil => cases h2
    | cons a r => exact h1
  · right
    rw [List.count_append]
    omega
def HasBad (ps : List (List Nat)) : Prop := ∃ p ∈ ps, Bad p
theorem hasBad_step {ps : List (List Nat)} {qs : List (List Nat)} {c : Nat} (h : HasBad ps) (e : qs = ps ++ [[]] ∨ qs = ps.dropLast ++ [ps.getLastD [] ++ [c]]) : HasBad qs := by
  obtain ⟨p, hp, b⟩ := h
  rcases e with rfl | rfl
  · exact ⟨p, List.mem_append_left _ hp, b⟩
  · rcases List.eq_nil_or_concat ps with rfl | ⟨r, a, rfl⟩
    · cases hp
    · rw [List.concat_eq_append] at hp ⊢
      rw [List.dropLast_concat, List.getLastD_concat]
      rcases List.mem_append.mp hp with hp | hp
      · exact ⟨p, List.mem_append_left _ hp, b⟩
      · obtain rfl := List.mem_singleton.mp hp
        exact ⟨p ++ [c], List.mem_append_right _ (List.mem_singleton.mpr rfl), b.snoc c⟩
theorem fold_bad1 : ∀ (l : List Nat) (st : List (List Nat) × Bool), HasBad st.1 → HasBad (l.foldl splitStep st).1
  | [], _, h => h
  | c :: l, st, h => fold_bad1 l _ (hasBad_step h (step_two st c))
theorem fold_bad2 : ∀ (l : List Nat) (st : List (List Nat) × Bool), HasBad st.1 → HasBad (l.foldl lawStep st).1
  | [], _, h => h
  | c :: l, st, h => fold_bad2 l _ (hasBad_step h (step_law st c))
def Fine (st : List (List Nat) × Bool) : Prop := ∃ r p, st.1 = r ++ [p] ∧ ((st.2 = true ∧ p.head? = some 39 ∧ p.count 39 = 1) ∨ (st.2 = false ∧ ((p.head? = some 39 ∧ 2 ≤ p.count 39) ∨ 39 ∉ p)))
theorem fine_step {st : List (List Nat) × Bool} (h : Fine st) (c : Nat) : (splitStep st c = lawStep st c ∧ Fine (splitStep st c)) ∨ (HasBad (splitStep st c).1 ∧ HasBad (lawStep st c).1) := by
  obtain ⟨r, p, e, h⟩ := h
  obtain ⟨ps, q⟩ := st
  obtain rfl : ps = r ++ [p] := e
  have s1 : splitStep (r ++ [p], q) c = if c = 32 ∧ (if c = 39 then !q else q) = false then (r ++ [p] ++ [[]], if c = 39 then !q else q) else (r ++ [p ++ [c]], if c = 39 then !q else q) := by
    unfold splitStep
    dsimp only
    rw [List.dropLast_concat, List.getLastD_concat]
  have s2 : lawStep (r ++ [p], q) c = if c = 32 ∧ q = false then (r ++ [p] ++ [[]], q) else (r ++ [p ++ [c]], if c = 39 ∧ (q = true ∨ p = []) then !q else q) := by
    unfold lawStep
    dsimp only
    rw [List.dropLast_concat, List.getLastD_concat]
  have hd : ∀ z : List Nat, z.head? = some 39 → (z ++ [c]).head? = some 39 := fun z hz => by
    cases z with
    | nil => cases hz
    | cons a r => exact hz
  have cn : (p ++ [c]).count 39 = p.count 39 + if c = 39 then 1 else 0 := by
    rw [List.count_append]
    congr 1
    by_cases z : c = 39
    · subst z; rfl
    · rw [if_neg z, List.count_cons, List.count_nil]; simp [z]
  by_cases c39 : c = 39
  · subst c39
    rw [if_pos rfl] at cn
    rw [s1, s2, if_neg (fun z : (39 : Nat) = 32 ∧ _ => absurd z.1 (by decide)), if_neg (fun z : (39 : Nat) = 32 ∧ _ => absurd z.1 (by decide)), if_pos rfl]
    rcases h with ⟨hq, h1, h2⟩ | ⟨hq, h⟩
    · have hq : q = true := hq
      subst hq
      rw [if_pos ⟨rfl, Or.inl rfl⟩]
      exact Or.inl ⟨rfl, r, _, rfl, Or.inr ⟨rfl, Or.inl ⟨hd _ h1, by omega⟩⟩⟩
    · have hq : q = false := hq
      subst hq
      by_cases pe : p = []
      · subst pe
        rw [if_pos ⟨rfl, Or.inr rfl⟩]
        exact Or.inl ⟨rfl, r, _, rfl, Or.inl ⟨rfl, rfl, rfl⟩⟩
      · rw [if_neg (fun z => by rcases z.2 with z | z; cases z; exact pe z)]
        have b : Bad (p ++ [39]) := by
          rcases h with ⟨h1, h2⟩ | h
          · right; omega
          · left
            refine ⟨?_, by simp⟩
            cases p with
            | nil => exact absurd rfl pe
            | cons a s => intro z; exact h (by rw [show a = 39 from Option.some.inj z]; exact List.mem_cons_self ..)
        exact Or.inr ⟨⟨_, List.mem_append_right _ (List.mem_singleton.mpr rfl), b⟩, ⟨_, List.mem_append_right _ (List.mem_singleton.mpr rfl), b⟩⟩
  · rw [if_neg c39] at cn
    have e2 : (if c = 39 ∧ (q = true ∨ p = []) then !q else q) = q := if_neg fun z => c39 z.1
    rw [s1, s2, if_neg c39, e2]
    left
    refine ⟨rfl, ?_⟩
    by_cases c32 : c = 32 ∧ q = false
    · rw [if_pos c32]
      exact ⟨r ++ [p], [], rfl, Or.inr ⟨c32.2, Or.inr (by simp)⟩⟩
    · rw [if_neg c32]
      refine ⟨r, _, rfl, ?_⟩
      rcases h with ⟨hq, h1, h2⟩ | ⟨hq, h⟩
      · exact Or.inl ⟨hq, hd _ h1, by omega⟩
      · refine Or.inr ⟨hq, ?_⟩
        rcases h with ⟨h1, h2⟩ | h
        · exact Or.inl ⟨hd _ h1, by omega⟩
        · right
          intro z
          rcases List.mem_append.mp z with z | z
          · exact h z
          · exact c39 (List.mem_singleton.mp z).symm
theorem fold_fine : ∀ (l : List Nat) (st : List (List Nat) × Bool), Fine st → (l.foldl splitStep st = l.foldl lawStep st ∧ Fine (l.foldl splitStep st)) ∨ (HasBad (l.foldl splitStep st).1 ∧ HasBad (l.foldl lawStep st).1)
  | [], st, h => Or.inl ⟨rfl, h⟩
  | c :: l, st, h => by
    rw [List.foldl_cons, List.foldl_cons]
    rcases fine_step h c with ⟨e, f⟩ | ⟨b1, b2⟩
    · rw [← e]; exact fold_fine l _ f
    · exact Or.inr ⟨fold_bad1 l _ b1, fold_bad2 l _ b2⟩
theorem Bad.unus {p : List Nat} (h : Bad p) : Unus p := by
  have q : 39 ∈ p := by
    rcases h with h | h
    · exact h.2
    · exact List.count_pos_iff.mp (by omega)
  refine ⟨q, ?_⟩
  unfold termOf
  by_cases hd : p.head? = some 39
  · rw [if_pos hd]
    have h3 : 3 ≤ p.count 39 := by
      rcases h with h | h
      · exact absurd hd h.1
      · exact h
    have : textOf p = none := by
      unfold textOf
      rw [if_neg]
      rintro ⟨a1, a2, a3⟩
      unfold textM at a3
      rw [Bool.and_eq_true_iff, Bool.and_eq_true_iff] at a3
      have n39 : 39 ∉ (p.drop 1).dropLast := by simpa using a3.2.1
      cases p with
      | nil => cases hd
      | cons a r =>
        obtain rfl : a = 39 := Option.some.inj hd
        rcases List.eq_nil_or_concat r with rfl | ⟨s, b, rfl⟩
        · simp at a1
        · rw [List.concat_eq_append] at *
          have n39 : 39 ∉ s := by simpa using n39
          have : (39 :: (s ++ [b])).count 39 ≤ 2 := by
            rw [List.count_cons, List.count_append, List.count_eq_zero.mpr n39]
            have : List.count 39 [b] ≤ 1 := List.count_le_length
            simp
            omega
          omega
    rw [this]; rfl
  · rw [if_neg hd]
    cases e : parOf p with
    | some n => exact absurd q (parOf_head e).2
    | none =>
      dsimp only
      rw [numOf_mem q (by decide)]; rfl
theorem open_unus {p : List Nat} (h1 : p.head? = some 39) (h2 : p.count 39 = 1) : Unus p := by
  refine ⟨List.mem_of_head? h1, ?_⟩
  unfold termOf
  rw [if_pos h1]
  have : textOf p = none := by
    unfold textOf
    rw [if_neg]
    rintro ⟨a1, a2, a3⟩
    cases p with
    | nil => cases h1
    | cons a r =>
      obtain rfl : a = 39 := Option.some.inj h1
      have : 39 ∈ r := by
        cases r with
        | nil => simp at a1
        | cons b s =>
          rw [List.getLast?_cons_cons] at a2
          exact List.mem_of_getLast? a2
      have := List.count_pos_iff.mpr this
      rw [List.count_cons] at h2
      simp at h2
      omega
  rw [this]; rfl
theorem fold_sgn {f : List (List Nat) × Bool → Nat → List (List Nat) × Bool} (hf : ∀ st c, (f st c).1 = st.1 ++ [[]] ∨ (f st c).1 = st.1.dropLast ++ [st.1.getLastD [] ++ [c]]) (l : List Nat) (hl : l.all sgn = true) :
    ∀ st : List (List Nat) × Bool, (∀ p ∈ st.1, p.all sgn = true) → ∀ p ∈ (l.foldl f st).1, p.all sgn = true := by
  induction l with
  | nil => intro st h; exact h
  | cons c l ih =>
    intro st h
    rw [List.all_cons, Bool.and_eq_true_iff] at hl
    rw [List.foldl_cons]
    refine ih hl.2 _ ?_
    intro p hp
    rcases hf st c with e | e
    · rw [e] at hp
      rcases List.mem_append.mp hp with hp | hp
      · exact h p hp
      · rw [List.mem_singleton.mp hp]; rfl
    · rw [e] at hp
      rcases List.mem_append.mp hp with hp | hp
      · exact h p (List.dropLast_subset _ hp)
      · rw [List.mem_singleton.mp hp, List.all_append, Bool.and_eq_true_iff]
        refine ⟨?_, by rw [List.all_cons, hl.1]; rfl⟩
        rcases List.eq_nil_or_concat st.1 with e2 | ⟨r, a, e2⟩
        · rw [e2]; rfl
        · rw [e2, List.concat_eq_append, List.getLastD_concat]; exact h a (by rw [e2]; simp)
/-- the law reads as the program does -/
theorem lawRead_eq (l : List Nat) : lawRead l = stmtM l := by
  rw [stmt_tail]
  unfold lawRead
  by_cases h : l.length ≤ 200 ∧ l.all sgn = true
  · rw [if_pos h, if_pos h]
    unfold lawPieces lawSplit splitM splitS
    rcases fold_fine l ([[]], false) ⟨[], [], rfl, Or.inr ⟨rfl, Or.inr (by simp)⟩⟩ with ⟨e, f⟩ | ⟨⟨p1, m1, b1⟩, ⟨p2, m2, b2⟩⟩
    · rw [← e]
      obtain ⟨r, p, er, f⟩ := f
      rcases f with ⟨hq, f1, f2⟩ | ⟨hq, _⟩
      · rw [if_pos hq, prog_unus ⟨p, by rw [er]; simp, open_unus f1 f2⟩]; rfl
      · rw [if_neg (by rw [hq]; decide)]
        exact tail_eq (fold_sgn step_two l h.2 _ (by simp))
    · rw [prog_unus ⟨p1, m1, b1.unus⟩]
      by_cases q : (l.foldl lawStep ([[]], false)).2 = true
      · rw [if_pos q]; rfl
      · rw [if_neg q]
        rw [tail_eq (fold_sgn step_law l h.2 _ (by simp)), prog_unus ⟨p2, m2, b2.unus⟩]
  · rw [if_neg h, if_neg h]
end Mx
end
section
namespace Mx
open PySem PySem.Spec PyProof.Rows L2 SX
section
variable {f : List (List Nat) × Bool → Nat → List (List Nat) × Bool} (hf : ∀ st c, (f st c).1 = st.1 ++ [[]] ∨ (f st c).1 = st.1.dropLast ++ [st.1.getLastD [] ++ [c]])
include hf
theorem fold_ne (l : List Nat) : ∀ st : List (List Nat) × Bool, st.1 ≠ [] → (l.foldl f st).1 ≠ [] := by
  induction l with
  | nil => intro st h; exact h
  | cons c l ih =>
    intro st h
    rw [List.foldl_cons]
    refine ih _ ?_
    rcases hf st c with e | e <;> rw [e] <;> simp
theorem fold_len (l : List Nat) : ∀ st : List (List Nat) × Bool, st.1 ≠ [] → (l.foldl f st).1.length ≤ st.1.length + l.length := by
  induction l with
  | nil => intro st _; simp
  | cons c l ih =>
    intro st h
    rw [List.foldl_cons]
    have h2 : (f st c).1 ≠ [] := by
      rcases hf st c with e | e <;> rw [e] <;> simp
    have q := ih _ h2
    have z : (f st c).1.length ≤ st.1.length + 1 := by
      have : 0 < st.1.length := List.length_pos_iff.mpr h
      rcases hf st c with e | e <;> rw [e] <;> simp <;> omega
    rw [List.length_cons]
    omega
theorem fold_sum (l : List Nat) : ∀ st : List (List Nat) × Bool, ∀ p ∈ (l.foldl f st).1, p.length ≤ (st.1.map List.length).sum + l.length := by
  induction l with
  | nil =>
    intro st p hp
    have : ∀ (xs : List (List Nat)), p ∈ xs → p.length ≤ (xs.map List.length).sum := by
      intro xs
      induction xs with
      | nil => intro h; cases h
      | cons x xs ih =>
        intro h
        rw [List.map_cons, List.sum_cons]
        rcases List.mem_cons.mp h with rfl | h
        · omega
        · have := ih h; omega
    exact this _ hp
  | cons c l ih =>
    intro st p hp
    rw [List.foldl_cons] at hp
    have q := ih _ p hp
    have z : ((f st c).1.map List.length).sum ≤ (st.1.map List.length).sum + 1 := by
      rcases hf st c with e | e <;> rw [e]
      · simp
      · rcases List.eq_nil_or_concat st.1 with e | ⟨r, a, e⟩
        · rw [e]; simp
        · rw [e]; simp; omega
    rw [List.length_cons]
    omega
end
theorem fold_sub {f : List (List Nat) × Bool → Nat → List (List Nat) × Bool} (hf : ∀ st c, (f st c).1 = st.1 ++ [[]] ∨ (f st c).1 = st.1.dropLast ++ [st.1.getLastD [] ++ [c]]) {P : Nat → Prop} (l : List Nat) (hl : ∀ c ∈ l, P c) :
    ∀ st : List (List Nat) × Bool, (∀ p ∈ st.1, ∀ c ∈ p, P c) → ∀ p ∈ (l.foldl f st).1, ∀ c ∈ p, P c := by
  induction l with
  | nil => intro st h; exact h
  | cons c l ih =>
    intro st h
    rw [List.foldl_cons]
    refine ih (fun x hx => hl x (List.mem_cons_of_mem _ hx)) _ ?_
    intro p hp x hx
    rcases hf st c with e | e
    · rw [e] at hp
      rcases List.mem_append.mp hp with hp | hp
      · exact h p hp x hx
      · rw [List.mem_singleton.mp hp] at hx; cases hx
    · rw [e] at hp
      rcases List.mem_append.mp hp with hp | hp
      · exact h p (List.dropLast_subset _ hp) x hx
      · rw [List.mem_singleton.mp hp] at hx
        rcases List.mem_append.mp hx with hx | hx
        · rcases List.eq_nil_or_concat st.1 with e2 | ⟨r, a, e2⟩
          · rw [e2] at hx; cases hx
          · rw [e2, List.concat_eq_append, List.getLastD_concat] at hx; exact h a (by rw [e2]; simp) x hx
        · rw [List.mem_singleton.mp hx]; exact hl c (List.mem_cons_self ..)
end Mx
end
section
namespace Mx
open PySem PySem.Spec PyProof.Rows L2 SX
def allSigns : List Nat := [32, 33, 34, 35, 36, 38, 39, 40, 41, 42, 43, 44, 45, 46, 47, 48, 49, 50, 51, 52, 53, 54, 55, 56, 57, 58, 59, 60, 61, 62, 63, 64, 65, 66, 67, 68, 69, 70, 71, 72, 73, 74, 75, 76, 77, 78, 79, 80, 81, 82, 83, 84, 85, 86, 87, 88, 89, 90, 91, 92, 93, 94, 95, 96, 97, 98, 99, 100, 101, 102, 103, 104, 105, 106, 107, 108, 109, 110, 111, 112, 113, 114, 115, 116, 117, 118, 119, 120, 121, 122, 123, 124, 125, 126]
theorem sgn_in (c : Nat) : decide (c ∈ allSigns) = sgn c := by
  by_cases h : c < 127
  · have : ∀ c : Nat, c < 127 → decide (c ∈ allSigns) = sgn c := by decide +kernel
    exact this c h
  · have : ∀ x ∈ allSigns, x < 127 := by decide +kernel
    rw [decide_eq_false (fun z => h (this c z))]
    unfold sgn
    rw [decide_eq_false (by omega)]
/-- for each word how many pieces its statements have -/
def szTable : List (Str × List Int) := [("create", [2]), ("drop", [2]), ("put", [4]), ("delete", [3]), ("get", [3]), ("scan", [2, 4]), ("total", [2]), ("begin", [1]), ("commit", [1]), ("rollback", [1]), ("save", [2]), ("undo", [2])]
theorem sz_form : szTable = formTable.map fun e => (e.1, e.2.map fun f => ((f.length : Nat) : Int) + 1) := by decide +kernel
theorem lookup_mapV {α β : Type} (g : α → β) (w : Str) : ∀ l : List (Str × α), (l.map fun e => (e.1, g e.2)).lookup w = (l.lookup w).map g
  | [] => rfl
  | e :: l => by
    rw [List.map_cons, List.lookup_cons, List.lookup_cons]
    cases w == e.1 with
    | true => rfl
    | false => exact lookup_mapV g w l
theorem in_sizes (n : Nat) : ∀ fs : List Str, inV (.int ((n : Int) + 1)) ((fs.map fun f => ((f.length : Nat) : Int) + 1).map V.int) = (fs.find? fun f => f.length == n).isSome
  | [] => rfl
  | f :: fs => by
    have ih := in_sizes n fs
    unfold inV at ih ⊢
    rw [List.map_cons, List.map_cons, List.any_cons, List.find?_cons, ih]
    show ((((f.length : Nat) : Int) + 1 == (n : Int) + 1) || _) = _
    by_cases h : f.length = n
    · subst h; simp
    · have h1 : (((f.length : Nat) : Int) + 1 == (n : Int) + 1) = false := beq_eq_false_iff_ne.mpr (by omega)
      have h2 : (f.length == n) = false := beq_eq_false_iff_ne.mpr h
      rw [h1, h2]; rfl
theorem sz_none {w : Str} (h : szTable.lookup w = none) (n : Nat) : formOf w n = none := by
  rw [sz_form, lookup_mapV] at h
  unfold formOf formsOf
  cases e : formTable.lookup w with
  | none => rfl
  | some fs => rw [e] at h; cases h
theorem sz_some {w : Str} {ns : List Int} (h : szTable.lookup w = some ns) (n : Nat) : inV (.int ((n : Int) + 1)) (ns.map V.int) = (formOf w n).isSome := by
  rw [sz_form, lookup_mapV] at h
  unfold formOf formsOf
  cases e : formTable.lookup w with
  | none => rw [e] at h; cases h
  | some fs =>
    rw [e] at h
    obtain rfl := Option.some.inj h
    exact in_sizes n fs
/-- a dict of lists, as it stands -/
def RSz (H : Hp) (kv : Key × V) (e : Str × List Int) : Prop := kv.1 = .inr e.1 ∧ ∃ d, kv.2 = .ref d ∧ H d = some (.lst (e.2.map V.int))
theorem rsz_look {H : Hp} (w : Str) : ∀ {kvs : List (Key × V)} {tb : List (Str × List Int)}, Paired (RSz H) kvs tb →
    (tb.lookup w = none → valV kvs (.inr w) = none) ∧ ∀ ns, tb.lookup w = some ns → ∃ d, valV kvs (.inr w) = some (.ref d) ∧ H d = some (.lst (ns.map V.int))
  | _, _, .nil => ⟨fun _ => rfl, fun _ h => by cases h⟩
  | kv :: kvs, e :: tb, .cons h t => by
    obtain ⟨hk, d, hv, hd⟩ := h
    obtain ⟨r1, r2⟩ := rsz_look w t
    rw [List.lookup_cons]
    by_cases c : w = e.1
    · subst c
      rw [beq_self_eq_true, valV_pos hk]
      exact ⟨fun h => (by cases h), fun ns h => (by obtain rfl := Option.some.inj h; exact ⟨d, by rw [hv], hd⟩)⟩
    · have cb : (w == e.1) = false := beq_eq_false_iff_ne.mpr c
      rw [cb, valV_neg (fun z => c (by rw [hk] at z; exact (Sum.inr.inj z).symm))]
      exact ⟨r1, r2⟩
theorem rsz_over {H H' : Hp} (s : ∀ d xs, H d = some (.lst xs) → H' d = some (.lst xs)) : ∀ {kvs : List (Key × V)} {tb : List (Str × List Int)}, Paired (RSz H) kvs tb → Paired (RSz H') kvs tb
  | _, _, .nil => .nil
  | _, _, .cons ⟨hk, d, hv, hd⟩ t => .cons ⟨hk, d, hv, s _ _ hd⟩ (rsz_over s t)
theorem rsz_snoc {H : Hp} {kv : Key × V} {e : Str × List Int} : ∀ {kvs : List (Key × V)} {tb : List (Str × List Int)}, Paired (RSz H) kvs tb → RSz H kv e → Paired (RSz H) (kvs ++ [kv]) (tb ++ [e])
  | _, _, .nil, h => .cons h .nil
  | _, _, .cons a t, h => .cons a (rsz_snoc t h)
theorem merge_new : ∀ {l acc : List (Key × V)}, ((acc ++ l).map (·.1)).Nodup → mergeK acc l = acc ++ l
  | [], acc, _ => by rw [List.append_nil]; rfl
  | kv :: l, acc, h => by
    have nw : valV acc kv.1 = none := by
      cases e : valV acc kv.1 with
      | none => rfl
      | some v =>
        exfalso
        unfold valV at e
        cases f : acc.find? fun z => decide (z.1 = kv.1) with
        | none => rw [f] at e; cases e
        | some z =>
          have hz : z.1 = kv.1 := by have := List.find?_some f; exact of_decide_eq_true this
          have mz := List.mem_of_find?_eq_some f
          rw [List.map_append, List.nodup_append] at h
          exact h.2.2 z.1 (List.mem_map_of_mem mz) kv.1 (List.mem_map_of_mem (List.mem_cons_self ..)) hz
    show mergeK (putK acc kv.1 kv.2) l = _
    rw [putK_new _ nw, merge_new (by rw [List.append_assoc]; exact h), List.append_assoc]
    rfl
end Mx
end
section
namespace Mx
open PySem PySem.Spec PyProof.Rows L2 SX
theorem cut_from {xs : List V} (k : Nat) : cutV xs (some (k : Int)) none = xs.drop k := by
  unfold cutV
  rw [show HT.sIx xs.length 0 (some (k : Int)) = min k xs.length from HT.sIx_nat xs.length 0 k, HT.sIx_none]
  by_cases h : k ≤ xs.length
  · rw [Nat.min_eq_left h]
    exact List.take_of_length_le (by rw [List.length_drop]; omega)
  · rw [Nat.min_eq_right (by omega), List.drop_of_length_le (Nat.le_refl _), List.drop_of_length_le (by omega), List.take_nil]
theorem cut_to {xs : List V} (k : Nat) : cutV xs none (some (k : Int)) = xs.take k := by
  unfold cutV
  rw [show HT.sIx xs.length xs.length (some (k : Int)) = min k xs.length from HT.sIx_nat xs.length xs.length k, HT.sIx_none]
  by_cases h : k ≤ xs.length
  · rw [Nat.min_eq_left h]
    simp
  · rw [Nat.min_eq_right (by omega), List.take_of_length_le (l := xs) (by omega)]
    simp
/-- a term as the law reads it, or None -/
def IsTm (H : Hp) (v : V) (t : List Nat) : Prop := match lawTerm t with
  | some p => IsP H v p
  | none => v = .non
theorem IsTm.over {H H' : Hp} {v : V} {t : List Nat} (s : ∀ a z, H a = some (.tup z) → H' a = some (.tup z)) (h : IsTm H v t) : IsTm H' v t := by
  unfold IsTm at h ⊢
  cases e : lawTerm t with
  | none => rw [e] at h; exact h
  | some p => rw [e] at h; exact IsP.over s h
theorem areT_over {H H' : Hp} (s : ∀ a z, H a = some (.tup z) → H' a = some (.tup z)) : ∀ {vs : List V} {ts : List (List Nat)}, Paired (IsTm H) vs ts → Paired (IsTm H') vs ts
  | _, _, .nil => .nil
  | _, _, .cons h t => .cons (h.over s) (areT_over s t)
theorem areT_snoc {H : Hp} {v : V} {p : List Nat} : ∀ {vs : List V} {ts : List (List Nat)}, Paired (IsTm H) vs ts → IsTm H v p → Paired (IsTm H) (vs ++ [v]) (ts ++ [p])
  | _, _, .nil, h => .cons h .nil
  | _, _, .cons a t, h => .cons a (areT_snoc t h)
def dataT (t : List Nat) : PyData := match lawTerm t with
  | some p => dataP p
  | none => .none
theorem data_dt {K : PySem.W.Frag} {H : Hp} {v : V} {t : List Nat} (h : IsTm H v t) : Dp K H v (dataT t) := by
  unfold IsTm at h
  unfold dataT
  cases e : lawTerm t with
  | none => rw [e] at h; have h : v = .non := h; subst h; exact .non
  | some p => rw [e] at h; exact data_dp h
theorem data_allT {K : PySem.W.Frag} {H : Hp} : ∀ {vs : List V} {ts : List (List Nat)}, Paired (IsTm H) vs ts → DpAll K H vs (ts.map dataT)
  | _, _, .nil => .nil
  | _, _, .cons h t => .cons (data_dt h) (data_allT t)
theorem lawTerm_ok {t : List Nat} {p : Part} (hs : t.all sgn = true) (h : lawTerm t = some p) : okP p = true := by
  rw [lawTerm_eq hs] at h
  exact partOf_ok (c := 88) (by unfold partOf; rw [if_neg (by decide)]; exact h)
theorem lay_T {t : List Nat} (hs : t.all sgn = true) : (dataT t).canLay0 = true ∧ (dataT t).depth ≤ 1 := by
  unfold dataT
  cases e : lawTerm t with
  | none => exact ⟨by show PyData.canLay0 .none = true; rw [PyData.canLay0], by show PyData.depth .none ≤ 1; rw [PyData.depth]; omega⟩
  | some p => exact lay_P (lawTerm_ok hs e)
theorem lay_allT : ∀ {ts : List (List Nat)}, (∀ t ∈ ts, t.all sgn = true) → PyData.canLayAll0 (ts.map dataT) = true ∧ PyData.depthAll (ts.map dataT) ≤ 1
  | [], _ => ⟨by rw [List.map_nil, PyData.canLayAll0], by rw [List.map_nil, PyData.depthAll]; omega⟩
  | p :: ps, h => by
    have a := lay_T (h p (List.mem_cons_self ..))
    have b := lay_allT (fun q hq => h q (List.mem_cons_of_mem _ hq))
    rw [List.map_cons, PyData.canLayAll0, PyData.depthAll, a.1, b.1]
    exact ⟨rfl, by have := a.2; have := b.2; omega⟩
theorem shaped_listT {ts : List (List Nat)} (h : ∀ t ∈ ts, t.all sgn = true) : SeqAt.shaped (.list (ts.map dataT)) = true := by
  have a := lay_allT h
  unfold SeqAt.shaped
  rw [PyData.canLay0, a.1, PyData.depth, decide_eq_true (by have := a.2; omega)]; rfl
theorem eqv_noneT (t : List Nat) : PyData.eqv (dataT t) .none = (lawTerm t).isNone := by
  unfold dataT
  cases e : lawTerm t with
  | none => show PyData.eqv .none .none = true; simp [PyData.eqv]
  | some p => cases p <;> simp [dataP, PyData.eqv]
theorem any_noneT : ∀ ts : List (List Nat), ((ts.map dataT).any fun z => PyData.eqv z .none) = ts.any fun t => (lawTerm t).isNone
  | [] => rfl
  | t :: ts => by rw [List.map_cons, List.any_cons, List.any_cons, eqv_noneT, any_noneT ts]
theorem terms_none : ∀ {ts : List (List Nat)}, (ts.any fun t => (lawTerm t).isNone) = true → termsOf ts = none
  | [], h => by cases h
  | t :: ts, h => by
    unfold termsOf
    rw [List.any_cons] at h
    cases e : lawTerm t with
    | none => rfl
    | some p =>
      rw [e] at h
      dsimp only
      rw [terms_none (ts := ts) h]
theorem terms_some {H : Hp} : ∀ {ts : List (List Nat)} {vs : List V}, (∀ t ∈ ts, t.all sgn = true) → (ts.any fun t => (lawTerm t).isNone) = false → Paired (IsTm H) vs ts → ∃ ps, termsOf ts = some ps ∧ ArePs H vs ps ∧ ∀ p ∈ ps, okP p = true
  | [], _, _, _, .nil => ⟨[], rfl, .nil, fun _ h => nomatch h⟩
  | t :: ts, _, hs, h, .cons a b => by
    rw [List.any_cons, Bool.or_eq_false_iff] at h
    obtain ⟨ps, e, ar, ok⟩ := terms_some (fun x hx => hs x (List.mem_cons_of_mem _ hx)) h.2 b
    unfold IsTm at a
    unfold termsOf
    cases e1 : lawTerm t with
    | none => rw [e1] at h; cases h.1
    | some p =>
      rw [e1] at a
      dsimp only at a ⊢
      rw [e]
      refine ⟨p :: ps, rfl, .cons a ar, fun q hq => ?_⟩
      rcases List.mem_cons.mp hq with rfl | hq
      · exact lawTerm_ok (hs t (List.mem_cons_self ..)) e1
      · exact ok q hq
theorem form_name {w : List Nat} {n : Nat} (h : (formOf (S w) n).isSome = true) : nameM w = true := by
  cases e : formOf (S w) n with
  | none => rw [e] at h; cases h
  | some f =>
    unfold formOf at e
    have m := List.mem_of_find?_eq_some e
    cases e2 : formsOf (S w) with
    | none => rw [e2] at m; simp at m
    | some fs =>
      unfold formsOf at e2
      have q := PySem.mem_of_lookup e2
      unfold formTable at q
      simp only [List.mem_cons, List.not_mem_nil, or_false, Prod.mk.injEq] at q
      have go : ∀ x : Str, S w = x → nameM x.cps.toList = true → nameM w = true := fun x ex hx => by rw [← ex] at hx; simpa [S] using hx
      rcases q with ⟨q, _⟩ | ⟨q, _⟩ | ⟨q, _⟩ | ⟨q, _⟩ | ⟨q, _⟩ | ⟨q, _⟩ | ⟨q, _⟩ | ⟨q, _⟩ | ⟨q, _⟩ | ⟨q, _⟩ | ⟨q, _⟩ | ⟨q, _⟩ <;> exact go _ q (by decide +kernel)
def lawRest (w : List Nat) : List (List Nat) → Option (Str × List Part)
  | [] => some (S w, [])
  | n :: ts => if nameM n = true then match termsOf ts with
      | none => none
      | some ps => if fullL ps = true then some (S w, .name n :: ps) else none
    else none
theorem law_cons2 (w : List Nat) (ls : List (List Nat)) : lawTail (w :: ls) = if (formOf (S w) ls.length).isSome = true then lawRest w ls else none := by
  cases ls <;> rfl
theorem rest_cons (w n : List Nat) (ts : List (List Nat)) : lawRest w (n :: ts) = if nameM n = true then match termsOf ts with
      | none => none
      | some ps => if fullL ps = true then some (S w, .name n :: ps) else none
    else none := rfl
theorem inV_int (k : Int) : ∀ ns : List Int, inV (.int k) (ns.map V.int) = decide (k ∈ ns)
  | [] => rfl
  | n :: ns => by
    have ih := inV_int k ns
    unfold inV at ih ⊢
    rw [List.map_cons, List.any_cons, ih]
    show ((n == k) || _) = _
    rw [Bool.eq_iff_iff]
    simp only [Bool.or_eq_true, beq_iff_eq, decide_eq_true_eq, List.mem_cons]
    exact ⟨fun h => h.imp Eq.symm id, fun h => h.imp Eq.symm id⟩
theorem all_intV (ns : List Int) : (ns.map V.int).all flatV = true := by
  rw [List.all_eq_true]
  intro x hx
  obtain ⟨n, _, rfl⟩ := List.mem_map.mp hx
  rfl
end Mx
end
section
namespace K02
open PySem PySem.Spec PyProof.Rows L2
def topS (i : Nat) : Stmt := PySem.Challenge.pw_batchends_k02_strings_that_are_unreadabl.main.body.getD i (.Pass ⟨0, 0, 0, 0⟩)
/-! is_sign: slots 0 character, 1 code -/
abbrev s_is_sign : Stmt := topS 16
theorem sc_is_sign : FnScope ["character", "code"] ["character"] (defScope s_is_sign) := ⟨rfl, rfl, rfl, by decide +kernel, rfl, by decide +kernel, by decide +kernel⟩
/-! has_only_signs: slots 0 string, 1 character -/
abbrev s_has_only_signs : Stmt := topS 17
theorem sc_has_only_signs : FnScope ["string", "character"] ["string"] (defScope s_has_only_signs) := ⟨rfl, rfl, rfl, by decide +kernel, rfl, by decide +kernel, by decide +kernel⟩
/-! may_be_prepared: slots 0 string -/
abbrev s_may_be_prepared : Stmt := topS 18
theorem sc_may_be_prepared : FnScope ["string"] ["string"] (defScope s_may_be_prepared) := ⟨rfl, rfl, rfl, by decide +kernel, rfl, by decide +kernel, by decide +kernel⟩
/-! is_name: slots 0 string, 1 letter -/
abbrev s_is_name : Stmt := topS 19
theorem sc_is_name : FnScope ["string", "letter"] ["string"] (defScope s_is_name) := ⟨rfl, rfl, rfl, by decide +kernel, rfl, by decide +kernel, by decide +kernel⟩
/-! is_text: slots 0 string -/
abbrev s_is_text : Stmt := topS 20
theorem sc_is_text : FnScope ["string"] ["string"] (defScope s_is_text) := ⟨rfl, rfl, rfl, by decide +kernel, rfl, by decide +kernel, by decide +kernel⟩
/-! is_number: slots 0 number -/
abbrev s_is_number : Stmt := topS 21
theorem sc_is_number : FnScope ["number"] ["number"] (defScope s_is_number) := ⟨rfl, rfl, rfl, by decide +kernel, rfl, by decide +kernel, by decide +kernel⟩
/-! parse_statement: slots 0 string, 1 word, 2 pieces, 3 form, 4 parts, 5 n, 6 letter, 7 piece -/
abbrev s_parse_statement : Stmt := topS 25
theorem sc_parse_statement : FnScope ["string", "word", "pieces", "form", "parts", "n", "letter", "piece"] ["string"] (defScope s_parse_statement) := ⟨rfl, rfl, rfl, by decide +kernel, rfl, by decide +kernel, by decide +kernel⟩
/-! parameters: slots 0 parts, 1 part -/
abbrev s_parameters : Stmt := topS 26
theorem sc_parameters : FnScope ["parts", "part"] ["parts"] (defScope s_parameters) := ⟨rfl, rfl, rfl, by decide +kernel, rfl, by decide +kernel, by decide +kernel⟩
/-! is_parameter: slots 0 part -/
abbrev s_is_parameter : Stmt := topS 27
theorem sc_is_parameter : FnScope ["part"] ["part"] (defScope s_is_parameter) := ⟨rfl, rfl, rfl, by decide +kernel, rfl, by decide +kernel, by decide +kernel⟩
/-! split_pieces: slots 0 string, 1 pieces, 2 in_text, 3 sign -/
abbrev s_split_pieces : Stmt := topS 28
theorem sc_split_pieces : FnScope ["string", "pieces", "in_text", "sign"] ["string"] (defScope s_split_pieces) := ⟨rfl, rfl, rfl, by decide +kernel, rfl, by decide +kernel, by decide +kernel⟩
/-! find_form: slots 0 word, 1 many, 2 form -/
abbrev s_find_form : Stmt := topS 29
theorem sc_find_form : FnScope ["word", "many", "form"] ["word", "many"] (defScope s_find_form) := ⟨rfl, rfl, rfl, by decide +kernel, rfl, by decide +kernel, by decide +kernel⟩
/-! parse_part: slots 0 letter, 1 piece -/
abbrev s_parse_part : Stmt := topS 30
theorem sc_parse_part : FnScope ["letter", "piece"] ["letter", "piece"] (defScope s_parse_part) := ⟨rfl, rfl, rfl, by decide +kernel, rfl, by decide +kernel, by decide +kernel⟩
/-! parse_name: slots 0 piece -/
abbrev s_parse_name : Stmt := topS 31
theorem sc_parse_name : FnScope ["piece"] ["piece"] (defScope s_parse_name) := ⟨rfl, rfl, rfl, by decide +kernel, rfl, by decide +kernel, by decide +kernel⟩
/-! parse_text: slots 0 piece, 1 text -/
abbrev s_parse_text : Stmt := topS 32
theorem sc_parse_text : FnScope ["piece", "text"] ["piece"] (defScope s_parse_text) := ⟨rfl, rfl, rfl, by decide +kernel, rfl, by decide +kernel, by decide +kernel⟩
/-! parse_number: slots 0 piece, 1 digits, 2 number -/
abbrev s_parse_number : Stmt := topS 33
theorem sc_parse_number : FnScope ["piece", "digits", "number"] ["piece"] (defScope s_parse_number) := ⟨rfl, rfl, rfl, by decide +kernel, rfl, by decide +kernel, by decide +kernel⟩
/-! _law_cell: slots 0 script, 1 k -/
abbrev s_law_cell : Stmt := topS 35
theorem sc_law_cell : FnScope ["script", "k"] ["script", "k"] (defScope s_law_cell) := ⟨rfl, rfl, rfl, by decide +kernel, rfl, by decide +kernel, by decide +kernel⟩
/-! _law_row: slots 0 cell, 1 count, 2 row, 3 rest, 4 seed, 5 k -/
abbrev s_law_row : Stmt := topS 36
theorem sc_law_row : FnScope ["cell", "count", "row", "rest", "seed", "k"] ["cell", "count"] (defScope s_law_row) := ⟨rfl, rfl, rfl, by decide +kernel, rfl, by decide +kernel, by decide +kernel⟩
/-! _law_name: slots 0 number, 1 letters, 2 k; cells number letters -/
abbrev s_law_name : Stmt := topS 37
theorem sc_law_name : FnScope ["number", "letters", "k"] ["number"] (defScope s_law_name) := ⟨rfl, rfl, rfl, by decide +kernel, rfl, by decide +kernel, by decide +kernel⟩
/-! _law_text: slots 0 number, 1 signs, 2 texts, 3 count, 4 k; cells number signs -/
abbrev s_law_text : Stmt := topS 38
theorem sc_law_text : FnScope ["number", "signs", "texts", "count", "k"] ["number"] (defScope s_law_text) := ⟨rfl, rfl, rfl, by decide +kernel, rfl, by decide +kernel, by decide +kernel⟩
/-! _law_value: slots 0 number -/
abbrev s_law_value : Stmt := topS 39
theorem sc_law_value : FnScope ["number"] ["number"] (defScope s_law_value) := ⟨rfl, rfl, rfl, by decide +kernel, rfl, by decide +kernel, by decide +kernel⟩
/-! _law_term: slots 0 number, 1 used, 2 value -/
abbrev s_law_term : Stmt := topS 40
theorem sc_law_term : FnScope ["number", "used", "value"] ["number", "used"] (defScope s_law_term) := ⟨rfl, rfl, rfl, by decide +kernel, rfl, by decide +kernel, by decide +kernel⟩
/-! _law_used: slots 0 parts, 1 numbers, 2 part -/
abbrev s_law_used : Stmt := topS 41
theorem sc_law_used : FnScope ["parts", "numbers", "part"] ["parts"] (defScope s_law_used) := ⟨rfl, rfl, rfl, by decide +kernel, rfl, by decide +kernel, by decide +kernel⟩
/-! _law_statement: slots 0 row, 1 names, 2 words, 3 word, 4 parts, 5 count, 6 k -/
abbrev s_law_statement : Stmt := topS 42
theorem sc_law_statement : FnScope ["row", "names", "words", "word", "parts", "count", "k"] ["row", "names"] (defScope s_law_statement) := ⟨rfl, rfl, rfl, by decide +kernel, rfl, by decide +kernel, by decide +kernel⟩
/-! _law_written: slots 0 parts, 1 words, 2 part -/
abbrev s_law_written : Stmt := topS 43
theorem sc_law_written : FnScope ["parts", "words", "part"] ["parts"] (defScope s_law_written) := ⟨rfl, rfl, rfl, by decide +kernel, rfl, by decide +kernel, by decide +kernel⟩
/-! _law_is_name: slots 0 word, 1 letters, 2 sign; cells letters -/
abbrev s_law_is_name : Stmt := topS 44
theorem sc_law_is_name : FnScope ["word", "letters", "sign"] ["word"] (defScope s_law_is_name) := ⟨rfl, rfl, rfl, by decide +kernel, rfl, by decide +kernel, by decide +kernel⟩
/-! _law_number: slots 0 word, 1 digits, 2 number, 3 sign -/
abbrev s_law_number : Stmt := topS 45
theorem sc_law_number : FnScope ["word", "digits", "number", "sign"] ["word"] (defScope s_law_number) := ⟨rfl, rfl, rfl, by decide +kernel, rfl, by decide +kernel, by decide +kernel⟩
/-! _law_pieces: slots 0 string, 1 pieces, 2 quoted, 3 sign -/
abbrev s_law_pieces : Stmt := topS 46
theorem sc_law_pieces : FnScope ["string", "pieces", "quoted", "sign"] ["string"] (defScope s_law_pieces) := ⟨rfl, rfl, rfl, by decide +kernel, rfl, by decide +kernel, by decide +kernel⟩
/-! _law_read_term: slots 0 piece, 1 inner -/
abbrev s_law_read_term : Stmt := topS 47
theorem sc_law_read_term : FnScope ["piece", "inner"] ["piece"] (defScope s_law_read_term) := ⟨rfl, rfl, rfl, by decide +kernel, rfl, by decide +kernel, by decide +kernel⟩
/-! _law_read: slots 0 string, 1 signs, 2 pieces, 3 sizes, 4 word, 5 terms, 6 parts, 7 numbers, 8 piece, 9 part, 10 k, 11 sign; cells signs numbers -/
abbrev s_law_read : Stmt := topS 48
theorem sc_law_read : FnScope ["string", "signs", "pieces", "sizes", "word", "terms", "parts", "numbers", "piece", "part", "k", "sign"] ["string"] (defScope s_law_read) := ⟨rfl, rfl, rfl, by decide +kernel, rfl, by decide +kernel, by decide +kernel⟩
/-! _law_spoilt: slots 0 string, 1 row, 2 signs, 3 k, 4 at, 5 choice, 6 sign, 7 words -/
abbrev s_law_spoilt : Stmt := topS 49
theorem sc_law_spoilt : FnScope ["string", "row", "signs", "k", "at", "choice", "sign", "words"] ["string", "row"] (defScope s_law_spoilt) := ⟨rfl, rfl, rfl, by decide +kernel, rfl, by decide +kernel, by decide +kernel⟩
/-! _law_strange: slots 0 number, 1 rows -/
abbrev s_law_strange : Stmt := topS 50
theorem sc_law_strange : FnScope ["number", "rows"] ["number"] (defScope s_law_strange) := ⟨rfl, rfl, rfl, by decide +kernel, rfl, by decide +kernel, by decide +kernel⟩
/-! _law_kinds: slots 0 e, 1 kinds, 2 names, 3 k; cells e kinds names -/
abbrev s_law_kinds : Stmt := topS 51
theorem sc_law_kinds : FnScope ["e", "kinds", "names", "k"] ["e"] (defScope s_law_kinds) := ⟨rfl, rfl, rfl, by decide +kernel, rfl, by decide +kernel, by decide +kernel⟩
/-! _law_told: slots 0 string, 1 e -/
abbrev s_law_told : Stmt := topS 52
theorem sc_law_told : FnScope ["string", "e"] ["string"] (defScope s_law_told) := ⟨rfl, rfl, rfl, by decide +kernel, rfl, by decide +kernel, by decide +kernel⟩
/-! law: slots 0 script, 1 cell, 2 row, 3 string, 4 strings, 5 one, 6 due -/
abbrev s_law : Stmt := topS 53
theorem sc_law : FnScope ["script", "cell", "row", "string", "strings", "one", "due"] ["script"] (defScope s_law) := ⟨rfl, rfl, rfl, by decide +kernel, rfl, by decide +kernel, by decide +kernel⟩
end K02
namespace K02
open PySem PySem.Spec PyProof.Rows L2 Tl Mx SX
/-- what the top has written -/
structure Txt (K : PySem.W.Frag) (mg : Str → Option Value) : Prop where
  d_is_sign : Dn K mg "is_sign" s_is_sign ["character"]
  d_has_only_signs : Dn K mg "has_only_signs" s_has_only_signs ["string"]
  d_may_be_prepared : Dn K mg "may_be_prepared" s_may_be_prepared ["string"]
  d_is_name : Dn K mg "is_name" s_is_name ["string"]
  d_is_text : Dn K mg "is_text" s_is_text ["string"]
  d_is_number : Dn K mg "is_number" s_is_number ["number"]
  d_parse_statement : Dn K mg "parse_statement" s_parse_statement ["string"]
  d_parameters : Dn K mg "parameters" s_parameters ["parts"]
  d_is_parameter : Dn K mg "is_parameter" s_is_parameter ["part"]
  d_split_pieces : Dn K mg "split_pieces" s_split_pieces ["string"]
  d_find_form : Dn K mg "find_form" s_find_form ["word", "many"]
  d_parse_part : Dn K mg "parse_part" s_parse_part ["letter", "piece"]
  d_parse_name : Dn K mg "parse_name" s_parse_name ["piece"]
  d_parse_text : Dn K mg "parse_text" s_parse_text ["piece"]
  d_parse_number : Dn K mg "parse_number" s_parse_number ["piece"]
  d_law_cell : Dn K mg "_law_cell" s_law_cell ["script", "k"]
  d_law_row : Dn K mg "_law_row" s_law_row ["cell", "count"]
  d_law_name : Dn K mg "_law_name" s_law_name ["number"]
  d_law_text : Dn K mg "_law_text" s_law_text ["number"]
  d_law_value : Dn K mg "_law_value" s_law_value ["number"]
  d_law_term : Dn K mg "_law_term" s_law_term ["number", "used"]
  d_law_used : Dn K mg "_law_used" s_law_used ["parts"]
  d_law_statement : Dn K mg "_law_statement" s_law_statement ["row", "names"]
  d_law_written : Dn K mg "_law_written" s_law_written ["parts"]
  d_law_is_name : Dn K mg "_law_is_name" s_law_is_name ["word"]
  d_law_number : Dn K mg "_law_number" s_law_number ["word"]
  d_law_pieces : Dn K mg "_law_pieces" s_law_pieces ["string"]
  d_law_read_term : Dn K mg "_law_read_term" s_law_read_term ["piece"]
  d_law_read : Dn K mg "_law_read" s_law_read ["string"]
  d_law_spoilt : Dn K mg "_law_spoilt" s_law_spoilt ["string", "row"]
  d_law_strange : Dn K mg "_law_strange" s_law_strange ["number"]
  d_law_kinds : Dn K mg "_law_kinds" s_law_kinds ["e"]
  d_law_told : Dn K mg "_law_told" s_law_told ["string"]
  d_law : Dn K mg "law" s_law ["script"]
  n_ValueError : mg "ValueError" = none
  n_ord : mg "ord" = none
  n_all : mg "all" = none
  n_len : mg "len" = none
  n_max : mg "max" = none
  n_int : mg "int" = none
  n_str : mg "str" = none
  n_list : mg "list" = none
  n_tuple : mg "tuple" = none
  n_bool : mg "bool" = none
  n_zip : mg "zip" = none
  n_range : mg "range" = none
  n_isinstance : mg "isinstance" = none
  c_LETTERS : ∃ u, mg "LETTERS" = some u ∧ RelV (.str "abcdefghijklmnopqrstuvwxyz") u
  c_LONGEST_NAME : ∃ u, mg "LONGEST_NAME" = some u ∧ RelV (.int 8) u
  c_LONGEST_TEXT : ∃ u, mg "LONGEST_TEXT" = some u ∧ RelV (.int 40) u
  c_LEAST_NUMBER : ∃ u, mg "LEAST_NUMBER" = some u ∧ RelV (.int (-2147483648)) u
  c_GREATEST_NUMBER : ∃ u, mg "GREATEST_NUMBER" = some u ∧ RelV (.int 2147483647) u
  c_PERCENT : ∃ u, mg "PERCENT" = some u ∧ RelV (.int 37) u
  c_LONGEST_STRING : ∃ u, mg "LONGEST_STRING" = some u ∧ RelV (.int 200) u
/-! ### promises -/
/-- an own error class over ValueError's -/
structure ErrC (K : PySem.W.Frag) (mg : Str → Option Value) (x : Str) (C : Addr) : Prop where
  g : mg x = some (.ref C)
  ex : ∃ newId initId bm, PySem.ExcBaseFacts "ValueError" newId initId bm ∧ PySem.W.excIn K C bm newId = true
  kp : PySem.W.keepIn K (.ref C) = true
  sb : PySem.W.subIn K (.ref C) (.type "BaseException") = some true
  ty : PySem.W.typeIn K (.ref C) = some (.type "type")
def sp_is_sign : Sp := fun vs H Q _ => ∃ c : Nat, vs = [.str ⟨#[c]⟩] ∧ Q (.bl (sgn c)) H
def sp_has_only_signs : Sp := fun vs H Q _ => ∃ l : List Nat, vs = [.str (S l)] ∧ l.length ≤ sizeLine ∧ ∀ H', Same H H' → Q (.bl (l.all sgn)) H'
def sp_may_be_prepared : Sp := fun vs H Q _ => ∃ l : List Nat, vs = [.str (S l)] ∧ l.length ≤ sizeLine ∧ ∀ H', Same H H' → Q (.bl (decide (l.length ≤ 200) && l.all sgn)) H'
def sp_is_name : Sp := fun vs H Q _ => ∃ l : List Nat, vs = [.str (S l)] ∧ l.length ≤ sizeLine ∧ ∀ H', Same H H' → Q (.bl (nameM l)) H'
def sp_is_text : Sp := fun vs H Q _ => ∃ l : List Nat, vs = [.str (S l)] ∧ l.length ≤ sizeLine ∧ ∀ H', Same H H' → Q (.bl (textM l)) H'
def sp_is_number : Sp := fun vs H Q _ => ∃ n : Int, vs = [.int n] ∧ Q (.bl (numM n)) H
theorem vto {Q : VK} {v v' : V} {H : Hp} (q : Q v H) (e : v' = v) : Q v' H := e ▸ q
section
variable {P : Program} {w : World} {K : PySem.W.Frag} {mg : Str → Option Value} {base : Heap}
theorem ok_is_sign (T : Txt K mg) : Pr P w K mg base CX0 1 "is_sign" ["character"] sp_is_sign := by
  refine pr0 T.d_is_sign sc_is_sign (fun vs H Q E h => ?_) (fun f cdv A outer s H vs Q E hr h => ?_)
  · obtain ⟨c, rfl, _⟩ := h; rfl
  · obtain ⟨c, rfl, q⟩ := h
    refine ⟨_, pss_cons (ps_set (i := 1) sc_is_sign.nd rfl (.inl rfl) (pe_callB call_ord (by rfl) T.n_ord boot_ord (pa_cons (pv 0) pa_nil)))
      (pss_one (ps_ret (pe_and (pe_chain op_le op_le pe_int (pv 1) pe_int) (pe_one (pe_cmpR op_ne (pv 1) (C8.pe_gc (by rfl) T.c_PERCENT) (nomark _)))))), ?_⟩
    have hc : ((⟨#[c]⟩ : Str).cps.getD 0 0) = c := rfl
    refine ⟨_, rfl, _, rfl, rfl, ?_⟩
    rw [hc]
    refine ⟨_, rfl, _, _, rfl, rfl, _, rfl, ite2 (fun h1 => ?_) (fun h1 => ?_)⟩
    · refine ⟨_, _, rfl, rfl, _, rfl, ite2 (fun h2 => ?_) (fun h2 => ?_)⟩
      · refine ⟨_, rfl, rfl, vto q ?_⟩
        have h1 := of_decide_eq_true h1
        have h2 := of_decide_eq_true h2
        congr 1
        unfold sgn
        rw [Bool.eq_iff_iff]
        simp only [Bool.not_eq_true', decide_eq_false_iff_not, decide_eq_true_eq]
        constructor
        · intro h3; exact ⟨by omega, by omega, fun z => h3 (by subst z; rfl)⟩
        · intro h3 z; exact h3.2.2 (by have := V.int.inj z; omega)
      · refine vto q ?_
        congr 1
        have h2 : ¬ ((c : Int) ≤ 126) := fun z => h2 (decide_eq_true z)
        unfold sgn
        symm
        exact decide_eq_false (by omega)
    · refine ⟨_, rfl, iteF (vto q ?_)⟩
      congr 1
      have h1 : ¬ ((32 : Int) ≤ c) := fun z => h1 (decide_eq_true z)
      unfold sgn
      symm
      exact decide_eq_false (by omega)
theorem ok_is_number (T : Txt K mg) : Pr P w K mg base CX0 1 "is_number" ["number"] sp_is_number := by
  refine pr0 T.d_is_number sc_is_number (fun vs H Q E h => ?_) (fun f cdv A outer s H vs Q E hr h => ?_)
  · obtain ⟨c, rfl, _⟩ := h; rfl
  · obtain ⟨n, rfl, q⟩ := h
    refine ⟨_, (pss_one (ps_ret (pe_chain op_le op_le (C8.pe_gc (by rfl) T.c_LEAST_NUMBER) (pv 0) (C8.pe_gc (by rfl) T.c_GREATEST_NUMBER)))), ?_⟩
    refine ⟨_, rfl, _, _, rfl, rfl, _, rfl, ite2 (fun h1 => ?_) (fun h1 => ?_)⟩
    · refine ⟨_, _, rfl, rfl, vto q ?_⟩
      unfold numM
      rw [h1, Bool.true_and]
    · refine vto q ?_
      unfold numM
      rw [Bool.eq_false_iff.mpr h1, Bool.false_and]
theorem ok_has_only_signs (T : Txt K mg) : Pr P w K mg base CX0 2 "has_only_signs" ["string"] sp_has_only_signs := by
  refine pr0 T.d_has_only_signs sc_has_only_signs (fun vs H Q E h => ?_) (fun f cdv A outer s H vs Q E hr h => ?_)
  · obtain ⟨c, rfl, _⟩ := h; rfl
  · obtain ⟨l, rfl, hl, q⟩ := h
    have G1 := ok_is_sign (P := P) (w := w) (base := base) T
    refine ⟨_, (pss_one (ps_ret (pe_callB (cr_all rfl) (by rfl) T.n_all boot_all (pa_cons
      (pe_lc (own := [("character", 1)]) (g := gName 1) (tt := tYes) rfl sc_has_only_signs.nd (pi_str (pv 0)) (blkOk_by (N := ["string", "character"]) (sc := defScope s_has_only_signs) (by decide +kernel))
        (fun _ _ _ _ _ => pg_name (i := 1) sc_has_only_signs.nd rfl (.inl rfl)) (fun _ _ _ _ _ => pts_nil)
        (fun _ _ _ _ _ => pe_k G1 hr (by decide) pass0 (by rfl) (pa_cons (pv 1) pa_nil))) pa_nil)))), ?_⟩
    refine ⟨_, rfl, _, rfl, lc_pure walk_str ((l.map sgn).map V.bl) (by simp) (by simpa using hl) (fun _ _ => trivial) ?_ ?_⟩
    · rintro i x H1 H2 y R hi gy sm ⟨rfl, c, gc, rfl⟩ k
      refine ⟨rfl, _, rfl, c, rfl, ?_⟩
      have e : y = .bl (sgn c) := by
        rw [List.map_map, List.getElem?_map, show l[i]? = some c by simpa using gc] at gy
        exact (Option.some.inj gy).symm
      subst e
      exact k _ (Same.refl _)
    · intro H1 D sm f e
      refine ⟨D, l.map sgn, rfl, .inl (.inl e), vto (q _ sm) ?_⟩
      rw [List.all_map]; rfl
theorem ok_may_be_prepared (T : Txt K mg) : Pr P w K mg base CX0 3 "may_be_prepared" ["string"] sp_may_be_prepared := by
  refine pr0 T.d_may_be_prepared sc_may_be_prepared (fun vs H Q E h => ?_) (fun f cdv A outer s H vs Q E hr h => ?_)
  · obtain ⟨c, rfl, _⟩ := h; rfl
  · obtain ⟨l, rfl, hl, q⟩ := h
    have G1 := ok_has_only_signs (P := P) (w := w) (base := base) T
    refine ⟨_, (pss_one (ps_ret (pe_and (pe_cmpR op_le (pe_callB call_len_str (by rfl) T.n_len PySem.boot_len (pa_cons (pv 0) pa_nil)) (C8.pe_gc (by rfl) T.c_LONGEST_STRING) (nomark _))
      (pe_one (pe_k G1 hr (by decide) pass0 (by rfl) (pa_cons (pv 0) pa_nil)))))), ?_⟩
    refine ⟨_, rfl, S l, rfl, by rw [S_len]; exact hl, _, _, rfl, rfl, _, rfl, ite2 (fun h1 => ?_) (fun h1 => ?_)⟩
    · have h1 := of_decide_eq_true h1
      rw [S_len] at h1
      refine ⟨_, rfl, l, rfl, hl, fun H' sm => vto (q _ sm) ?_⟩
      rw [decide_eq_true (show l.length ≤ 200 by omega), Bool.true_and]
    · refine vto (q _ (Same.refl _)) ?_
      have h1 : ¬ ((S l).length : Int) ≤ 200 := fun z => h1 (decide_eq_true z)
      rw [S_len] at h1
      rw [decide_eq_false (show ¬ l.length ≤ 200 by omega), Bool.false_and]
theorem ok_is_name (T : Txt K mg) : Pr P w K mg base CX0 1 "is_name" ["string"] sp_is_name := by
  refine pr0 T.d_is_name sc_is_name (fun vs H Q E h => ?_) (fun f cdv A outer s H vs Q E hr h => ?_)
  · obtain ⟨c, rfl, _⟩ := h; rfl
  · obtain ⟨l, rfl, hl, q⟩ := h
    refine ⟨_, (pss_one (ps_ret (pe_and (pe_chain op_le op_le pe_int (pe_callB call_len_str (by rfl) T.n_len PySem.boot_len (pa_cons (pv 0) pa_nil)) (C8.pe_gc (by rfl) T.c_LONGEST_NAME)) (pe_one (pe_callB (cr_all rfl) (by rfl) T.n_all boot_all (pa_cons
      (pe_lc (own := [("letter", 1)]) (g := gName 1) (tt := tYes) rfl sc_is_name.nd (pi_str (pv 0)) (blkOk_by (N := ["string", "letter"]) (sc := defScope s_is_name) (by decide +kernel))
        (fun _ _ _ _ _ => pg_name (i := 1) sc_is_name.nd rfl (.inl rfl)) (fun _ _ _ _ _ => pts_nil)
        (fun _ _ _ _ _ => pe_cmpR op_in_sign (pv 1) (C8.pe_gc (by rfl) T.c_LETTERS) (by rfl))) pa_nil)))))), ?_⟩
    refine ⟨_, rfl, S l, rfl, by rw [S_len]; exact hl, _, _, rfl, rfl, _, rfl, ite2 (fun h1 => ?_) (fun h1 => ?_)⟩
    · refine ⟨_, _, rfl, rfl, _, rfl, ite2 (fun h2 => ?_) (fun h2 => ?_)⟩
      · have h1 := of_decide_eq_true h1
        have h2 := of_decide_eq_true h2
        rw [S_len] at h1 h2
        refine ⟨_, rfl, _, rfl, lc_pure walk_str ((l.map isLet).map V.bl) (by simp) (by simpa using hl) (fun _ _ => trivial) ?_ ?_⟩
        · rintro i x H1 H2 y R hi gy sm ⟨rfl, c, gc, rfl⟩ k
          refine ⟨rfl, _, rfl, c, _, rfl, rfl, ?_⟩
          have e : y = .bl (isLet c) := by
            rw [List.map_map, List.getElem?_map, show l[i]? = some c by simpa using gc] at gy
            exact (Option.some.inj gy).symm
          subst e
          exact k _ (Same.refl _)
        · intro H1 D sm f e
          refine ⟨D, l.map isLet, rfl, .inl (.inl e), vto (q _ sm) ?_⟩
          unfold nameM
          rw [List.all_map, decide_eq_true (show 1 ≤ l.length by omega), decide_eq_true (show l.length ≤ 8 by omega)]; rfl
      · refine vto (q _ (Same.refl _)) ?_
        have h2 : ¬ ((S l).length : Int) ≤ 8 := fun z => h2 (decide_eq_true z)
        rw [S_len] at h2
        unfold nameM
        rw [decide_eq_false (show ¬ l.length ≤ 8 by omega), Bool.and_false, Bool.false_and]
    · refine ⟨_, rfl, iteF (vto (q _ (Same.refl _)) ?_)⟩
      have h1 : ¬ (1 : Int) ≤ ((S l).length : Int) := fun z => h1 (decide_eq_true z)
      rw [S_len] at h1
      unfold nameM
      rw [decide_eq_false (show ¬ 1 ≤ l.length by omega), Bool.false_and, Bool.false_and]
theorem ok_is_text (T : Txt K mg) : Pr P w K mg base CX0 3 "is_text" ["string"] sp_is_text := by
  refine pr0 T.d_is_text sc_is_text (fun vs H Q E h => ?_) (fun f cdv A outer s H vs Q E hr h => ?_)
  · obtain ⟨c, rfl, _⟩ := h; rfl
  · obtain ⟨l, rfl, hl, q⟩ := h
    have G1 := ok_has_only_signs (P := P) (w := w) (base := base) T
    refine ⟨_, (pss_one (ps_ret (pe_and (pe_cmpR op_le (pe_callB call_len_str (by rfl) T.n_len PySem.boot_len (pa_cons (pv 0) pa_nil)) (C8.pe_gc (by rfl) T.c_LONGEST_TEXT) (nomark _))
      (pe_and (pe_cmpR op_notIn_sign pe_str (pv 0) (by rfl)) (pe_one (pe_k G1 hr (by decide) pass0 (by rfl) (pa_cons (pv 0) pa_nil))))))), ?_⟩
    refine ⟨_, rfl, S l, rfl, by rw [S_len]; exact hl, _, _, rfl, rfl, _, rfl, ite2 (fun h1 => ?_) (fun h1 => ?_)⟩
    · have h1 := of_decide_eq_true h1
      rw [S_len] at h1
      refine ⟨_, rfl, 39, S l, rfl, rfl, _, rfl, ite2 (fun h2 => ?_) (fun h2 => ?_)⟩
      · refine ⟨_, rfl, l, rfl, hl, fun H' sm => vto (q _ sm) ?_⟩
        unfold textM
        rw [show (!decide (39 ∈ l)) = true from h2, decide_eq_true (show l.length ≤ 40 by omega)]; rfl
      · refine vto (q _ (Same.refl _)) ?_
        unfold textM
        rw [show (!decide (39 ∈ l)) = false from Bool.eq_false_iff.mpr h2, Bool.false_and, Bool.and_false]
    · refine vto (q _ (Same.refl _)) ?_
      have h1 : ¬ ((S l).length : Int) ≤ 40 := fun z => h1 (decide_eq_true z)
      rw [S_len] at h1
      unfold textM
      rw [decide_eq_false (show ¬ l.length ≤ 40 by omega), Bool.false_and]
end
end K02
end
section
namespace K02
open PySem PySem.Spec PyProof.Rows L2 Tl Mx SX
theorem step_cases (st : List (List Nat) × Bool) (c : Nat) : (splitStep st c).1 = st.1 ++ [[]] ∨ (splitStep st c).1 = st.1.dropLast ++ [st.1.getLastD [] ++ [c]] := by
  unfold splitStep
  dsimp only
  by_cases h : c = 32 ∧ (if c = 39 then !st.2 else st.2) = false
  · rw [if_pos h]; exact Or.inl rfl
  · rw [if_neg h]; exact Or.inr rfl
theorem split_ne (l : List Nat) : ∀ st : List (List Nat) × Bool, st.1 ≠ [] → (l.foldl splitStep st).1 ≠ [] := by
  induction l with
  | nil => intro st h; exact h
  | cons c l ih =>
    intro st h
    rw [List.foldl_cons]
    refine ih _ ?_
    rcases step_cases st c with e | e <;> rw [e] <;> simp
theorem split_len (l : List Nat) : ∀ st : List (List Nat) × Bool, st.1 ≠ [] → (l.foldl splitStep st).1.length ≤ st.1.length + l.length := by
  induction l with
  | nil => intro st _; simp
  | cons c l ih =>
    intro st h
    rw [List.foldl_cons]
    have h2 : (splitStep st c).1 ≠ [] := by
      rcases step_cases st c with e | e <;> rw [e] <;> simp
    have q := ih _ h2
    have z : (splitStep st c).1.length ≤ st.1.length + 1 := by
      have : 0 < st.1.length := List.length_pos_iff.mpr h
      rcases step_cases st c with e | e <;> rw [e] <;> simp <;> omega
    rw [List.length_cons]
    omega
theorem split_sum (l : List Nat) : ∀ st : List (List Nat) × Bool, ∀ p ∈ (l.foldl splitStep st).1, p.length ≤ (st.1.map List.length).sum + l.length := by
  induction l with
  | nil =>
    intro st p hp
    have : ∀ (xs : List (List Nat)), p ∈ xs → p.length ≤ (xs.map List.length).sum := by
      intro xs
      induction xs with
      | nil => intro h; cases h
      | cons x xs ih =>
        intro h
        rw [List.map_cons, List.sum_cons]
        rcases List.mem_cons.mp h with rfl | h
        · omega
        · have := ih h; omega
    exact this _ hp
  | cons c l ih =>
    intro st p hp
    rw [List.foldl_cons] at hp
    have q := ih _ p hp
    have z : ((splitStep st c).1.map List.length).sum ≤ (st.1.map List.length).sum + 1 := by
      rcases step_cases st c with e | e <;> rw [e]
      · simp
      · rcases List.eq_nil_or_concat st.1 with e | ⟨r, a, e⟩
        · rw [e]; simp
        · rw [e]; simp; omega
    rw [List.length_cons]
    omega
def sp_split_pieces : Sp := fun vs H Q _ => ∃ l : List Nat, vs = [.str (S l)] ∧ l.length ≤ 200 ∧ ∀ H' p, Same H H' → H p = none → H' p = some (.lst ((splitM l).map fun z => V.str (S z))) → Q (.ref p) H'
section
variable {P : Program} {w : World} {K : PySem.W.Frag} {mg : Str → Option Value} {base : Heap}
theorem ok_split_pieces (T : Txt K mg) : Pr P w K mg base CX0 1 "split_pieces" ["string"] sp_split_pieces := by
  refine pr0 T.d_split_pieces sc_split_pieces (fun vs H Q E h => ?_) (fun f cdv A outer s H vs Q E hr h => ?_)
  · obtain ⟨c, rfl, _⟩ := h; rfl
  · obtain ⟨l, rfl, hl, q⟩ := h
    refine ⟨_, pss_cons (ps_set (i := 1) sc_split_pieces.nd rfl (.inl rfl) (pe_lst (pa_cons pe_str pa_nil)))
      (pss_cons (ps_set (i := 2) sc_split_pieces.nd rfl (.inl rfl) pe_bl)
      (pss_cons (ps_for PassesOwn.never rfl (pi_str (pv 0)) (pg_name (i := 3) sc_split_pieces.nd rfl (.inl rfl))
        (pss_cons (ps_if (pt_cmpR op_eq (pv 3) pe_str (nomark _)) (pss_one (ps_set (i := 2) sc_split_pieces.nd rfl (.inl rfl) (pe_not (pv 2)))) pss_nil)
        (pss_one (ps_if (PW.pt (pw_and (pt_cmpR op_eq (pv 3) pe_str (nomark _)) (pw_and1 (pt_not (pt_val (pv 2))))))
          (pss_one (ps_expr (pe_bm PySem.F.plainAttrs_list PySem.F.slot_list_append PySem.F.type_list_append mt_append (pv 1) (pa_cons pe_str pa_nil))))
          (pss_one (ps_augS (pv 1) (pe_un un_neg pe_int) get_last (pv 3) (ip_of iop_add_str) set_list))))))
      (pss_one (ps_ret (pv 1))))), ?_⟩
    refine ⟨(by show 1 ≤ sizeLine; decide), fun p np => ?_⟩
    have s1 : Same H (upd H p (.lst [.str (S [])])) := same_upd np
    refine ⟨_, rfl, _, rfl, for_it walk_str (fun i σ H' => ∃ y3, σ = [some (.str (S l)), some (.ref p), some (.bl ((l.take i).foldl splitStep ([[]], false)).2), y3] ∧ Same H H' ∧
      H' p = some (.lst ((((l.take i).foldl splitStep ([[]], false)).1).map fun z => V.str (S z)))) ⟨none, rfl, s1, upd_same⟩ (fun _ _ _ _ _ => trivial) ?_ ?_⟩
    · rintro i x σ H1 H2 hi ⟨y3, rfl, sm, ep⟩ ⟨rfl, c, gc, rfl⟩
      have gl : l[i]? = some c := by simpa using gc
      have hi' : i < l.length := by simpa using hi
      obtain ⟨st, est⟩ : ∃ st, st = (l.take i).foldl splitStep ([[]], false) := ⟨_, rfl⟩
      have nx : (l.take (i + 1)).foldl splitStep ([[]], false) = splitStep st c := by rw [take_next gl, List.foldl_append, ← est]; rfl
      have ne : st.1 ≠ [] := by rw [est]; exact split_ne _ _ (by simp)
      have ln : st.1.length ≤ 201 := by
        have := split_len (l.take i) ([[]], false) (by simp)
        rw [← est] at this
        simp only [List.length_singleton, List.length_take] at this
        omega
      have sz : ∀ z ∈ st.1, z.length ≤ 200 := fun z hz => by
        have := split_sum (l.take i) ([[]], false) z (by rw [← est]; exact hz)
        simp only [List.map_cons, List.map_nil, List.sum_cons, List.sum_nil, List.length_nil, List.length_take] at this
        omega
      rw [nx]
      rw [← est] at ep ⊢
      -- what the second if does, for whatever stands in in_text
      have app : ∀ (y : Option V) (b : Bool), splitStep st c = (st.1 ++ [[]], b) → ∃ y3, [some (.str (S l)), some (.ref p), some (V.bl b), y] = [some (.str (S l)), some (.ref p), some (.bl (splitStep st c).2), y3] ∧
          Same H (upd H2 p (.lst ((st.1.map fun z => V.str (S z)) ++ [.str (S [])]))) ∧ (upd H2 p (.lst ((st.1.map fun z => V.str (S z)) ++ [.str (S [])]))) p = some (.lst ((splitStep st c).1.map fun z => V.str (S z))) := fun y b e => by
        rw [e]
        exact ⟨y, rfl, same_put np sm, by rw [upd_same, List.map_append]; rfl⟩
      obtain ⟨r, a, er⟩ : ∃ r a, st.1 = r ++ [a] := ⟨st.1.dropLast, st.1.getLast ne, (List.dropLast_concat_getLast ne).symm⟩
      have la : a.length ≤ 200 := sz a (by rw [er]; simp)
      have grow : ∀ (y : Option V) (b : Bool), splitStep st c = (st.1.dropLast ++ [st.1.getLastD [] ++ [c]], b) → ∃ y3, [some (.str (S l)), some (.ref p), some (V.bl b), y] = [some (.str (S l)), some (.ref p), some (.bl (splitStep st c).2), y3] ∧
          Same H (upd H2 p (.lst ((st.1.map fun z => V.str (S z)).set r.length (.str (S a ++ S [c]))))) ∧ (upd H2 p (.lst ((st.1.map fun z => V.str (S z)).set r.length (.str (S a ++ S [c]))))) p = some (.lst ((splitStep st c).1.map fun z => V.str (S z))) := fun y b e => by
        rw [e]
        refine ⟨y, rfl, same_put np sm, ?_⟩
        rw [upd_same, S_cat, er]
        simp
      have eqs : decide (V.str ⟨#[c]⟩ = V.str " ") = decide (c = 32) := by
        by_cases z : c = 32
        · subst z; rw [decide_eq_true rfl]; exact decide_eq_true rfl
        · rw [decide_eq_false z]; exact decide_eq_false fun w => z (by have := S_inj (V.str.inj w); exact (List.cons.inj this).1)
      have eqq : decide (V.str ⟨#[c]⟩ = V.str "'") = decide (c = 39) := by
        by_cases z : c = 39
        · subst z; rw [decide_eq_true rfl]; exact decide_eq_true rfl
        · rw [decide_eq_false z]; exact decide_eq_false fun w => z (by have := S_inj (V.str.inj w); exact (List.cons.inj this).1)
      have gl1 : SqL K H2 p ((r.map fun z => V.str (S z)) ++ [.str (S a)]) := .inl (.inl (by rw [ep, er]; simp))
      refine ⟨_, rfl, rfl, _, rfl, ite2 (fun h1 => ?_) (fun h1 => ?_)⟩
      · have h1 : c = 39 := of_decide_eq_true (eqq ▸ h1)
        have h32 : ¬ c = 32 := by omega
        refine ⟨_, rfl, _, rfl, ?_⟩
        refine ⟨_, rfl, rfl, _, rfl, ite2 (fun h2 => absurd (of_decide_eq_true (eqs ▸ h2)) h32) (fun h2 => iteF ?_)⟩
        refine ⟨_, rfl, _, rfl, ⟨p, _, _, rfl, rfl, gl1, ⟨_, rfl, _, _, rfl, rfl, ?_, ?_⟩⟩⟩
        · rw [S_len]; show a.length + 1 ≤ sizeLine; rw [sizeLine_eq]; omega
        · refine ⟨p, _, _, r.length, rfl, rfl, ep, ?_, grow _ _ ?_⟩
          · rw [List.length_map, er, List.length_append]; exact ixN_last _
          · unfold splitStep; dsimp only; rw [if_neg (fun z => h32 z.1), if_pos h1]
      · have h1 : ¬ c = 39 := fun z => h1 (by rw [eqq]; exact decide_eq_true z)
        have h2q : ∀ b : Bool, st.2 = b → (c = 32 ∧ b = false → splitStep st c = (st.1 ++ [[]], b)) ∧ (¬ (c = 32 ∧ b = false) → splitStep st c = (st.1.dropLast ++ [st.1.getLastD [] ++ [c]], b)) := fun b eb => by
          unfold splitStep; dsimp only; rw [if_neg h1, eb]
          exact ⟨fun z => by rw [if_pos z], fun z => by rw [if_neg z]⟩
        have tail : ∀ D : Prop, True := fun _ => trivial
        refine ⟨_, rfl, rfl, _, rfl, ite2 (fun h2 => ?_) (fun h2 => iteF ?_)⟩
        · have h2 : c = 32 := of_decide_eq_true (eqs ▸ h2)
          cases eb : st.2 with
          | false =>
            refine ⟨_, rfl, _, rfl, iteT ?_⟩
            refine ⟨_, rfl, .inl ⟨rfl, _, .inl (.inl ep)⟩, p, _, _, rfl, rfl, ep, ?_, app _ _ ((h2q _ eb).1 ⟨h2, rfl⟩)⟩
            rw [List.length_map, sizeLine_eq]; omega
          | true =>
            refine ⟨_, rfl, _, rfl, iteF ?_⟩
            refine ⟨_, rfl, _, rfl, ⟨p, _, _, rfl, rfl, gl1, ⟨_, rfl, _, _, rfl, rfl, ?_, ?_⟩⟩⟩
            · rw [S_len]; show a.length + 1 ≤ sizeLine; rw [sizeLine_eq]; omega
            · refine ⟨p, _, _, r.length, rfl, rfl, ep, ?_, grow _ _ ((h2q _ eb).2 fun z => by cases z.2)⟩
              rw [List.length_map, er, List.length_append]; exact ixN_last _
        · have h2 : ¬ c = 32 := fun z => h2 (by rw [eqs]; exact decide_eq_true z)
          refine ⟨_, rfl, _, rfl, ⟨p, _, _, rfl, rfl, gl1, ⟨_, rfl, _, _, rfl, rfl, ?_, ?_⟩⟩⟩
          · rw [S_len]; show a.length + 1 ≤ sizeLine; rw [sizeLine_eq]; omega
          · refine ⟨p, _, _, r.length, rfl, rfl, ep, ?_, grow _ _ ((h2q _ rfl).2 fun z => h2 z.1)⟩
            rw [List.length_map, er, List.length_append]; exact ixN_last _
    · rintro σ H1 ⟨y3, rfl, sm, ep⟩
      rw [show l.take (S l).cps.size = l from List.take_of_length_le (by simp)] at ep
      exact ⟨_, rfl, q _ _ sm np ep⟩
end
end K02
end
section
namespace K02
open PySem PySem.Spec PyProof.Rows L2 Tl Mx SX
/-- a def of a text that gives a value or Unreadable -/
def sp_str1 (C : Addr) (R : List Nat → Hp → (V → Prop) → Prop) (fails : List Nat → Prop) : Sp := fun vs H Q E => ∃ l : List Nat, vs = [.str (S l)] ∧ l.length ≤ 200 ∧ l.all sgn = true ∧
  (∀ H' v, Same H H' → R l H' (fun u => u = v) → Q v H') ∧ (fails l → ∀ H', Same H H' → E (.ref C) none H')
def sp_parse_name (C : Addr) : Sp := fun vs H Q E => ∃ l : List Nat, vs = [.str (S l)] ∧ l.length ≤ 200 ∧ (nameM l = true → ∀ H', Same H H' → Q (.str (S l)) H') ∧ (nameM l = false → ∀ H', Same H H' → E (.ref C) none H')
def sp_parse_text (C : Addr) : Sp := fun vs H Q E => ∃ l : List Nat, vs = [.str (S l)] ∧ l.length ≤ 200 ∧ (∀ z, textOf l = some z → ∀ H' a, Same H H' → H a = none → H' a = some (.tup [.str "text", .str (S z)]) → Q (.ref a) H') ∧ (textOf l = none → ∀ H', Same H H' → E (.ref C) none H')
def sp_parse_number (C : Addr) : Sp := fun vs H Q E => ∃ l : List Nat, vs = [.str (S l)] ∧ l.length ≤ 200 ∧ (∀ c ∈ l, c < 128) ∧ (∀ n, Mx.numOf l = some n → ∀ H', Same H H' → Q (.int n) H') ∧ (Mx.numOf l = none → ∀ H', Same H H' → E (.ref C) none H')
section
variable {P : Program} {w : World} {K : PySem.W.Frag} {mg : Str → Option Value} {base : Heap} {C : Addr}
theorem small200 {n : Nat} (h : n ≤ 200) : n ≤ sizeLine := by rw [sizeLine_eq]; omega
theorem ok_parse_name (T : Txt K mg) (U : ErrC K mg "Unreadable" C) : Pr P w K mg base (L2N.CX P w) 2 "parse_name" ["piece"] (sp_parse_name C) := by
  refine prN T.d_parse_name sc_parse_name (fun vs H Q E h => ?_) (fun f cdv A outer s H vs Q E hr h => ?_)
  · obtain ⟨c, rfl, _⟩ := h; rfl
  · obtain ⟨l, rfl, hl, q, e⟩ := h
    have G1 := ok_is_name (P := P) (w := w) (base := base) T
    obtain ⟨n1, n2, bm, xb, xi⟩ := U.ex
    refine ⟨_, pss_cons (ps_if (pt_not (pt_val (pe_k G1 hr (by decide) pass0 (by rfl) (pa_cons (pv 0) pa_nil))))
        (pss_one (L2N.ps_raise rfl (L2N.takes_of rfl rfl rfl rfl) (L2N.pmk_own xb xi U.g U.kp (raises_own U.sb U.ty) (by rfl)))) pss_nil)
      (pss_one (ps_ret (pv 0))), ?_⟩
    refine ⟨_, rfl, l, rfl, small200 hl, fun H' sm => ⟨_, rfl, ?_⟩⟩
    cases hn : nameM l with
    | true => exact iteF ⟨_, rfl, q hn _ sm⟩
    | false => exact iteT (e hn _ sm)
theorem ok_parse_text (T : Txt K mg) (U : ErrC K mg "Unreadable" C) : Pr P w K mg base (L2N.CX P w) 4 "parse_text" ["piece"] (sp_parse_text C) := by
  refine prN T.d_parse_text sc_parse_text (fun vs H Q E h => ?_) (fun f cdv A outer s H vs Q E hr h => ?_)
  · obtain ⟨c, rfl, _⟩ := h; rfl
  · obtain ⟨l, rfl, hl, q, e⟩ := h
    have G1 := ok_is_text (P := P) (w := w) (base := base) T
    obtain ⟨n1, n2, bm, xb, xi⟩ := U.ex
    refine ⟨_, pss_cons (ps_set (i := 1) sc_parse_text.nd rfl (.inl rfl) (pe_slice sl_str (pv 0) (po_some pe_int) (po_some (pe_un un_neg pe_int))))
      (pss_cons (ps_if (PW.pt (pw_or (pt_cmpR op_lt (pe_callB call_len_str (by rfl) T.n_len PySem.boot_len (pa_cons (pv 0) pa_nil)) pe_int (nomark _)) (pw_or (pt_not (pt_val (pe_bm PySem.F.plainAttrs_str PySem.F.slot_str_endswith PySem.F.type_str_endswith mt_endswith (pv 0) (pa_cons pe_str pa_nil))))
            (pw_or1 (pt_not (pt_val (pe_k G1 hr (by decide) pass0 (by rfl) (pa_cons (pv 1) pa_nil))))))))
        (pss_one (L2N.ps_raise rfl (L2N.takes_of rfl rfl rfl rfl) (L2N.pmk_own xb xi U.g U.kp (raises_own U.sb U.ty) (by rfl)))) pss_nil)
      (pss_one (ps_ret (pe_tup (pa_cons pe_str (pa_cons (pv 1) pa_nil)))))), ?_⟩
    refine ⟨_, rfl, _, rfl, _, rfl, _, rfl, S l, rfl, by rw [S_len]; exact small200 hl, ?_⟩
    rw [cutMid]
    refine ⟨_, rfl, S l, rfl, by rw [S_len]; exact small200 hl, _, _, rfl, rfl, _, rfl, ?_⟩
    rw [S_len]
    have le : (l.drop 1).dropLast.length ≤ 200 := by rw [List.length_dropLast, List.length_drop]; omega
    refine ite2 (fun h1 => ?_) (fun h1 => ?_)
    · refine iteT (e ?_ _ (Same.refl _))
      unfold textOf
      have h1 : (l.length : Int) < 2 := of_decide_eq_true h1
      rw [if_neg (fun z => by have := z.1; omega)]
    · have h1 : ¬ (l.length : Int) < 2 := fun z => h1 (decide_eq_true z)
      refine ⟨_, rfl, rfl, _, S [39], rfl, rfl, ?_⟩
      rw [ends]
      refine ⟨_, rfl, ite2 (fun h2 => ?_) (fun h2 => ?_)⟩
      · refine iteT (e ?_ _ (Same.refl _))
        have h2 : ¬ l.getLast? = some 39 := of_decide_eq_false (by simpa using h2)
        unfold textOf
        rw [if_neg (fun z => h2 z.2.1)]
      · have h2 : l.getLast? = some 39 := of_decide_eq_true (by simpa using h2)
        refine ⟨_, rfl, (l.drop 1).dropLast, rfl, small200 le, fun H' sm => ⟨_, rfl, ?_⟩⟩
        cases hn : textM (l.drop 1).dropLast with
        | true =>
          refine iteF ⟨_, rfl, (by show 2 ≤ sizeLine; decide), fun p np => ?_⟩
          refine q _ (by unfold textOf; rw [if_pos ⟨by omega, h2, hn⟩]) _ p (same_put (sm.free np) sm) (sm.free np) upd_same
        | false =>
          refine iteT (e ?_ _ sm)
          unfold textOf
          rw [if_neg (fun z => by rw [hn] at z; cases z.2.2)]
theorem ok_parse_number (T : Txt K mg) (U : ErrC K mg "Unreadable" C) : Pr P w K mg base (L2N.CX P w) 2 "parse_number" ["piece"] (sp_parse_number C) := by
  refine prN T.d_parse_number sc_parse_number (fun vs H Q E h => ?_) (fun f cdv A outer s H vs Q E hr h => ?_)
  · obtain ⟨c, rfl, _⟩ := h; rfl
  · obtain ⟨l, rfl, hl, hc, q, e⟩ := h
    have G1 := ok_is_number (P := P) (w := w) (base := base) T
    obtain ⟨n1, n2, bm, xb, xi⟩ := U.ex
    refine ⟨_, pss_cons (ps_set (i := 1) sc_parse_number.nd rfl (.inl rfl) (pe_bm PySem.F.plainAttrs_str PySem.F.slot_str_removeprefix PySem.F.type_str_removeprefix mt_removeprefix (pv 0) (pa_cons pe_str pa_nil)))
      (pss_cons (ps_if (pt_not (pt_val (pe_bm0 PySem.F.plainAttrs_str PySem.F.slot_str_isdigit PySem.F.type_str_isdigit mt_isdigit (pv 1))))
        (pss_one (L2N.ps_raise rfl (L2N.takes_of rfl rfl rfl rfl) (L2N.pmk_own xb xi U.g U.kp (raises_own U.sb U.ty) (by rfl)))) pss_nil)
      (pss_cons (ps_set (i := 2) sc_parse_number.nd rfl (.inl rfl) (pe_callTy call_int_str (by rfl) T.n_int boot_int (pa_cons (pv 0) pa_nil)))
      (pss_cons (ps_if (PW.pt (pw_or (pt_cmpR op_ne (pe_callTy call_str_int (by rfl) T.n_str boot_str (pa_cons (pv 2) pa_nil)) (pv 0) (nomark _)) (pw_or1 (pt_not (pt_val (pe_k G1 hr (by decide) pass0 (by rfl) (pa_cons (pv 2) pa_nil)))))))
        (pss_one (L2N.ps_raise rfl (L2N.takes_of rfl rfl rfl rfl) (L2N.pmk_own xb xi U.g U.kp (raises_own U.sb U.ty) (by rfl)))) pss_nil)
      (pss_one (ps_ret (pv 2)))))), ?_⟩
    refine ⟨_, rfl, rfl, _, S [45], rfl, rfl, by rw [S_len]; exact small200 hl, ?_⟩
    rw [noPrefix]
    obtain ⟨d, ed⟩ : ∃ d, d = (if l.head? = some 45 then l.drop 1 else l) := ⟨_, rfl⟩
    rw [← ed]
    refine ⟨_, rfl, rfl, _, rfl, rfl, trivial, ?_⟩
    have hd : ∀ c ∈ d, c < 128 := fun c m => hc c (by
      rw [ed] at m
      by_cases z : l.head? = some 45
      · rw [if_pos z] at m; exact List.mem_of_mem_drop m
      · rw [if_neg z] at m; exact m)
    rw [allDigits d hd]
    refine ⟨_, rfl, ?_⟩
    have numNone : (¬ ∃ n : Int, intS n = l) → Mx.numOf l = none := fun z => by
      unfold Mx.numOf; dsimp only
      rw [if_neg fun y => z ⟨_, y.1⟩]
    cases hdig : (decide (d ≠ []) && d.all isDig) with
    | false =>
      refine iteT (e (numNone fun ⟨n, en⟩ => ?_) _ (Same.refl _))
      have a1 := intS_all n
      have a2 := intS_ne n
      rw [en, ← ed] at a1 a2
      rw [a1, decide_eq_true a2] at hdig
      cases hdig
    | true =>
      have hne : d ≠ [] := of_decide_eq_true (Bool.and_eq_true_iff.mp hdig).1
      have hall : d.all isDig = true := (Bool.and_eq_true_iff.mp hdig).2
      obtain ⟨v, ev⟩ : ∃ v : Int, v = (if l.head? = some 45 then -((NumText.digitsVal (l.drop 1) : Nat) : Int) else ((NumText.digitsVal l : Nat) : Int)) := ⟨_, rfl⟩
      have hv : intText? (S l) = some v := by rw [ev]; exact intS_val (by omega) (by rw [← ed]; exact hall) (by rw [← ed]; exact hne)
      have hnum : Mx.numOf l = if intS v = l ∧ numM v = true then some v else none := by unfold Mx.numOf; dsimp only; rw [← ev]
      refine iteF ⟨_, rfl, S l, v, rfl, hv, by rw [S_len]; omega, ?_⟩
      refine ⟨_, rfl, v, rfl, ?_, _, rfl, rfl, _, rfl, ?_⟩
      · rw [ev]; exact val_small hl (by rw [← ed]; exact hall)
      · rw [show Str.ofString (toString v) = S (intS v) from str_int v]
        by_cases hs : intS v = l
        · rw [hs, decide_eq_true (show (V.str (S l) = V.str (S l)) from rfl)]
          refine iteF ⟨_, rfl, v, rfl, _, rfl, ?_⟩
          cases hn : numM v with
          | true => exact iteF ⟨_, rfl, q v (by rw [hnum, if_pos ⟨hs, hn⟩]) _ (Same.refl _)⟩
          | false => exact iteT (e (by rw [hnum, if_neg fun z => by rw [hn] at z; cases z.2]) _ (Same.refl _))
        · rw [decide_eq_false (show ¬ (V.str (S (intS v)) = V.str (S l)) from fun z => hs (S_inj (V.str.inj z)))]
          exact iteT (iteT (e (by rw [hnum, if_neg fun z => hs z.1]) _ (Same.refl _)))
end
end K02
end
section
namespace K02
open PySem PySem.Spec PyProof.Rows L2 Tl Mx SX
/-- a part of a statement, its pairs as tuples or as lists -/
def IsQ (H : Hp) (v : V) : Part → Prop
  | .name l => v = .str (S l)
  | .num n => v = .int n
  | .text l => ∃ a, v = .ref a ∧ (H a = some (.tup [.str "text", .str (S l)]) ∨ H a = some (.lst [.str "text", .str (S l)]))
  | .par n => ∃ a, v = .ref a ∧ (H a = some (.tup [.str "parameter", .int n]) ∨ H a = some (.lst [.str "parameter", .int n]))
theorem IsQ.of {H : Hp} {v : V} {p : Part} (h : IsP H v p) : IsQ H v p := by
  cases p with
  | name l => exact h
  | num n => exact h
  | text l => obtain ⟨a, e, h⟩ := h; exact ⟨a, e, .inl h⟩
  | par n => obtain ⟨a, e, h⟩ := h; exact ⟨a, e, .inl h⟩
theorem IsQ.same {H H' : Hp} {v : V} {p : Part} (s : Same H H') (h : IsQ H v p) : IsQ H' v p := by
  cases p with
  | name l => exact h
  | num n => exact h
  | text l => obtain ⟨a, e, h⟩ := h; exact ⟨a, e, h.imp (s _ _) (s _ _)⟩
  | par n => obtain ⟨a, e, h⟩ := h; exact ⟨a, e, h.imp (s _ _) (s _ _)⟩
def isPar : Part → Bool
  | .par _ => true
  | _ => false
def sp_is_parameter : Sp := fun vs H Q _ => ∃ x p, vs = [x] ∧ IsQ H x p ∧ ∀ H', Same H H' → Q (.bl (isPar p)) H'
theorem kTT {K : PySem.W.Frag} : PySem.W.kitAny K (.type "tuple") [.type "tuple", .type "list"] = some true := kitAny_cons (kit_ty (r := true) (by decide +kernel)) (fun z => by cases z) (fun _ => rfl)
theorem kTL {K : PySem.W.Frag} : PySem.W.kitAny K (.type "list") [.type "tuple", .type "list"] = some true := kitAny_cons (kit_ty (r := false) (by decide +kernel)) (fun _ => kitAny_cons (kit_ty (r := true) (by decide +kernel)) (fun z => by cases z) (fun _ => rfl)) (fun z => by cases z)
theorem kTS {K : PySem.W.Frag} : PySem.W.kitAny K (.type "str") [.type "tuple", .type "list"] = some false := kitAny_cons (kit_ty (r := false) (by decide +kernel)) (fun _ => kitAny_cons (kit_ty (r := false) (by decide +kernel)) (fun _ => kitAny_nil) (fun z => by cases z)) (fun z => by cases z)
theorem kTI {K : PySem.W.Frag} : PySem.W.kitAny K (.type "int") [.type "tuple", .type "list"] = some false := kitAny_cons (kit_ty (r := false) (by decide +kernel)) (fun _ => kitAny_cons (kit_ty (r := false) (by decide +kernel)) (fun _ => kitAny_nil) (fun z => by cases z)) (fun z => by cases z)
section
variable {P : Program} {w : World} {K : PySem.W.Frag} {mg : Str → Option Value} {base : Heap} {C : Addr}
theorem ok_is_parameter (T : Txt K mg) : Pr P w K mg base CX0 1 "is_parameter" ["part"] sp_is_parameter := by
  refine pr0 T.d_is_parameter sc_is_parameter (fun vs H Q E h => ?_) (fun f cdv A outer s H vs Q E hr h => ?_)
  · obtain ⟨x, p, rfl, _⟩ := h; rfl
  · obtain ⟨x, p, rfl, hp, q⟩ := h
    refine ⟨_, (pss_one (ps_ret (pe_and (pe_callB call_isiT (by rfl) T.n_isinstance boot_isinstance (pa_cons (pv 0) (pa_cons (pe_tup (pa_cons (pe_bltn (v := .ty "tuple") (by rfl) T.n_tuple boot_tuple rfl) (pa_cons (pe_bltn (v := .ty "list") (by rfl) T.n_list boot_list rfl) pa_nil))) pa_nil)))
      (pe_one (pe_cmpR op_eq (pe_ix ix_seq (pv 0) pe_int (fun _ _ => rfl)) pe_str (nomark _)))))), ?_⟩
    refine ⟨_, rfl, (by show 2 ≤ sizeLine; decide), fun t nt => ?_⟩
    have sm : Same H (upd H t (.tup [.ty "tuple", .ty "list"])) := same_upd nt
    have cls : Paired ClsV [.ty "tuple", .ty "list"] [.type "tuple", .type "list"] := .cons (.ty _) (.cons (.ty _) .nil)
    cases p with
    | name l => obtain rfl := hp; exact ⟨_, t, _, _, _, _, rfl, upd_same, cls, .base (.str _), kTS, _, rfl, iteF (q _ sm)⟩
    | num n => obtain rfl := hp; exact ⟨_, t, _, _, _, _, rfl, upd_same, cls, .base (.int _), kTI, _, rfl, iteF (q _ sm)⟩
    | text l =>
      obtain ⟨a, rfl, h⟩ := hp
      rcases h with h | h
      · refine ⟨_, t, _, _, _, _, rfl, upd_same, cls, .base (.tup (sm _ _ h)), kTT, _, rfl, iteT ⟨_, rfl, .inr (.inl ⟨a, _, 0, _, rfl, rfl, SqT.of (sm _ _ h), rfl, rfl, q _ sm⟩)⟩⟩
      · refine ⟨_, t, _, _, _, _, rfl, upd_same, cls, .base (.lst (sm _ _ h)), kTL, _, rfl, iteT ⟨_, rfl, .inl ⟨a, _, 0, _, rfl, rfl, SqL.of (sm _ _ h), rfl, rfl, q _ sm⟩⟩⟩
    | par n =>
      obtain ⟨a, rfl, h⟩ := hp
      rcases h with h | h
      · refine ⟨_, t, _, _, _, _, rfl, upd_same, cls, .base (.tup (sm _ _ h)), kTT, _, rfl, iteT ⟨_, rfl, .inr (.inl ⟨a, _, 0, _, rfl, rfl, SqT.of (sm _ _ h), rfl, rfl, q _ sm⟩)⟩⟩
      · refine ⟨_, t, _, _, _, _, rfl, upd_same, cls, .base (.lst (sm _ _ h)), kTL, _, rfl, iteT ⟨_, rfl, .inl ⟨a, _, 0, _, rfl, rfl, SqL.of (sm _ _ h), rfl, rfl, q _ sm⟩⟩⟩
end
end K02
end
section
namespace K02
open PySem PySem.Spec PyProof.Rows L2 Tl Mx SX
/-- the tables of the top -/
structure Tab (K : PySem.W.Frag) (w : World) (mg : Str → Option Value) : Prop where
  pars : ∃ a, (∃ u, mg "PARAMETERS" = some u ∧ RelV (.ref a) u) ∧ ∀ H, SqT K H a [.str "$1", .str "$2", .str "$3", .str "$4"]
  forms : ∃ d es n, (∃ u, mg "FORMS" = some u ∧ RelV (.ref d) u) ∧ KDict K w d es n ∧ ∀ k : Str, (formsOf k = none → findBy Value.isStrOf es k = none) ∧ (∀ fs, formsOf k = some fs → ∃ a, findBy Value.isStrOf es k = some (.ref a) ∧ ∀ H, SqT K H a (fs.map V.str))
def sp_parameters (K : PySem.W.Frag) : Sp := fun vs H Q _ => ∃ a xs ps, vs = [.ref a] ∧ (SqT K H a xs ∨ SqL K H a xs) ∧ xs.length ≤ 1000 ∧ Paired (IsQ H) xs ps ∧ ∀ H', Same H H' → Q (.int (mostOf ps)) H'
theorem Paired.at {α β : Type} {F : α → β → Prop} : ∀ {l₁ : List α} {l₂ : List β} {i : Nat} {a : α}, Paired F l₁ l₂ → l₁[i]? = some a → ∃ b, l₂[i]? = some b ∧ F a b
  | _, _, _, _, .nil, e => by simp at e
  | _, _, 0, _, .cons r _, e => by simp at e; subst e; exact ⟨_, rfl, r⟩
  | _, _, i + 1, a, .cons _ t, e => by
    obtain ⟨b, h1, h2⟩ := Paired.at (i := i) (a := a) t (by simpa using e)
    exact ⟨b, by simpa using h1, h2⟩
theorem Paired.len {α β : Type} {F : α → β → Prop} : ∀ {l₁ : List α} {l₂ : List β}, Paired F l₁ l₂ → l₁.length = l₂.length
  | _, _, .nil => rfl
  | _, _, .cons _ t => congrArg (· + 1) (Paired.len t)
theorem pars_next {ps : List Part} {i : Nat} {p : Part} (h : ps[i]? = some p) : parsOf (ps.take (i + 1)) = parsOf (ps.take i) ++ (parNo p).toList := by
  unfold parsOf
  rw [take_next h, List.filterMap_append]
  congr 1
section
variable {P : Program} {w : World} {K : PySem.W.Frag} {mg : Str → Option Value} {base : Heap} {C : Addr}
theorem ok_parameters (T : Txt K mg) : Pr P w K mg base CX0 2 "parameters" ["parts"] (sp_parameters K) := by
  refine pr0 T.d_parameters sc_parameters (fun vs H Q E h => ?_) (fun f cdv A outer s H vs Q E hr h => ?_)
  · obtain ⟨a, xs, ps, rfl, _⟩ := h; rfl
  · obtain ⟨a, xs, ps, rfl, sq, small, hp, q⟩ := h
    have G1 := ok_is_parameter (P := P) (w := w) (base := base) T
    have len := Paired.len hp
    -- one turn
    have turn : ∀ (i : Nat) (x : V) (H1 H' : Hp) (R : V → Hp → Prop) (Nn : Hp → Prop), i < xs.length → Same H H1 → YAt xs i H1 x H' → (∀ z H4, Same H1 H4 → (parsOf (ps.take (i + 1))).map V.int = (parsOf (ps.take i)).map V.int ++ [z] → R z H4) → (∀ H4, Same H1 H4 → (parsOf (ps.take (i + 1))).map V.int = (parsOf (ps.take i)).map V.int → Nn H4) →
        gName 1 x (wipe (L2.start ["parts", "part"] [V.ref a]) [1]) H' fun σ2 H2 => wipe σ2 [1] = wipe (L2.start ["parts", "part"] [V.ref a]) [1] ∧ (tB (tCall sp_is_parameter [] E0 (tCons (tVar 1) tNil))) σ2 H2 fun b H3 => if b = true then (tOp (rIx K) (tVar 1) (tC (.int 1))) σ2 H3 R else Nn H3 := by
      rintro i x H1 H' R Nn hi sm ⟨rfl, gx⟩ kR kN
      obtain ⟨p, gp, isp⟩ := Paired.at hp gx
      have isp1 := isp.same sm
      refine ⟨rfl, _, rfl, x, p, rfl, isp1, fun H4 s4 => ⟨_, rfl, ?_⟩⟩
      have nx := pars_next gp
      cases p with
      | name l => exact iteF (kN _ s4 (by rw [nx]; simp [parNo]))
      | num n => exact iteF (kN _ s4 (by rw [nx]; simp [parNo]))
      | text l => exact iteF (kN _ s4 (by rw [nx]; simp [parNo]))
      | par n =>
        obtain ⟨b, rfl, h⟩ := isp1
        have k := kR (.int n) _ s4 (by rw [nx]; simp [parNo])
        rcases h with h | h
        · exact iteT ⟨_, rfl, .inr (.inl ⟨b, _, 1, _, rfl, rfl, SqT.of (s4 _ _ h), rfl, k⟩)⟩
        · exact iteT ⟨_, rfl, .inl ⟨b, _, 1, _, rfl, rfl, SqL.of (s4 _ _ h), rfl, k⟩⟩
    have fin : ∀ (H1 : Hp) (D : Addr), Same H H1 → H D = none → H1 D = some (.lst ((parsOf (ps.take xs.length)).map V.int)) → rMaxD K [.ref D] [.int 0] H1 Q := fun H1 D sm _ e => by
      rw [List.take_of_length_le (by omega)] at e
      refine ⟨D, parsOf ps, 0, rfl, rfl, .inl (.inl e), vto (q _ sm) ?_⟩
      unfold mostOf
      cases parsOf ps <;> rfl
    have sizes : ∀ i, i < xs.length → ((parsOf (ps.take i)).map V.int).length < sizeLine := fun i hi => by
      have z : (parsOf (ps.take i)).length ≤ (ps.take i).length := List.length_filterMap_le _ _
      rw [List.length_take] at z
      rw [List.length_map, sizeLine_eq]; omega
    rcases sq with sq | sq
    · refine ⟨_, (pss_one (ps_ret (pe_callBK (cr_maxD rfl) (by rfl) T.n_max boot_max (pa_cons (pe_lc (own := [("part", 1)]) (g := gName 1) (te := tOp (rIx K) (tVar 1) (tC (.int 1))) rfl sc_parameters.nd (pi_tup (pv 0)) (blkOk_by (N := ["parts", "part"]) (sc := defScope s_parameters) (by decide +kernel))
          (fun _ _ _ _ _ => pg_name (i := 1) sc_parameters.nd rfl (.inl rfl)) (fun _ _ _ _ _ => pts_one (pt_val (pe_k G1 hr (by decide) pass0 (by rfl) (pa_cons (pv 1) pa_nil))))
          (fun _ _ _ _ _ => pe_ix ix_seq (pv 1) pe_int (fun _ _ => rfl))) pa_nil) (pk_cons pe_int pk_nil)))), ?_⟩
      exact ⟨_, rfl, a, rfl, ⟨_, sq⟩, lc_acc walk_tup (fun i => (parsOf (ps.take i)).map V.int) (by simp [parsOf]) sizes (fun H1 sm => Same.tup sm sq) turn fin⟩
    · refine ⟨_, (pss_one (ps_ret (pe_callBK (cr_maxD rfl) (by rfl) T.n_max boot_max (pa_cons (pe_lc (own := [("part", 1)]) (g := gName 1) (te := tOp (rIx K) (tVar 1) (tC (.int 1))) rfl sc_parameters.nd (pi_list (pv 0)) (blkOk_by (N := ["parts", "part"]) (sc := defScope s_parameters) (by decide +kernel))
          (fun _ _ _ _ _ => pg_name (i := 1) sc_parameters.nd rfl (.inl rfl)) (fun _ _ _ _ _ => pts_one (pt_val (pe_k G1 hr (by decide) pass0 (by rfl) (pa_cons (pv 1) pa_nil))))
          (fun _ _ _ _ _ => pe_ix ix_seq (pv 1) pe_int (fun _ _ => rfl))) pa_nil) (pk_cons pe_int pk_nil)))), ?_⟩
      exact ⟨_, rfl, a, rfl, ⟨_, sq⟩, lc_acc walk_list (fun i => (parsOf (ps.take i)).map V.int) (by simp [parsOf]) sizes (fun H1 sm => sm.seq sq) turn fin⟩
def sp_find_form (C : Addr) : Sp := fun vs H Q E => ∃ (wd : Str) (n : Nat), vs = [.str wd, .int (n : Int)] ∧ (∀ f, formOf wd n = some f → ∀ H', Same H H' → Q (.str f) H') ∧ (formOf wd n = none → ∀ H', Same H H' → E (.ref C) none H')
theorem forms_len : ∀ (k : Str) (fs : List Str), formsOf k = some fs → ∀ f ∈ fs, f.length ≤ 3 := by
  intro k fs h f hf
  have z : ∀ (t : List (Str × List Str)), (∀ p ∈ t, ∀ f ∈ p.2, f.length ≤ 3) → t.lookup k = some fs → f.length ≤ 3 := by
    intro t
    induction t with
    | nil => intro _ q; cases q
    | cons p t ih =>
      intro hp q
      rw [List.lookup_cons] at q
      cases c : k == p.1 with
      | true => rw [c] at q; obtain rfl := Option.some.inj q; exact hp p (List.mem_cons_self ..) f hf
      | false => rw [c] at q; exact ih (fun p' m => hp p' (List.mem_cons_of_mem _ m)) q
  exact z formTable (by decide +kernel) h
theorem ok_find_form (T : Txt K mg) (B : Tab K w mg) (U : ErrC K mg "Unreadable" C) : Pr P w K mg base (L2N.CX P w) 1 "find_form" ["word", "many"] (sp_find_form C) := by
  refine prN T.d_find_form sc_find_form (fun vs H Q E h => ?_) (fun f cdv A outer s H vs Q E hr h => ?_)
  · obtain ⟨wd, n, rfl, _⟩ := h; rfl
  · obtain ⟨wd, n, rfl, q, e⟩ := h
    obtain ⟨n1, n2, bm, xb, xi⟩ := U.ex
    obtain ⟨d, es, nd, gF, D, tab⟩ := B.forms
    refine ⟨_, pss_cons (ps_for (passes_of rfl) rfl (pi_tup (pe_kget2 D (C8.pe_gc (by rfl) gF) (pv 0) (pe_tup pa_nil) ⟨rfl, rfl, rfl, rfl⟩)) (pg_name (i := 2) sc_find_form.nd rfl (.inl rfl))
        (pss_one (ps_if (pt_cmpR op_eq (pe_callB call_len_str (by rfl) T.n_len PySem.boot_len (pa_cons (pv 2) pa_nil)) (pv 1) (nomark _)) (pss_one (ps_ret (pv 2))) pss_nil)))
      (pss_one (L2N.ps_raise rfl (L2N.takes_of rfl rfl rfl rfl) (L2N.pmk_own xb xi U.g U.kp (raises_own U.sb U.ty) (by rfl)))), ?_⟩
    refine ⟨rfl, _, rfl, Nat.zero_le _, fun p np => ⟨wd, rfl, fun u0 h0 => ?_, fun h0 => ?_⟩⟩
    · cases hf : formsOf wd with
      | none => rw [(tab wd).1 hf] at h0; cases h0
      | some fs =>
        obtain ⟨a, ea, sq⟩ := (tab wd).2 fs hf
        have eu : u0 = .ref a := Option.some.inj (h0.symm.trans ea)
        subst eu
        have small := forms_len wd fs hf
        have efo : formOf wd n = fs.find? (fun f => f.length == n) := by unfold formOf; rw [hf]; rfl
        refine ⟨.ref a, rfl, a, rfl, ⟨_, sq _⟩, for_it walk_tup (fun i σ H' => ∃ y, σ = [some (.str wd), some (.int (n : Int)), y] ∧ Same H H' ∧ (fs.drop i).find? (fun f => f.length == n) = fs.find? (fun f => f.length == n))
          ⟨none, rfl, same_upd np, rfl⟩ (fun i σ H' _ z => sq _) ?_ ?_⟩
        · rintro i x σ H1 H2 hi ⟨y, rfl, sm, inv⟩ ⟨rfl, gx⟩
          rw [List.length_map] at hi
          have gf : fs[i]? = some fs[i] := List.getElem?_eq_getElem hi
          have ex : x = .str fs[i] := by rw [List.getElem?_map, gf] at gx; exact (Option.some.inj gx).symm
          subst ex
          have le3 := small _ (List.getElem_mem hi)
          rw [List.drop_eq_getElem_cons hi] at inv
          refine ⟨_, rfl, fs[i], rfl, by rw [sizeLine_eq]; omega, _, rfl, rfl, _, rfl, ite2 (fun h1 => ?_) (fun h1 => ?_)⟩
          · have h1 : (fs[i].length : Int) = (n : Int) := V.int.inj (of_decide_eq_true h1)
            refine ⟨_, rfl, q _ ?_ _ sm⟩
            rw [efo, ← inv, List.find?_cons_of_pos (by simp; omega)]
          · have h1 : ¬ (fs[i].length : Int) = (n : Int) := fun z => h1 (decide_eq_true (by rw [z]))
            refine ⟨_, rfl, sm, ?_⟩
            rw [← inv, List.find?_cons_of_neg (by simp; omega)]
        · rintro σ H1 ⟨y, rfl, sm, inv⟩
          refine e ?_ _ sm
          rw [efo, ← inv, List.drop_eq_nil_of_le (by simp)]; rfl
    · cases hf : formsOf wd with
      | some fs => obtain ⟨a, ea, sq⟩ := (tab wd).2 fs hf; rw [ea] at h0; cases h0
      | none =>
        refine ⟨p, rfl, ⟨[], SqT.of upd_same⟩, for_it walk_tup (fun i σ H' => i = 0 ∧ H' = upd H p (.tup [])) ⟨rfl, rfl⟩ (fun i σ H' _ z => SqT.of (by rw [z.2]; exact upd_same)) (fun i x σ H1 H2 hi _ _ => absurd hi (Nat.not_lt_zero _)) ?_⟩
        rintro σ H1 ⟨_, rfl⟩
        refine e ?_ _ (same_upd np)
        unfold formOf; rw [hf]; rfl
end
end K02
end
section
namespace K02
open PySem PySem.Spec PyProof.Rows L2 Tl Mx SX
def sp_parse_part (C : Addr) : Sp := fun vs H Q E => ∃ (c : Nat) (l : List Nat), vs = [.str ⟨#[c]⟩, .str (S l)] ∧ l.length ≤ 200 ∧ (∀ x ∈ l, x < 128) ∧ (∀ p, partOf c l = some p → ∀ H' v, Same H H' → IsP H' v p → Q v H') ∧ (partOf c l = none → ∀ H', Same H H' → E (.ref C) none H')
theorem sbeq (a b : List Nat) : (S a == S b) = decide (a = b) := S_beq_eq
section
variable {P : Program} {w : World} {K : PySem.W.Frag} {mg : Str → Option Value} {base : Heap} {C : Addr}
theorem ok_parse_part (T : Txt K mg) (B : Tab K w mg) (U : ErrC K mg "Unreadable" C) : Pr P w K mg base (L2N.CX P w) 5 "parse_part" ["letter", "piece"] (sp_parse_part C) := by
  refine prN T.d_parse_part sc_parse_part (fun vs H Q E h => ?_) (fun f cdv A outer s H vs Q E hr h => ?_)
  · obtain ⟨c, l, rfl, _⟩ := h; rfl
  · obtain ⟨c, l, rfl, hl, h128, q, e⟩ := h
    have G1 := ok_parse_name (P := P) (w := w) (base := base) T U
    have G2 := ok_parse_text (P := P) (w := w) (base := base) T U
    have G3 := ok_parse_number (P := P) (w := w) (base := base) T U
    obtain ⟨aP, gP, sqP⟩ := B.pars
    refine ⟨_, pss_cons (ps_if (pt_cmpR op_in_sign (pv 0) pe_str (by rfl)) (pss_one (ps_ret (pe_k G1 hr (by decide) (L2N.passes_call (L2N.takes_of rfl rfl rfl rfl) (fun _ _ _ _ h => h)) (by rfl) (pa_cons (pv 1) pa_nil)))) pss_nil)
      (pss_cons (ps_if (pt_val (pe_bm PySem.F.plainAttrs_str PySem.F.slot_str_startswith PySem.F.type_str_startswith mt_startswith (pv 1) (pa_cons pe_str pa_nil))) (pss_one (ps_ret (pe_k G2 hr (by decide) (L2N.passes_call (L2N.takes_of rfl rfl rfl rfl) (fun _ _ _ _ h => h)) (by rfl) (pa_cons (pv 1) pa_nil)))) pss_nil)
      (pss_cons (ps_if (pt_cmpR op_in_seq (pv 1) (C8.pe_gc (by rfl) gP) (by rfl)) (pss_one (ps_ret (pe_tup (pa_cons pe_str (pa_cons (pe_callTy call_int_str (by rfl) T.n_int boot_int (pa_cons (pe_slice sl_str (pv 1) (po_some pe_int) po_none) pa_nil)) pa_nil))))) pss_nil)
      (pss_one (ps_ret (pe_k G3 hr (by decide) (L2N.passes_call (L2N.takes_of rfl rfl rfl rfl) (fun _ _ _ _ h => h)) (by rfl) (pa_cons (pv 1) pa_nil)))))), ?_⟩
    refine ⟨_, rfl, c, _, rfl, rfl, _, rfl, ite2 (fun h1 => ?_) (fun h1 => ?_)⟩
    · have h1 : c = 84 ∨ c = 78 := by
        have z : c ∈ [84, 78] := of_decide_eq_true h1
        simpa using z
      have ep : partOf c l = if nameM l = true then some (.name l) else none := by unfold partOf; rw [if_pos h1]
      refine ⟨_, rfl, l, rfl, hl, fun hn H' sm => q (.name l) (by rw [ep, if_pos hn]) H' _ sm rfl, fun hn H' sm => e (by rw [ep, if_neg (by rw [hn]; exact Bool.false_ne_true)]) H' sm⟩
    · have h1 : ¬ (c = 84 ∨ c = 78) := fun z => h1 (decide_eq_true (show c ∈ [84, 78] by simpa using z))
      have ep : partOf c l = termOf l := by unfold partOf; rw [if_neg h1]
      rw [ep] at q e
      refine ⟨_, rfl, rfl, _, S [39], rfl, rfl, ?_⟩
      rw [starts]
      refine ⟨_, rfl, ite2 (fun h2 => ?_) (fun h2 => ?_)⟩
      · have h2 : l.head? = some 39 := of_decide_eq_true h2
        have et : termOf l = (textOf l).map .text := by unfold termOf; rw [if_pos h2]
        refine ⟨_, rfl, l, rfl, hl, fun z hz H' a sm na ha => q (.text z) (by rw [et, hz]; rfl) H' _ sm ⟨a, rfl, ha⟩, fun hz H' sm => e (by rw [et, hz]; rfl) H' sm⟩
      · have h2 : ¬ l.head? = some 39 := fun z => h2 (decide_eq_true z)
        refine ⟨_, rfl, aP, _, rfl, .inr (sqP _), rfl, rfl, ?_⟩
        have ein : inV (.str (S l)) [.str "$1", .str "$2", .str "$3", .str "$4"] = (parOf l).isSome := by
          unfold inV parOf
          show ((S [36, 49] == S l) || ((S [36, 50] == S l) || ((S [36, 51] == S l) || ((S [36, 52] == S l) || false)))) = _
          rw [sbeq, sbeq, sbeq, sbeq]
          by_cases a1 : l = [36, 49]
          · subst a1; rfl
          · by_cases a2 : l = [36, 50]
            · subst a2; rfl
            · by_cases a3 : l = [36, 51]
              · subst a3; rfl
              · by_cases a4 : l = [36, 52]
                · subst a4; rfl
                · rw [if_neg a1, if_neg a2, if_neg a3, if_neg a4, decide_eq_false (Ne.symm a1), decide_eq_false (Ne.symm a2), decide_eq_false (Ne.symm a3), decide_eq_false (Ne.symm a4)]; rfl
        rw [show (if false then !inV (V.str (S l)) [.str "$1", .str "$2", .str "$3", .str "$4"] else inV (V.str (S l)) [.str "$1", .str "$2", .str "$3", .str "$4"]) = (parOf l).isSome from ein]
        cases hp : parOf l with
        | some n =>
          have et : termOf l = some (.par n) := by unfold termOf; rw [if_neg h2, hp]
          refine ⟨_, rfl, iteT ?_⟩
          refine ⟨_, rfl, _, rfl, S l, rfl, by rw [S_len]; exact small200 hl, ?_⟩
          rw [cutOne]
          have ei : intText? (S (l.drop 1)) = some n ∧ (S (l.drop 1)).length ≤ 640 := by
            unfold parOf at hp
            by_cases a1 : l = [36, 49]
            · subst a1; obtain rfl : (1 : Int) = n := Option.some.inj hp; decide +kernel
            · by_cases a2 : l = [36, 50]
              · subst a2; obtain rfl : (2 : Int) = n := Option.some.inj hp; decide +kernel
              · by_cases a3 : l = [36, 51]
                · subst a3; obtain rfl : (3 : Int) = n := Option.some.inj hp; decide +kernel
                · by_cases a4 : l = [36, 52]
                  · subst a4; obtain rfl : (4 : Int) = n := Option.some.inj hp; decide +kernel
                  · rw [if_neg a1, if_neg a2, if_neg a3, if_neg a4] at hp; cases hp
          refine ⟨_, n, rfl, ei.1, ei.2, (by show 2 ≤ sizeLine; decide), fun p np => q (.par n) et _ _ (same_upd np) ⟨p, rfl, upd_same⟩⟩
        | none =>
          have et : termOf l = (Mx.numOf l).map .num := by unfold termOf; rw [if_neg h2, hp]
          refine ⟨_, rfl, iteF ⟨_, rfl, l, rfl, hl, h128, fun n hn H' sm => q (.num n) (by rw [et, hn]; rfl) H' _ sm rfl, fun hn H' sm => e (by rw [et, hn]; rfl) H' sm⟩⟩
end
end K02
end
section
namespace K02
open PySem PySem.Spec PyProof.Rows L2 Tl Mx SX
theorem hu65 {k : Nat} {A : Around} (hr : Room k A) : A.units + 65 < cLine := by have := hr.un; omega
theorem split_sgn (l : List Nat) (hl : ∀ c ∈ l, c < 128) : ∀ st : List (List Nat) × Bool, (∀ p ∈ st.1, ∀ c ∈ p, c < 128) → ∀ p ∈ (l.foldl splitStep st).1, ∀ c ∈ p, c < 128 := by
  induction l with
  | nil => intro st h; exact h
  | cons c l ih =>
    intro st h
    rw [List.foldl_cons]
    refine ih (fun x hx => hl x (List.mem_cons_of_mem _ hx)) _ ?_
    intro p hp x hx
    rcases step_cases st c with e | e
    · rw [e] at hp
      rcases List.mem_append.mp hp with hp | hp
      · exact h p hp x hx
      · rw [List.mem_singleton.mp hp] at hx; cases hx
    · rw [e] at hp
      rcases List.mem_append.mp hp with hp | hp
      · exact h p (List.dropLast_subset _ hp) x hx
      · rw [List.mem_singleton.mp hp] at hx
        rcases List.mem_append.mp hx with hx | hx
        · cases e3 : st.1.getLast? with
          | none => rw [List.getLastD_eq_getLast?, e3] at hx; cases hx
          | some z => rw [List.getLastD_eq_getLast?, e3] at hx; exact h z (List.mem_of_getLast? e3) x hx
        · rw [List.mem_singleton.mp hx]; exact hl c (List.mem_cons_self ..)
theorem areQ {H : Hp} : ∀ {vs : List V} {ps : List Part}, ArePs H vs ps → Paired (IsQ H) vs ps
  | _, _, .nil => .nil
  | _, _, .cons h t => .cons (IsQ.of h) (areQ t)
theorem partsOf_snoc : ∀ {cs : List Nat} {ls : List (List Nat)} {i : Nat} {qs : List Part} {c : Nat} {l : List Nat} {p : Part}, partsOf (cs.take i) (ls.take i) = some qs → cs[i]? = some c → ls[i]? = some l → partOf c l = some p →
    partsOf (cs.take (i + 1)) (ls.take (i + 1)) = some (qs ++ [p])
  | [], _, _, _, _, _, _, _, h, _, _ => by simp at h
  | _ :: _, [], _, _, _, _, _, _, _, h, _ => by simp at h
  | c0 :: cs, l0 :: ls, 0, qs, c, l, p, h, h1, h2, h3 => by
    have e1 : c0 = c := by simpa using h1
    have e2 : l0 = l := by simpa using h2
    subst e1 e2
    have e3 : qs = [] := (Option.some.inj h).symm
    subst e3
    simp [partsOf, h3]
  | c0 :: cs, l0 :: ls, i + 1, qs, c, l, p, h, h1, h2, h3 => by
    rw [List.take_succ_cons, List.take_succ_cons] at h ⊢
    unfold partsOf at h ⊢
    cases e : partOf c0 l0 with
    | none => rw [e] at h; cases h
    | some p0 =>
      rw [e] at h
      dsimp only at h ⊢
      cases e2 : partsOf (cs.take i) (ls.take i) with
      | none => rw [e2] at h; cases h
      | some ps0 =>
        rw [e2] at h
        have e3 : qs = p0 :: ps0 := (Option.some.inj h).symm
        rw [partsOf_snoc e2 (by simpa using h1) (by simpa using h2) h3, e3]
        rfl
theorem partsOf_bad : ∀ {cs : List Nat} {ls : List (List Nat)} {i : Nat} {c : Nat} {l : List Nat}, cs[i]? = some c → ls[i]? = some l → partOf c l = none → partsOf cs ls = none
  | [], _, _, _, _, h, _, _ => by simp at h
  | _ :: _, [], _, _, _, _, h, _ => by simp at h
  | c0 :: cs, l0 :: ls, 0, c, l, h1, h2, h3 => by
    have e1 : c0 = c := by simpa using h1
    have e2 : l0 = l := by simpa using h2
    subst e1 e2
    unfold partsOf
    rw [h3]
  | c0 :: cs, l0 :: ls, i + 1, c, l, h1, h2, h3 => by
    unfold partsOf
    rw [partsOf_bad (i := i) (by simpa using h1) (by simpa using h2) h3]
    cases partOf c0 l0 <;> rfl
theorem any_par_iff {w : List Nat} {ps : List Part} {n : Int} : (((Part.name w :: ps).map dataP).any fun z => PyData.eqv z (dataP (.par n))) = decide (Part.par n ∈ ps) := by
  have one : ∀ p : Part, PyData.eqv (dataP p) (dataP (.par n)) = decide (p = .par n) := fun p => by
    cases p with
    | name l => simp [dataP, PyData.eqv]
    | num m => simp [dataP, PyData.eqv]
    | text l =>
      rw [decide_eq_false (by simp)]
      show PyData.eqv (.tuple [.str "text", .str (S l)]) (.tuple [.str "parameter", .int n]) = false
      simp only [PyData.eqv, PyData.eqvAll]
      rfl
    | par m =>
      simp [dataP, PyData.eqv, PyData.eqvAll]
      rfl
  have all : ∀ qs : List Part, ((qs.map dataP).any fun z => PyData.eqv z (dataP (.par n))) = decide (Part.par n ∈ qs) := fun qs => by
    induction qs with
    | nil => rfl
    | cons q qs ih =>
      rw [List.map_cons, List.any_cons, one, ih, Bool.eq_iff_iff]
      simp only [Bool.or_eq_true, decide_eq_true_eq, List.mem_cons]
      exact ⟨fun z => z.imp Eq.symm id, fun z => z.imp Eq.symm id⟩
  rw [all, Bool.eq_iff_iff]
  simp
/-- any string: its parts, or Unreadable; and what is no string -/
def sp_parse (C : Addr) : Sp := fun vs H Q E => (∃ l : List Nat, vs = [.str (S l)] ∧ l.length ≤ 10000 ∧ (∀ (wd : Str) (ps : List Part), stmtM l = some (wd, ps) → ∀ H' a xs, Same H H' → H a = none → H' a = some (.tup (.str wd :: xs)) → ArePs H' xs ps → xs.length ≤ 300 → Q (.ref a) H') ∧
    (stmtM l = none → ∀ H', Same H H' → E (.ref C) none H')) ∨ (∃ v, vs = [v] ∧ (v = .non ∨ (∃ n, v = .int n) ∨ ∃ b, v = .bl b) ∧ E (.ref C) none H)
section
variable {P : Program} {w : World} {K : PySem.W.Frag} {mg : Str → Option Value} {base : Heap} {C : Addr}
theorem ok_parse_statement (T : Txt K mg) (B : Tab K w mg) (U : ErrC K mg "Unreadable" C) : Pr P w K mg base (L2N.CX P w) 6 "parse_statement" ["string"] (sp_parse C) := by
  refine prN T.d_parse_statement sc_parse_statement (fun vs H Q E h => ?_) (fun f cdv A outer s H vs Q E hr h => ?_)
  · rcases h with ⟨l, rfl, _⟩ | ⟨v, rfl, _⟩ <;> rfl
  have G1 := ok_may_be_prepared (P := P) (w := w) (base := base) T
  have G2 := ok_split_pieces (P := P) (w := w) (base := base) T
  have G3 := ok_find_form (P := P) (w := w) (base := base) T B U
  have G4 := ok_parse_part (P := P) (w := w) (base := base) T B U
  have G5 := ok_parameters (P := P) (w := w) (base := base) T
  obtain ⟨n1, n2, bm, xb, xi⟩ := U.ex
  refine ⟨_, pss_cons (ps_if (PW.pt (pw_or (pt_not (pt_val (pe_callB call_isi (by rfl) T.n_isinstance boot_isinstance (pa_cons (pv 0) (pa_cons (pe_bltn (v := .ty "str") (by rfl) T.n_str boot_str rfl) pa_nil)))))
        (pw_or1 (pt_not (pt_val (pe_k G1 hr (by decide) pass0 (by rfl) (pa_cons (pv 0) pa_nil)))))))
      (pss_one (L2N.ps_raise rfl (L2N.takes_of rfl rfl rfl rfl) (L2N.pmk_own xb xi U.g U.kp (raises_own U.sb U.ty) (by rfl)))) pss_nil)
    (pss_cons (ps_asg (pe_k G2 hr (by decide) pass0 (by rfl) (pa_cons (pv 0) pa_nil)) (pg_starOne rfl (pgs_cons (pg_name (i := 1) sc_parse_statement.nd rfl (.inl rfl)) (pgs_star (pg_name (i := 2) sc_parse_statement.nd rfl (.inl rfl)) pgs_nil))))
    (pss_cons (ps_set (i := 3) sc_parse_statement.nd rfl (.inl rfl) (pe_k G3 hr (by decide) (L2N.passes_call (L2N.takes_of rfl rfl rfl rfl) (fun _ _ _ _ h => h)) (by rfl) (pa_cons (pv 1) (pa_cons (pe_callB call_len_seq (by rfl) T.n_len PySem.boot_len (pa_cons (pv 2) pa_nil)) pa_nil))))
    (pss_cons (ps_set (i := 4) sc_parse_statement.nd rfl (.inl rfl) (pe_tup (pa_cons (pv 1) (StX.pa_star
        (CqN.pe_lcX (E := E) (own := [("letter", 6), ("piece", 7)]) (g := gTup K 2 (gCons (gName 6) (gCons (gName 7) gNil))) (tt := tYes) (te := tCall (sp_parse_part C) [] E (tCons (tVar 6) (tCons (tVar 7) tNil))) ⟨rfl, rfl, rfl, ⟨_, rfl⟩⟩ rfl sc_parse_statement.nd
          (pi_zipS (by rfl) T.n_zip (pa_cons (pv 3) (pa_cons (pv 2) pa_nil))) (blkOk_by (N := ["string", "word", "pieces", "form", "parts", "n", "letter", "piece"]) (sc := defScope s_parse_statement) (by decide +kernel))
          (fun _ _ _ _ _ => pg_tup rfl (pgs_cons (pg_name (i := 6) sc_parse_statement.nd rfl (.inl rfl)) (pgs_cons (pg_name (i := 7) sc_parse_statement.nd rfl (.inl rfl)) pgs_nil))) (fun _ _ _ _ _ => pts_nil)
          (fun _ _ _ _ _ inX => pe_k G4 hr (by decide) (CqN.passes_blk ⟨rfl, rfl, rfl, ⟨_, rfl⟩⟩ inX) (by rfl) (pa_cons (pv 6) (pa_cons (pv 7) pa_nil)))) pa_nil))))
    (pss_cons (ps_for (passes_of rfl) rfl (pi_range2 (by rfl) T.n_range (pa_cons pe_int (pa_cons (pe_k G5 hr (by decide) pass0 (by rfl) (pa_cons (pv 4) pa_nil)) pa_nil))) (pg_name (i := 5) sc_parse_statement.nd rfl (.inl rfl))
        (pss_one (ps_if (pt_cmpR (op_notInT (hu65 hr)) (pe_tup (pa_cons pe_str (pa_cons (pv 5) pa_nil))) (pv 4) (by rfl))
          (pss_one (L2N.ps_raise rfl (L2N.takes_of rfl rfl rfl rfl) (pmk_ownN1 xb xi U.g U.kp (raises_own U.sb U.ty) (by rfl) (pe_joined (PJ.cons pe_str (PJ.cons (pe_fmt (pv 5)) (PJ.cons pe_str PJ.nil))))))) pss_nil)))
    (pss_one (ps_ret (pv 4))))))), ?_⟩
  rcases h with ⟨l, rfl, hl0, q, e⟩ | ⟨v, rfl, hv, e⟩
  rotate_left
  · -- what is no string
    rcases hv with rfl | ⟨n, rfl⟩ | ⟨b, rfl⟩
    · exact ⟨_, rfl, _, _, _, _, _, rfl, .ty _, .base .non, kit_ty (r := false) (by decide +kernel), _, rfl, iteT e⟩
    · exact ⟨_, rfl, _, _, _, _, _, rfl, .ty _, .base (.int _), kit_ty (r := false) (by decide +kernel), _, rfl, iteT e⟩
    · exact ⟨_, rfl, _, _, _, _, _, rfl, .ty _, .base (.bl _), kit_ty (r := false) (by decide +kernel), _, rfl, iteT e⟩
  have big : l.length ≤ sizeLine := by rw [sizeLine_eq]; omega
  refine ⟨_, rfl, _, _, _, _, _, rfl, .ty _, .base (.str _), kit_ty (r := true) (by decide +kernel), _, rfl, iteF ?_⟩
  refine ⟨_, rfl, l, rfl, big, fun H1 sm1 => ⟨_, rfl, ?_⟩⟩
  cases hp : (decide (l.length ≤ 200) && l.all sgn) with
  | false =>
    refine iteT (e ?_ _ sm1)
    unfold stmtM
    rw [if_neg fun z => by rw [z.2, decide_eq_true z.1] at hp; cases hp]
  | true =>
  obtain ⟨hl, hs⟩ : l.length ≤ 200 ∧ l.all sgn = true := by
    rw [Bool.and_eq_true] at hp
    exact ⟨of_decide_eq_true hp.1, hp.2⟩
  refine iteF ?_
  have est : stmtM l = match splitM l with
      | [] => none
      | w :: ls => match formOf (S w) ls.length with
        | none => none
        | some f => match partsOf f.cps.toList ls with
          | none => none
          | some ps => if full ps = true then some (S w, ps) else none := by unfold stmtM; rw [if_pos ⟨hl, hs⟩]; try rfl
  cases esp : splitM l with
  | nil => exact absurd esp (split_ne l ([[]], false) (by simp))
  | cons w0 ls =>
  rw [esp] at est
  dsimp only at est
  have lslen : ls.length ≤ 200 := by
    have := split_len l ([[]], false) (by simp)
    have e : (l.foldl splitStep ([[]], false)).1 = w0 :: ls := esp
    rw [e] at this
    simp at this
    omega
  have lsmall : ∀ p ∈ w0 :: ls, p.length ≤ 200 := fun p hp => by
    have := split_sum l ([[]], false) p (by rw [show (l.foldl splitStep ([[]], false)).1 = w0 :: ls from esp]; exact hp)
    simp at this
    omega
  have l128 : ∀ p ∈ w0 :: ls, ∀ c ∈ p, c < 128 := split_sgn l (sgn_lt hs) ([[]], false) (by simp) |> fun z => by
    rw [show (l.foldl splitStep ([[]], false)).1 = w0 :: ls from esp] at z; exact z
  -- word, *pieces = split_pieces(string)
  refine ⟨_, rfl, l, rfl, hl, fun H2 p2 sm2 np2 ep2 => ?_⟩
  rw [esp, List.map_cons] at ep2
  refine ⟨p2, _, _, rfl, SqL.of ep2, by rw [List.length_map]; omega, fun p3 np3 => ?_⟩
  have sm3 : Same H (upd H2 p3 (.lst (ls.map fun z => V.str (S z)))) := same_put (sm1.free (sm2.free np3)) (sm1.trans sm2)
  refine ⟨_, _, rfl, _, _, rfl, rfl, ?_⟩
  -- form = find_form(word, len(pieces))
  refine ⟨_, rfl, _, rfl, p3, _, rfl, .inl (SqL.of upd_same), S w0, (ls.map fun z => V.str (S z)).length, rfl, fun fo efo H4 sm4 => ?_, fun en H4 sm4 => e ?_ _ (sm3.trans sm4)⟩
  rotate_left
  · rw [List.length_map] at en
    rw [est, en]
  rw [List.length_map] at efo
  rw [efo] at est
  dsimp only at est
  have flen : fo.cps.toList.length = ls.length := by have := formOf_len efo; simpa [Str.length] using this
  have sq4 : SqL K H4 p3 (ls.map fun z => V.str (S z)) := SqL.of (sm4 _ _ upd_same)
  have sm04 : Same H H4 := sm3.trans sm4
  -- parts = (word, *[...])
  refine ⟨_, rfl, _, rfl, _, rfl, fo, p3, _, rfl, sq4, fun D nD => ?_⟩
  refine lc_it (Qd := fun H' => _) (walk_zs (n := ls.length) (ys := ls.map fun z => V.str (S z)) (by simpa using flen) (by rw [List.length_map])) (fun i H' => ∃ vs qs, Same H4 H' ∧ H' D = some (.lst vs) ∧ vs.length = i ∧ ArePs H' vs qs ∧ partsOf (fo.cps.toList.take i) (ls.take i) = some qs)
    ⟨[], [], same_upd nD, upd_same, rfl, .nil, rfl⟩ (fun i H' _ z => by obtain ⟨_, _, s, _⟩ := z; exact s.seq sq4) ?_ ?_
  · rintro i x H5 H6 hi ⟨vs, qs, sm5, eD, lv, pv5, eq5⟩ ⟨t, c, y, rfl, nt, rfl, gc, gy, sq5⟩
    have gl : ls[i]? = some ls[i] := List.getElem?_eq_getElem hi
    have ey : y = .str (S ls[i]) := by rw [List.getElem?_map, gl] at gy; exact (Option.some.inj gy).symm
    subst ey
    have gc' : fo.cps.toList[i]? = some c := by simpa using gc
    have mem : ls[i] ∈ w0 :: ls := List.mem_cons_of_mem _ (List.getElem_mem hi)
    refine ⟨t, _, rfl, SqT.of upd_same, rfl, _, _, rfl, _, _, rfl, rfl, rfl, ?_⟩
    unfold tYes
    refine iteT (A := tCall (sp_parse_part C) [] E (tCons (tVar 6) (tCons (tVar 7) tNil)) _ _ _) ?_
    refine ⟨_, rfl, _, rfl, c, ls[i], rfl, lsmall _ mem, l128 _ mem, fun p hp H7 v sm7 isv => ?_, fun hp H7 sm7 => e ?_ _ (sm04.trans (sm5.trans ((same_upd nt).trans sm7) |> fun z => z))⟩
    · have sm57 : Same H5 H7 := (same_upd nt).trans sm7
      have eD7 := sm57 _ _ eD
      exact ⟨vs, eD7, by rw [lv, sizeLine_eq]; omega, vs ++ [v], qs ++ [p], same_put nD (sm5.trans sm57), upd_same, by rw [List.length_append, lv]; rfl, ((pv5.same sm57).snoc isv).over (over_lst eD7), partsOf_snoc eq5 gc' gl hp⟩
    · rw [est, partsOf_bad gc' gl hp]
  · rintro H5 ⟨vs, ps', sm5, eD, lv, pv5, epa⟩
    rw [List.take_of_length_le (by omega), List.take_of_length_le (by omega)] at epa
    rw [epa] at est
    dsimp only at est
    have pok := partsOf_ok epa
    have sm05 : Same H H5 := sm04.trans sm5
    refine ⟨D, _, rfl, .inr (SqL.of eD), ?_⟩
    refine ⟨by show (_ :: (vs ++ [])).length ≤ sizeLine; rw [List.append_nil, List.length_cons, sizeLine_eq]; omega, fun p6 np6 => ?_⟩
    rw [List.append_nil]
    have n6 : H p6 = none := sm05.free np6
    obtain ⟨H6, e6⟩ : ∃ H6, H6 = upd H5 p6 (.tup (.str (S w0) :: vs)) := ⟨_, rfl⟩
    rw [← e6]
    have at6 : H6 p6 = some (.tup (.str (S w0) :: vs)) := by rw [e6]; exact upd_same
    have sm6 : Same H H6 := by rw [e6]; exact same_put n6 sm05
    have pv6 : ArePs H6 vs ps' := pv5.same (by rw [e6]; exact same_upd np6)
    have q6 : Paired (IsQ H6) (.str (S w0) :: vs) (.name w0 :: ps') := .cons rfl (areQ pv6)
    -- the parameters up to the greatest one
    refine ⟨_, rfl, p6, _, _, rfl, .inl (SqT.of at6), by rw [List.length_cons]; omega, q6, fun H7 sm7 => ?_⟩
    have em : mostOf (.name w0 :: ps') = mostOf ps' := rfl
    rw [em]
    obtain ⟨m1, m2⟩ := most_le pok
    refine ⟨1, mostOf ps', rfl, ⟨by decide, by decide, by omega, by omega⟩, ?_⟩
    have at7 : H7 p6 = some (.tup (.str (S w0) :: vs)) := sm7 _ _ at6
    refine for_it walk_range (fun i σ H' => ∃ y5, σ = [some (.str (S l)), some (.str (S w0)), some (.ref p3), some (.str fo), some (.ref p6), y5, none, none] ∧ Same H7 H' ∧ ∀ j, j < i → Part.par (1 + (j : Int)) ∈ ps') ⟨none, rfl, Same.refl _, fun j hj => absurd hj (Nat.not_lt_zero _)⟩ (fun _ _ _ _ _ => trivial) ?_ ?_
    · rintro i x σ H8 H9 hi ⟨y5, rfl, sm8, so⟩ ⟨rfl, rfl⟩
      refine ⟨_, rfl, (by show 2 ≤ sizeLine; decide), fun t nt => ⟨_, rfl, ?_⟩⟩
      have sm9 : Same H7 (upd H9 t (.tup [.str "parameter", .int (1 + (i : Int))])) := same_put (sm8.free nt) sm8
      have isn : IsP (upd H9 t (.tup [.str "parameter", .int (1 + (i : Int))])) (.ref t) (.par (1 + (i : Int))) := ⟨t, rfl, upd_same⟩
      have isw : IsP (upd H9 t (.tup [.str "parameter", .int (1 + (i : Int))])) (.str (S w0)) (.name w0) := rfl
      have i4 : (i : Int) < 3 := by
        have : i < (mostOf ps' - 1).toNat := hi
        omega
      have i3 : i = 0 ∨ i = 1 ∨ i = 2 := by omega
      refine ⟨dataP (.par (1 + (i : Int))), (Part.name w0 :: ps').map dataP, data_dp isn, .tup (SqT.of (sm9 _ _ at7)) (.cons (data_dp isw) (data_all (pv6.same (sm7.trans sm9)))), ?_, ?_, ?_⟩
      · refine shaped_P ?_
        show (decide (1 ≤ 1 + (i : Int)) && decide (1 + (i : Int) ≤ 4)) = true
        rw [decide_eq_true (by omega), decide_eq_true (by omega)]; rfl
      · exact shaped_word (l128 w0 (List.mem_cons_self ..)) pok
      · rw [any_par_iff]
        refine ⟨_, rfl, ?_⟩
        by_cases inn : Part.par (1 + (i : Int)) ∈ ps'
        · rw [decide_eq_true inn]
          refine iteF ⟨_, rfl, sm9, fun j hj => ?_⟩
          rcases Nat.lt_succ_iff_lt_or_eq.mp hj with hj | rfl
          · exact so j hj
          · exact inn
        · rw [decide_eq_false inn]
          refine iteT ⟨_, rfl, (by show _ ≤ sizeLine; rw [sizeLine_eq]; decide), ?_⟩
          refine ⟨_, rfl, .inr ⟨_, rfl, ?_, _, rfl, ?_, _, rfl, ?_, e ?_ _ (sm6.trans (sm7.trans sm9))⟩⟩
          · show (1 + (i : Int)).natAbs.log2 < 1920
            rcases i3 with rfl | rfl | rfl <;> decide +kernel
          · rcases i3 with rfl | rfl | rfl <;> decide +kernel
          · rcases i3 with rfl | rfl | rfl <;> decide +kernel
          · rw [est, if_neg]
            intro hf
            unfold full at hf
            exact inn (of_decide_eq_true (List.all_eq_true.mp hf i (List.mem_range.mpr hi)))
    · rintro σ H8 ⟨y5, rfl, sm8, so⟩
      have s8 := sm7.trans sm8
      have hfull : full ps' = true := by
        unfold full
        rw [List.all_eq_true]
        exact fun j hj => decide_eq_true (so j (List.mem_range.mp hj))
      rw [if_pos hfull] at est
      exact ⟨_, rfl, q _ _ est H8 p6 vs (sm6.trans s8) n6 (s8 _ _ at6) (pv6.same s8) (by omega)⟩
end
end K02
end
section
namespace K02
open PySem PySem.Spec PyProof.Rows L2 Tl Mx SX
def sp_cell (K : PySem.W.Frag) : Sp := fun vs H Q _ => ∃ (a : Addr) (ns : List Int) (k : Nat), vs = [.ref a, .int (k : Int)] ∧ SqL K H a (ns.map V.int) ∧ ∀ n, Q (.int n) H
def sp_row : Sp := fun vs H Q _ => ∃ (n : Int) (m : Nat), vs = [.int n, .int (m : Int)] ∧ m ≤ 400 ∧ ∀ H' p (xs : List Int), Same H H' → H p = none → H' p = some (.lst (xs.map V.int)) → xs.length = m → (∀ x ∈ xs, (0 : Int) ≤ x ∧ x < 840) → Q (.ref p) H'
section
variable {P : Program} {w : World} {K : PySem.W.Frag} {mg : Str → Option Value} {base : Heap} {C : Addr}
theorem ok_cell (T : Txt K mg) : Pr P w K mg base CX0 1 "_law_cell" ["script", "k"] (sp_cell K) := by
  refine pr0 T.d_law_cell sc_law_cell (fun vs H Q E h => ?_) (fun f cdv A outer s H vs Q E hr h => ?_)
  · obtain ⟨a, ns, k, rfl, _⟩ := h; rfl
  · obtain ⟨a, ns, k, rfl, sq, q⟩ := h
    refine ⟨_, pss_cons (ps_if (pt_cmpR op_lt (pv 1) (pe_callB call_len_seq (by rfl) T.n_len PySem.boot_len (pa_cons (pv 0) pa_nil)) (nomark _)) (pss_one (ps_ret (pe_ix ix_list (pv 0) (pv 1) (fun _ _ => rfl)))) pss_nil)
      (pss_one (ps_ret pe_int)), ?_⟩
    refine ⟨_, rfl, _, rfl, a, _, rfl, .inl sq, _, _, rfl, rfl, _, rfl, ite2 (fun h1 => ?_) (fun h1 => ?_)⟩
    · have h1 : (k : Int) < ((ns.map V.int).length : Int) := of_decide_eq_true h1
      rw [List.length_map] at h1
      have lt : k < ns.length := by omega
      exact ⟨_, rfl, _, rfl, a, _, _, .int ns[k], rfl, rfl, sq, atI_nat (by rw [List.getElem?_map, List.getElem?_eq_getElem lt]; rfl), q _⟩
    · exact q 0
theorem ok_row (T : Txt K mg) : Pr P w K mg base CX0 1 "_law_row" ["cell", "count"] sp_row := by
  refine pr0 T.d_law_row sc_law_row (fun vs H Q E h => ?_) (fun f cdv A outer s H vs Q E hr h => ?_)
  · obtain ⟨n, m, rfl, _⟩ := h; rfl
  · obtain ⟨n, m, rfl, hm, q⟩ := h
    refine ⟨_, pss_cons (ps_set (i := 2) sc_law_row.nd rfl (.inl rfl) (pe_lst pa_nil))
      (pss_cons (ps_set (i := 3) sc_law_row.nd rfl (.inl rfl) (pv 0))
      (pss_cons (ps_set (i := 4) sc_law_row.nd rfl (.inl rfl) (pe_op op_add (pe_op op_mod (pe_callTy call_int1 (by rfl) T.n_int boot_int (pa_cons (pv 0) pa_nil)) pe_int) pe_int))
      (pss_cons (ps_for PassesOwn.never rfl (pi_range1 (by rfl) T.n_range (pa_cons (pv 1) pa_nil)) (pg_name (i := 5) sc_law_row.nd rfl (.inl rfl))
        (pss_one (ps_if (pt_cmpR op_ge (pv 0) (pe_op op_pow pe_int pe_int) (nomark _))
          (pss_cons (ps_expr (pe_bm PySem.F.plainAttrs_list PySem.F.slot_list_append PySem.F.type_list_append mt_append (pv 2) (pa_cons (pe_op op_mod (pe_callTy call_int1 (by rfl) T.n_int boot_int (pa_cons (pv 3) pa_nil)) pe_int) pa_nil)))
          (pss_one (ps_set (i := 3) sc_law_row.nd rfl (.inl rfl) (pe_op op_fdiv (pv 3) pe_int))))
          (pss_cons (ps_set (i := 4) sc_law_row.nd rfl (.inl rfl) (pe_op op_mod (pe_callTy call_int1 (by rfl) T.n_int boot_int (pa_cons (pe_op op_add (pe_op op_mul (pv 4) pe_int) (pv 5)) pa_nil)) pe_int))
          (pss_one (ps_expr (pe_bm PySem.F.plainAttrs_list PySem.F.slot_list_append PySem.F.type_list_append mt_append (pv 2) (pa_cons (pe_op op_mod (pe_op op_fdiv (pe_op op_mod (pe_callTy call_int1 (by rfl) T.n_int boot_int (pa_cons (pe_op op_mul (pv 4) pe_int) pa_nil)) pe_int) pe_int) pe_int) pa_nil))))))))
      (pss_one (ps_ret (pv 2)))))), ?_⟩
    refine ⟨Nat.zero_le _, fun p np => ?_⟩
    refine ⟨_, rfl, ?_⟩
    refine ⟨_, rfl, .inl ⟨_, rfl, _, _, rfl, rfl, (by show (0 : Int) < _; decide), _, _, rfl, rfl, ?_⟩⟩
    refine ⟨_, rfl, (m : Int), rfl, by omega, by omega, for_it walk_range (fun i σ H' => ∃ (r sd : Int) (y : Option V) (xs : List Int), σ = [some (.int n), some (.int (m : Int)), some (.ref p), some (.int r), some (.int sd), y] ∧ Same H H' ∧ H' p = some (.lst (xs.map V.int)) ∧ xs.length = i ∧ (∀ x ∈ xs, (0 : Int) ≤ x ∧ x < 840) ∧ i ≤ m)
      ⟨n, _, none, [], rfl, same_upd np, upd_same, rfl, (fun _ h => nomatch h), Nat.zero_le _⟩ (fun _ _ _ _ _ => trivial) ?_ ?_⟩
    · rintro i x σ H1 H2 hi ⟨r, sd, y, xs, rfl, sm, ep, lx, bx, le⟩ ⟨rfl, rfl⟩
      have md : ∀ z : Int, (0 : Int) ≤ z % 840 ∧ z % 840 < 840 := fun z => ⟨Int.emod_nonneg _ (by decide), Int.emod_lt_of_pos _ (by decide)⟩
      have step : ∀ (z r' sd' : Int) (y' : Option V), ∃ (r sd : Int) (y : Option V) (xs' : List Int), [some (.int n), some (.int (m : Int)), some (.ref p), some (V.int r'), some (V.int sd'), y'] = [some (.int n), some (.int (m : Int)), some (.ref p), some (.int r), some (.int sd), y] ∧ Same H (upd H2 p (.lst (xs.map V.int ++ [.int (z % 840)]))) ∧
          (upd H2 p (.lst (xs.map V.int ++ [.int (z % 840)]))) p = some (.lst (xs'.map V.int)) ∧ xs'.length = i + 1 ∧ (∀ x ∈ xs', (0 : Int) ≤ x ∧ x < 840) ∧ i + 1 ≤ m := fun z r' sd' y' =>
        ⟨r', sd', y', xs ++ [z % 840], rfl, same_put np sm, by rw [upd_same, List.map_append]; rfl, by rw [List.length_append, lx]; rfl, fun x hx => by
          rcases List.mem_append.mp hx with hx | hx
          · exact bx x hx
          · rw [List.mem_singleton.mp hx]; exact md z, by have : i < (m : Int).toNat := hi; omega⟩
      have small : (xs.map V.int).length < sizeLine := by rw [List.length_map, lx, sizeLine_eq]; omega
      refine ⟨_, rfl, _, _, rfl, rfl, ⟨by decide, by decide, by decide⟩, _, _, rfl, rfl, _, rfl, ite2 (fun h1 => ?_) (fun h1 => ?_)⟩
      · refine ⟨_, rfl, .inl ⟨rfl, _, .inl (.inl ep)⟩, _, rfl, .inl ⟨_, rfl, _, _, rfl, rfl, (by show (0 : Int) < _; decide), ?_⟩⟩
        refine ⟨p, _, _, rfl, rfl, ep, small, ?_⟩
        refine ⟨_, rfl, _, _, rfl, rfl, ⟨by decide, by decide⟩, step _ _ _ _⟩
      · refine ⟨_, rfl, _, _, rfl, rfl, .inr ⟨by decide, by decide⟩, _, rfl, _, _, rfl, rfl, .inl ⟨_, rfl, _, _, rfl, rfl, (by show (0 : Int) < _; decide), ?_⟩⟩
        refine ⟨_, rfl, .inl ⟨rfl, _, .inl (.inl ep)⟩, _, rfl, _, _, rfl, rfl, .inr ⟨by decide, by decide⟩, .inl ⟨_, rfl, _, _, rfl, rfl, (by show (0 : Int) < _; decide), _, _, rfl, rfl, ⟨by decide, by decide⟩, _, _, rfl, rfl, (by show (0 : Int) < _; decide), ?_⟩⟩
        exact ⟨p, _, _, rfl, rfl, ep, small, step _ _ _ _⟩
    · rintro σ H1 ⟨r, sd, y, xs, rfl, sm, ep, lx, bx, _⟩
      exact ⟨_, rfl, q _ p xs sm np ep (by rw [lx]; exact Int.toNat_natCast m) bx⟩
end
end K02
end
section
namespace K02
open PySem PySem.Spec PyProof.Rows L2 Tl Mx SX
def nameL (n : Int) : List Nat := (List.range (1 + n % 8).toNat).map fun (k : Nat) => lettersC.getD (n / (1 + 3 * (k : Int)) % 26).toNat 0
theorem join_ones : ∀ l : List Nat, TL.joinL [] (l.map fun c => [c]) = l
  | [] => rfl
  | [c] => rfl
  | c :: d :: l => by
    have := join_ones (d :: l)
    simp only [List.map_cons] at this ⊢
    rw [TL.joinL, this]
    rfl
theorem sum_ones : ∀ l : List Nat, ((((l.map fun c => [c]).map S)).map (·.length)).sum = l.length
  | [] => rfl
  | c :: l => by
    have := sum_ones l
    simp only [List.map_cons, List.sum_cons, List.length_cons] at this ⊢
    rw [this, S_len]
    simp; omega
theorem let_at {i : Nat} (h : i < 26) : ∃ c, lettersC[i]? = some c ∧ isLet c = true := by
  have : ∀ i : Nat, i < 26 → ∃ c, lettersC[i]? = some c ∧ isLet c = true := by decide
  exact this i h
theorem name_ok {n : Int} (h : 0 ≤ n) : nameM (nameL n) = true := by
  unfold nameM nameL
  have a : (n % 8) < 8 := Int.emod_lt_of_pos _ (by decide)
  have b : 0 ≤ n % 8 := Int.emod_nonneg _ (by decide)
  rw [List.length_map, List.length_range, decide_eq_true (show 1 ≤ (1 + n % 8).toNat by omega), decide_eq_true (show (1 + n % 8).toNat ≤ 8 by omega)]
  show List.all _ isLet = true
  rw [List.all_map, List.all_eq_true]
  intro k hk
  have c : 0 ≤ n / (1 + 3 * (k : Int)) % 26 := Int.emod_nonneg _ (by decide)
  have d : n / (1 + 3 * (k : Int)) % 26 < 26 := Int.emod_lt_of_pos _ (by decide)
  obtain ⟨z, e1, e2⟩ := let_at (i := (n / (1 + 3 * (k : Int)) % 26).toNat) (by omega)
  show isLet (lettersC.getD _ 0) = true
  rw [List.getD_eq_getElem?_getD, e1]
  exact e2
def sp_name : Sp := fun vs H Q _ => ∃ n : Int, vs = [.int n] ∧ 0 ≤ n ∧ ∀ H', Same H H' → Q (.str (S (nameL n))) H'
section
variable {P : Program} {w : World} {K : PySem.W.Frag} {mg : Str → Option Value} {base : Heap} {C : Addr}
theorem ok_name (T : Txt K mg) : Pr P w K mg base CX0 1 "_law_name" ["number"] sp_name := by
  refine pr0 T.d_law_name sc_law_name (fun vs H Q E h => ?_) (fun f cdv A outer s H vs Q E hr h => ?_)
  · obtain ⟨n, rfl, _⟩ := h; rfl
  · obtain ⟨n, rfl, h0, q⟩ := h
    have r0 : 0 ≤ n % 8 := Int.emod_nonneg _ (by decide)
    have r1 : n % 8 < 8 := Int.emod_lt_of_pos _ (by decide)
    refine ⟨_, pss_cons (ps_set (i := 1) sc_law_name.nd rfl (.inr rfl) pe_str)
      (pss_one (ps_ret (pe_join pe_str (pe_lc (own := [("k", 2)]) (g := gName 2) (tt := tYes) (te := tOp rIxS (tVar 1) (tOp (rI (fun _ j => 0 < j) fun i j => .int (i % j)) (tOp (rI CDiv fun i j => .int (i / j)) (tVar 0) (tOp (rI0 fun i j => .int (i + j)) (tC (.int 1)) (tOp (rI CMul fun i j => .int (i * j)) (tC (.int 3)) (tVar 2)))) (tC (.int 26)))) rfl sc_law_name.nd
        (pi_range1 (by rfl) T.n_range (pa_cons (pe_op op_add pe_int (pe_op op_mod (pv 0) pe_int)) pa_nil)) (blkOk_by (N := ["number", "letters", "k"]) (sc := defScope s_law_name) (by decide +kernel))
        (fun _ _ _ _ _ => pg_name (i := 2) sc_law_name.nd rfl (.inl rfl)) (fun _ _ _ _ _ => pts_nil)
        (fun _ _ _ _ _ => pe_ix ix_str (pv 1) (pe_op op_mod (pe_op op_fdiv (pv 0) (pe_op op_add pe_int (pe_op op_mul pe_int (pv 2)))) pe_int) (fun _ _ => rfl)))))), ?_⟩
    refine ⟨⟨_, rfl⟩, _, rfl, _, _, rfl, rfl, (by show (0 : Int) < _; decide), _, _, rfl, rfl, _, rfl, by omega, by omega, ?_⟩
    refine lc_pure walk_range ((nameL n).map fun c => V.str (S [c])) (by unfold nameL; rw [List.length_map, List.length_map, List.length_range]) (by rw [sizeLine_eq]; omega) (fun _ _ => trivial) ?_ ?_
    · rintro i x H1 H2 y R hi gy sm ⟨rfl, rfl⟩ k
      have c0 : 0 ≤ n / (1 + 3 * (0 + (i : Int))) % 26 := Int.emod_nonneg _ (by decide)
      have c1 : n / (1 + 3 * (0 + (i : Int))) % 26 < 26 := Int.emod_lt_of_pos _ (by decide)
      obtain ⟨z, e1, e2⟩ := let_at (i := (n / (1 + 3 * (0 + (i : Int))) % 26).toNat) (by omega)
      have ey : y = .str (S [z]) := by
        unfold nameL at gy
        rw [List.map_map, List.getElem?_map, List.getElem?_range hi] at gy
        rw [← Option.some.inj gy]
        show V.str (S [lettersC.getD (n / (1 + 3 * (i : Int)) % 26).toNat 0]) = _
        rw [Int.zero_add] at e1
        rw [List.getD_eq_getElem?_getD, e1]; rfl
      subst ey
      refine ⟨rfl, _, rfl, _, rfl, _, rfl, _, _, rfl, rfl, .inl ⟨by decide, by decide⟩, _, _, rfl, rfl, _, _, rfl, rfl, ⟨by omega, by omega⟩, _, _, rfl, rfl, (by show (0 : Int) < _; decide), ?_⟩
      refine ⟨_, _, z, rfl, rfl, (by rw [sizeLine_eq]; decide), ?_, k _ (Same.refl _)⟩
      rw [show n / (1 + 3 * (0 + (i : Int))) % 26 = ((n / (1 + 3 * (0 + (i : Int))) % 26).toNat : Int) from (Int.toNat_of_nonneg c0).symm]
      exact atI_nat e1
    · intro H1 D sm f e
      refine ⟨_, D, ((nameL n).map fun c => [c]).map S, rfl, rfl, .inl (.inl (.inl (by rw [e, List.map_map, List.map_map]; rfl))), ?_, vto (q _ sm) ?_⟩
      · rw [sum_ones, List.length_map, List.length_map]
        have z : (nameL n).length ≤ 8 := by unfold nameL; rw [List.length_map, List.length_range]; omega
        show (nameL n).length + (nameL n).length * 0 ≤ _
        omega
      · show V.str (Txt.join (S []) _) = _
        rw [join_S, join_ones]
end
end K02
end
section
namespace Tl
open PySem PySem.Spec PyProof.Rows L2
theorem op_mulS {X : Cx} : OpR X (binaryOp .Mult) (fun x y H Q => ∃ z n, x = .str z ∧ y = .int n ∧ MulOk z n ∧ Q (.str (Txt.mul z n)) H) := by
  intro pins s σ H x y v u Q I rx ry h
  obtain ⟨z, n, rfl, rfl, ok, q⟩ := h
  obtain ⟨t, rfl⟩ := rx
  obtain ⟨t2, rfl⟩ := ry
  exact SB.mul ok fun t' k => ⟨.str _, H, I.tok _, ⟨_, rfl⟩, q⟩
end Tl
namespace K02
open PySem PySem.Spec PyProof.Rows L2 Tl Mx SX
def signsC : List Nat := [32, 33, 35, 36, 38, 40, 41, 42, 43, 44, 45, 46, 47, 48, 49, 50, 51, 52, 53, 54, 55, 56, 57, 58, 59, 60, 61, 62, 63, 64, 65, 66, 67, 68, 69, 70, 71, 72, 73, 74, 75, 76, 77, 78, 79, 80, 81, 82, 83, 84, 85, 86, 87, 88, 89, 90, 91, 92, 93, 94, 95, 96, 97, 98, 99, 100, 101, 102, 103, 104, 105, 106, 107, 108, 109, 110, 111, 112, 113, 114, 115, 116, 117, 118, 119, 120, 121, 122, 123, 124, 125, 126, 34]
def textL (n : Int) : List Nat := (List.range (1 + n / 3 % 40).toNat).map fun (k : Nat) => signsC.getD ((7 * (n / 3) + (k : Int) * (1 + n % 5)) % 93).toNat 0
theorem sign_at {i : Nat} (h : i < 93) : ∃ c, signsC[i]? = some c ∧ sgn c = true ∧ c ≠ 39 := by
  have : ∀ i : Nat, i < 93 → ∃ c, signsC[i]? = some c ∧ sgn c = true ∧ c ≠ 39 := by decide +kernel
  exact this i h
theorem text_ok {n : Int} : textM (textL n) = true := by
  have a : (n / 3 % 40) < 40 := Int.emod_lt_of_pos _ (by decide)
  have b : 0 ≤ n / 3 % 40 := Int.emod_nonneg _ (by decide)
  have all : ∀ c ∈ textL n, sgn c = true ∧ c ≠ 39 := fun c hc => by
    unfold textL at hc
    obtain ⟨k, hk, e⟩ := List.mem_map.mp hc
    have c0 : 0 ≤ (7 * (n / 3) + (k : Int) * (1 + n % 5)) % 93 := Int.emod_nonneg _ (by decide)
    have c1 : (7 * (n / 3) + (k : Int) * (1 + n % 5)) % 93 < 93 := Int.emod_lt_of_pos _ (by decide)
    obtain ⟨z, e1, e2⟩ := sign_at (i := ((7 * (n / 3) + (k : Int) * (1 + n % 5)) % 93).toNat) (by omega)
    rw [List.getD_eq_getElem?_getD, e1] at e
    obtain rfl : z = c := e
    exact e2
  unfold textM
  rw [decide_eq_true (show (textL n).length ≤ 40 by unfold textL; rw [List.length_map, List.length_range]; omega), decide_eq_false (fun z => (all 39 z).2 rfl), show (textL n).all sgn = true from List.all_eq_true.mpr fun c hc => (all c hc).1]; rfl
def sp_text : Sp := fun vs H Q _ => ∃ n : Int, vs = [.int n] ∧ 0 ≤ n ∧ ∀ H' l, Same H H' → textM l = true → Q (.str (S l)) H'
theorem mul_ok : MulOk "x" 40 := by unfold MulOk; decide +kernel
def textsV : List V := [.str "", .str " ", .str "a b", .str "it", .str "$1", .str "-5", .str "~!#", .str (Txt.mul "x" 40), .str "Ab 9", .str "  ", .str "7", .str "put"]
theorem texts_at {i : Nat} (h : i < 12) : ∃ l, textsV[i]? = some (.str (S l)) ∧ textM l = true := by
  have : ∀ i : Nat, i < 12 → ∃ z : Str, textsV[i]? = some (.str z) ∧ textM z.cps.toList = true := by
    intro i hi
    have : i = 0 ∨ i = 1 ∨ i = 2 ∨ i = 3 ∨ i = 4 ∨ i = 5 ∨ i = 6 ∨ i = 7 ∨ i = 8 ∨ i = 9 ∨ i = 10 ∨ i = 11 := by omega
    rcases this with rfl | rfl | rfl | rfl | rfl | rfl | rfl | rfl | rfl | rfl | rfl | rfl <;> exact ⟨_, rfl, by decide +kernel⟩
  obtain ⟨z, e1, e2⟩ := this i h
  exact ⟨z.cps.toList, by rw [e1], e2⟩
theorem name_text {l : List Nat} (h : nameM l = true) : textM l = true := by
  unfold nameM at h
  rw [Bool.and_eq_true_iff, Bool.and_eq_true_iff] at h
  have h8 := of_decide_eq_true h.1.2
  have all : ∀ c ∈ l, sgn c = true ∧ c ≠ 39 := fun c hc => by
    have z : c ∈ lettersC := of_decide_eq_true (List.all_eq_true.mp h.2 c hc)
    have : ∀ x ∈ lettersC, sgn x = true ∧ x ≠ 39 := by decide
    exact this c z
  unfold textM
  rw [decide_eq_true (show l.length ≤ 40 by omega), decide_eq_false (fun z => (all 39 z).2 rfl), show l.all sgn = true from List.all_eq_true.mpr fun c hc => (all c hc).1]; rfl
section
variable {P : Program} {w : World} {K : PySem.W.Frag} {mg : Str → Option Value} {base : Heap} {C : Addr}
theorem ok_text (T : Txt K mg) : Pr P w K mg base CX0 2 "_law_text" ["number"] sp_text := by
  refine pr0 T.d_law_text sc_law_text (fun vs H Q E h => ?_) (fun f cdv A outer s H vs Q E hr h => ?_)
  · obtain ⟨n, rfl, _⟩ := h; rfl
  · obtain ⟨n, rfl, h0, q⟩ := h
    have G1 := ok_name (P := P) (w := w) (base := base) T
    refine ⟨_, pss_cons (ps_set (i := 1) sc_law_text.nd rfl (.inr rfl) (pe_op op_add_str pe_str pe_str))
      (pss_cons (ps_set (i := 2) sc_law_text.nd rfl (.inl rfl) (pe_lst (pa_cons pe_str (pa_cons pe_str (pa_cons pe_str (pa_cons pe_str (pa_cons pe_str (pa_cons pe_str (pa_cons pe_str (pa_cons (pe_op op_mulS pe_str pe_int) (pa_cons pe_str (pa_cons pe_str (pa_cons pe_str (pa_cons pe_str pa_nil))))))))))))))
      (pss_cons (ps_if (pt_cmpR op_eq (pe_op op_mod (pv 0) pe_int) pe_int (nomark _))
        (pss_cons (ps_set (i := 3) sc_law_text.nd rfl (.inl rfl) (pe_op op_add pe_int (pe_op op_mod (pe_op op_fdiv (pv 0) pe_int) pe_int)))
        (pss_one (ps_ret (pe_join pe_str (pe_lc (own := [("k", 4)]) (g := gName 4) (tt := tYes) (te := tOp rIxS (tVar 1) (tOp (rI (fun _ j => 0 < j) fun i j => .int (i % j)) (tOp (rI0 fun i j => .int (i + j)) (tOp (rI CMul fun i j => .int (i * j)) (tC (.int 7)) (tOp (rI CDiv fun i j => .int (i / j)) (tVar 0) (tC (.int 3))))
              (tOp (rI CMul fun i j => .int (i * j)) (tVar 4) (tOp (rI0 fun i j => .int (i + j)) (tC (.int 1)) (tOp (rI (fun _ j => 0 < j) fun i j => .int (i % j)) (tVar 0) (tC (.int 5)))))) (tC (.int 93)))) rfl sc_law_text.nd
            (pi_range1 (by rfl) T.n_range (pa_cons (pv 3) pa_nil)) (blkOk_by (N := ["number", "signs", "texts", "count", "k"]) (sc := defScope s_law_text) (by decide +kernel))
            (fun _ _ _ _ _ => pg_name (i := 4) sc_law_text.nd rfl (.inl rfl)) (fun _ _ _ _ _ => pts_nil)
            (fun _ _ _ _ _ => pe_ix ix_str (pv 1) (pe_op op_mod (pe_op op_add (pe_op op_mul pe_int (pe_op op_fdiv (pv 0) pe_int)) (pe_op op_mul (pv 4) (pe_op op_add pe_int (pe_op op_mod (pv 0) pe_int)))) pe_int) (fun _ _ => rfl))))))) pss_nil)
      (pss_cons (ps_if (pt_cmpR op_eq (pe_op op_mod (pv 0) pe_int) pe_int (nomark _)) (pss_one (ps_ret (pe_k G1 hr (by decide) pass0 (by rfl) (pa_cons (pe_op op_fdiv (pv 0) pe_int) pa_nil)))) pss_nil)
      (pss_one (ps_ret (pe_ix ix_list (pv 2) (pe_op op_mod (pe_op op_mod (pv 0) pe_int) pe_int) (fun _ _ => rfl))))))), ?_⟩
    refine ⟨_, _, rfl, rfl, by decide +kernel, ?_⟩
    refine ⟨_, _, rfl, rfl, mul_ok, (by show 12 ≤ sizeLine; decide), fun p np => ?_⟩
    have s1 : Same H (upd H p (.lst textsV)) := same_upd np
    refine ⟨_, rfl, _, _, rfl, rfl, (by show (0 : Int) < _; decide), rfl, _, rfl, ite2 (fun h1 => ?_) (fun h1 => ?_)⟩
    · have h3 : n % 3 = 0 := V.int.inj (of_decide_eq_true h1)
      have b0 : 0 ≤ n / 3 % 40 := Int.emod_nonneg _ (by decide)
      have b1 : n / 3 % 40 < 40 := Int.emod_lt_of_pos _ (by decide)
      refine ⟨_, rfl, _, _, rfl, rfl, ⟨by decide, by decide⟩, _, _, rfl, rfl, (by show (0 : Int) < _; decide), _, _, rfl, rfl, ?_⟩
      refine ⟨⟨_, rfl⟩, _, rfl, _, rfl, by omega, by omega, ?_⟩
      refine lc_pure walk_range ((textL n).map fun c => V.str (S [c])) (by unfold textL; rw [List.length_map, List.length_map, List.length_range]) (by rw [sizeLine_eq]; omega) (fun _ _ => trivial) ?_ ?_
      · rintro i x H1 H2 y R hi gy sm ⟨rfl, rfl⟩ k
        have c0 : 0 ≤ (7 * (n / 3) + (0 + (i : Int)) * (1 + n % 5)) % 93 := Int.emod_nonneg _ (by decide)
        have c1 : (7 * (n / 3) + (0 + (i : Int)) * (1 + n % 5)) % 93 < 93 := Int.emod_lt_of_pos _ (by decide)
        obtain ⟨z, e1, e2⟩ := sign_at (i := ((7 * (n / 3) + (0 + (i : Int)) * (1 + n % 5)) % 93).toNat) (by omega)
        have ey : y = .str (S [z]) := by
          unfold textL at gy
          rw [List.map_map, List.getElem?_map, List.getElem?_range hi] at gy
          rw [← Option.some.inj gy]
          show V.str (S [signsC.getD ((7 * (n / 3) + (i : Int) * (1 + n % 5)) % 93).toNat 0]) = _
          rw [Int.zero_add] at e1
          rw [List.getD_eq_getElem?_getD, e1]; rfl
        subst ey
        refine ⟨rfl, _, rfl, _, rfl, _, _, rfl, rfl, ⟨by decide, by decide⟩, _, _, rfl, rfl, .inl ⟨by decide, by decide⟩, ?_⟩
        refine ⟨_, rfl, _, rfl, _, _, rfl, rfl, (by show (0 : Int) < _; decide), _, _, rfl, rfl, _, _, rfl, rfl, .inl ⟨by omega, by omega⟩, _, _, rfl, rfl, _, _, rfl, rfl, (by show (0 : Int) < _; decide), ?_⟩
        refine ⟨_, _, z, rfl, rfl, (by rw [sizeLine_eq]; decide +kernel), ?_, k _ (Same.refl _)⟩
        rw [show (7 * (n / 3) + (0 + (i : Int)) * (1 + n % 5)) % 93 = (((7 * (n / 3) + (0 + (i : Int)) * (1 + n % 5)) % 93).toNat : Int) from (Int.toNat_of_nonneg c0).symm]
        exact atI_nat e1
      · intro H1 D sm f e
        refine ⟨_, D, ((textL n).map fun c => [c]).map S, rfl, rfl, .inl (.inl (.inl (by rw [e, List.map_map, List.map_map]; rfl))), ?_, vto (q _ (textL n) (s1.trans sm) text_ok) ?_⟩
        · rw [sum_ones, List.length_map, List.length_map]
          have z : (textL n).length ≤ 40 := by unfold textL; rw [List.length_map, List.length_range]; omega
          show (textL n).length + (textL n).length * 0 ≤ _
          omega
        · show V.str (Txt.join (S []) _) = _
          rw [join_S, join_ones]
    · refine ⟨_, rfl, _, _, rfl, rfl, (by show (0 : Int) < _; decide), rfl, _, rfl, ite2 (fun h2 => ?_) (fun h2 => ?_)⟩
      · exact ⟨_, rfl, _, _, rfl, rfl, ⟨by decide, by decide⟩, _, rfl, Int.ediv_nonneg h0 (by decide), fun H1 sm => q H1 _ (s1.trans sm) (name_text (name_ok (Int.ediv_nonneg h0 (by decide))))⟩
      · have c0 : 0 ≤ n % 13 % 12 := Int.emod_nonneg _ (by decide)
        have c1 : n % 13 % 12 < 12 := Int.emod_lt_of_pos _ (by decide)
        obtain ⟨l, e1, e2⟩ := texts_at (i := (n % 13 % 12).toNat) (by omega)
        refine ⟨_, rfl, _, rfl, _, _, rfl, rfl, (by show (0 : Int) < _; decide), _, _, rfl, rfl, (by show (0 : Int) < _; decide), p, textsV, _, _, rfl, rfl, SqL.of upd_same, ?_, q _ l s1 e2⟩
        rw [show n % 13 % 12 = ((n % 13 % 12).toNat : Int) from (Int.toNat_of_nonneg c0).symm]
        exact atI_nat e1
end
end K02
end
section
namespace K02
open PySem PySem.Spec PyProof.Rows L2 Tl Mx SX
def sp_value : Sp := fun vs H Q _ => ∃ n : Int, vs = [.int n] ∧ 0 ≤ n ∧ ∀ H' v, Same H H' → ((∃ i, v = .int i ∧ numM i = true) ∨ (∃ l, v = .str (S l) ∧ textM l = true)) → Q v H'
/-- a term with used parameters ahead of it -/
def okT (u : Int) (p : Part) : Prop := okP p = true ∧ (∀ l, p ≠ .name l) ∧ ∀ m, p = .par m → m ≤ u + 1
def sp_term : Sp := fun vs H Q _ => ∃ n u : Int, vs = [.int n, .int u] ∧ 0 ≤ n ∧ 0 ≤ u ∧ u ≤ 4 ∧ ∀ H' v p, Same H H' → IsP H' v p → okT u p → Q v H'
def numsV : List V := [.int 2147483647, .int (-2147483648), .int 1000000, .int 0, .int 255, .int 256, .int (-1)]
theorem nums_at {i : Nat} (h : i < 7) : ∃ n, numsV[i]? = some (.int n) ∧ numM n = true := by
  have : i = 0 ∨ i = 1 ∨ i = 2 ∨ i = 3 ∨ i = 4 ∨ i = 5 ∨ i = 6 := by omega
  rcases this with rfl | rfl | rfl | rfl | rfl | rfl | rfl <;> exact ⟨_, rfl, by decide⟩
theorem num_in {n : Int} (h1 : -2147483648 ≤ n) (h2 : n ≤ 2147483647) : numM n = true := by
  unfold numM
  rw [decide_eq_true h1, decide_eq_true h2]; rfl
section
variable {P : Program} {w : World} {K : PySem.W.Frag} {mg : Str → Option Value} {base : Heap} {C : Addr}
theorem ok_value (T : Txt K mg) : Pr P w K mg base CX0 3 "_law_value" ["number"] sp_value := by
  refine pr0 T.d_law_value sc_law_value (fun vs H Q E h => ?_) (fun f cdv A outer s H vs Q E hr h => ?_)
  · obtain ⟨n, rfl, _⟩ := h; rfl
  · obtain ⟨n, rfl, h0, q⟩ := h
    have G1 := ok_text (P := P) (w := w) (base := base) T
    refine ⟨_, pss_cons (ps_if (pt_cmpR op_lt (pe_op op_mod (pv 0) pe_int) pe_int (nomark _)) (pss_one (ps_ret (pe_op op_sub (pe_op op_mod (pe_op op_fdiv (pv 0) pe_int) pe_int) pe_int))) pss_nil)
      (pss_cons (ps_if (pt_cmpR op_eq (pe_op op_mod (pv 0) pe_int) pe_int (nomark _)) (pss_one (ps_ret (pe_op op_sub (pe_op op_mod (pe_op op_add (pe_op op_mul (pe_op op_mul (pv 0) pe_int) pe_int) pe_int) pe_int) pe_int))) pss_nil)
      (pss_cons (ps_if (pt_cmpR op_eq (pe_op op_mod (pv 0) pe_int) pe_int (nomark _)) (pss_one (ps_ret (pe_ix ix_list (pe_lst (pa_cons pe_int (pa_cons (pe_un un_neg pe_int) (pa_cons pe_int (pa_cons pe_int (pa_cons pe_int (pa_cons pe_int (pa_cons (pe_un un_neg pe_int) pa_nil)))))))) (pe_op op_mod (pe_op op_fdiv (pv 0) pe_int) pe_int) (fun _ _ => rfl)))) pss_nil)
      (pss_one (ps_ret (pe_k G1 hr (by decide) pass0 (by rfl) (pa_cons (pe_op op_fdiv (pv 0) pe_int) pa_nil)))))), ?_⟩
    have c0 : 0 ≤ n / 5 % 7 := Int.emod_nonneg _ (by decide)
    have c1 : n / 5 % 7 < 7 := Int.emod_lt_of_pos _ (by decide)
    refine ⟨_, rfl, _, _, rfl, rfl, (by show (0 : Int) < _; decide), _, _, rfl, rfl, _, rfl, ite2 (fun h1 => ?_) (fun h1 => ?_)⟩
    · exact ⟨_, rfl, _, _, rfl, rfl, ⟨by decide, by decide⟩, _, _, rfl, rfl, (by show (0 : Int) < _; decide), _, _, rfl, rfl, q _ _ (Same.refl _) (.inl ⟨_, rfl, num_in (by omega) (by omega)⟩)⟩
    · refine ⟨_, rfl, _, _, rfl, rfl, (by show (0 : Int) < _; decide), rfl, _, rfl, ite2 (fun h2 => ?_) (fun h2 => ?_)⟩
      · have d0 : 0 ≤ (n * 5113 * 40503 + 12345) % 4294967296 := Int.emod_nonneg _ (by decide)
        have d1 : (n * 5113 * 40503 + 12345) % 4294967296 < 4294967296 := Int.emod_lt_of_pos _ (by decide)
        exact ⟨_, rfl, _, _, rfl, rfl, .inr ⟨by decide, by decide⟩, _, _, rfl, rfl, .inr ⟨by decide, by decide⟩, _, _, rfl, rfl, _, _, rfl, rfl, (by show (0 : Int) < _; decide), _, _, rfl, rfl, q _ _ (Same.refl _) (.inl ⟨_, rfl, num_in (by omega) (by omega)⟩)⟩
      · refine ⟨_, rfl, _, _, rfl, rfl, (by show (0 : Int) < _; decide), rfl, _, rfl, ite2 (fun h3 => ?_) (fun h3 => ?_)⟩
        · obtain ⟨z, e1, e2⟩ := nums_at (i := (n / 5 % 7).toNat) (by omega)
          refine ⟨_, rfl, _, rfl, (by show 7 ≤ sizeLine; decide), fun p np => ⟨_, rfl, _, _, rfl, rfl, ⟨by decide, by decide⟩, _, _, rfl, rfl, (by show (0 : Int) < _; decide), p, numsV, _, _, rfl, rfl, SqL.of upd_same, ?_, q _ _ (same_upd np) (.inl ⟨z, rfl, e2⟩)⟩⟩
          rw [show n / 5 % 7 = ((n / 5 % 7).toNat : Int) from (Int.toNat_of_nonneg c0).symm]
          exact atI_nat e1
        · exact ⟨_, rfl, _, _, rfl, rfl, ⟨by decide, by decide⟩, _, rfl, Int.ediv_nonneg h0 (by decide), fun H1 l sm tl => q H1 _ sm (.inr ⟨l, rfl, tl⟩)⟩
theorem ok_term (T : Txt K mg) : Pr P w K mg base CX0 4 "_law_term" ["number", "used"] sp_term := by
  refine pr0 T.d_law_term sc_law_term (fun vs H Q E h => ?_) (fun f cdv A outer s H vs Q E hr h => ?_)
  · obtain ⟨n, u, rfl, _⟩ := h; rfl
  · obtain ⟨n, u, rfl, h0, u0, u4, q⟩ := h
    have G1 := ok_value (P := P) (w := w) (base := base) T
    have par : ∀ (H' : Hp) (p : Addr) (m : Int), H' p = none → Same H H' → 1 ≤ m → m ≤ u + 1 → m ≤ 4 → Q (.ref p) (upd H' p (.tup [.str "parameter", .int m])) := fun H' p m np sm m1 m2 m4 =>
      q _ _ (.par m) (same_put (sm.free np) sm) ⟨p, rfl, upd_same⟩ ⟨by show (decide (1 ≤ m) && decide (m ≤ 4)) = true; rw [decide_eq_true m1, decide_eq_true m4]; rfl, fun l z => (nomatch z), fun m' z => by have := Part.par.inj z; omega⟩
    refine ⟨_, pss_cons (ps_if (PW.pt (pw_and (pt_cmpR op_eq (pe_op op_mod (pv 0) pe_int) pe_int (nomark _)) (pw_and1 (pt_cmpR op_lt (pv 1) pe_int (nomark _))))) (pss_one (ps_ret (pe_tup (pa_cons pe_str (pa_cons (pe_op op_add (pv 1) pe_int) pa_nil))))) pss_nil)
      (pss_cons (ps_if (PW.pt (pw_and (pt_cmpR op_eq (pe_op op_mod (pv 0) pe_int) pe_int (nomark _)) (pw_and1 (pt_cmpR op_gt (pv 1) pe_int (nomark _))))) (pss_one (ps_ret (pe_tup (pa_cons pe_str (pa_cons (pe_op op_add pe_int (pe_op op_mod (pe_op op_fdiv (pv 0) pe_int) (pv 1))) pa_nil))))) pss_nil)
      (pss_cons (ps_set (i := 2) sc_law_term.nd rfl (.inl rfl) (pe_k G1 hr (by decide) pass0 (by rfl) (pa_cons (pe_op op_fdiv (pv 0) pe_int) pa_nil)))
      (pss_cons (ps_if (pt_val (pe_callB call_isi (by rfl) T.n_isinstance boot_isinstance (pa_cons (pv 2) (pa_cons (pe_bltn (v := .ty "str") (by rfl) T.n_str boot_str rfl) pa_nil)))) (pss_one (ps_ret (pe_tup (pa_cons pe_str (pa_cons (pv 2) pa_nil))))) pss_nil)
      (pss_one (ps_ret (pv 2)))))), ?_⟩
    -- the value
    have rest : ∀ H1 : Hp, Same H H1 → (tSeq (tAsg (tCall sp_value [] E0 (tCons (tOp (rI CDiv fun i j => .int (i / j)) (tVar 0) (tC (.int 7))) tNil)) (gName 2)) (tSeq (tIfS (tB (tCB (rIsi K) (tCons (tVar 2) (tCons (tC (.ty "str")) tNil)))) (tRet (tTup (tCons (tC (.str "text")) (tCons (tVar 2) tNil)))) tNext) (tRet (tVar 2)))) { nx := fun _ H' => Q .non H', rt := Q } [some (.int n), some (.int u), none] H1 := fun H1 sm => by
      refine ⟨_, rfl, _, _, rfl, rfl, ⟨by decide, by decide⟩, _, rfl, Int.ediv_nonneg h0 (by decide), fun H2 v s2 hv => ?_⟩
      rcases hv with ⟨i, rfl, hi⟩ | ⟨l, rfl, hl⟩
      · refine ⟨_, rfl, _, _, _, _, _, rfl, .ty _, .base (.int _), kit_ty (r := false) (by decide +kernel), _, rfl, iteF ⟨_, rfl, q _ _ (.num i) (sm.trans s2) rfl ⟨hi, fun l z => (nomatch z), fun m z => (nomatch z)⟩⟩⟩
      · refine ⟨_, rfl, _, _, _, _, _, rfl, .ty _, .base (.str _), kit_ty (r := true) (by decide +kernel), _, rfl, iteT ⟨_, rfl, (by show 2 ≤ sizeLine; decide), fun p np => ?_⟩⟩
        have s3 := sm.trans s2
        exact q _ _ (.text l) (same_put (s3.free np) s3) ⟨p, rfl, upd_same⟩ ⟨hl, fun l z => (nomatch z), fun m z => (nomatch z)⟩
    have snd : (tSeq (tIfS (tAnd (tTest (tOp rEq (tOp (rI (fun _ j => 0 < j) fun i j => .int (i % j)) (tVar 0) (tC (.int 7))) (tC (.int 1)))) (tTest (tOp (rI0 fun i j => .bl (decide (j < i))) (tVar 1) (tC (.int 0))))) (tRet (tTup (tCons (tC (.str "parameter")) (tCons (tOp (rI0 fun i j => .int (i + j)) (tC (.int 1)) (tOp (rI (fun _ j => 0 < j) fun i j => .int (i % j)) (tOp (rI CDiv fun i j => .int (i / j)) (tVar 0) (tC (.int 7))) (tVar 1))) tNil)))) tNext)
        (tSeq (tAsg (tCall sp_value [] E0 (tCons (tOp (rI CDiv fun i j => .int (i / j)) (tVar 0) (tC (.int 7))) tNil)) (gName 2)) (tSeq (tIfS (tB (tCB (rIsi K) (tCons (tVar 2) (tCons (tC (.ty "str")) tNil)))) (tRet (tTup (tCons (tC (.str "text")) (tCons (tVar 2) tNil)))) tNext) (tRet (tVar 2))))) { nx := fun _ H' => Q .non H', rt := Q } [some (.int n), some (.int u), none] H := by
      refine ⟨_, rfl, _, _, rfl, rfl, (by show (0 : Int) < _; decide), rfl, _, rfl, ite2 (fun h1 => ?_) (fun h1 => iteF (rest H (Same.refl _)))⟩
      refine ⟨_, rfl, _, _, rfl, rfl, _, rfl, ite2 (fun h2 => ?_) (fun h2 => rest H (Same.refl _))⟩
      have h2 : 0 < u := of_decide_eq_true h2
      refine ⟨_, rfl, _, _, rfl, rfl, ⟨by decide, by decide⟩, _, rfl, _, _, rfl, rfl, h2, _, _, rfl, rfl, (by show 2 ≤ sizeLine; decide), fun p np => ?_⟩
      have c0 : 0 ≤ n / 7 % u := Int.emod_nonneg _ (by omega)
      have c1 : n / 7 % u < u := Int.emod_lt_of_pos _ h2
      exact par H p _ np (Same.refl _) (by omega) (by omega) (by omega)
    refine ⟨_, rfl, _, _, rfl, rfl, (by show (0 : Int) < _; decide), rfl, _, rfl, ite2 (fun h1 => ?_) (fun h1 => iteF snd)⟩
    refine ⟨_, rfl, _, _, rfl, rfl, _, rfl, ite2 (fun h2 => ?_) (fun h2 => snd)⟩
    have h2 : u < 4 := of_decide_eq_true h2
    refine ⟨_, rfl, _, _, rfl, rfl, (by show 2 ≤ sizeLine; decide), fun p np => par H p _ np (Same.refl _) (by omega) (by omega) (by omega)⟩
end
end K02
end
section
namespace K02
open PySem PySem.Spec PyProof.Rows L2 Tl Mx SX
def sp_used (K : PySem.W.Frag) : Sp := fun vs H Q _ => ∃ a xs ps, vs = [.ref a] ∧ (SqT K H a xs ∨ SqL K H a xs) ∧ xs.length ≤ 1000 ∧ ArePs H xs ps ∧ (∀ p ∈ ps, okP p = true) ∧ ∀ H', Same H H' → Q (.int (mostOf ps)) H'
section
variable {P : Program} {w : World} {K : PySem.W.Frag} {mg : Str → Option Value} {base : Heap} {C : Addr}
theorem ok_used (T : Txt K mg) : Pr P w K mg base CX0 1 "_law_used" ["parts"] (sp_used K) := by
  refine pr0 T.d_law_used sc_law_used (fun vs H Q E h => ?_) (fun f cdv A outer s H vs Q E hr h => ?_)
  · obtain ⟨a, xs, ps, rfl, _⟩ := h; rfl
  · obtain ⟨a, xs, ps, rfl, sq, small, hp, ok, q⟩ := h
    have len := Paired.len hp
    have turn : ∀ (i : Nat) (x : V) (H1 H' : Hp) (R : V → Hp → Prop) (Nn : Hp → Prop), i < xs.length → Same H H1 → YAt xs i H1 x H' → (∀ z H4, Same H1 H4 → (parsOf (ps.take (i + 1))).map V.int = (parsOf (ps.take i)).map V.int ++ [z] → R z H4) → (∀ H4, Same H1 H4 → (parsOf (ps.take (i + 1))).map V.int = (parsOf (ps.take i)).map V.int → Nn H4) →
        gName 2 x (wipe (L2.start ["parts", "numbers", "part"] [V.ref a]) [2]) H' fun σ2 H2 => wipe σ2 [2] = wipe (L2.start ["parts", "numbers", "part"] [V.ref a]) [2] ∧ (tAnd (tB (tCB (rIsi K) (tCons (tVar 2) (tCons (tC (.ty "tuple")) tNil)))) (tTest (tOp rEq (tOp (rIxT K) (tVar 2) (tC (.int 0))) (tC (.str "parameter"))))) σ2 H2 fun b H3 => if b = true then (tOp (rIxT K) (tVar 2) (tC (.int 1))) σ2 H3 R else Nn H3 := by
      rintro i x H1 H' R Nn hi sm ⟨rfl, gx⟩ kR kN
      obtain ⟨p, gp, isp⟩ := Paired.at hp gx
      have isp1 := isp.same sm
      have nx := pars_next gp
      refine ⟨rfl, _, rfl, ?_⟩
      cases p with
      | name l => obtain rfl := isp1; exact ⟨_, _, _, _, _, rfl, .ty _, .base (.str _), kit_ty (r := false) (by decide +kernel), _, rfl, iteF (kN _ (Same.refl _) (by rw [nx]; simp [parNo]))⟩
      | num n => obtain rfl := isp1; exact ⟨_, _, _, _, _, rfl, .ty _, .base (.int _), kit_ty (r := false) (by decide +kernel), _, rfl, iteF (kN _ (Same.refl _) (by rw [nx]; simp [parNo]))⟩
      | text l =>
        obtain ⟨b, rfl, h⟩ := isp1
        exact ⟨_, _, _, _, _, rfl, .ty _, .base (.tup h), kit_ty (r := true) (by decide +kernel), _, rfl, iteT ⟨_, rfl, b, _, 0, _, rfl, rfl, SqT.of h, rfl, rfl, _, rfl, iteF (kN _ (Same.refl _) (by rw [nx]; simp [parNo]))⟩⟩
      | par n =>
        obtain ⟨b, rfl, h⟩ := isp1
        exact ⟨_, _, _, _, _, rfl, .ty _, .base (.tup h), kit_ty (r := true) (by decide +kernel), _, rfl, iteT ⟨_, rfl, b, _, 0, _, rfl, rfl, SqT.of h, rfl, rfl, _, rfl, iteT ⟨_, rfl, b, _, 1, _, rfl, rfl, SqT.of h, rfl, kR (.int n) _ (Same.refl _) (by rw [nx]; simp [parNo])⟩⟩⟩
    have sizes : ∀ i, i < xs.length → ((parsOf (ps.take i)).map V.int).length < sizeLine := fun i hi => by
      have z : (parsOf (ps.take i)).length ≤ (ps.take i).length := List.length_filterMap_le _ _
      rw [List.length_take] at z
      rw [List.length_map, sizeLine_eq]; omega
    have plen : (parsOf ps).length ≤ 1000 := by
      have z : (parsOf ps).length ≤ ps.length := List.length_filterMap_le _ _
      omega
    have fin : ∀ (H1 : Hp) (D : Addr), Same H H1 → H D = none → H1 D = some (.lst ((parsOf (ps.take xs.length)).map V.int)) → (gName 1) (.ref D) (L2.start ["parts", "numbers", "part"] [V.ref a]) H1 (fun σ H => tRet (tCB (rMax K) (tCons (tOp rCat (tLst (tCons (tC (.int 0)) tNil)) (tVar 1)) tNil)) { nx := fun _ H' => Q .non H', rt := Q } σ H) := fun H1 D sm nD e => by
      rw [List.take_of_length_le (by omega)] at e
      refine ⟨(by show 1 ≤ sizeLine; decide), fun p np => ⟨_, rfl, p, D, _, _, rfl, rfl, upd_same, by rw [upd_ne (ne_of_none e np)]; exact e, by rw [List.length_map, sizeLine_eq]; show 1 + _ ≤ _; omega, fun p2 np2 => ?_⟩⟩
      have n0 : H p = none := sm.free np
      have s2 : Same H (upd H1 p (.lst [.int 0])) := same_put n0 sm
      refine ⟨p2, 0 :: parsOf ps, rfl, SqL.of (by rw [upd_same]; rfl), Nat.succ_pos _, fun m h1 h2 => vto (q _ (same_put (s2.free np2) s2)) ?_⟩
      rw [most_max ok h1 h2]
    rcases sq with sq | sq
    · refine ⟨_, pss_cons (ps_setLc (i := 1) (own := [("part", 2)]) (g := gName 2) (tt := tAnd (tB (tCB (rIsi K) (tCons (tVar 2) (tCons (tC (.ty "tuple")) tNil)))) (tTest (tOp rEq (tOp (rIxT K) (tVar 2) (tC (.int 0))) (tC (.str "parameter"))))) (te := tOp (rIxT K) (tVar 2) (tC (.int 1))) rfl sc_law_used.nd rfl rfl (sw_true rfl rfl rfl (by decide +kernel)) (pi_tup (pv 0)) (blkOk_by (N := ["parts", "numbers", "part"]) (sc := defScope s_law_used) (by decide +kernel))
          (fun _ _ _ _ _ => pg_name (i := 2) sc_law_used.nd rfl (.inl rfl)) (fun _ _ _ _ _ => pts_one (PW.pt (pw_and (pt_val (pe_callB call_isi (by rfl) T.n_isinstance boot_isinstance (pa_cons (pv 2) (pa_cons (pe_bltn (v := .ty "tuple") (by rfl) T.n_tuple boot_tuple rfl) pa_nil)))) (pw_and1 (pt_cmpR op_eq (pe_ix ix_tup (pv 2) pe_int (fun _ _ => rfl)) pe_str (nomark _))))))
          (fun _ _ _ _ _ => pe_ix ix_tup (pv 2) pe_int (fun _ _ => rfl)))
        (pss_one (ps_ret (pe_callB (cr_max rfl) (by rfl) T.n_max boot_max (pa_cons (pe_op op_cat (pe_lst (pa_cons pe_int pa_nil)) (pv 1)) pa_nil)))), ?_⟩
      exact ⟨_, rfl, a, rfl, ⟨_, sq⟩, lc_acc walk_tup (fun i => (parsOf (ps.take i)).map V.int) (by simp [parsOf]) sizes (fun H1 sm => Same.tup sm sq) turn fin⟩
    · refine ⟨_, pss_cons (ps_setLc (i := 1) (own := [("part", 2)]) (g := gName 2) (tt := tAnd (tB (tCB (rIsi K) (tCons (tVar 2) (tCons (tC (.ty "tuple")) tNil)))) (tTest (tOp rEq (tOp (rIxT K) (tVar 2) (tC (.int 0))) (tC (.str "parameter"))))) (te := tOp (rIxT K) (tVar 2) (tC (.int 1))) rfl sc_law_used.nd rfl rfl (sw_true rfl rfl rfl (by decide +kernel)) (pi_list (pv 0)) (blkOk_by (N := ["parts", "numbers", "part"]) (sc := defScope s_law_used) (by decide +kernel))
          (fun _ _ _ _ _ => pg_name (i := 2) sc_law_used.nd rfl (.inl rfl)) (fun _ _ _ _ _ => pts_one (PW.pt (pw_and (pt_val (pe_callB call_isi (by rfl) T.n_isinstance boot_isinstance (pa_cons (pv 2) (pa_cons (pe_bltn (v := .ty "tuple") (by rfl) T.n_tuple boot_tuple rfl) pa_nil)))) (pw_and1 (pt_cmpR op_eq (pe_ix ix_tup (pv 2) pe_int (fun _ _ => rfl)) pe_str (nomark _))))))
          (fun _ _ _ _ _ => pe_ix ix_tup (pv 2) pe_int (fun _ _ => rfl)))
        (pss_one (ps_ret (pe_callB (cr_max rfl) (by rfl) T.n_max boot_max (pa_cons (pe_op op_cat (pe_lst (pa_cons pe_int pa_nil)) (pv 1)) pa_nil)))), ?_⟩
      exact ⟨_, rfl, a, rfl, ⟨_, sq⟩, lc_acc walk_list (fun i => (parsOf (ps.take i)).map V.int) (by simp [parsOf]) sizes (fun H1 sm => sm.seq sq) turn fin⟩
end
end K02
end
section
namespace K02
open PySem PySem.Spec PyProof.Rows L2 Tl Mx SX
theorem fits_terms : ∀ (cnt : Nat) (ts : List Part), cnt ≤ 2 → ts.length = cnt → (∀ p ∈ ts, okP p = true ∧ ∀ l, p ≠ .name l) → Paired fits ([88, 89].take cnt) ts
  | 0, [], _, _, _ => .nil
  | 1, [a], _, _, h => .cons (by unfold fits; rw [if_neg (by decide)]; exact h a (by simp)) .nil
  | 2, [a, b], _, _, h => .cons (by unfold fits; rw [if_neg (by decide)]; exact h a (by simp)) (.cons (by unfold fits; rw [if_neg (by decide)]; exact h b (by simp)) .nil)
  | n + 3, _, h, _, _ => by omega
  | 0, _ :: _, _, h, _ => by simp at h
  | 1, [], _, h, _ => by simp at h
  | 1, _ :: _ :: _, _, h, _ => by simp at h
  | 2, [], _, h, _ => by simp at h
  | 2, [_], _, h, _ => by simp at h
  | 2, _ :: _ :: _ :: _, _, h, _ => by simp at h
theorem okS_mk {wl nl : List Nat} {ts : List Part} {cnt : Nat} {f : Str} {c0 : Nat} (hw : nameM wl = true) (hn : nameM nl = true) (hc : cnt ≤ 2) (ef : formOf (S wl) (1 + cnt) = some f) (h0 : c0 = 84 ∨ c0 = 78) (fc : f.cps.toList = c0 :: [88, 89].take cnt)
    (len : ts.length = cnt) (ok : ∀ p ∈ ts, okP p = true ∧ ∀ l, p ≠ .name l) (g : good ts) : okS wl (.name nl :: ts) where
  nm := hw
  ex := ⟨f, by rw [List.length_cons, len, Nat.add_comm]; exact ef, by rw [fc]; exact .cons (by unfold fits; rw [if_pos h0]; exact ⟨nl, rfl, hn⟩) (fits_terms cnt ts hc len ok)⟩
  gd := fun m m1 m2 => List.mem_cons_of_mem _ (g m m1 m2)
theorem okS_alone {wl : List Nat} (hw : nameM wl = true) (ef : formOf (S wl) 0 = some "") : okS wl [] where
  nm := hw
  ex := ⟨"", ef, .nil⟩
  gd := fun m m1 m2 => absurd (show m ≤ 0 from m2) (by omega)
def sp_statement (K : PySem.W.Frag) : Sp := fun vs H Q _ => ∃ (a b : Addr) (rs : List Int) (ns : List (List Nat)), vs = [.ref a, .ref b] ∧ SqL K H a (rs.map V.int) ∧ rs.length = 6 ∧ (∀ x ∈ rs, (0 : Int) ≤ x) ∧ SqL K H b (ns.map fun l => V.str (S l)) ∧ ns ≠ [] ∧ (∀ l ∈ ns, nameM l = true) ∧
  ∀ H' p wl ps xs, Same H H' → H p = none → H' p = some (.tup (.str (S wl) :: xs)) → ArePs H' xs ps → okS wl ps → ps.length ≤ 3 → Q (.ref p) H'
section
variable {P : Program} {w : World} {K : PySem.W.Frag} {mg : Str → Option Value} {base : Heap} {C : Addr}
theorem ok_statement (T : Txt K mg) : Pr P w K mg base CX0 5 "_law_statement" ["row", "names"] (sp_statement K) := by
  refine pr0 T.d_law_statement sc_law_statement (fun vs H Q E h => ?_) (fun f cdv A outer s H vs Q E hr h => ?_)
  · obtain ⟨a, b, rs, ns, rfl, _⟩ := h; rfl
  · obtain ⟨a, b, rs, ns, rfl, sqr, lr, rpos, sqn, nne, nok, q⟩ := h
    have G1 := ok_term (P := P) (w := w) (base := base) T
    have G2 := ok_used (P := P) (w := w) (base := base) T
    refine ⟨_, pss_cons (ps_set (i := 2) sc_law_statement.nd rfl (.inl rfl) (pe_lst (pa_cons pe_str (pa_cons pe_str (pa_cons pe_str (pa_cons pe_str (pa_cons pe_str (pa_cons pe_str (pa_cons pe_str (pa_cons pe_str (pa_cons pe_str (pa_cons pe_str (pa_cons pe_str (pa_cons pe_str (pa_cons pe_str pa_nil)))))))))))))))
      (pss_cons (ps_set (i := 2) sc_law_statement.nd rfl (.inl rfl) (pe_op op_cat (pv 2) (pe_lst (pa_cons pe_str (pa_cons pe_str (pa_cons pe_str (pa_cons pe_str (pa_cons pe_str (pa_cons pe_str (pa_cons pe_str (pa_cons pe_str pa_nil)))))))))))
      (pss_cons (ps_set (i := 3) sc_law_statement.nd rfl (.inl rfl) (pe_ix ix_list (pv 2) (pe_op op_mod (pe_ix ix_list (pv 0) pe_int (fun _ _ => rfl)) (pe_callB call_len_seq (by rfl) T.n_len PySem.boot_len (pa_cons (pv 2) pa_nil))) (fun _ _ => rfl)))
      (pss_cons (ps_if (pt_cmpR op_in_seq (pv 3) (pe_lst (pa_cons pe_str (pa_cons pe_str (pa_cons pe_str pa_nil)))) (by rfl)) (pss_one (ps_ret (pe_tup (pa_cons (pv 3) pa_nil)))) pss_nil)
      (pss_cons (ps_set (i := 4) sc_law_statement.nd rfl (.inl rfl) (pe_lst (pa_cons (pv 3) (pa_cons (pe_ix ix_list (pv 1) (pe_op op_mod (pe_ix ix_list (pv 0) pe_int (fun _ _ => rfl)) (pe_callB call_len_seq (by rfl) T.n_len PySem.boot_len (pa_cons (pv 1) pa_nil))) (fun _ _ => rfl)) pa_nil))))
      (pss_cons (ps_set (i := 5) sc_law_statement.nd rfl (.inl rfl) (pe_dget2 (hu_of hr) (pe_disp (pps_cons pe_str pe_int (pps_cons pe_str pe_int (pps_cons pe_str pe_int (pps_cons pe_str (pe_op op_mul pe_int (pe_op op_mod (pe_ix ix_list (pv 0) pe_int (fun _ _ => rfl)) pe_int)) pps_nil)))) rfl rfl (by simp) (by decide)) (pv 3) pe_int ⟨rfl, rfl, rfl, rfl⟩))
      (C8.pss_cut (ps_if (PW.pt (pw_and (pt_cmpR op_eq (pv 5) pe_int (nomark _)) (pw_and1 (pt_cmpR op_eq (pe_op op_mod (pe_ix ix_list (pv 0) pe_int (fun _ _ => rfl)) pe_int) pe_int (nomark _)))))
          (pss_one (ps_ret (pe_tup (pa_cons (pv 3) (pa_cons (pe_ix ix_list (pv 4) pe_int (fun _ _ => rfl)) (pa_cons (pe_tup (pa_cons pe_str (pa_cons pe_int pa_nil))) (pa_cons (pe_tup (pa_cons pe_str (pa_cons pe_int pa_nil))) pa_nil))))))) pss_nil)
      (pss_cons (ps_for PassesOwn.never rfl (pi_range1 (by rfl) T.n_range (pa_cons (pv 5) pa_nil)) (pg_name (i := 6) sc_law_statement.nd rfl (.inl rfl))
          (pss_one (ps_expr (pe_bm PySem.F.plainAttrs_list PySem.F.slot_list_append PySem.F.type_list_append mt_append (pv 4) (pa_cons (pe_k G1 hr (by decide) pass0 (by rfl) (pa_cons
            (pe_op op_add (pe_ix ix_list (pv 0) (pe_op op_add pe_int (pv 6)) (fun _ _ => rfl)) (pe_op op_mul pe_int (pe_ix ix_list (pv 0) (pe_op op_sub pe_int (pe_op op_mul pe_int (pv 6))) (fun _ _ => rfl))))
            (pa_cons (pe_k G2 hr (by decide) pass0 (by rfl) (pa_cons (pv 4) pa_nil)) pa_nil))) pa_nil)))))
      (pss_one (ps_ret (pe_callTy call_tuple_of (by rfl) T.n_tuple boot_tuple (pa_cons (pv 4) pa_nil))))))))))), ?_⟩
    obtain ⟨r0, r1, r2, r3, r4, r5, rfl⟩ : ∃ r0 r1 r2 r3 r4 r5, rs = [r0, r1, r2, r3, r4, r5] := by
      match rs, lr with
      | [r0, r1, r2, r3, r4, r5], _ => exact ⟨r0, r1, r2, r3, r4, r5, rfl⟩
    have p0 : 0 ≤ r0 := rpos r0 (by simp)
    have p1' : 0 ≤ r1 := rpos r1 (by simp)
    have p2' : 0 ≤ r2 := rpos r2 (by simp)
    have p3' : 0 ≤ r3 := rpos r3 (by simp)
    have p4' : 0 ≤ r4 := rpos r4 (by simp)
    have p5' : 0 ≤ r5 := rpos r5 (by simp)
    -- words
    refine ⟨(by show 13 ≤ sizeLine; decide), fun p1 n1 => ?_⟩
    refine ⟨_, rfl, (by show 8 ≤ sizeLine; decide), fun p2 n2 => ⟨p1, p2, _, _, rfl, rfl, by rw [upd_ne (ne_of_none upd_same n2)]; exact upd_same, upd_same, (by show 21 ≤ sizeLine; decide), fun p3 n3 => ?_⟩⟩
    obtain ⟨H3, e3⟩ : ∃ H3, H3 = upd (upd (upd H p1 (.lst [.str "create", .str "put", .str "put", .str "scan", .str "begin", .str "commit", .str "put", .str "get", .str "delete", .str "total", .str "scan", .str "save", .str "undo"])) p2 (.lst [.str "rollback", .str "drop", .str "create", .str "put", .str "begin", .str "save", .str "undo", .str "scan"])) p3 (.lst wordsV) := ⟨_, rfl⟩
    have sm2 : Same H (upd (upd H p1 (.lst [.str "create", .str "put", .str "put", .str "scan", .str "begin", .str "commit", .str "put", .str "get", .str "delete", .str "total", .str "scan", .str "save", .str "undo"])) p2 (.lst [.str "rollback", .str "drop", .str "create", .str "put", .str "begin", .str "save", .str "undo", .str "scan"])) := (same_upd n1).trans (same_upd n2)
    have sm3 : Same H H3 := by rw [e3]; exact same_put (sm2.free n3) sm2
    have at3 : H3 p3 = some (.lst wordsV) := by rw [e3]; exact upd_same
    change tSeq _ _ _ _ (upd (upd (upd H p1 _) p2 _) p3 (.lst wordsV))
    rw [← e3]
    -- word
    have w0 : 0 ≤ r0 % 21 := Int.emod_nonneg _ (by decide)
    have w1 : r0 % 21 < 21 := Int.emod_lt_of_pos _ (by decide)
    obtain ⟨v, gv⟩ : ∃ v, wordsV[(r0 % 21).toNat]? = some v := ⟨_, List.getElem?_eq_getElem (by show _ < 21; omega)⟩
    obtain ⟨wl, rfl, wok, kind⟩ := kind_of v (List.mem_of_getElem? gv)
    refine ⟨_, rfl, _, rfl, a, _, 0, _, rfl, rfl, sm3.seq sqr, rfl, _, rfl, p3, wordsV, rfl, .inl (SqL.of at3), r0, 21, rfl, rfl, (by show (0 : Int) < _; decide), p3, wordsV, _, _, rfl, rfl, SqL.of at3, by rw [show r0 % 21 = ((r0 % 21).toNat : Int) from (Int.toNat_of_nonneg w0).symm]; exact atI_nat gv, ?_⟩
    -- alone
    refine ⟨_, rfl, (by show 3 ≤ sizeLine; decide), fun p4 n4 => ⟨p4, aloneV, rfl, .inl (SqL.of upd_same), rfl, rfl, ?_⟩⟩
    have sm4 : Same H (upd H3 p4 (.lst aloneV)) := same_put (sm3.free n4) sm3
    rw [show (if false then !inV (V.str (S wl)) aloneV else inV (V.str (S wl)) aloneV) = inV (V.str (S wl)) aloneV from rfl]
    rcases kind with ⟨ka, kf⟩ | ⟨ka, kf⟩
    · rw [ka]
      refine ⟨_, rfl, iteT ⟨_, rfl, (by show 1 ≤ sizeLine; decide), fun p5 n5 => ?_⟩⟩
      exact q _ p5 wl [] [] (same_put (sm4.free n5) sm4) (sm4.free n5) upd_same .nil (okS_alone wok kf) (by simp)
    · rw [ka]
      refine ⟨_, rfl, iteF ?_⟩
      -- parts
      have npos : 0 < ns.length := List.length_pos_iff.mpr nne
      have m0 : 0 ≤ r1 % (ns.length : Int) := Int.emod_nonneg _ (by omega)
      have m1 : r1 % (ns.length : Int) < (ns.length : Int) := Int.emod_lt_of_pos _ (by omega)
      obtain ⟨nl, gn⟩ : ∃ nl, ns[(r1 % (ns.length : Int)).toNat]? = some nl := ⟨_, List.getElem?_eq_getElem (by omega)⟩
      have nok' := nok nl (List.mem_of_getElem? gn)
      refine ⟨_, rfl, _, rfl, _, rfl, a, _, 1, _, rfl, rfl, sm4.seq sqr, rfl, _, rfl, b, _, rfl, .inl (sm4.seq sqn), r1, (ns.length : Int), rfl, by rw [List.length_map], (by show (0 : Int) < _; omega), b, _, _, .str (S nl), rfl, rfl, sm4.seq sqn, ?_, (by show 2 ≤ sizeLine; decide), fun p6 n6 => ?_⟩
      · rw [show r1 % (ns.length : Int) = ((r1 % (ns.length : Int)).toNat : Int) from (Int.toNat_of_nonneg m0).symm]
        exact atI_nat (by rw [List.getElem?_map, gn]; rfl)
      obtain ⟨H6, e6⟩ : ∃ H6, H6 = upd (upd H3 p4 (.lst aloneV)) p6 (.lst [.str (S wl), .str (S nl)]) := ⟨_, rfl⟩
      have n6' : H p6 = none := sm4.free n6
      have sm6 : Same H H6 := by rw [e6]; exact same_put n6' sm4
      have at6 : H6 p6 = some (.lst [.str (S wl), .str (S nl)]) := by rw [e6]; exact upd_same
      change gName _ _ _ (upd (upd H3 p4 (.lst aloneV)) p6 (.lst [.str (S wl), .str (S nl)])) _
      rw [← e6]
      -- count
      have b0 : r2 % 2 = 0 ∨ r2 % 2 = 1 := by omega
      obtain ⟨cnt, c2, ecnt, fo, c0, efo, hc0, fc⟩ := kf (r2 % 2) b0
      refine fun p7 n7 => ?_
      have sm7 : Same H6 (upd H6 p7 (.dK [])) := same_upd n7
      refine ⟨_, rfl, a, _, 2, _, rfl, rfl, (sm6.trans sm7).seq sqr, rfl, _, _, rfl, rfl, (by show (0 : Int) < _; decide), _, _, rfl, rfl, .inl ⟨by decide, by decide⟩, upd_same, cntK (r2 % 2), rfl, (by show 4 ≤ 15; decide), ?_⟩
      obtain ⟨H7, e7⟩ : ∃ H7, H7 = upd (upd H6 p7 (.dK [])) p7 (.dK (mergeK [] (cntK (r2 % 2)))) := ⟨_, rfl⟩
      have n7' : H p7 = none := sm6.free n7
      have sm67 : Same H6 H7 := by rw [e7]; exact same_put n7 sm7
      have sm07 : Same H H7 := sm6.trans sm67
      have at7 : H7 p7 = some (.dK (mergeK [] (cntK (r2 % 2)))) := by rw [e7]; exact upd_same
      change ∃ z, V.ref p7 = .ref z ∧ IsD (upd (upd H6 p7 (.dK [])) p7 (.dK (mergeK [] (cntK (r2 % 2))))) z ∧ _
      rw [← e7]
      refine ⟨p7, rfl, .inl ⟨_, .inl at7⟩, _, rfl, _, DGet.k (k := .inr (S wl)) at7, ?_⟩
      rw [ecnt]
      have at67 : H7 p6 = some (.lst [.str (S wl), .str (S nl)]) := sm67 _ _ at6
      have sqr7 := sm07.seq sqr
      -- the form with both parameters
      refine ⟨fun σ' H' => σ' = [some (.ref a), some (.ref b), some (.ref p3), some (.str (S wl)), some (.ref p6), some (.int (cnt : Int)), none] ∧ H' = H7, ?_, ?_⟩
      · refine ⟨_, rfl, rfl, _, rfl, ite2 (fun h1 => ?_) (fun h1 => iteF ⟨rfl, rfl⟩)⟩
        have hcnt : (cnt : Int) = 2 := V.int.inj (of_decide_eq_true h1)
        refine ⟨_, rfl, a, _, 5, _, rfl, rfl, sqr7, rfl, _, _, rfl, rfl, (by show (0 : Int) < _; decide), rfl, _, rfl, ite2 (fun h2 => ?_) (fun h2 => ⟨rfl, rfl⟩)⟩
        refine ⟨_, rfl, _, rfl, p6, _, 1, _, rfl, rfl, SqL.of at67, rfl, (by show 2 ≤ sizeLine; decide), fun t1 nt1 => ⟨(by show 2 ≤ sizeLine; decide), fun t2 nt2 => ⟨(by show 4 ≤ sizeLine; decide), fun t3 nt3 => ?_⟩⟩⟩
        have k1 : Same H7 (upd H7 t1 (.tup [.str "parameter", .int 2])) := same_upd nt1
        have k2 : Same (upd H7 t1 (.tup [.str "parameter", .int 2])) (upd (upd H7 t1 (.tup [.str "parameter", .int 2])) t2 (.tup [.str "parameter", .int 1])) := same_upd nt2
        have k3 := same_upd (o := .tup [.str (S wl), .str (S nl), .ref t1, .ref t2]) nt3
        have k13 := (sm07.trans k1).trans k2
        have hc2 : cnt = 2 := by omega
        refine q _ t3 wl [.name nl, .par 2, .par 1] [.str (S nl), .ref t1, .ref t2] (same_put (k13.free nt3) k13) (k13.free nt3) upd_same (.cons rfl (.cons ⟨t1, rfl, k3 _ _ (k2 _ _ upd_same)⟩ (.cons ⟨t2, rfl, k3 _ _ upd_same⟩ .nil))) ?_ (by simp)
        refine okS_mk wok nok' c2 efo hc0 fc (by rw [hc2]; rfl) (fun p hp => ?_) (fun m m1 m2 => ?_)
        · simp only [List.mem_cons, List.not_mem_nil, or_false] at hp
          rcases hp with rfl | rfl <;> exact ⟨by decide, fun l z => nomatch z⟩
        · have m2 : m ≤ 2 := m2
          have : m = 1 ∨ m = 2 := by omega
          rcases this with rfl | rfl <;> simp
      · rintro σ' H' ⟨rfl, rfl⟩
        refine ⟨_, rfl, (cnt : Int), rfl, by omega, by omega, ?_⟩
        refine for_it walk_range (fun i σ H' => ∃ y ts xs, σ = [some (.ref a), some (.ref b), some (.ref p3), some (.str (S wl)), some (.ref p6), some (.int (cnt : Int)), y] ∧ Same H H' ∧ H' p6 = some (.lst (.str (S wl) :: .str (S nl) :: xs)) ∧ ArePs H' xs ts ∧ ts.length = i ∧ (∀ p ∈ ts, okP p = true ∧ ∀ l, p ≠ .name l) ∧ good ts)
          ⟨none, [], [], rfl, sm07, at67, .nil, rfl, (fun p hp => nomatch hp), fun m m1 m2 => absurd (show m ≤ 0 from m2) (by omega)⟩ (fun _ _ _ _ _ => trivial) ?_ ?_
        · rintro i x σ H8 H9 hi ⟨y, ts, xs, rfl, sm8, at8, pv8, lt8, ok8, gd8⟩ ⟨rfl, rfl⟩
          have hi : i < cnt := hi
          have hA : ∃ r, 0 ≤ r ∧ atI ([r0, r1, r2, r3, r4, r5].map V.int) (3 + (0 + (i : Int))) = some (.int r) := by
            have : i = 0 ∨ i = 1 := by omega
            rcases this with rfl | rfl
            · exact ⟨r3, p3', rfl⟩
            · exact ⟨r4, p4', rfl⟩
          have hB : ∃ r, 0 ≤ r ∧ atI ([r0, r1, r2, r3, r4, r5].map V.int) (5 - 3 * (0 + (i : Int))) = some (.int r) := by
            have : i = 0 ∨ i = 1 := by omega
            rcases this with rfl | rfl
            · exact ⟨r5, p5', rfl⟩
            · exact ⟨r2, p2', rfl⟩
          obtain ⟨rA, pA, gA⟩ := hA
          obtain ⟨rB, pB, gB⟩ := hB
          have sqr8 := sm8.seq sqr
          have xl := Paired.len pv8
          have pv8' : ArePs H9 (.str (S wl) :: .str (S nl) :: xs) (.name wl :: .name nl :: ts) := .cons rfl (.cons rfl pv8)
          have ok8' : ∀ p ∈ Part.name wl :: Part.name nl :: ts, okP p = true := fun p hp => by
            rcases List.mem_cons.mp hp with rfl | hp
            · exact wok
            · rcases List.mem_cons.mp hp with rfl | hp
              · exact nok'
              · exact (ok8 p hp).1
          obtain ⟨u0, u4⟩ := most_le (fun p hp => (ok8 p hp).1)
          refine ⟨_, rfl, .inl ⟨rfl, _, SqL.of at8⟩, ?_⟩
          refine ⟨_, rfl, _, rfl, _, _, rfl, rfl, a, _, _, .int rA, rfl, rfl, sqr8, gA, ?_⟩
          refine ⟨_, rfl, _, rfl, _, _, rfl, rfl, .inl ⟨by decide, by decide⟩, _, _, rfl, rfl, a, _, _, .int rB, rfl, rfl, sqr8, gB, _, _, rfl, rfl, .inl ⟨by decide, by decide⟩, _, _, rfl, rfl, ?_⟩
          refine ⟨_, rfl, p6, _, _, rfl, .inr (SqL.of at8), by rw [List.length_cons, List.length_cons]; omega, pv8', ok8', fun H10 s10 => ?_⟩
          refine ⟨rA + 840 * rB, mostOf ts, rfl, by omega, u0, u4, fun H11 v p s11 isv okt => ?_⟩
          have s911 := s10.trans s11
          have at11 := s911 _ _ at8
          refine ⟨p6, _, v, rfl, rfl, at11, by rw [List.length_cons, List.length_cons, sizeLine_eq]; omega, ?_⟩
          refine ⟨_, ts ++ [p], xs ++ [v], rfl, same_put n6' (sm8.trans s911), upd_same, ((pv8.same s911).snoc isv).over (over_lst at11), by rw [List.length_append, lt8]; rfl, fun z hz => ?_, good_snoc (fun z hz => ?_) gd8 okt.2.2⟩
          · rcases List.mem_append.mp hz with hz | hz
            · exact ok8 z hz
            · rw [List.mem_singleton.mp hz]; exact ⟨okt.1, okt.2.1⟩
          · rcases List.mem_append.mp hz with hz | hz
            · exact (ok8 z hz).1
            · rw [List.mem_singleton.mp hz]; exact okt.1
        · rintro σ H8 ⟨y, ts, xs, rfl, sm8, at8, pv8, lt8, ok8, gd8⟩
          have lt8 : ts.length = cnt := lt8
          refine ⟨_, rfl, p6, _, rfl, .inl ⟨SqL.of at8, fun p9 n9 => ?_⟩⟩
          have n9' := sm8.free n9
          exact q _ p9 wl (.name nl :: ts) (.str (S nl) :: xs) (same_put n9' sm8) n9' upd_same (.cons rfl (pv8.same (same_upd n9))) (okS_mk wok nok' c2 efo hc0 fc lt8 ok8 gd8) (by rw [List.length_cons]; omega)
end
end K02
end
section
namespace K02
open PySem PySem.Spec PyProof.Rows L2 Tl Mx SX
def writP : Part → List Nat
  | .name l => l
  | .num n => intS n
  | .text l => 39 :: (l ++ [39])
  | .par n => 36 :: intS n
def writS (ps : List Part) : List Nat := TL.joinL [32] (ps.map writP)
theorem num_log {n : Int} (h1 : -2147483648 ≤ n) (h2 : n ≤ 2147483647) : n.natAbs.log2 < 1920 := by
  by_cases z : n.natAbs = 0
  · rw [z]; decide
  · rw [Nat.log2_lt z]
    have b : 2147483649 ≤ 2 ^ 1920 := by decide +kernel
    omega
theorem numL_11 {n : Nat} (h : n ≤ 2147483648) : (TL.numL n).length ≤ 10 := TL.numL_len (by decide) (by omega)
theorem intS_11 {n : Int} (h1 : -2147483648 ≤ n) (h2 : n ≤ 2147483647) : (intS n).length ≤ 11 := by
  have := numL_11 (n := n.natAbs) (by omega)
  unfold intS
  split <;> simp <;> omega
theorem ok_num {n : Int} (h : okP (.num n) = true) : -2147483648 ≤ n ∧ n ≤ 2147483647 := by
  have z : (decide (-2147483648 ≤ n) && decide (n ≤ 2147483647)) = true := h
  rw [Bool.and_eq_true_iff] at z
  exact ⟨of_decide_eq_true z.1, of_decide_eq_true z.2⟩
theorem ok_par {n : Int} (h : okP (.par n) = true) : 1 ≤ n ∧ n ≤ 4 := by
  have z : (decide (1 ≤ n) && decide (n ≤ 4)) = true := h
  rw [Bool.and_eq_true_iff] at z
  exact ⟨of_decide_eq_true z.1, of_decide_eq_true z.2⟩
theorem ok_textP {l : List Nat} (h : okP (.text l) = true) : l.length ≤ 40 ∧ 39 ∉ l ∧ l.all sgn = true := by
  have z : (decide (l.length ≤ 40) && (!decide (39 ∈ l) && l.all sgn)) = true := h
  rw [Bool.and_eq_true_iff, Bool.and_eq_true_iff] at z
  exact ⟨of_decide_eq_true z.1, by simpa using z.2.1, z.2.2⟩
theorem ok_nameP {l : List Nat} (h : okP (.name l) = true) : 1 ≤ l.length ∧ l.length ≤ 8 ∧ l.all isLet = true := by
  have z : (decide (1 ≤ l.length) && decide (l.length ≤ 8) && l.all isLet) = true := h
  rw [Bool.and_eq_true_iff, Bool.and_eq_true_iff] at z
  exact ⟨of_decide_eq_true z.1.1, of_decide_eq_true z.1.2, z.2⟩
theorem writ_len {p : Part} (h : okP p = true) : (writP p).length ≤ 42 := by
  cases p with
  | name l => have := ok_nameP h; show l.length ≤ 42; omega
  | num n => have a := ok_num h; have := intS_11 a.1 a.2; show (intS n).length ≤ 42; omega
  | text l => have := ok_textP h; show (39 :: (l ++ [39])).length ≤ 42; simp; omega
  | par n => have a := ok_par h; have := intS_11 (n := n) (by omega) (by omega); show (36 :: intS n).length ≤ 42; simp; omega
def sp_written (K : PySem.W.Frag) : Sp := fun vs H Q _ => ∃ a xs ps, vs = [.ref a] ∧ SqT K H a xs ∧ ArePs H xs ps ∧ ps.length ≤ 10 ∧ (∀ p ∈ ps, okP p = true) ∧ ∀ H', Same H H' → Q (.str (S (writS ps))) H'
/-- a part, its pairs as tuples or as lists, none of them at b -/
def IsR (b : Addr) (H : Hp) (v : V) : Part → Prop
  | .name l => v = .str (S l)
  | .num n => v = .int n
  | .text l => ∃ a, a ≠ b ∧ v = .ref a ∧ (H a = some (.tup [.str "text", .str (S l)]) ∨ H a = some (.lst [.str "text", .str (S l)]))
  | .par n => ∃ a, a ≠ b ∧ v = .ref a ∧ (H a = some (.tup [.str "parameter", .int n]) ∨ H a = some (.lst [.str "parameter", .int n]))
theorem IsR.to {b : Addr} {H : Hp} {v : V} {p : Part} (h : IsR b H v p) : IsQ H v p := by
  cases p with
  | name l => exact h
  | num n => exact h
  | text l => obtain ⟨a, _, e, h⟩ := h; exact ⟨a, e, h⟩
  | par n => obtain ⟨a, _, e, h⟩ := h; exact ⟨a, e, h⟩
theorem IsR.over {b : Addr} {H H' : Hp} {v : V} {p : Part} (s : ∀ a o, a ≠ b → H a = some o → H' a = some o) (h : IsR b H v p) : IsR b H' v p := by
  cases p with
  | name l => exact h
  | num n => exact h
  | text l => obtain ⟨a, n, e, h⟩ := h; exact ⟨a, n, e, h.imp (s _ _ n) (s _ _ n)⟩
  | par n => obtain ⟨a, n, e, h⟩ := h; exact ⟨a, n, e, h.imp (s _ _ n) (s _ _ n)⟩
def AreRs (b : Addr) (H : Hp) : List V → List Part → Prop := Paired (IsR b H)
theorem AreRs.over {b : Addr} {H H' : Hp} (s : ∀ a o, a ≠ b → H a = some o → H' a = some o) : ∀ {vs : List V} {ps : List Part}, AreRs b H vs ps → AreRs b H' vs ps
  | _, _, .nil => .nil
  | _, _, .cons h t => .cons (h.over s) (AreRs.over s t)
theorem AreRs.snoc {b : Addr} {H : Hp} {v : V} {p : Part} : ∀ {vs : List V} {ps : List Part}, AreRs b H vs ps → IsR b H v p → AreRs b H (vs ++ [v]) (ps ++ [p])
  | _, _, .nil, h => .cons h .nil
  | _, _, .cons a t, h => .cons a (AreRs.snoc t h)
theorem AreRs.to {b : Addr} {H : Hp} : ∀ {vs : List V} {ps : List Part}, AreRs b H vs ps → Paired (IsQ H) vs ps
  | _, _, .nil => .nil
  | _, _, .cons h t => .cons h.to (AreRs.to t)
section
variable {P : Program} {w : World} {K : PySem.W.Frag} {mg : Str → Option Value} {base : Heap} {C : Addr}
theorem ok_written (T : Txt K mg) : Pr P w K mg base CX0 1 "_law_written" ["parts"] (sp_written K) := by
  refine pr0 T.d_law_written sc_law_written (fun vs H Q E h => ?_) (fun f cdv A outer s H vs Q E hr h => ?_)
  · obtain ⟨a, xs, ps, rfl, _⟩ := h; rfl
  · obtain ⟨a, xs, ps, rfl, sq, hp, l10, ok, q⟩ := h
    have len := Paired.len hp
    refine ⟨_, pss_cons (ps_set (i := 1) sc_law_written.nd rfl (.inl rfl) (pe_lst pa_nil))
      (pss_cons (ps_for PassesOwn.never rfl (pi_tup (pv 0)) (pg_name (i := 2) sc_law_written.nd rfl (.inl rfl))
        (pss_one (ps_if (pt_val (pe_callB call_isi (by rfl) T.n_isinstance boot_isinstance (pa_cons (pv 2) (pa_cons (pe_bltn (v := .ty "str") (by rfl) T.n_str boot_str rfl) pa_nil))))
          (pss_one (ps_expr (pe_bm PySem.F.plainAttrs_list PySem.F.slot_list_append PySem.F.type_list_append mt_append (pv 1) (pa_cons (pv 2) pa_nil))))
          (pss_one (ps_if (pt_val (pe_callB call_isi (by rfl) T.n_isinstance boot_isinstance (pa_cons (pv 2) (pa_cons (pe_bltn (v := .ty "int") (by rfl) T.n_int boot_int rfl) pa_nil))))
            (pss_one (ps_expr (pe_bm PySem.F.plainAttrs_list PySem.F.slot_list_append PySem.F.type_list_append mt_append (pv 1) (pa_cons (pe_callTy call_str_int (by rfl) T.n_str boot_str (pa_cons (pv 2) pa_nil)) pa_nil))))
            (pss_one (ps_if (pt_cmpR op_eq (pe_ix ix_tup (pv 2) pe_int (fun _ _ => rfl)) pe_str (nomark _))
              (pss_one (ps_expr (pe_bm PySem.F.plainAttrs_list PySem.F.slot_list_append PySem.F.type_list_append mt_append (pv 1) (pa_cons (pe_op op_add_str (pe_op op_add_str pe_str (pe_ix ix_tup (pv 2) pe_int (fun _ _ => rfl))) pe_str) pa_nil))))
              (pss_one (ps_expr (pe_bm PySem.F.plainAttrs_list PySem.F.slot_list_append PySem.F.type_list_append mt_append (pv 1) (pa_cons (pe_op op_add_str pe_str (pe_callTy call_str_int (by rfl) T.n_str boot_str (pa_cons (pe_ix ix_tup (pv 2) pe_int (fun _ _ => rfl)) pa_nil))) pa_nil)))))))))))
      (pss_one (ps_ret (pe_join pe_str (pv 1))))), ?_⟩
    refine ⟨Nat.zero_le _, fun p np => ?_⟩
    refine ⟨_, rfl, a, rfl, ⟨_, Same.tup (same_upd np) sq⟩, for_it walk_tup (fun i σ H' => ∃ y, σ = [some (.ref a), some (.ref p), y] ∧ Same H H' ∧ H' p = some (.lst ((ps.take i).map fun z => V.str (S (writP z))))) ⟨none, rfl, same_upd np, upd_same⟩ (fun i σ H' _ z => by obtain ⟨_, _, s, _⟩ := z; exact Same.tup s sq) ?_ ?_⟩
    · rintro i x σ H1 H2 hi ⟨y, rfl, sm, ep⟩ ⟨rfl, gx⟩
      obtain ⟨pt, gp, isp⟩ := Paired.at hp gx
      have isp := isp.same sm
      have okp := ok pt (List.mem_of_getElem? gp)
      have small : ((ps.take i).map fun z => V.str (S (writP z))).length < sizeLine := by rw [List.length_map, List.length_take, sizeLine_eq]; omega
      have step : ∀ (y' : Option V), ∃ y, [some (V.ref a), some (.ref p), y'] = [some (.ref a), some (.ref p), y] ∧ Same H (upd H2 p (.lst ((ps.take i).map (fun z => V.str (S (writP z))) ++ [.str (S (writP pt))]))) ∧ (upd H2 p (.lst ((ps.take i).map (fun z => V.str (S (writP z))) ++ [.str (S (writP pt))]))) p = some (.lst ((ps.take (i + 1)).map fun z => V.str (S (writP z)))) := fun y' =>
        ⟨y', rfl, same_put np sm, by rw [upd_same, take_next gp, List.map_append]; rfl⟩
      refine ⟨_, rfl, ?_⟩
      cases pt with
      | name l =>
        obtain rfl := isp
        exact ⟨_, _, _, _, _, rfl, .ty _, .base (.str _), kit_ty (r := true) (by decide +kernel), _, rfl, iteT ⟨_, rfl, .inl ⟨rfl, _, SqL.of ep⟩, _, rfl, p, _, _, rfl, rfl, ep, small, step _⟩⟩
      | num n =>
        obtain rfl := isp
        have nb := ok_num okp
        refine ⟨_, _, _, _, _, rfl, .ty _, .base (.int _), kit_ty (r := false) (by decide +kernel), _, rfl, iteF ⟨_, rfl, _, _, _, _, _, rfl, .ty _, .base (.int _), kit_ty (r := true) (by decide +kernel), _, rfl, iteT ?_⟩⟩
        refine ⟨_, rfl, .inl ⟨rfl, _, SqL.of ep⟩, _, rfl, n, rfl, num_log nb.1 nb.2, p, _, _, rfl, rfl, ep, small, ?_⟩
        rw [show Str.ofString (toString n) = S (intS n) from str_int n]
        exact step _
      | text l =>
        obtain ⟨b, rfl, h⟩ := isp
        have tl := ok_textP okp
        refine ⟨_, _, _, _, _, rfl, .ty _, .base (.tup h), kit_ty (r := false) (by decide +kernel), _, rfl, iteF ⟨_, rfl, _, _, _, _, _, rfl, .ty _, .base (.tup h), kit_ty (r := false) (by decide +kernel), _, rfl, iteF ?_⟩⟩
        refine ⟨_, rfl, b, _, 0, _, rfl, rfl, SqT.of h, rfl, rfl, _, rfl, iteT ?_⟩
        refine ⟨_, rfl, .inl ⟨rfl, _, SqL.of ep⟩, _, rfl, b, _, 1, _, rfl, rfl, SqT.of h, rfl, _, _, rfl, rfl, ?_, _, _, rfl, rfl, ?_, p, _, _, rfl, rfl, ep, small, ?_⟩
        · show 1 + (S l).length ≤ sizeLine; rw [S_len, sizeLine_eq]; omega
        · show (S [39] ++ S l).length + 1 ≤ sizeLine; rw [S_cat, S_len, sizeLine_eq]; simp; omega
        · have e : (S [39] ++ S l) ++ S [39] = S (39 :: (l ++ [39])) := by rw [S_cat, S_cat]; rfl
          change ∃ y, _ ∧ Same H (upd H2 p (.lst (_ ++ [.str ((S [39] ++ S l) ++ S [39])]))) ∧ (upd H2 p (.lst (_ ++ [.str ((S [39] ++ S l) ++ S [39])]))) p = _
          rw [e]
          exact step _
      | par n =>
        obtain ⟨b, rfl, h⟩ := isp
        have pb := ok_par okp
        refine ⟨_, _, _, _, _, rfl, .ty _, .base (.tup h), kit_ty (r := false) (by decide +kernel), _, rfl, iteF ⟨_, rfl, _, _, _, _, _, rfl, .ty _, .base (.tup h), kit_ty (r := false) (by decide +kernel), _, rfl, iteF ?_⟩⟩
        refine ⟨_, rfl, b, _, 0, _, rfl, rfl, SqT.of h, rfl, rfl, _, rfl, iteF ?_⟩
        refine ⟨_, rfl, .inl ⟨rfl, _, SqL.of ep⟩, _, rfl, b, _, 1, _, rfl, rfl, SqT.of h, rfl, n, rfl, num_log (by omega) (by omega), _, _, rfl, rfl, ?_, p, _, _, rfl, rfl, ep, small, ?_⟩
        · rw [show Str.ofString (toString n) = S (intS n) from str_int n]
          have := intS_11 (n := n) (by omega) (by omega)
          show 1 + (S (intS n)).length ≤ sizeLine; rw [S_len, sizeLine_eq]; omega
        · rw [show Str.ofString (toString n) = S (intS n) from str_int n]
          change ∃ y, _ ∧ Same H (upd H2 p (.lst (_ ++ [.str (S [36] ++ S (intS n))]))) ∧ (upd H2 p (.lst (_ ++ [.str (S [36] ++ S (intS n))]))) p = _
          rw [S_cat]
          exact step _
    · rintro σ H1 ⟨y, rfl, sm, ep⟩
      rw [List.take_of_length_le (by omega)] at ep
      refine ⟨⟨_, rfl⟩, _, rfl, S [32], p, (ps.map writP).map S, rfl, rfl, .inl (SqL.of (by rw [ep, List.map_map, List.map_map]; rfl)), ?_, vto (q _ sm) ?_⟩
      · rw [SX.lens, List.length_map, List.length_map, S_len]
        have : ∀ qs : List Part, (∀ p ∈ qs, okP p = true) → ((qs.map writP).map (·.length)).sum ≤ 42 * qs.length := by
          intro qs
          induction qs with
          | nil => intro _; simp
          | cons p qs ih =>
            intro h
            have a := writ_len (h p (List.mem_cons_self ..))
            have b := ih fun z hz => h z (List.mem_cons_of_mem _ hz)
            simp only [List.map_cons, List.sum_cons, List.length_cons] at b ⊢
            omega
        have := this ps ok
        simp only [List.length_singleton]
        omega
      · rw [join_S]; rfl
end
end K02
end
section
namespace K02
open PySem PySem.Spec PyProof.Rows L2 Tl Mx SX
theorem filt_next {l : List Nat} {i c : Nat} (p : Nat → Bool) (h : l[i]? = some c) : (l.take (i + 1)).filter p = (l.take i).filter p ++ (if p c = true then [c] else []) := by
  rw [take_next h, List.filter_append]
  cases e : p c <;> simp [List.filter, e]
theorem eqS (l m : List Nat) : decide (V.str (S l) = V.str (S m)) = decide (l = m) := by
  rw [Bool.eq_iff_iff, decide_eq_true_eq, decide_eq_true_eq]
  exact ⟨fun h => S_inj (V.str.inj h), fun h => by rw [h]⟩
theorem cutHead (l : List Nat) : cutS (S l) none (some 1) = S (l.take 1) := by
  unfold cutS
  rw [S_len]
  show S _ = S _
  rw [show HT.sIx l.length l.length (some 1) = min 1 l.length from HT.sIx_nat l.length l.length 1, HT.sIx_none]
  congr 1
  cases l with
  | nil => rfl
  | cons a r => simp
theorem head_take (l : List Nat) (c : Nat) : decide (l.take 1 = [c]) = decide (l.head? = some c) := by
  cases l with
  | nil => simp
  | cons a r => simp
def sp_is_nameL : Sp := fun vs H Q _ => ∃ l : List Nat, vs = [.str (S l)] ∧ l.length ≤ 10000 ∧ ∀ H', Same H H' → Q (.bl (nameM l)) H'
def sp_number : Sp := fun vs H Q _ => ∃ l : List Nat, vs = [.str (S l)] ∧ l.length ≤ 10000 ∧ (∀ c ∈ l, c < 128) ∧ (∀ n, lawNum l = some n → ∀ H', Same H H' → Q (.int n) H') ∧ (lawNum l = none → ∀ H', Same H H' → Q .non H')
section
variable {P : Program} {w : World} {K : PySem.W.Frag} {mg : Str → Option Value} {base : Heap} {C : Addr}
theorem ok_law_is_name (T : Txt K mg) : Pr P w K mg base CX0 1 "_law_is_name" ["word"] sp_is_nameL := by
  refine pr0 T.d_law_is_name sc_law_is_name (fun vs H Q E h => ?_) (fun f cdv A outer s H vs Q E hr h => ?_)
  · obtain ⟨l, rfl, _⟩ := h; rfl
  · obtain ⟨l, rfl, hl, q⟩ := h
    have big : l.length ≤ sizeLine := by rw [sizeLine_eq]; omega
    refine ⟨_, pss_cons (ps_set (i := 1) sc_law_is_name.nd rfl (.inr rfl) pe_str)
      (pss_one (ps_ret (pe_and (pe_chain op_le op_le pe_int (pe_callB call_len_str (by rfl) T.n_len PySem.boot_len (pa_cons (pv 0) pa_nil)) pe_int) (pe_one (pe_cmpR op_eq (pe_callB call_len_seq (by rfl) T.n_len PySem.boot_len (pa_cons (pe_lc (own := [("sign", 2)]) (g := gName 2) rfl sc_law_is_name.nd (pi_str (pv 0)) (blkOk_by (N := ["word", "letters", "sign"]) (sc := defScope s_law_is_name) (by decide +kernel))
        (fun _ _ _ _ _ => pg_name (i := 2) sc_law_is_name.nd rfl (.inl rfl)) (fun _ _ _ _ _ => pts_one (pt_cmpR op_notIn_sign (pv 2) (pv 1) (by rfl)))
        (fun _ _ _ _ _ => pv 2)) pa_nil)) pe_int (nomark _)))))), ?_⟩
    refine ⟨_, rfl, S l, rfl, by rw [S_len]; exact big, _, _, rfl, rfl, _, rfl, ite2 (fun h1 => ?_) (fun h1 => ?_)⟩
    · refine ⟨_, _, rfl, rfl, _, rfl, ite2 (fun h2 => ?_) (fun h2 => ?_)⟩
      · have h1 := of_decide_eq_true h1
        have h2 := of_decide_eq_true h2
        rw [S_len] at h1 h2
        refine ⟨_, rfl, _, rfl, lc_acc walk_str (fun i => ((l.take i).filter fun c => !isLet c).map fun c => V.str (S [c])) (by simp) (fun i hi => ?_) (fun _ _ => trivial) ?_ ?_⟩
        · rw [List.length_map, sizeLine_eq]
          have := List.length_filter_le (fun c => !isLet c) (l.take i)
          rw [List.length_take] at this
          omega
        · rintro i x H1 H2 R Nn hi sm ⟨rfl, c, gc, rfl⟩ kR kN
          have gl : l[i]? = some c := by simpa using gc
          refine ⟨rfl, _, rfl, _, rfl, c, _, rfl, rfl, _, rfl, ite2 (fun h3 => ?_) (fun h3 => ?_)⟩
          · have h3 : (!decide (c ∈ lettersC)) = true := h3
            have h3 : isLet c = false := by unfold isLet; simpa using h3
            refine ⟨_, rfl, kR _ _ (Same.refl _) ?_⟩
            rw [filt_next _ gl, h3]; simp
          · have h3 : isLet c = true := by
              cases e : isLet c with
              | true => rfl
              | false => exact absurd (show (!decide (c ∈ lettersC)) = true by unfold isLet at e; rw [e]; rfl) h3
            refine kN _ (Same.refl _) ?_
            rw [filt_next _ gl, h3]; simp
        · intro H1 D sm f e
          refine ⟨D, _, rfl, .inl (SqL.of e), rfl, vto (q _ sm) ?_⟩
          unfold nameM
          rw [decide_eq_true (show 1 ≤ l.length by omega), decide_eq_true (show l.length ≤ 8 by omega), Bool.true_and, Bool.true_and]
          congr 1
          rw [List.length_map, List.take_of_length_le (by simp), Bool.eq_iff_iff, decide_eq_true_eq, List.all_eq_true]
          constructor
          · intro z c hc
            cases e : isLet c with
            | true => rfl
            | false =>
              have n := Int.ofNat.inj (V.int.inj z)
              have := List.filter_eq_nil_iff.mp (List.length_eq_zero_iff.mp n) c hc
              rw [e] at this; exact absurd rfl this
          · intro z
            have : (l.filter fun c => !isLet c) = [] := List.filter_eq_nil_iff.mpr fun c hc => by rw [z c hc]; decide
            rw [this]; rfl
      · refine vto (q _ (Same.refl _)) ?_
        have h2 : ¬ ((S l).length : Int) ≤ 8 := fun z => h2 (decide_eq_true z)
        rw [S_len] at h2
        unfold nameM
        rw [decide_eq_false (show ¬ l.length ≤ 8 by omega), Bool.and_false, Bool.false_and]
    · refine ⟨_, rfl, iteF (vto (q _ (Same.refl _)) ?_)⟩
      have h1 : ¬ (1 : Int) ≤ ((S l).length : Int) := fun z => h1 (decide_eq_true z)
      rw [S_len] at h1
      unfold nameM
      rw [decide_eq_false (show ¬ 1 ≤ l.length by omega), Bool.false_and, Bool.false_and]
theorem ok_law_number (T : Txt K mg) : Pr P w K mg base CX0 1 "_law_number" ["word"] sp_number := by
  refine pr0 T.d_law_number sc_law_number (fun vs H Q E h => ?_) (fun f cdv A outer s H vs Q E hr h => ?_)
  · obtain ⟨l, rfl, _⟩ := h; rfl
  · obtain ⟨l, rfl, hl, h128, q, qn⟩ := h
    have big : l.length ≤ sizeLine := by rw [sizeLine_eq]; omega
    refine ⟨_, pss_cons (ps_set (i := 1) sc_law_number.nd rfl (.inl rfl) (pv 0))
      (C8.pss_cut (ps_if (pt_cmpR op_eq (pe_slice sl_str (pv 0) po_none (po_some pe_int)) pe_str (nomark _))
        (pss_one (ps_set (i := 1) sc_law_number.nd rfl (.inl rfl) (pe_slice sl_str (pv 0) (po_some pe_int) po_none))) pss_nil)
      (pss_cons (ps_if (PW.pt (pw_or (pt_not (pt_chain op_le op_le pe_int (pe_callB call_len_str (by rfl) T.n_len PySem.boot_len (pa_cons (pv 1) pa_nil)) pe_int)) (pw_or1 (pt_cmpR op_gt (pe_callB call_len_seq (by rfl) T.n_len PySem.boot_len (pa_cons (pe_lc (own := [("sign", 3)]) (g := gName 3) rfl sc_law_number.nd (pi_str (pv 1)) (blkOk_by (N := ["word", "digits", "number", "sign"]) (sc := defScope s_law_number) (by decide +kernel))
        (fun _ _ _ _ _ => pg_name (i := 3) sc_law_number.nd rfl (.inl rfl)) (fun _ _ _ _ _ => pts_one (pt_cmpR op_notIn_sign (pv 3) pe_str (by rfl)))
        (fun _ _ _ _ _ => pv 3)) pa_nil)) pe_int (nomark _)))))
        (pss_one (ps_ret pe_non)) pss_nil)
      (C8.pss_cut (ps_if (PW.pt (pw_and (pt_cmpR op_eq (pe_ix ix_str (pv 1) pe_int (fun _ _ => rfl)) pe_str (nomark _)) (pw_and1 (pt_cmpR op_ne (pv 0) pe_str (nomark _)))))
        (pss_one (ps_ret pe_non)) pss_nil)
      (pss_cons (ps_set (i := 2) sc_law_number.nd rfl (.inl rfl) (pe_callTy call_int_str (by rfl) T.n_int boot_int (pa_cons (pv 0) pa_nil)))
      (pss_cons (ps_if (PW.pt (pw_or (pt_cmpR op_lt (pv 2) (pe_un un_neg pe_int) (nomark _)) (pw_or1 (pt_cmpR op_gt (pv 2) pe_int (nomark _)))))
        (pss_one (ps_ret pe_non)) pss_nil)
      (pss_one (ps_ret (pv 2)))))))), ?_⟩
    refine ⟨_, rfl, fun σ' H' => σ' = [some (.str (S l)), some (.str (S (digsOf l))), none, none] ∧ H' = H, ?_, ?_⟩
    · refine ⟨_, rfl, _, rfl, S l, rfl, by rw [S_len]; exact big, rfl, _, rfl, ite2 (fun h1 => ?_) (fun h1 => ⟨?_, rfl⟩)⟩
      · rw [cutHead] at h1
        have h1 := of_decide_eq_true (((eqS (l.take 1) [45]).trans (head_take l 45)) ▸ h1)
        refine ⟨_, rfl, _, rfl, S l, rfl, by rw [S_len]; exact big, ?_, rfl⟩
        rw [cutOne]; unfold digsOf; rw [if_pos h1]; rfl
      · rw [cutHead] at h1
        have h1 : ¬ l.head? = some 45 := fun z => h1 (((eqS (l.take 1) [45]).trans (head_take l 45)) ▸ decide_eq_true z)
        unfold digsOf; rw [if_neg h1]; rfl
    rintro σ' H' ⟨rfl, rfl⟩
    have dl : (digsOf l).length ≤ l.length := by unfold digsOf; split <;> simp
    obtain ⟨d, ed⟩ : ∃ d, d = digsOf l := ⟨_, rfl⟩
    have bad : ¬ (1 ≤ (digsOf l).length ∧ (digsOf l).length ≤ 10 ∧ (digsOf l).all isDig = true) → lawNum l = none := fun z => by unfold lawNum; rw [if_neg z]
    rw [← ed] at dl bad ⊢
    refine ⟨_, rfl, S d, rfl, by rw [S_len]; omega, _, _, rfl, rfl, _, rfl, ite2 (fun h1 => ?_) (fun h1 => ?_)⟩
    rotate_left
    · refine ⟨_, rfl, iteT (iteT (qn (bad fun z => h1 (decide_eq_true ?_)) _ (Same.refl _)))⟩
      rw [S_len]; omega
    have h1 := of_decide_eq_true h1
    rw [S_len] at h1
    refine ⟨_, _, rfl, rfl, _, rfl, ite2 (fun h2 => iteT (qn (bad fun z => ?_) _ (Same.refl _))) (fun h2 => ?_)⟩
    · have h2 : (!decide (((S d).length : Int) ≤ 10)) = true := h2
      rw [S_len, decide_eq_true (show (d.length : Int) ≤ 10 by omega)] at h2
      cases h2
    have h2 : d.length ≤ 10 := by
      have h2 : ¬ (!decide (((S d).length : Int) ≤ 10)) = true := h2
      rw [S_len] at h2
      by_cases z : (d.length : Int) ≤ 10
      · omega
      · rw [decide_eq_false z] at h2; exact absurd rfl h2
    refine ⟨_, rfl, _, rfl, lc_acc walk_str (fun i => ((d.take i).filter fun c => !isDig c).map fun c => V.str (S [c])) (by simp) (fun i hi => ?_) (fun _ _ => trivial) ?_ ?_⟩
    · rw [List.length_map, sizeLine_eq]
      have := List.length_filter_le (fun c => !isDig c) (d.take i)
      rw [List.length_take] at this
      omega
    · rintro i x H1 H2 R Nn hi sm ⟨rfl, c, gc, rfl⟩ kR kN
      have gl : d[i]? = some c := by simpa using gc
      have ec : decide (c ∈ ("0123456789" : Str).cps.toList) = isDig c := by
        show decide (c ∈ ([48, 49, 50, 51, 52, 53, 54, 55, 56, 57] : List Nat)) = _
        unfold isDig
        rw [Bool.eq_iff_iff, decide_eq_true_eq, decide_eq_true_eq]
        simp only [List.mem_cons, List.not_mem_nil, or_false]
        omega
      refine ⟨rfl, _, rfl, c, _, rfl, rfl, _, rfl, ite2 (fun h3 => ?_) (fun h3 => ?_)⟩
      · have h3 : isDig c = false := by
          have h3 : (!decide (c ∈ ("0123456789" : Str).cps.toList)) = true := h3
          rw [ec] at h3; simpa using h3
        refine ⟨_, rfl, kR _ _ (Same.refl _) ?_⟩
        rw [filt_next _ gl, h3]; simp
      · have h3 : isDig c = true := by
          have h3 : ¬ (!decide (c ∈ ("0123456789" : Str).cps.toList)) = true := h3
          rw [ec] at h3; simpa using h3
        refine kN _ (Same.refl _) ?_
        rw [filt_next _ gl, h3]; simp
    intro H1 D sm f e
    refine ⟨D, _, rfl, .inl (SqL.of e), _, _, rfl, rfl, _, rfl, ite2 (fun h3 => qn (bad fun z => ?_) _ sm) (fun h3 => ?_)⟩
    · have h3 := of_decide_eq_true h3
      rw [List.length_map, List.take_of_length_le (by simp), show (d.filter fun c => !isDig c) = [] from List.filter_eq_nil_iff.mpr fun c hc => by rw [List.all_eq_true.mp z.2.2 c hc]; decide] at h3
      exact absurd h3 (by decide)
    have h3 : d.all isDig = true := by
      rw [List.all_eq_true]
      intro c hc
      cases e : isDig c with
      | true => rfl
      | false =>
        exfalso
        refine h3 (decide_eq_true ?_)
        rw [List.length_map, List.take_of_length_le (by simp)]
        have : c ∈ d.filter fun c => !isDig c := List.mem_filter.mpr ⟨hc, by rw [e]; rfl⟩
        have := List.length_pos_of_mem this
        omega
    have dne : d ≠ [] := fun z => by rw [z] at h1; exact absurd h1 (by decide)
    obtain ⟨c, r, ec⟩ : ∃ c r, d = c :: r := by
      cases d with
      | nil => exact absurd rfl dne
      | cons c r => exact ⟨c, r, rfl⟩
    have sure : lawNum l = if d.head? = some 48 ∧ l ≠ [48] then none else
        if (if l.head? = some 45 then -((NumText.digitsVal (l.drop 1) : Nat) : Int) else ((NumText.digitsVal l : Nat) : Int)) < -2147483648 ∨ 2147483647 < (if l.head? = some 45 then -((NumText.digitsVal (l.drop 1) : Nat) : Int) else ((NumText.digitsVal l : Nat) : Int)) then none
        else some (if l.head? = some 45 then -((NumText.digitsVal (l.drop 1) : Nat) : Int) else ((NumText.digitsVal l : Nat) : Int)) := by
      unfold lawNum
      rw [← ed, if_pos ⟨by omega, h2, h3⟩]
    have l11 : l.length ≤ 11 := by
      rw [ed] at h2
      unfold digsOf at h2
      split at h2
      · rw [List.length_drop] at h2; omega
      · omega
    have eq0 : decide (V.str ⟨#[c]⟩ = V.str "0") = decide (c = 48) := by
      rw [Bool.eq_iff_iff, decide_eq_true_eq, decide_eq_true_eq]
      exact ⟨fun h => by have := S_inj (V.str.inj h); exact (List.cons.inj this).1, fun h => by rw [h]; rfl⟩
    -- the rest, behind the test of leading zeros
    have rest : ¬ (d.head? = some 48 ∧ l ≠ [48]) → ∀ n, n = (if l.head? = some 45 then -((NumText.digitsVal (l.drop 1) : Nat) : Int) else ((NumText.digitsVal l : Nat) : Int)) → intText? (S l) = some n ∧ (n < -2147483648 ∨ 2147483647 < n → lawNum l = none) ∧ (¬ (n < -2147483648 ∨ 2147483647 < n) → lawNum l = some n) := by
      intro z n en
      refine ⟨?_, fun y => ?_, fun y => ?_⟩
      · rw [en]
        refine intS_val (by omega) ?_ ?_
        · have : (if l.head? = some 45 then l.drop 1 else l) = d := ed.symm
          rw [this]; exact h3
        · have : (if l.head? = some 45 then l.drop 1 else l) = d := ed.symm
          rw [this]; exact dne
      · rw [sure, if_neg z, ← en, if_pos y]
      · rw [sure, if_neg z, ← en, if_neg y]
    have fin : ¬ (d.head? = some 48 ∧ l ≠ [48]) → ∃ n : Int, intText? (S l) = some n ∧ (n < -2147483648 ∨ 2147483647 < n → lawNum l = none) ∧ (¬ (n < -2147483648 ∨ 2147483647 < n) → lawNum l = some n) := fun z => ⟨_, rest z _ rfl⟩
    refine ⟨fun σ' H2 => σ' = [some (.str (S l)), some (.str (S d)), none, none] ∧ H2 = H1 ∧ ¬ (d.head? = some 48 ∧ l ≠ [48]), ?_, ?_⟩
    · refine ⟨_, rfl, ⟨_, _, c, rfl, rfl, by rw [S_len]; omega, atI_nat (j := 0) (show (S d).cps.toList[0]? = some c by rw [ec]; rfl), rfl, _, rfl, ite2 (fun h4 => ?_) (fun h4 => ?_)⟩⟩
      · have h4 : c = 48 := of_decide_eq_true (eq0 ▸ h4)
        refine ⟨_, rfl, rfl, _, rfl, ite2 (fun h5 => ?_) (fun h5 => ?_)⟩
        · have h5 : ¬ V.str (S l) = V.str "0" := by simpa using h5
          refine qn ?_ _ sm
          rw [sure, if_pos ⟨by rw [ec, h4]; rfl, fun z => h5 (by rw [z]; rfl)⟩]
        · have h5 : l = [48] := by
            have h5 : V.str (S l) = V.str "0" := by simpa using h5
            exact S_inj (V.str.inj h5)
          exact ⟨rfl, rfl, fun z => z.2 h5⟩
      · exact iteF ⟨rfl, rfl, fun z => h4 (by rw [eq0]; exact decide_eq_true (by rw [ec] at z; exact Option.some.inj z.1))⟩
    rintro σ' H2 ⟨rfl, rfl, hz⟩
    obtain ⟨n, e1, e2, e3⟩ := fin hz
    refine ⟨_, rfl, _, n, rfl, e1, by rw [S_len]; omega, ?_⟩
    refine ⟨_, rfl, _, rfl, _, _, rfl, rfl, _, rfl, ite2 (fun h6 => iteT (qn (e2 (.inl (of_decide_eq_true h6))) _ sm)) (fun h6 => ?_)⟩
    refine ⟨_, rfl, _, _, rfl, rfl, _, rfl, ite2 (fun h7 => qn (e2 (.inr (of_decide_eq_true h7))) _ sm) (fun h7 => ?_)⟩
    refine ⟨_, rfl, q n (e3 fun z => ?_) _ sm⟩
    rcases z with z | z
    · exact h6 (decide_eq_true z)
    · exact h7 (decide_eq_true z)
end
end K02
end
section
namespace K02
open PySem PySem.Spec PyProof.Rows L2 Tl Mx SX
def sp_pieces : Sp := fun vs H Q _ => ∃ l : List Nat, vs = [.str (S l)] ∧ l.length ≤ 200 ∧ ∀ H' p, Same H H' → H p = none → H' p = some (.lst ((lawPieces l).map fun z => V.str (S z))) → Q (.ref p) H'
section
variable {P : Program} {w : World} {K : PySem.W.Frag} {mg : Str → Option Value} {base : Heap}
theorem ok_law_pieces (T : Txt K mg) : Pr P w K mg base CX0 1 "_law_pieces" ["string"] sp_pieces := by
  refine pr0 T.d_law_pieces sc_law_pieces (fun vs H Q E h => ?_) (fun f cdv A outer s H vs Q E hr h => ?_)
  · obtain ⟨c, rfl, _⟩ := h; rfl
  · obtain ⟨l, rfl, hl, q⟩ := h
    refine ⟨_, pss_cons (ps_set (i := 1) sc_law_pieces.nd rfl (.inl rfl) (pe_lst (pa_cons pe_str pa_nil)))
      (pss_cons (ps_set (i := 2) sc_law_pieces.nd rfl (.inl rfl) pe_bl)
      (pss_cons (ps_for PassesOwn.never rfl (pi_str (pv 0)) (pg_name (i := 3) sc_law_pieces.nd rfl (.inl rfl))
        (pss_one (ps_if (PW.pt (pw_and (pt_cmpR op_eq (pv 3) pe_str (nomark _)) (pw_and1 (pt_not (pt_val (pv 2))))))
          (pss_one (ps_expr (pe_bm PySem.F.plainAttrs_list PySem.F.slot_list_append PySem.F.type_list_append mt_append (pv 1) (pa_cons pe_str pa_nil))))
          (C8.pss_cut (ps_if (PW.pt (pw_and (pt_cmpR op_eq (pv 3) pe_str (nomark _)) (pw_and1 (PW.pt (pw_or (pt_val (pv 2)) (pw_or1 (pt_cmpR op_eq (pe_ix ix_list (pv 1) (pe_un un_neg pe_int) (fun _ _ => rfl)) pe_str (nomark _))))))))
            (pss_one (ps_set (i := 2) sc_law_pieces.nd rfl (.inl rfl) (pe_not (pv 2)))) pss_nil)
          (pss_one (ps_asg (pe_op op_add_str (pe_ix ix_list (pv 1) (pe_un un_neg pe_int) (fun _ _ => rfl)) (pv 3)) (pg_sub (pv 1) (pe_un un_neg pe_int) set_list)))))))
      (pss_cons (ps_if (pt_val (pv 2))
        (pss_one (ps_ret (pe_lst pa_nil))) pss_nil)
      (pss_one (ps_ret (pv 1)))))), ?_⟩
    refine ⟨(by show 1 ≤ sizeLine; decide), fun p np => ?_⟩
    have s1 : Same H (upd H p (.lst [.str (S [])])) := same_upd np
    refine ⟨_, rfl, _, rfl, for_it walk_str (fun i σ H' => ∃ y3, σ = [some (.str (S l)), some (.ref p), some (.bl ((l.take i).foldl lawStep ([[]], false)).2), y3] ∧ Same H H' ∧
      H' p = some (.lst ((((l.take i).foldl lawStep ([[]], false)).1).map fun z => V.str (S z)))) ⟨none, rfl, s1, upd_same⟩ (fun _ _ _ _ _ => trivial) ?_ ?_⟩
    · rintro i x σ H1 H2 hi ⟨y3, rfl, sm, ep⟩ ⟨rfl, c, gc, rfl⟩
      have gl : l[i]? = some c := by simpa using gc
      have hi' : i < l.length := by simpa using hi
      obtain ⟨st, est⟩ : ∃ st, st = (l.take i).foldl lawStep ([[]], false) := ⟨_, rfl⟩
      have nx : (l.take (i + 1)).foldl lawStep ([[]], false) = lawStep st c := by rw [take_next gl, List.foldl_append, ← est]; rfl
      have ne : st.1 ≠ [] := by rw [est]; exact fold_ne step_law _ _ (by simp)
      have ln : st.1.length ≤ 201 := by
        have := fold_len step_law (l.take i) ([[]], false) (by simp)
        rw [← est] at this
        simp only [List.length_singleton, List.length_take] at this
        omega
      have sz : ∀ z ∈ st.1, z.length ≤ 200 := fun z hz => by
        have := fold_sum step_law (l.take i) ([[]], false) z (by rw [← est]; exact hz)
        simp only [List.map_cons, List.map_nil, List.sum_cons, List.sum_nil, List.length_nil, List.length_take] at this
        omega
      rw [nx]
      rw [← est] at ep ⊢
      obtain ⟨r, a, er⟩ : ∃ r a, st.1 = r ++ [a] := ⟨st.1.dropLast, st.1.getLast ne, (List.dropLast_concat_getLast ne).symm⟩
      obtain ⟨ps, b⟩ := st
      obtain rfl : ps = r ++ [a] := er
      have s2 : lawStep (r ++ [a], b) c = if c = 32 ∧ b = false then (r ++ [a] ++ [[]], b) else (r ++ [a ++ [c]], if c = 39 ∧ (b = true ∨ a = []) then !b else b) := by
        unfold lawStep
        dsimp only
        rw [List.dropLast_concat, List.getLastD_concat]
      rw [s2]
      have la : a.length ≤ 200 := sz a (by simp)
      have eqs : decide (V.str ⟨#[c]⟩ = V.str " ") = decide (c = 32) := by
        rw [show V.str ⟨#[c]⟩ = V.str (S [c]) from rfl, show (" " : Str) = S [32] from rfl, eqS]; simp
      have eqq : decide (V.str ⟨#[c]⟩ = V.str "'") = decide (c = 39) := by
        rw [show V.str ⟨#[c]⟩ = V.str (S [c]) from rfl, show ("'" : Str) = S [39] from rfl, eqS]; simp
      have eqe : decide (V.str (S a) = V.str "") = decide (a = []) := by
        rw [show ("" : Str) = S [] from rfl, eqS]
      have ep : H2 p = some (.lst ((r.map fun z => V.str (S z)) ++ [V.str (S a)])) := by rw [ep]; simp
      have gl1 : SqL K H2 p ((r.map fun z => V.str (S z)) ++ [V.str (S a)]) := SqL.of ep
      have last : atI ((r.map fun z => V.str (S z)) ++ [V.str (S a)]) (-1) = some (V.str (S a)) := atI_last _ _
      have rl : r.length ≤ 200 := by have := ln; simp at this; omega
      -- a space outside of a text
      have go : ¬ (c = 32 ∧ b = false) → ∀ b', b' = (if c = 39 ∧ (b = true ∨ a = []) then !b else b) → ∃ y3, [some (V.str (S l)), some (.ref p), some (.bl b'), some (V.str ⟨#[c]⟩)] = [some (.str (S l)), some (.ref p), some (.bl (if c = 32 ∧ b = false then (r ++ [a] ++ [[]], b) else (r ++ [a ++ [c]], if c = 39 ∧ (b = true ∨ a = []) then !b else b)).2), y3] ∧
          Same H (upd H2 p (.lst (((r.map fun z => V.str (S z)) ++ [V.str (S a)]).set r.length (V.str (S a ++ S [c]))))) ∧ (upd H2 p (.lst (((r.map fun z => V.str (S z)) ++ [V.str (S a)]).set r.length (V.str (S a ++ S [c]))))) p =
            some (.lst ((if c = 32 ∧ b = false then (r ++ [a] ++ [[]], b) else (r ++ [a ++ [c]], if c = 39 ∧ (b = true ∨ a = []) then !b else b)).1.map fun z => V.str (S z))) := fun hn b' e => by
        rw [if_neg hn, e]
        refine ⟨_, rfl, same_put np sm, ?_⟩
        rw [upd_same, S_cat]
        simp
      by_cases hn : c = 32 ∧ b = false
      · refine ⟨_, rfl, rfl, _, rfl, ite2 (fun h1 => ⟨_, rfl, _, rfl, ite2 (fun h2 => ?_) (fun h2 => absurd (show (!b) = true by rw [hn.2]; rfl) h2)⟩) (fun h1 => absurd (by rw [eqs]; exact decide_eq_true hn.1) h1)⟩
        refine ⟨_, rfl, .inl ⟨rfl, _, SqL.of ep⟩, p, _, _, rfl, rfl, ep, by simp; rw [sizeLine_eq]; omega, ?_⟩
        rw [if_pos hn]
        exact ⟨_, rfl, same_put np sm, by rw [upd_same]; simp; rfl⟩
      · refine ⟨_, rfl, rfl, _, rfl, ite2 (fun h1 => ⟨_, rfl, _, rfl, ite2 (fun h2 => absurd ⟨of_decide_eq_true (eqs ▸ h1), by simpa using h2⟩ hn) (fun h2 => ?_)⟩) (fun h1 => iteF ?_)⟩
        all_goals
          refine ⟨fun σ' H' => σ' = [some (.str (S l)), some (.ref p), some (.bl (if c = 39 ∧ (b = true ∨ a = []) then !b else b)), some (V.str ⟨#[c]⟩)] ∧ H' = H2, ?_, ?_⟩
          · refine ⟨_, rfl, rfl, _, rfl, ite2 (fun h3 => ?_) (fun h3 => iteF ⟨by rw [if_neg fun z => h3 (by rw [eqq]; exact decide_eq_true z.1)]; rfl, rfl⟩)⟩
            have h3 : c = 39 := of_decide_eq_true (eqq ▸ h3)
            refine ⟨_, rfl, _, rfl, ite2 (fun h4 => iteT ?_) (fun h4 => ?_)⟩
            · have h4 : b = true := h4
              exact ⟨_, rfl, _, rfl, by rw [if_pos ⟨h3, Or.inl h4⟩]; rfl, rfl⟩
            · refine ⟨_, rfl, _, rfl, ⟨p, _, _, _, rfl, rfl, gl1, last, rfl, _, rfl, ite2 (fun h5 => ?_) (fun h5 => ?_)⟩⟩
              · have h5 : a = [] := of_decide_eq_true (eqe ▸ h5)
                exact ⟨_, rfl, _, rfl, by rw [if_pos ⟨h3, Or.inr h5⟩]; rfl, rfl⟩
              · have hz : ¬ (c = 39 ∧ (b = true ∨ a = [])) := fun z => by
                  rcases z.2 with z | z
                  · exact h4 z
                  · exact h5 (by rw [eqe]; exact decide_eq_true z)
                exact ⟨by rw [if_neg hz]; rfl, rfl⟩
          · rintro σ' H' ⟨rfl, rfl⟩
            refine ⟨_, rfl, _, rfl, ⟨p, _, _, _, rfl, rfl, gl1, last, ⟨_, rfl, _, _, rfl, rfl, ?_, ?_⟩⟩⟩
            · rw [S_len]; show a.length + 1 ≤ sizeLine; rw [sizeLine_eq]; omega
            · refine ⟨_, rfl, _, rfl, p, _, _, r.length, rfl, rfl, ep, ?_, go hn _ rfl⟩
              rw [List.length_append, List.length_map]; exact ixN_last _
    · rintro σ H1 ⟨y3, rfl, sm, ep⟩
      rw [show l.take (S l).cps.size = l from List.take_of_length_le (by simp)] at ep ⊢
      refine ⟨_, rfl, _, rfl, ite2 (fun h => ?_) (fun h => ?_)⟩
      · refine ⟨Nat.zero_le _, fun p2 n2 => q _ p2 (same_put (sm.free n2) sm) (sm.free n2) ?_⟩
        rw [upd_same]
        unfold lawPieces lawSplit
        rw [if_pos h]; rfl
      · refine ⟨_, rfl, q _ p sm np ?_⟩
        rw [ep]
        unfold lawPieces lawSplit
        rw [if_neg h]
end
end K02
end
section
namespace K02
open PySem PySem.Spec PyProof.Rows L2 Tl Mx SX
def sp_read_term : Sp := fun vs H Q _ => ∃ l : List Nat, vs = [.str (S l)] ∧ l.length ≤ 200 ∧ (∀ c ∈ l, c < 128) ∧ (∀ p, lawTerm l = some p → ∀ H' v, Same H H' → IsP H' v p → Q v H') ∧ (lawTerm l = none → ∀ H', Same H H' → Q .non H')
def parsV : List V := [.str "$1", .str "$2", .str "$3", .str "$4"]
theorem in_pars (l : List Nat) : inV (.str (S l)) parsV = (parOf l).isSome := by
  unfold inV parOf parsV
  show ((S [36, 49] == S l) || ((S [36, 50] == S l) || ((S [36, 51] == S l) || ((S [36, 52] == S l) || false)))) = _
  rw [sbeq, sbeq, sbeq, sbeq]
  by_cases a1 : l = [36, 49]
  · subst a1; rfl
  · by_cases a2 : l = [36, 50]
    · subst a2; rfl
    · by_cases a3 : l = [36, 51]
      · subst a3; rfl
      · by_cases a4 : l = [36, 52]
        · subst a4; rfl
        · rw [if_neg a1, if_neg a2, if_neg a3, if_neg a4, decide_eq_false (Ne.symm a1), decide_eq_false (Ne.symm a2), decide_eq_false (Ne.symm a3), decide_eq_false (Ne.symm a4)]; rfl
theorem at_pars {l : List Nat} {n : Int} (h : parOf l = some n) : ∃ (j : Nat) (z : V), parsV[j]? = some z ∧ eqV z (.str (S l)) = true ∧ (∀ (m : Nat) (z' : V), m < j → parsV[m]? = some z' → eqV z' (.str (S l)) = false) ∧ n = (j : Int) + 1 := by
  unfold parOf at h
  by_cases a1 : l = [36, 49]
  · subst a1
    obtain rfl := Option.some.inj h
    exact ⟨0, _, rfl, by decide +kernel, fun m z' hm => by omega, rfl⟩
  · rw [if_neg a1] at h
    by_cases a2 : l = [36, 50]
    · subst a2
      obtain rfl := Option.some.inj h
      refine ⟨1, _, rfl, by decide +kernel, fun m z' hm e => ?_, rfl⟩
      have : m = 0 := by omega
      subst this
      obtain rfl := Option.some.inj e
      decide +kernel
    · rw [if_neg a2] at h
      by_cases a3 : l = [36, 51]
      · subst a3
        obtain rfl := Option.some.inj h
        refine ⟨2, _, rfl, by decide +kernel, fun m z' hm e => ?_, rfl⟩
        have : m = 0 ∨ m = 1 := by omega
        rcases this with rfl | rfl <;> obtain rfl := Option.some.inj e <;> decide +kernel
      · rw [if_neg a3] at h
        by_cases a4 : l = [36, 52]
        · subst a4
          obtain rfl := Option.some.inj h
          refine ⟨3, _, rfl, by decide +kernel, fun m z' hm e => ?_, rfl⟩
          have : m = 0 ∨ m = 1 ∨ m = 2 := by omega
          rcases this with rfl | rfl | rfl <;> obtain rfl := Option.some.inj e <;> decide +kernel
        · rw [if_neg a4] at h; cases h
section
variable {P : Program} {w : World} {K : PySem.W.Frag} {mg : Str → Option Value} {base : Heap}
theorem ok_law_read_term (T : Txt K mg) : Pr P w K mg base CX0 2 "_law_read_term" ["piece"] sp_read_term := by
  refine pr0 T.d_law_read_term sc_law_read_term (fun vs H Q E h => ?_) (fun f cdv A outer s H vs Q E hr h => ?_)
  · obtain ⟨c, rfl, _⟩ := h; rfl
  · obtain ⟨l, rfl, hl, h128, q, qn⟩ := h
    have big : l.length ≤ sizeLine := by rw [sizeLine_eq]; omega
    have G_law_number := ok_law_number (P := P) (w := w) (base := base) T
    refine ⟨_, pss_cons (ps_if (pt_cmpR op_eq (pe_slice sl_str (pv 0) po_none (po_some pe_int)) pe_str (nomark _))
        (pss_cons (ps_set (i := 1) sc_law_read_term.nd rfl (.inl rfl) (pe_slice sl_str (pv 0) (po_some pe_int) (po_some (pe_un un_neg pe_int))))
        (pss_cons (ps_if (PW.pt (pw_or (pt_cmpR op_lt (pe_callB call_len_str (by rfl) T.n_len PySem.boot_len (pa_cons (pv 0) pa_nil)) pe_int (nomark _)) (pw_or (pt_cmpR op_ne (pe_ix ix_str (pv 0) (pe_un un_neg pe_int) (fun _ _ => rfl)) pe_str (nomark _)) (pw_or (pt_cmpR op_in_sign pe_str (pv 1) (by rfl)) (pw_or1 (pt_cmpR op_gt (pe_callB call_len_str (by rfl) T.n_len PySem.boot_len (pa_cons (pv 1) pa_nil)) pe_int (nomark _)))))))
          (pss_one (ps_ret pe_non)) pss_nil)
        (pss_one (ps_ret (pe_tup (pa_cons pe_str (pa_cons (pv 1) pa_nil))))))) pss_nil)
      (pss_cons (ps_if (pt_cmpR op_eq (pe_slice sl_str (pv 0) po_none (po_some pe_int)) pe_str (nomark _))
        (pss_cons (ps_if (pt_cmpR op_notIn_seq (pv 0) (pe_lst (pa_cons pe_str (pa_cons pe_str (pa_cons pe_str (pa_cons pe_str pa_nil))))) (by rfl))
          (pss_one (ps_ret pe_non)) pss_nil)
        (pss_one (ps_ret (pe_tup (pa_cons pe_str (pa_cons (pe_op op_add (pe_bm PySem.F.plainAttrs_list PySem.F.slot_list_index PySem.F.type_list_index mt_index (pe_lst (pa_cons pe_str (pa_cons pe_str (pa_cons pe_str (pa_cons pe_str pa_nil))))) (pa_cons (pv 0) pa_nil)) pe_int) pa_nil)))))) pss_nil)
      (pss_one (ps_ret (pe_k G_law_number hr (by decide) pass0 (by rfl) (pa_cons (pv 0) pa_nil))))), ?_⟩
    have head : ∀ c : Nat, decide (V.str (cutS (S l) none (some 1)) = V.str (S [c])) = decide (l.head? = some c) := fun c => by rw [cutHead, eqS, head_take]
    refine ⟨_, rfl, _, rfl, S l, rfl, by rw [S_len]; exact big, rfl, _, rfl, ite2 (fun h1 => ?_) (fun h1 => ?_)⟩
    · have h1 : l.head? = some 39 := of_decide_eq_true ((head 39) ▸ h1)
      have et : lawTerm l = (lawText l).map .text := by unfold lawTerm; rw [if_pos h1]
      have none_of : (l.length < 2 ∨ l.getLast? ≠ some 39 ∨ 39 ∈ (l.drop 1).dropLast ∨ 40 < (l.drop 1).dropLast.length) → lawTerm l = none := fun z => by rw [et]; unfold lawText; rw [if_pos z]; rfl
      have ne : l ≠ [] := fun z => by rw [z] at h1; cases h1
      refine ⟨_, rfl, _, rfl, _, rfl, _, rfl, S l, rfl, by rw [S_len]; exact big, ?_⟩
      rw [cutMid]
      refine ⟨_, rfl, S l, rfl, by rw [S_len]; exact big, _, _, rfl, rfl, _, rfl, ite2 (fun h2 => iteT (qn (none_of (.inl ?_)) _ (Same.refl _))) (fun h2 => ?_)⟩
      · have h2 : ((S l).length : Int) < 2 := of_decide_eq_true h2
        rw [S_len] at h2; omega
      obtain ⟨r, a, er⟩ : ∃ r a, l = r ++ [a] := ⟨l.dropLast, l.getLast ne, (List.dropLast_concat_getLast ne).symm⟩
      have ll : l.getLast? = some a := by rw [er]; simp
      refine ⟨_, rfl, _, rfl, ⟨_, _, a, rfl, rfl, by rw [S_len]; exact big, ?_, rfl, _, rfl, ite2 (fun h3 => iteT (qn (none_of (.inr (.inl ?_))) _ (Same.refl _))) (fun h3 => ?_)⟩⟩
      · show atI l (-1) = some a
        rw [er]; exact atI_last _ _
      · have h3 : (!decide (V.str (S [a]) = V.str (S [39]))) = true := h3
        rw [ll]
        intro z
        rw [Option.some.inj z, decide_eq_true rfl] at h3
        cases h3
      have h3 : a = 39 := by
        have h3 : ¬ (!decide (V.str (S [a]) = V.str (S [39]))) = true := h3
        rw [eqS] at h3
        simpa using h3
      refine ⟨_, rfl, 39, _, rfl, rfl, _, rfl, ite2 (fun h4 => iteT (qn (none_of (.inr (.inr (.inl (of_decide_eq_true h4))))) _ (Same.refl _))) (fun h4 => ?_)⟩
      have h4 : ¬ 39 ∈ (l.drop 1).dropLast := fun z => h4 (decide_eq_true z)
      have il : (l.drop 1).dropLast.length ≤ l.length := by rw [List.length_dropLast, List.length_drop]; omega
      refine ⟨_, rfl, _, rfl, by rw [S_len]; omega, _, _, rfl, rfl, _, rfl, ite2 (fun h5 => qn (none_of (.inr (.inr (.inr ?_)))) _ (Same.refl _)) (fun h5 => ?_)⟩
      · have h5 : (40 : Int) < ((S (l.drop 1).dropLast).length : Int) := of_decide_eq_true h5
        rw [S_len] at h5; omega
      refine ⟨_, rfl, (by show 2 ≤ sizeLine; decide), fun p np => q (.text (l.drop 1).dropLast) ?_ _ _ (same_upd np) ⟨p, rfl, upd_same⟩⟩
      rw [et]; unfold lawText; rw [if_neg]; rfl
      rintro (z | z | z | z)
      · exact h2 (decide_eq_true (by rw [S_len]; omega))
      · exact z (by rw [ll, h3])
      · exact h4 z
      · exact h5 (decide_eq_true (by rw [S_len]; omega))
    · have h1 : ¬ l.head? = some 39 := fun z => h1 (by rw [show decide (V.str (cutS (S l) none (some 1)) = V.str "'") = _ from head 39]; exact decide_eq_true z)
      refine ⟨_, rfl, _, rfl, S l, rfl, by rw [S_len]; exact big, rfl, _, rfl, ite2 (fun h2 => ?_) (fun h2 => ?_)⟩
      · have h2 : l.head? = some 36 := of_decide_eq_true ((head 36) ▸ h2)
        have et : lawTerm l = (parOf l).map .par := by unfold lawTerm; rw [if_neg h1, if_pos h2]
        refine ⟨_, rfl, (by show 4 ≤ sizeLine; decide), fun p np => ⟨p, parsV, rfl, .inl (SqL.of upd_same), rfl, rfl, ?_⟩⟩
        rw [show (if true then !inV (V.str (S l)) parsV else inV (V.str (S l)) parsV) = !(parOf l).isSome by rw [in_pars]; rfl]
        have sm1 : Same H (upd H p (.lst parsV)) := same_upd np
        cases hp : parOf l with
        | none => exact ⟨_, rfl, iteT (qn (by rw [et, hp]; rfl) _ sm1)⟩
        | some n =>
          obtain ⟨j, z, g1, g2, g3, g4⟩ := at_pars hp
          refine ⟨_, rfl, iteF ?_⟩
          refine ⟨(by show 4 ≤ sizeLine; decide), fun p2 n2 => ?_⟩
          have sm2 : Same H (upd (upd H p (.lst parsV)) p2 (.lst parsV)) := same_put (sm1.free n2) sm1
          refine ⟨.inl ⟨rfl, _, SqL.of upd_same⟩, _, rfl, p2, parsV, _, j, z, rfl, rfl, SqL.of upd_same, rfl, rfl, g1, g2, g3, _, _, rfl, rfl, (by show 2 ≤ sizeLine; decide), fun p3 n3 => ?_⟩
          refine q (.par n) (by rw [et, hp]; rfl) _ _ (same_put (sm2.free n3) sm2) ⟨p3, rfl, ?_⟩
          rw [g4]
          exact upd_same
      · have h2 : ¬ l.head? = some 36 := fun z => h2 (by rw [show decide (V.str (cutS (S l) none (some 1)) = V.str "$") = _ from head 36]; exact decide_eq_true z)
        have et : lawTerm l = (lawNum l).map .num := by unfold lawTerm; rw [if_neg h1, if_neg h2]
        exact ⟨_, rfl, l, rfl, by omega, h128, fun n hn H' sm => q (.num n) (by rw [et, hn]; rfl) H' _ sm rfl, fun hn H' sm => qn (by rw [et, hn]; rfl) H' sm⟩
end
end K02
end
section
namespace K02
open PySem PySem.Spec PyProof.Rows L2 Tl Mx SX
def sp_read (K : PySem.W.Frag) : Sp := fun vs H Q _ => ∃ l : List Nat, vs = [.str (S l)] ∧ l.length ≤ 10000 ∧ (∀ wd ps, lawRead l = some (wd, ps) → ∀ H' a xs, Same H H' → H a = none → H' a = some (.tup (.str wd :: xs)) → ArePs H' xs ps → xs.length ≤ 300 → Q (.ref a) H') ∧ (lawRead l = none → ∀ H', Same H H' → Q .non H')
def words5 : List V := [.str "begin", .str "commit", .str "rollback", .str "save", .str "undo"]
def wordAt (i : Nat) : Str := (szTable.getD (7 + i) ("", [])).1
theorem word_at {i : Nat} (h : i < 5) : ∃ z ns, szTable[7 + i]? = some (z, ns) ∧ words5[i]? = some (V.str z) ∧ ns = (if inV (.str z) aloneV = true then [1] else [2]) ∧ (szTable.take (7 + i)).lookup z = none := by
  have : i = 0 ∨ i = 1 ∨ i = 2 ∨ i = 3 ∨ i = 4 := by omega
  rcases this with rfl | rfl | rfl | rfl | rfl <;> exact ⟨_, _, rfl, rfl, by decide +kernel, by decide +kernel⟩
theorem over_dk {H : Hp} {D : Addr} {kvs : List (Key × V)} {o : HO} (e : H D = some (.dK kvs)) : ∀ d xs, H d = some (.lst xs) → (upd H D o) d = some (.lst xs) := fun d xs h => by
  rw [upd_ne (by intro z; rw [z, e] at h; cases h)]
  exact h
section
variable {P : Program} {w : World} {K : PySem.W.Frag} {mg : Str → Option Value} {base : Heap}
theorem ok_law_read (T : Txt K mg) : Pr P w K mg base CX0 3 "_law_read" ["string"] (sp_read K) := by
  refine pr0 T.d_law_read sc_law_read (fun vs H Q E h => ?_) (fun f cdv A outer s H vs Q E hr h => ?_)
  · obtain ⟨c, rfl, _⟩ := h; rfl
  · obtain ⟨l, rfl, hl, q, qn⟩ := h
    have big : l.length ≤ sizeLine := by rw [sizeLine_eq]; omega
    have G_law_pieces := ok_law_pieces (P := P) (w := w) (base := base) T
    have G_law_is_name := ok_law_is_name (P := P) (w := w) (base := base) T
    have G_law_read_term := ok_law_read_term (P := P) (w := w) (base := base) T
    have G_law_used := ok_used (P := P) (w := w) (base := base) T
    refine ⟨_, pss_cons (ps_set (i := 1) sc_law_read.nd rfl (.inr rfl) pe_str)
      (C8.pss_cut (ps_if (PW.pt (pw_or (pt_cmpR op_gt (pe_callB call_len_str (by rfl) T.n_len PySem.boot_len (pa_cons (pv 0) pa_nil)) pe_int (nomark _)) (pw_or1 (pt_cmpR op_gt (pe_callB call_len_seq (by rfl) T.n_len PySem.boot_len (pa_cons (pe_lc (own := [("sign", 11)]) (g := gName 11) rfl sc_law_read.nd (pi_str (pv 0)) (blkOk_by (N := ["string", "signs", "pieces", "sizes", "word", "terms", "parts", "numbers", "piece", "part", "k", "sign"]) (sc := defScope s_law_read) (by decide +kernel))
        (fun _ _ _ _ _ => pg_name (i := 11) sc_law_read.nd rfl (.inl rfl)) (fun _ _ _ _ _ => pts_one (pt_cmpR op_notIn_sign (pv 11) (pv 1) (by rfl)))
        (fun _ _ _ _ _ => pv 11)) pa_nil)) pe_int (nomark _)))))
        (pss_one (ps_ret pe_non)) pss_nil)
      (pss_cons (ps_set (i := 2) sc_law_read.nd rfl (.inl rfl) (pe_k G_law_pieces hr (by decide) pass0 (by rfl) (pa_cons (pv 0) pa_nil)))
      (pss_cons (ps_set (i := 3) sc_law_read.nd rfl (.inl rfl) (pe_disp (pps_cons pe_str (pe_lst (pa_cons pe_int pa_nil)) (pps_cons pe_str (pe_lst (pa_cons pe_int pa_nil)) (pps_cons pe_str (pe_lst (pa_cons pe_int pa_nil)) (pps_cons pe_str (pe_lst (pa_cons pe_int pa_nil)) (pps_cons pe_str (pe_lst (pa_cons pe_int pa_nil)) (pps_cons pe_str (pe_lst (pa_cons pe_int (pa_cons pe_int pa_nil))) (pps_cons pe_str (pe_lst (pa_cons pe_int pa_nil)) pps_nil))))))) rfl rfl (by simp) (by decide)))
      (C8.pss_cut (ps_for PassesOwn.never rfl (pi_list (pe_lst (pa_cons pe_str (pa_cons pe_str (pa_cons pe_str (pa_cons pe_str (pa_cons pe_str pa_nil))))))) (pg_name (i := 4) sc_law_read.nd rfl (.inl rfl))
        (pss_one (ps_dput (hu_of hr) (pv 3) (pv 4) (pe_ix ix_list (pe_lst (pa_cons (pe_lst (pa_cons pe_int pa_nil)) (pa_cons (pe_lst (pa_cons pe_int pa_nil)) pa_nil))) (pe_callTy call_int1 (by rfl) T.n_int boot_int (pa_cons (pe_cmpR op_in_seq (pv 4) (pe_lst (pa_cons pe_str (pa_cons pe_str (pa_cons pe_str pa_nil)))) (by rfl)) pa_nil)) (fun _ _ => rfl)) rfl)))
      (C8.pss_cut (ps_if (PW.pt (pw_or (pt_cmpR op_eq (pe_callB call_len_seq (by rfl) T.n_len PySem.boot_len (pa_cons (pv 2) pa_nil)) pe_int (nomark _)) (pw_or (pt_cmp (pc_dnotin (hu_of hr) (pe_ix ix_list (pv 2) pe_int (fun _ _ => rfl)) (pv 3))) (pw_or1 (pt_cmpR op_notIn_seq (pe_callB call_len_seq (by rfl) T.n_len PySem.boot_len (pa_cons (pv 2) pa_nil)) (pe_dget (hu_of hr) (pv 3) (pe_ix ix_list (pv 2) pe_int (fun _ _ => rfl)) (fun _ _ => rfl)) (by rfl))))))
        (pss_one (ps_ret pe_non)) pss_nil)
      (C8.pss_cut (ps_if (PW.pt (pw_and (pt_cmpR op_gt (pe_callB call_len_seq (by rfl) T.n_len PySem.boot_len (pa_cons (pv 2) pa_nil)) pe_int (nomark _)) (pw_and1 (pt_not (pt_val (pe_k G_law_is_name hr (by decide) pass0 (by rfl) (pa_cons (pe_ix ix_list (pv 2) pe_int (fun _ _ => rfl)) pa_nil)))))))
        (pss_one (ps_ret pe_non)) pss_nil)
      (pss_cons (ps_setLc (i := 5) (own := [("piece", 8)]) (g := gName 8) (tt := tYes) rfl sc_law_read.nd rfl rfl (sw_true rfl rfl rfl (by decide +kernel)) (pi_list (pe_slice sl_list (pv 2) (po_some pe_int) po_none)) (blkOk_by (N := ["string", "signs", "pieces", "sizes", "word", "terms", "parts", "numbers", "piece", "part", "k", "sign"]) (sc := defScope s_law_read) (by decide +kernel))
        (fun _ _ _ _ _ => pg_name (i := 8) sc_law_read.nd rfl (.inl rfl)) (fun _ _ _ _ _ => pts_nil)
        (fun _ _ _ _ _ => pe_k G_law_read_term hr (by decide) pass0 (by rfl) (pa_cons (pv 8) pa_nil)))
      (pss_cons (ps_if (pt_cmpR (op_inD (hu65 hr)) pe_non (pv 5) (by rfl))
        (pss_one (ps_ret pe_non)) pss_nil)
      (pss_cons (ps_set (i := 6) sc_law_read.nd rfl (.inl rfl) (pe_callTy call_tuple_of (by rfl) T.n_tuple boot_tuple (pa_cons (pe_op op_cat (pe_slice sl_list (pv 2) po_none (po_some pe_int)) (pv 5)) pa_nil)))
      (pss_cons (ps_set (i := 7) sc_law_read.nd rfl (.inr rfl) (pe_lc (own := [("part", 9)]) (g := gName 9) (tt := tAnd (tB (tCB (rIsi K) (tCons (tVar 9) (tCons (tC (.ty "tuple")) tNil)))) (tTest (tOp rEq (tOp (rIxT K) (tVar 9) (tC (.int 0))) (tC (.str "parameter"))))) (te := tOp (rIxT K) (tVar 9) (tC (.int 1))) rfl sc_law_read.nd (pi_list (pv 5)) (blkOk_by (N := ["string", "signs", "pieces", "sizes", "word", "terms", "parts", "numbers", "piece", "part", "k", "sign"]) (sc := defScope s_law_read) (by decide +kernel))
        (fun _ _ _ _ _ => pg_name (i := 9) sc_law_read.nd rfl (.inl rfl)) (fun _ _ _ _ _ => pts_one (PW.pt (pw_and (pt_val (pe_callB call_isi (by rfl) T.n_isinstance boot_isinstance (pa_cons (pv 9) (pa_cons (pe_bltn (v := .ty "tuple") (by rfl) T.n_tuple boot_tuple rfl) pa_nil)))) (pw_and1 (pt_cmpR op_eq (pe_ix ix_tup (pv 9) pe_int (fun _ _ => rfl)) pe_str (nomark _))))))
        (fun _ _ _ _ _ => pe_ix ix_tup (pv 9) pe_int (fun _ _ => rfl))))
      (pss_cons (ps_if (pt_cmpR op_gt (pe_callB call_len_seq (by rfl) T.n_len PySem.boot_len (pa_cons (pe_lc (own := [("k", 10)]) (g := gName 10) (tt := tTest (tOp (rIn K true) (tVar 10) (tVar 7))) rfl sc_law_read.nd (pi_range2 (by rfl) T.n_range (pa_cons pe_int (pa_cons (pe_op op_add (pe_k G_law_used hr (by decide) pass0 (by rfl) (pa_cons (pv 6) pa_nil)) pe_int) pa_nil))) (blkOk_by (N := ["string", "signs", "pieces", "sizes", "word", "terms", "parts", "numbers", "piece", "part", "k", "sign"]) (sc := defScope s_law_read) (by decide +kernel))
        (fun _ _ _ _ _ => pg_name (i := 10) sc_law_read.nd rfl (.inl rfl)) (fun _ _ _ _ _ => pts_one (pt_cmpR op_notIn_seq (pv 10) (pv 7) (by rfl)))
        (fun _ _ _ _ _ => pv 10)) pa_nil)) pe_int (nomark _))
        (pss_one (ps_ret pe_non)) pss_nil)
      (pss_one (ps_ret (pv 6)))))))))))))), ?_⟩
    obtain ⟨σ1, e1⟩ : ∃ σ1, σ1 = [some (V.str (S l)), some (V.str (S allSigns)), none, none, none, none, none, none, none, none, none, none] := ⟨_, rfl⟩
    refine ⟨fun σ' H' => σ' = σ1 ∧ Same H H' ∧ l.length ≤ 200 ∧ l.all sgn = true, ?_, ?_⟩
    · refine ⟨_, rfl, S l, rfl, by rw [S_len]; exact big, _, _, rfl, rfl, _, rfl, ite2 (fun h1 => ?_) (fun h1 => ?_)⟩
      · have h1 : (200 : Int) < ((S l).length : Int) := of_decide_eq_true h1
        rw [S_len] at h1
        refine iteT (qn ?_ _ (Same.refl _))
        unfold lawRead
        rw [if_neg (fun z => by omega)]
      have h1 : l.length ≤ 200 := by
        have h1 : ¬ (200 : Int) < ((S l).length : Int) := fun z => h1 (decide_eq_true z)
        rw [S_len] at h1; omega
      refine ⟨_, rfl, _, rfl, lc_acc walk_str (fun i => ((l.take i).filter fun c => !sgn c).map fun c => V.str (S [c])) (by simp) (fun i hi => ?_) (fun _ _ => trivial) ?_ ?_⟩
      · rw [List.length_map, sizeLine_eq]
        have := List.length_filter_le (fun c => !sgn c) (l.take i)
        rw [List.length_take] at this
        omega
      · rintro i x H1 H2 R Nn hi sm ⟨rfl, c, gc, rfl⟩ kR kN
        have gl : l[i]? = some c := by simpa using gc
        refine ⟨rfl, _, rfl, _, rfl, c, _, rfl, rfl, _, rfl, ite2 (fun h3 => ?_) (fun h3 => ?_)⟩
        · have h3 : (!decide (c ∈ allSigns)) = true := h3
          have h3 : sgn c = false := by rw [sgn_in] at h3; simpa using h3
          refine ⟨_, rfl, kR _ _ (Same.refl _) ?_⟩
          rw [filt_next _ gl, h3]; simp
        · have h3 : ¬ (!decide (c ∈ allSigns)) = true := h3
          have h3 : sgn c = true := by rw [sgn_in] at h3; simpa using h3
          refine kN _ (Same.refl _) ?_
          rw [filt_next _ gl, h3]; simp
      intro H1 D sm f e
      refine ⟨D, _, rfl, .inl (SqL.of e), _, _, rfl, rfl, _, rfl, ite2 (fun h3 => qn ?_ _ sm) (fun h3 => ⟨e1.symm, sm, h1, ?_⟩)⟩
      · have h3 := of_decide_eq_true h3
        unfold lawRead
        rw [if_neg]
        rintro ⟨_, z⟩
        rw [List.length_map, List.take_of_length_le (by simp), show (l.filter fun c => !sgn c) = [] from List.filter_eq_nil_iff.mpr fun c hc => by rw [List.all_eq_true.mp z c hc]; decide] at h3
        exact absurd h3 (by decide)
      · rw [List.all_eq_true]
        intro c hc
        cases e : sgn c with
        | true => rfl
        | false =>
          exfalso
          refine h3 (decide_eq_true ?_)
          rw [List.length_map, List.take_of_length_le (by simp)]
          have : c ∈ l.filter fun c => !sgn c := List.mem_filter.mpr ⟨hc, by rw [e]; rfl⟩
          have := List.length_pos_of_mem this
          omega
    rintro σ' H1 ⟨rfl, sm1, l200, lsg⟩
    subst e1
    have est : lawRead l = lawTail (lawPieces l) := by unfold lawRead; rw [if_pos ⟨l200, lsg⟩]
    have psg : ∀ p ∈ lawPieces l, p.all sgn = true := fun p hp => by
      unfold lawPieces lawSplit at hp
      by_cases z : (l.foldl lawStep ([[]], false)).2 = true
      · rw [if_pos z] at hp; cases hp
      · rw [if_neg z] at hp; exact fold_sgn step_law l lsg _ (by simp) p hp
    have plen : (lawPieces l).length ≤ 201 := by
      unfold lawPieces lawSplit
      split
      · exact Nat.zero_le _
      · have := fold_len step_law l ([[]], false) (by simp)
        simp only [List.length_singleton] at this
        omega
    have psz : ∀ p ∈ lawPieces l, p.length ≤ 200 := fun p hp => by
      unfold lawPieces lawSplit at hp
      by_cases z : (l.foldl lawStep ([[]], false)).2 = true
      · rw [if_pos z] at hp; cases hp
      · rw [if_neg z] at hp
        have := fold_sum step_law l ([[]], false) p hp
        simp at this
        omega
    rw [est] at q qn
    obtain ⟨pcs, epc⟩ : ∃ pcs, pcs = lawPieces l := ⟨_, rfl⟩
    rw [← epc] at q qn psg plen psz
    refine ⟨_, rfl, l, rfl, l200, fun H2 p2 sm2 np2 ep2 => ?_⟩
    rw [← epc] at ep2
    have sm02 : Same H H2 := sm1.trans sm2
    -- the dict of sizes
    refine fun p3 n3 => ⟨(by show 1 ≤ sizeLine; decide), fun d1 h1 => ⟨(by show 1 ≤ sizeLine; decide), fun d2 h2 => ⟨(by show 1 ≤ sizeLine; decide), fun d3 h3 => ⟨(by show 1 ≤ sizeLine; decide), fun d4 h4 => ⟨(by show 1 ≤ sizeLine; decide), fun d5 h5 => ⟨(by show 2 ≤ sizeLine; decide), fun d6 h6 => ⟨(by show 1 ≤ sizeLine; decide), fun d7 h7 => ?_⟩⟩⟩⟩⟩⟩⟩
    have s0 := same_upd (o := .dK []) n3
    have s1 := same_upd (o := .lst [.int 2]) h1
    have s2 := same_upd (o := .lst [.int 2]) h2
    have s3 := same_upd (o := .lst [.int 4]) h3
    have s4 := same_upd (o := .lst [.int 3]) h4
    have s5 := same_upd (o := .lst [.int 3]) h5
    have s6 := same_upd (o := .lst [.int 2, .int 4]) h6
    have s7 := same_upd (o := .lst [.int 2]) h7
    have c67 := s6.trans s7
    have c57 := s5.trans c67
    have c47 := s4.trans c57
    have c37 := s3.trans c47
    have c27 := s2.trans c37
    have c17 := s1.trans c27
    have c07 := s0.trans c17
    have e0 := c17 _ _ upd_same
    have e1 := c27 _ _ upd_same
    have e2 := c37 _ _ upd_same
    have e3 := c47 _ _ upd_same
    have e4 := c57 _ _ upd_same
    have e5 := c67 _ _ upd_same
    have e6 := s7 _ _ upd_same
    have e7 := upd_same (H := (upd (upd (upd (upd (upd (upd (upd H2 p3 (.dK [])) d1 (.lst [.int 2])) d2 (.lst [.int 2])) d3 (.lst [.int 4])) d4 (.lst [.int 3])) d5 (.lst [.int 3])) d6 (.lst [.int 2, .int 4]))) (a := d7) (o := .lst [.int 2])
    clear c17 c27 c37 c47 c57 c67 s0 s1 s2 s3 s4 s5 s6 s7 h1 h2 h3 h4 h5 h6 h7
    generalize (upd (upd (upd (upd (upd (upd (upd (upd H2 p3 (.dK [])) d1 (.lst [.int 2])) d2 (.lst [.int 2])) d3 (.lst [.int 4])) d4 (.lst [.int 3])) d5 (.lst [.int 3])) d6 (.lst [.int 2, .int 4])) d7 (.lst [.int 2])) = H3 at c07 e0 e1 e2 e3 e4 e5 e6 e7 ⊢
    refine ⟨e0, [(.inr "create", .ref d1), (.inr "drop", .ref d2), (.inr "put", .ref d3), (.inr "delete", .ref d4), (.inr "get", .ref d5), (.inr "scan", .ref d6), (.inr "total", .ref d7)], rfl, (by show 7 ≤ 15; decide), ?_⟩
    rw [merge_new (by
      show ([.inr "create", .inr "drop", .inr "put", .inr "delete", .inr "get", .inr "scan", .inr "total"] : List Key).Nodup
      decide +kernel), List.nil_append]
    have rz : Paired (RSz H3) [(.inr "create", V.ref d1), (.inr "drop", .ref d2), (.inr "put", .ref d3), (.inr "delete", .ref d4), (.inr "get", .ref d5), (.inr "scan", .ref d6), (.inr "total", .ref d7)] (szTable.take 7) :=
      .cons ⟨rfl, d1, rfl, e1⟩ (.cons ⟨rfl, d2, rfl, e2⟩ (.cons ⟨rfl, d3, rfl, e3⟩ (.cons ⟨rfl, d4, rfl, e4⟩ (.cons ⟨rfl, d5, rfl, e5⟩ (.cons ⟨rfl, d6, rfl, e6⟩ (.cons ⟨rfl, d7, rfl, e7⟩ .nil))))))
    generalize ([(.inr "create", V.ref d1), (.inr "drop", .ref d2), (.inr "put", .ref d3), (.inr "delete", .ref d4), (.inr "get", .ref d5), (.inr "scan", .ref d6), (.inr "total", .ref d7)] : List (Key × V)) = kv0 at rz ⊢
    clear e1 e2 e3 e4 e5 e6 e7
    refine ⟨fun σ' H' => ∃ y kvs, σ' = [some (V.str (S l)), some (V.str (S allSigns)), some (.ref p2), some (.ref p3), y, none, none, none, none, none, none, none] ∧ Same H2 H' ∧ H' p3 = some (.dK kvs) ∧ Paired (RSz H') kvs szTable, ?_, ?_⟩
    · refine ⟨(by show 5 ≤ sizeLine; decide), fun p4 n4 => ⟨p4, rfl, ⟨words5, SqL.of upd_same⟩, ?_⟩⟩
      have sA : Same H2 (upd H3 p3 (.dK kv0)) := same_put n3 c07
      have sB := same_upd (o := HO.lst words5) n4
      have atp : (upd (upd H3 p3 (.dK kv0)) p4 (.lst words5)) p3 = some (.dK kv0) := sB _ _ upd_same
      have atw : (upd (upd H3 p3 (.dK kv0)) p4 (.lst words5)) p4 = some (.lst words5) := upd_same
      have sC := sA.trans sB
      have rz1 : Paired (RSz (upd (upd H3 p3 (.dK kv0)) p4 (.lst words5))) kv0 (szTable.take 7) := rsz_over (fun d xs h => sB _ _ (over_dk e0 d xs h)) rz
      change ∃ W : Nat → Nat → L2.St → Hp → Prop, (∃ m, W 0 m _ (upd (upd H3 p3 (.dK kv0)) p4 (.lst words5))) ∧ _
      generalize (upd (upd H3 p3 (.dK kv0)) p4 (.lst words5)) = H4 at atp atw sC rz1 ⊢
      have nz4 : H2 p4 = none := sA.free n4
      refine for_it (walk_list (K := K) (xs := words5)) (fun i σ' H' => ∃ y kvs, σ' = [some (V.str (S l)), some (V.str (S allSigns)), some (.ref p2), some (.ref p3), y, none, none, none, none, none, none, none] ∧ Same H2 H' ∧ H' p3 = some (.dK kvs) ∧ H' p4 = some (.lst words5) ∧ kvs.length ≤ 12 ∧ Paired (RSz H') kvs (szTable.take (7 + i)))
        ⟨none, kv0, rfl, sC, atp, atw, by rw [Paired.len rz1]; decide, rz1⟩ (fun i σ H' _ z => by obtain ⟨_, _, _, _, _, z, _⟩ := z; exact SqL.of z) ?_ ?_
      · rintro i x σ H5 H6 hi ⟨y, kvs, rfl, sm5, at5, aw5, kl5, rz5⟩ ⟨rfl, gx⟩
        obtain ⟨z, ns, g1, g2, g3, g4⟩ := word_at hi
        obtain rfl := Option.some.inj (gx.symm.trans g2)
        refine ⟨(by show 1 ≤ sizeLine; decide), fun q1 m1 => ⟨(by show 1 ≤ sizeLine; decide), fun q2 m2 => ⟨(by show 2 ≤ sizeLine; decide), fun q3 m3 => ?_⟩⟩⟩
        refine ⟨_, rfl, (by show 3 ≤ sizeLine; decide), fun q4 m4 => ⟨q4, aloneV, rfl, .inl (SqL.of upd_same), rfl, rfl, ?_⟩⟩
        have t1 := same_upd (o := HO.lst [.int 2]) m1
        have t2 := same_upd (o := HO.lst [.int 1]) m2
        have t3 := same_upd (o := HO.lst [.ref q1, .ref q2]) m3
        have t4 := same_upd (o := HO.lst aloneV) m4
        have u1 := (t2.trans (t3.trans t4)) _ _ upd_same
        have u2 := (t3.trans t4) _ _ upd_same
        have u3 := t4 _ _ upd_same
        have t14 := t1.trans (t2.trans (t3.trans t4))
        change (∃ j, [V.bl (inV (V.str z) aloneV)] = [V.int j] ∧ _) ∨ ∃ k, [V.bl (inV (V.str z) aloneV)] = [V.bl k] ∧ _
        have fin : ∀ (H7 : Hp) (d : Addr), Same H6 H7 → H7 d = some (.lst (ns.map V.int)) → ∃ y kv2, [some (V.str (S l)), some (V.str (S allSigns)), some (.ref p2), some (.ref p3), some (V.str z), none, none, none, none, none, none, none] = [some (V.str (S l)), some (V.str (S allSigns)), some (.ref p2), some (.ref p3), y, none, none, none, none, none, none, none] ∧
            Same H2 (upd H7 p3 (.dK (putK kvs (.inr z) (.ref d)))) ∧ (upd H7 p3 (.dK (putK kvs (.inr z) (.ref d)))) p3 = some (.dK kv2) ∧ (upd H7 p3 (.dK (putK kvs (.inr z) (.ref d)))) p4 = some (.lst words5) ∧ kv2.length ≤ 12 ∧ Paired (RSz (upd H7 p3 (.dK (putK kvs (.inr z) (.ref d))))) kv2 (szTable.take (7 + (i + 1))) := by
          intro H7 d s67 hd
          have a7 := s67 _ _ at5
          have w7 := s67 _ _ aw5
          have r7 : Paired (RSz H7) kvs (szTable.take (7 + i)) := rsz_over (fun d xs h => s67 _ _ h) rz5
          have ev : valV kvs (.inr z) = none := (rsz_look z r7).1 g4
          rw [putK_new _ ev]
          have ov := over_dk (o := HO.dK (kvs ++ [(.inr z, .ref d)])) a7
          refine ⟨_, _, rfl, same_put n3 (sm5.trans s67), upd_same, ov _ _ w7, ?_, ?_⟩
          · rw [List.length_append, Paired.len r7, List.length_take]
            have : szTable.length = 12 := rfl
            have hi : i < 5 := hi
            simp; omega
          · rw [show 7 + (i + 1) = (7 + i) + 1 by omega, take_next g1]
            exact rsz_snoc (rsz_over ov r7) ⟨rfl, d, rfl, ov _ _ hd⟩
        have k12 : kvs.length < sizeLine := by rw [sizeLine_eq]; omega
        cases hb : inV (V.str z) aloneV with
        | true =>
          rw [hb, if_pos rfl] at g3
          subst g3
          refine .inr ⟨_, rfl, q3, _, _, .ref q2, rfl, rfl, SqL.of u3, rfl, _, rfl, _, rfl, p3, _, rfl, DPut.k (k := .inr z) (t14 _ _ at5) k12, fin _ q2 t14 u2⟩
        | false =>
          rw [hb, if_neg (by decide)] at g3
          subst g3
          refine .inr ⟨_, rfl, q3, _, _, .ref q1, rfl, rfl, SqL.of u3, rfl, _, rfl, _, rfl, p3, _, rfl, DPut.k (k := .inr z) (t14 _ _ at5) k12, fin _ q1 t14 u1⟩
      · rintro σ H5 ⟨y, kvs, rfl, sm5, at5, aw5, kl5, rz5⟩
        exact ⟨y, kvs, rfl, sm5, at5, rz5⟩
    clear rz e0 c07
    rintro σ' H5 ⟨y, kvs, rfl, sm5, at5, rz5⟩
    have ep5 := sm5 _ _ ep2
    have sm05 : Same H H5 := sm02.trans sm5
    -- the first piece is a word with so many pieces
    refine ⟨fun σ' H' => σ' = [some (V.str (S l)), some (V.str (S allSigns)), some (.ref p2), some (.ref p3), y, none, none, none, none, none, none, none] ∧ H' = H5 ∧ ∃ w0 ls, pcs = w0 :: ls ∧ (formOf (S w0) ls.length).isSome = true, ?_, ?_⟩
    · refine ⟨_, rfl, p2, _, rfl, .inl (SqL.of ep5), ?_⟩
      cases pcs with
      | nil => exact ⟨rfl, _, rfl, iteT (iteT (qn rfl _ sm05))⟩
      | cons w0 ls =>
      have ltz : ¬ V.int (((w0 :: ls).map fun z => V.str (S z)).length : Nat) = V.int 0 := fun z => by
        have := V.int.inj z
        rw [List.length_map, List.length_cons] at this
        omega
      refine ⟨rfl, _, rfl, ite2 (fun z => absurd (of_decide_eq_true z) ltz) (fun _ => ?_)⟩
      obtain ⟨lk1, lk2⟩ := rsz_look (S w0) rz5
      refine ⟨_, rfl, p2, _, 0, _, rfl, rfl, SqL.of ep5, atI_nat (j := 0) rfl, _, rfl, p3, _, rfl, DGet.k (k := .inr (S w0)) at5, ?_⟩
      cases hk : szTable.lookup (S w0) with
      | none =>
        rw [lk1 hk]
        refine ⟨_, rfl, iteT (iteT (qn ?_ _ sm05))⟩
        rw [law_cons, sz_none hk]; rfl
      | some ns =>
        obtain ⟨d, ev, hd⟩ := lk2 ns hk
        rw [ev]
        refine ⟨_, rfl, iteF ?_⟩
        refine ⟨_, rfl, p2, _, rfl, .inl (SqL.of ep5), ?_⟩
        refine ⟨_, rfl, _, rfl, p2, _, 0, _, rfl, rfl, SqL.of ep5, atI_nat (j := 0) rfl, p3, _, rfl, (by have := DGet.k (k := .inr (S w0)) at5; rw [ev] at this; exact this), ?_⟩
        refine ⟨d, _, rfl, .inl (SqL.of hd), rfl, ?_, ?_⟩
        · rw [List.all_eq_true]
          intro x hx
          obtain ⟨n, _, rfl⟩ := List.mem_map.mp hx
          rfl
        have el : (((w0 :: ls).map fun z => V.str (S z)).length : Int) = (ls.length : Int) + 1 := by rw [List.length_map, List.length_cons]; omega
        rw [el]
        have := sz_some hk ls.length
        rw [this]
        cases hf : (formOf (S w0) ls.length).isSome with
        | true => exact ⟨_, rfl, iteF ⟨rfl, rfl, w0, ls, rfl, hf⟩⟩
        | false =>
          refine ⟨_, rfl, iteT (qn ?_ _ sm05)⟩
          rw [law_cons, hf]; rfl
    rintro σ' H6 ⟨rfl, rfl, w0, ls, rfl, hfo⟩
    rw [law_cons2, if_pos hfo] at q qn
    -- the second one is a name
    refine ⟨fun σ' H' => σ' = [some (V.str (S l)), some (V.str (S allSigns)), some (.ref p2), some (.ref p3), y, none, none, none, none, none, none, none] ∧ Same H6 H' ∧ ∀ n ts, ls = n :: ts → nameM n = true, ?_, ?_⟩
    · refine ⟨_, rfl, p2, _, rfl, .inl (SqL.of ep5), _, _, rfl, rfl, _, rfl, ite2 (fun h1 => ?_) (fun h1 => iteF ⟨rfl, Same.refl _, fun n ts e => ?_⟩)⟩
      · cases ls with
        | nil => exact absurd (of_decide_eq_true h1) (by simp)
        | cons n ts =>
          refine ⟨_, rfl, p2, _, 1, _, rfl, rfl, SqL.of ep5, atI_nat (j := 1) rfl, n, rfl, ?_, fun H7 sm7 => ⟨_, rfl, ?_⟩⟩
          · have := psz n (by simp); omega
          cases hn : nameM n with
          | true => exact iteF ⟨rfl, sm7, fun n' ts' e => by rw [(List.cons.inj e).1] at hn; exact hn⟩
          | false =>
            refine iteT (qn ?_ _ (sm05.trans sm7))
            rw [rest_cons, hn]; rfl
      · exfalso
        refine h1 (decide_eq_true ?_)
        rw [e]; simp; omega
    rintro σ' H7 ⟨rfl, sm7, hnm⟩
    have ep7 := sm7 _ _ ep5
    have sm07 := sm05.trans sm7
    have wname : nameM w0 = true := form_name hfo
    have tsg : ∀ t ∈ ls.drop 1, t.all sgn = true := fun t ht => psg t (List.mem_cons_of_mem _ (List.mem_of_mem_drop ht))
    have tsz : ∀ t ∈ ls.drop 1, t.length ≤ 200 := fun t ht => psz t (List.mem_cons_of_mem _ (List.mem_of_mem_drop ht))
    have lsl : ls.length ≤ 200 := by rw [List.length_cons] at plen; omega
    obtain ⟨ts, ets⟩ : ∃ ts, ts = ls.drop 1 := ⟨_, rfl⟩
    rw [← ets] at tsg tsz
    have tl : ts.length ≤ 200 := by rw [ets, List.length_drop]; omega
    -- terms
    refine ⟨_, rfl, _, rfl, p2, _, rfl, SqL.of ep7, fun p8 n8 => ⟨p8, rfl, ⟨_, SqL.of upd_same⟩, fun D nD => ?_⟩⟩
    have ecut : cutV ((w0 :: ls).map fun z => V.str (S z)) (some 2) none = ts.map fun z => V.str (S z) := by
      rw [show (some (2 : Int)) = some ((2 : Nat) : Int) from rfl, cut_from, ets, List.map_cons, List.map_drop]; rfl
    rw [ecut] at nD ⊢
    have s8 : Same H7 (upd H7 p8 (.lst (ts.map fun z => V.str (S z)))) := same_upd n8
    have at8 : (upd H7 p8 (.lst (ts.map fun z => V.str (S z)))) p8 = some (.lst (ts.map fun z => V.str (S z))) := upd_same
    generalize (upd H7 p8 (.lst (ts.map fun z => V.str (S z)))) = H8 at s8 at8 nD ⊢
    have sm08 := sm07.trans s8
    have ep8 := s8 _ _ ep7
    refine lc_it (Qd := fun H' => _) (walk_list (K := K) (a := p8) (xs := ts.map fun z => V.str (S z))) (fun i H' => ∃ vs, Same H8 H' ∧ H' D = some (.lst vs) ∧ vs.length = i ∧ Paired (IsTm H') vs (ts.take i))
      ⟨[], same_upd nD, upd_same, rfl, .nil⟩ (fun i H' _ z => by obtain ⟨_, s, _⟩ := z; exact SqL.of (s _ _ at8)) ?_ ?_
    · rintro i x H9 H10 hi ⟨vs, sm9, eD, lv, pr⟩ ⟨rfl, gx⟩
      rw [List.getElem?_map] at gx
      cases gt : ts[i]? with
      | none => rw [gt] at gx; cases gx
      | some t =>
        rw [gt] at gx
        obtain rfl := Option.some.inj gx
        have mt := List.mem_of_getElem? gt
        have hi : i < ts.length := (List.getElem?_eq_some_iff.mp gt).1
        unfold tYes
        refine ⟨rfl, iteT ⟨_, rfl, t, rfl, tsz t mt, sgn_lt (tsg t mt), fun p hp H11 v s11 isv => ?_, fun hp H11 s11 => ?_⟩⟩
        all_goals
          have eD' := s11 _ _ eD
          refine ⟨vs, eD', by rw [lv, sizeLine_eq]; omega, vs ++ [_], same_put nD (sm9.trans s11), upd_same, by rw [List.length_append, lv]; rfl, ?_⟩
          rw [take_next gt]
          refine areT_over (over_lst eD') (areT_snoc (areT_over (fun a z h => s11 _ _ h) pr) ?_)
          unfold IsTm
          rw [hp]
        · exact isv
    rintro H9 ⟨vs, sm9, eD, lv, pr⟩
    rw [List.length_map] at lv
    rw [List.length_map, List.take_of_length_le (Nat.le_refl _)] at pr
    have sm09 := sm08.trans sm9
    have ep9 := sm9 _ _ ep8
    -- None in terms
    refine ⟨_, rfl, .none, ts.map dataT, .non, .lst (SqL.of eD) (data_allT pr), by decide +kernel, shaped_listT tsg, ?_⟩
    rw [any_noneT]
    cases hn : ts.any fun t => (lawTerm t).isNone with
    | true =>
      refine ⟨_, rfl, iteT (qn ?_ _ sm09)⟩
      cases ls with
      | nil => rw [ets] at hn; cases hn
      | cons n r =>
        have er : ts = r := ets
        rw [rest_cons, hnm n r rfl, if_pos rfl, ← er, terms_none hn]
    | false =>
    refine ⟨_, rfl, iteF ?_⟩
    obtain ⟨ps, eps, ar, pok⟩ := terms_some tsg hn pr
    have vl : vs.length ≤ 200 := by omega
    -- parts
    refine ⟨_, rfl, _, rfl, p2, _, rfl, SqL.of ep9, fun pa na => ?_⟩
    have ecut2 : cutV ((w0 :: ls).map fun z => V.str (S z)) none (some 2) = .str (S w0) :: ((ls.take 1).map fun z => V.str (S z)) := by
      rw [show (some (2 : Int)) = some ((2 : Nat) : Int) from rfl, cut_to]
      cases ls <;> simp
    rw [ecut2]
    have sa := same_upd (o := HO.lst (.str (S w0) :: ((ls.take 1).map fun z => V.str (S z)))) na
    have ata : (upd H9 pa (.lst (.str (S w0) :: ((ls.take 1).map fun z => V.str (S z))))) pa = some (.lst (.str (S w0) :: ((ls.take 1).map fun z => V.str (S z)))) := upd_same
    generalize (upd H9 pa (.lst (.str (S w0) :: ((ls.take 1).map fun z => V.str (S z))))) = Ha at sa ata ⊢
    have eDa := sa _ _ eD
    have t1l : (ls.take 1).length ≤ 1 := by rw [List.length_take]; omega
    refine ⟨_, rfl, pa, D, _, _, rfl, rfl, ata, eDa, by rw [List.length_cons, List.length_map, sizeLine_eq]; omega, fun pb nb => ?_⟩
    have sb := same_upd (o := HO.lst ((.str (S w0) :: ((ls.take 1).map fun z => V.str (S z))) ++ vs)) nb
    have atb : (upd Ha pb (.lst ((.str (S w0) :: ((ls.take 1).map fun z => V.str (S z))) ++ vs))) pb = some (.lst ((.str (S w0) :: ((ls.take 1).map fun z => V.str (S z))) ++ vs)) := upd_same
    generalize (upd Ha pb (.lst ((.str (S w0) :: ((ls.take 1).map fun z => V.str (S z))) ++ vs))) = Hb at sb atb ⊢
    refine ⟨pb, _, rfl, .inl ⟨SqL.of atb, fun pc nc => ?_⟩⟩
    have sc := same_upd (o := HO.tup ((.str (S w0) :: ((ls.take 1).map fun z => V.str (S z))) ++ vs)) nc
    have atc : (upd Hb pc (.tup ((.str (S w0) :: ((ls.take 1).map fun z => V.str (S z))) ++ vs))) pc = some (.tup ((.str (S w0) :: ((ls.take 1).map fun z => V.str (S z))) ++ vs)) := upd_same
    have sm0b : Same H Hb := sm09.trans (sa.trans sb)
    have nc0 : H pc = none := sm0b.free nc
    generalize (upd Hb pc (.tup ((.str (S w0) :: ((ls.take 1).map fun z => V.str (S z))) ++ vs))) = Hc at sc atc ⊢
    have sm9c : Same H9 Hc := sa.trans (sb.trans sc)
    have sm0c : Same H Hc := sm0b.trans sc
    have eDc := sm9c _ _ eD
    have arc : ArePs Hc vs ps := ar.same sm9c
    -- numbers
    have len := Paired.len arc
    have plen2 : (parsOf ps).length ≤ 200 := by
      have z : (parsOf ps).length ≤ ps.length := List.length_filterMap_le _ _
      omega
    refine ⟨_, rfl, D, rfl, ⟨_, SqL.of eDc⟩, lc_acc (walk_list (K := K) (a := D) (xs := vs)) (fun i => (parsOf (ps.take i)).map V.int) (by simp [parsOf]) (fun i hi => ?_) (fun H1 sm => SqL.of (sm _ _ eDc)) ?_ ?_⟩
    · have z : (parsOf (ps.take i)).length ≤ (ps.take i).length := List.length_filterMap_le _ _
      rw [List.length_take] at z
      rw [List.length_map, sizeLine_eq]; omega
    · rintro i x H1 H' R Nn hi sm ⟨rfl, gx⟩ kR kN
      obtain ⟨p, gp, isp⟩ := Paired.at arc gx
      have isp1 := isp.same sm
      have nx := pars_next gp
      refine ⟨rfl, _, rfl, ?_⟩
      cases p with
      | name l => obtain rfl := isp1; exact ⟨_, _, _, _, _, rfl, .ty _, .base (.str _), kit_ty (r := false) (by decide +kernel), _, rfl, iteF (kN _ (Same.refl _) (by rw [nx]; simp [parNo]))⟩
      | num n => obtain rfl := isp1; exact ⟨_, _, _, _, _, rfl, .ty _, .base (.int _), kit_ty (r := false) (by decide +kernel), _, rfl, iteF (kN _ (Same.refl _) (by rw [nx]; simp [parNo]))⟩
      | text l =>
        obtain ⟨b, rfl, h⟩ := isp1
        exact ⟨_, _, _, _, _, rfl, .ty _, .base (.tup h), kit_ty (r := true) (by decide +kernel), _, rfl, iteT ⟨_, rfl, b, _, 0, _, rfl, rfl, SqT.of h, rfl, rfl, _, rfl, iteF (kN _ (Same.refl _) (by rw [nx]; simp [parNo]))⟩⟩
      | par n =>
        obtain ⟨b, rfl, h⟩ := isp1
        exact ⟨_, _, _, _, _, rfl, .ty _, .base (.tup h), kit_ty (r := true) (by decide +kernel), _, rfl, iteT ⟨_, rfl, b, _, 0, _, rfl, rfl, SqT.of h, rfl, rfl, _, rfl, iteT ⟨_, rfl, b, _, 1, _, rfl, rfl, SqT.of h, rfl, kR (.int n) _ (Same.refl _) (by rw [nx]; simp [parNo])⟩⟩⟩
    intro Hd E1 smd nE eE
    rw [List.take_of_length_le (by omega)] at eE
    have atd := smd _ _ atc
    have sm0d := sm0c.trans smd
    have ard : ArePs Hd (.str (S w0) :: (((ls.take 1).map fun z => V.str (S z)) ++ vs)) (.name w0 :: ((ls.take 1).map Part.name ++ ps)) := by
      refine .cons rfl ?_
      cases ls with
      | nil => exact arc.same smd
      | cons n r => exact .cons rfl (arc.same smd)
    have okd : ∀ p ∈ Part.name w0 :: ((ls.take 1).map Part.name ++ ps), okP p = true := fun p hp => by
      rcases List.mem_cons.mp hp with rfl | hp
      · exact wname
      · rcases List.mem_append.mp hp with hp | hp
        · cases ls with
          | nil => cases hp
          | cons n r =>
            obtain rfl := List.mem_singleton.mp hp
            exact hnm n r rfl
        · exact pok p hp
    have em : mostOf (.name w0 :: ((ls.take 1).map Part.name ++ ps)) = mostOf ps := by
      cases ls <;> rfl
    obtain ⟨m0, m4⟩ := most_le pok
    have law : ∀ b : Bool, fullL ps = b → lawRest w0 ls = if b = true then some (S w0, (ls.take 1).map Part.name ++ ps) else none := fun b hb => by
      cases ls with
      | nil =>
        have : ts = [] := ets
        subst this
        obtain rfl := Option.some.inj eps
        have : b = true := by rw [← hb]; rfl
        subst this
        rfl
      | cons n r =>
        have er : ts = r := ets
        rw [rest_cons, hnm n r rfl, if_pos rfl, ← er, eps]
        dsimp only
        rw [hb]; rfl
    -- every parameter up to the greatest one
    refine ⟨_, rfl, pc, _, _, rfl, .inl (SqT.of atd), by simp; omega, ard, okd, fun He sme => ?_⟩
    rw [em]
    have eEe := sme _ _ eE
    have sm0e := sm0d.trans sme
    refine ⟨_, _, rfl, rfl, 1, mostOf ps + 1, rfl, ⟨by decide, by decide, by omega, by omega⟩, ?_⟩
    have tz : (mostOf ps + 1 - 1).toNat = (mostOf ps).toNat := by omega
    rw [tz]
    refine lc_acc walk_range (fun i => ((List.range i).filter fun (j : Nat) => !decide ((1 + (j : Int)) ∈ parsOf ps)).map fun (j : Nat) => V.int (1 + (j : Int))) rfl (fun i hi => ?_) (fun _ _ => trivial) ?_ ?_
    · rw [List.length_map, sizeLine_eq]
      have := List.length_filter_le (fun j : Nat => !decide ((1 + (j : Int)) ∈ parsOf ps)) (List.range i)
      rw [List.length_range] at this
      omega
    · rintro i x H1 H2 R Nn hi sm ⟨rfl, rfl⟩ kR kN
      have eE1 := sm _ _ eEe
      refine ⟨rfl, _, rfl, _, rfl, E1, _, rfl, .inl (SqL.of eE1), rfl, all_intV _, ?_⟩
      rw [inV_int]
      refine ⟨_, rfl, ite2 (fun h3 => ?_) (fun h3 => ?_)⟩
      · have h3 : (!decide ((1 + (i : Int)) ∈ parsOf ps)) = true := h3
        refine ⟨_, rfl, kR _ _ (Same.refl _) ?_⟩
        rw [List.range_succ, List.filter_append, List.map_append, List.filter_cons, h3]; simp
      · have h3 : (!decide ((1 + (i : Int)) ∈ parsOf ps)) = false := Bool.eq_false_iff.mpr h3
        refine kN _ (Same.refl _) ?_
        rw [List.range_succ, List.filter_append, List.map_append, List.filter_cons, h3]; simp
    intro Hf F1 smf nF eF
    have sm0f := sm0e.trans smf
    refine ⟨F1, _, rfl, .inl (SqL.of eF), _, _, rfl, rfl, _, rfl, ite2 (fun h3 => ?_) (fun h3 => ?_)⟩
    · have h3 := of_decide_eq_true h3
      refine qn ?_ _ sm0f
      have : fullL ps = false := by
        cases hb : fullL ps with
        | false => rfl
        | true =>
          unfold fullL at hb
          rw [List.length_map, List.filter_eq_nil_iff.mpr fun j hj => by rw [List.all_eq_true.mp hb j hj]; decide] at h3
          exact absurd h3 (by decide)
      rw [law false this]; rfl
    · have : fullL ps = true := by
        unfold fullL
        rw [List.all_eq_true]
        intro j hj
        cases hb : decide ((1 + (j : Int)) ∈ parsOf ps) with
        | true => rfl
        | false =>
          exfalso
          refine h3 (decide_eq_true ?_)
          rw [List.length_map]
          have : j ∈ (List.range (mostOf ps).toNat).filter fun (j : Nat) => !decide ((1 + (j : Int)) ∈ parsOf ps) := List.mem_filter.mpr ⟨hj, by rw [hb]; rfl⟩
          have := List.length_pos_of_mem this
          omega
      refine ⟨_, rfl, q (S w0) ((ls.take 1).map Part.name ++ ps) (by rw [law true this]; rfl) _ pc _ sm0f nc0 (smf _ _ (sme _ _ atd)) ?_ (by show (((ls.take 1).map fun z => V.str (S z)) ++ vs).length ≤ 300; rw [List.length_append, List.length_map]; omega)⟩
      have z := ard.same (sme.trans smf)
      cases z with
      | cons _ z => exact z
end
end K02
end
section
namespace Mx
open PySem PySem.Spec PyProof.Rows L2 SX
theorem S_of (z : Str) : z = S z.cps.toList := rfl
theorem app_len (a b : Str) : (a ++ b).length = a.length + b.length := by
  have h := S_cat (a := a.cps.toList) (b := b.cps.toList)
  have e : a ++ b = S (a.cps.toList ++ b.cps.toList) := h
  rw [e, S_len, List.length_append]
  simp [Str.length]
theorem cut_len (z : Str) (lo hi : Option Int) : (cutS z lo hi).length ≤ z.length := by
  unfold cutS
  show (S _).length ≤ _
  rw [S_len, List.length_take, List.length_drop]
  have : z.cps.toList.length = z.length := by simp [Str.length]
  omega
theorem spl_len : ∀ (l : List Nat) (k : Nat) (acc : List Nat) (T : List Nat), ((TL.spl T k acc l).map List.length).sum ≤ acc.length + l.length
  | [], k, acc, T => by rw [TL.spl_nil]; simp
  | c :: r, 0, acc, T => by
    cases h : TL.pre T (c :: r) with
    | true =>
      rw [TL.spl_hit h, List.map_cons, List.sum_cons, List.length_cons]
      have := spl_len r (T.length - 1) [] T
      rw [List.length_nil] at this
      omega
    | false =>
      rw [TL.spl_miss h, List.length_cons]
      have := spl_len r 0 (acc ++ [c]) T
      rw [List.length_append, List.length_singleton] at this
      omega
  | c :: r, k + 1, acc, T => by
    show ((TL.spl T k acc r).map List.length).sum ≤ _
    have := spl_len r k acc T
    rw [List.length_cons]
    omega
theorem spl_count : ∀ (l : List Nat) (k : Nat) (acc : List Nat) (T : List Nat), 1 ≤ (TL.spl T k acc l).length ∧ (TL.spl T k acc l).length ≤ l.length + 1
  | [], k, acc, T => by rw [TL.spl_nil]; simp
  | c :: r, 0, acc, T => by
    cases h : TL.pre T (c :: r) with
    | true =>
      rw [TL.spl_hit h, List.length_cons, List.length_cons]
      have := spl_count r (T.length - 1) [] T
      omega
    | false =>
      rw [TL.spl_miss h, List.length_cons]
      have := spl_count r 0 (acc ++ [c]) T
      omega
  | c :: r, k + 1, acc, T => by
    show 1 ≤ (TL.spl T k acc r).length ∧ (TL.spl T k acc r).length ≤ _
    have := spl_count r k acc T
    rw [List.length_cons]
    omega
theorem join_len : ∀ ps : List (List Nat), (TL.joinL [32] ps).length ≤ (ps.map List.length).sum + ps.length
  | [] => by simp [TL.joinL]
  | [p] => by simp [TL.joinL]
  | p :: q :: r => by
    have := join_len (q :: r)
    rw [TL.joinL, List.length_append, List.length_append, List.map_cons, List.sum_cons, List.length_cons (a := p)]
    simp only [List.length_singleton]
    omega
theorem mem_sum {p : List Nat} : ∀ {ps : List (List Nat)}, p ∈ ps → p.length ≤ (ps.map List.length).sum
  | [], h => by cases h
  | x :: xs, h => by
    rw [List.map_cons, List.sum_cons]
    rcases List.mem_cons.mp h with rfl | h
    · omega
    · have := mem_sum h; omega
theorem sum_sub : ∀ (ps : List (List Nat)) (k : Nat), ((ps.take k ++ ps.drop (k + 1)).map List.length).sum ≤ (ps.map List.length).sum
  | [], k => by simp
  | x :: xs, 0 => by simp
  | x :: xs, k + 1 => by
    have := sum_sub xs k
    simp only [List.take_succ_cons, List.drop_succ_cons, List.cons_append, List.map_cons, List.sum_cons]
    omega
end Mx
namespace K02
open PySem PySem.Spec PyProof.Rows L2 Tl Mx SX
def sp_spoilt (K : PySem.W.Frag) : Sp := fun vs H Q _ => ∃ (z : Str) (b : Addr) (rs : List Int), vs = [.str z, .ref b] ∧ z.length ≤ 1000 ∧ SqL K H b (rs.map V.int) ∧ rs.length = 7 ∧ (∀ x ∈ rs, (0 : Int) ≤ x) ∧ ∀ H' z', Same H H' → z'.length ≤ 10000 → Q (.str z') H'
def bnd : Nat → Nat
  | 0 => 1000
  | n + 1 => 2 * bnd n + 2
section
variable {P : Program} {w : World} {K : PySem.W.Frag} {mg : Str → Option Value} {base : Heap}
theorem ok_law_spoilt (T : Txt K mg) : Pr P w K mg base CX0 1 "_law_spoilt" ["string", "row"] (sp_spoilt K) := by
  refine pr0 T.d_law_spoilt sc_law_spoilt (fun vs H Q E h => ?_) (fun f cdv A outer s H vs Q E hr h => ?_)
  · obtain ⟨z, b, rs, rfl, _⟩ := h; rfl
  · obtain ⟨z, b, rs, rfl, hz, sq, rl, rp, q⟩ := h
    refine ⟨_, pss_cons (ps_set (i := 2) sc_law_spoilt.nd rfl (.inl rfl) (pe_op op_add_str pe_str pe_str))
      (pss_cons (ps_for PassesOwn.never rfl (pi_range1 (by rfl) T.n_range (pa_cons (pe_op op_add pe_int (pe_op op_mod (pe_ix ix_list (pv 1) pe_int (fun _ _ => rfl)) pe_int)) pa_nil)) (pg_name (i := 3) sc_law_spoilt.nd rfl (.inl rfl))
        (pss_cons (ps_set (i := 4) sc_law_spoilt.nd rfl (.inl rfl) (pe_op op_mod (pe_ix ix_list (pv 1) (pe_op op_add pe_int (pe_op op_mul pe_int (pv 3))) (fun _ _ => rfl)) (pe_op op_add (pe_callB call_len_str (by rfl) T.n_len PySem.boot_len (pa_cons (pv 0) pa_nil)) pe_int)))
        (pss_cons (ps_set (i := 5) sc_law_spoilt.nd rfl (.inl rfl) (pe_op op_mod (pe_ix ix_list (pv 1) (pe_op op_add pe_int (pe_op op_mul pe_int (pv 3))) (fun _ _ => rfl)) pe_int))
        (pss_cons (ps_set (i := 6) sc_law_spoilt.nd rfl (.inl rfl) (pe_ix ix_str (pv 2) (pe_op op_mod (pe_op op_fdiv (pe_ix ix_list (pv 1) (pe_op op_add pe_int (pe_op op_mul pe_int (pv 3))) (fun _ _ => rfl)) pe_int) (pe_callB call_len_str (by rfl) T.n_len PySem.boot_len (pa_cons (pv 2) pa_nil))) (fun _ _ => rfl)))
        (pss_one (ps_if (pt_cmpR op_lt (pv 5) pe_int (nomark _))
          (pss_one (ps_set (i := 0) sc_law_spoilt.nd rfl (.inl rfl) (pe_op op_add_str (pe_op op_add_str (pe_slice sl_str (pv 0) po_none (po_some (pv 4))) (pv 6)) (pe_slice sl_str (pv 0) (po_some (pv 4)) po_none))))
          (pss_one (ps_if (pt_cmpR op_lt (pv 5) pe_int (nomark _))
            (pss_one (ps_set (i := 0) sc_law_spoilt.nd rfl (.inl rfl) (pe_op op_add_str (pe_slice sl_str (pv 0) po_none (po_some (pv 4))) (pe_slice sl_str (pv 0) (po_some (pe_op op_add (pv 4) pe_int)) po_none))))
            (pss_one (ps_if (pt_cmpR op_lt (pv 5) pe_int (nomark _))
              (pss_one (ps_set (i := 0) sc_law_spoilt.nd rfl (.inl rfl) (pe_op op_add_str (pe_op op_add_str (pe_slice sl_str (pv 0) po_none (po_some (pv 4))) (pv 6)) (pe_slice sl_str (pv 0) (po_some (pe_op op_add (pv 4) pe_int)) po_none))))
              (pss_one (ps_if (pt_cmpR op_eq (pv 5) pe_int (nomark _))
                (pss_cons (ps_set (i := 7) sc_law_spoilt.nd rfl (.inl rfl) (pe_split (pv 0) pe_str))
                (pss_one (ps_set (i := 0) sc_law_spoilt.nd rfl (.inl rfl) (pe_join pe_str (pe_op op_cat (pe_slice sl_list (pv 7) po_none (po_some (pe_op op_mod (pv 4) (pe_callB call_len_seq (by rfl) T.n_len PySem.boot_len (pa_cons (pv 7) pa_nil))))) (pe_slice sl_list (pv 7) (po_some (pe_op op_add (pe_op op_mod (pv 4) (pe_callB call_len_seq (by rfl) T.n_len PySem.boot_len (pa_cons (pv 7) pa_nil))) pe_int)) po_none))))))
                (pss_one (ps_set (i := 0) sc_law_spoilt.nd rfl (.inl rfl) (pe_op op_add_str (pe_op op_add_str (pv 0) pe_str) (pe_ix ix_list (pe_split (pv 0) pe_str) (pe_un un_neg pe_int) (fun _ _ => rfl)))))))))))))))))
      (pss_one (ps_ret (pv 0)))), ?_⟩
    obtain ⟨r0, r1, r2, r3, r4, r5, r6, rfl⟩ : ∃ r0 r1 r2 r3 r4 r5 r6, rs = [r0, r1, r2, r3, r4, r5, r6] := by
      match rs, rl with
      | [r0, r1, r2, r3, r4, r5, r6], _ => exact ⟨r0, r1, r2, r3, r4, r5, r6, rfl⟩
    refine ⟨_, _, rfl, rfl, by decide +kernel, ?_⟩
    obtain ⟨sg, esg⟩ : ∃ sg : Str, sg = "abz019 '-$~AT01 '$-_+.,;:()=!?<>[]{}|&@#^`*/XZmqe\\" ++ "\"" := ⟨_, rfl⟩
    have sgl : 1 ≤ sg.length ∧ sg.length ≤ 60 := by rw [esg]; decide +kernel
    rw [← esg]
    have m0 : 0 ≤ r0 % 3 := Int.emod_nonneg _ (by decide)
    have m1 : r0 % 3 < 3 := Int.emod_lt_of_pos _ (by decide)
    refine ⟨_, rfl, b, _, 0, _, rfl, rfl, sq, atI_nat (j := 0) rfl, _, _, rfl, rfl, (by show (0 : Int) < _; decide), _, _, rfl, rfl, _, rfl, by omega, by omega, ?_⟩
    refine for_it walk_range (fun i σ H' => ∃ (z : Str) (y3 y4 y5 y6 y7 : Option V), σ = [some (.str z), some (.ref b), some (.str sg), y3, y4, y5, y6, y7] ∧ Same H H' ∧ z.length ≤ bnd i) ⟨z, none, none, none, none, none, rfl, Same.refl _, hz⟩ (fun _ _ _ _ _ => trivial) ?_ ?_
    · rintro i x σ H1 H2 hi ⟨z, y3, y4, y5, y6, y7, rfl, sm, zl⟩ ⟨rfl, rfl⟩
      have hi : i < 3 := by have : i < (1 + r0 % 3).toNat := hi; omega
      have bi : bnd i ≤ 4006 := by
        have : i = 0 ∨ i = 1 ∨ i = 2 := by omega
        rcases this with rfl | rfl | rfl <;> decide
      have eb : bnd (i + 1) = 2 * bnd i + 2 := rfl
      have zb : z.length ≤ sizeLine := by rw [sizeLine_eq]; omega
      have sqi := sm.seq sq
      have hA : ∃ r, 0 ≤ r ∧ atI ([r0, r1, r2, r3, r4, r5, r6].map V.int) (1 + 2 * (0 + (i : Int))) = some (.int r) := by
        have : i = 0 ∨ i = 1 ∨ i = 2 := by omega
        rcases this with rfl | rfl | rfl
        · exact ⟨r1, rp r1 (by simp), rfl⟩
        · exact ⟨r3, rp r3 (by simp), rfl⟩
        · exact ⟨r5, rp r5 (by simp), rfl⟩
      have hB : ∃ r, 0 ≤ r ∧ atI ([r0, r1, r2, r3, r4, r5, r6].map V.int) (2 + 2 * (0 + (i : Int))) = some (.int r) := by
        have : i = 0 ∨ i = 1 ∨ i = 2 := by omega
        rcases this with rfl | rfl | rfl
        · exact ⟨r2, rp r2 (by simp), rfl⟩
        · exact ⟨r4, rp r4 (by simp), rfl⟩
        · exact ⟨r6, rp r6 (by simp), rfl⟩
      obtain ⟨rA, pA, gA⟩ := hA
      obtain ⟨rB, pB, gB⟩ := hB
      -- at
      refine ⟨_, rfl, _, rfl, _, _, rfl, rfl, .inl ⟨by decide, by decide⟩, _, _, rfl, rfl, b, _, _, .int rA, rfl, rfl, sqi, gA, ?_⟩
      refine ⟨_, rfl, z, rfl, zb, _, _, rfl, rfl, rA, _, rfl, rfl, (by show (0 : Int) < _; omega), ?_⟩
      -- choice
      refine ⟨_, rfl, _, rfl, _, _, rfl, rfl, .inl ⟨by decide, by decide⟩, _, _, rfl, rfl, b, _, _, .int rB, rfl, rfl, sqi, gB, _, _, rfl, rfl, (by show (0 : Int) < _; decide), ?_⟩
      -- sign
      have s0 : 0 ≤ rB / 8 % (sg.length : Int) := Int.emod_nonneg _ (by omega)
      have s1 : rB / 8 % (sg.length : Int) < (sg.length : Int) := Int.emod_lt_of_pos _ (by omega)
      obtain ⟨c, gc⟩ : ∃ c, sg.cps.toList[(rB / 8 % (sg.length : Int)).toNat]? = some c := ⟨_, List.getElem?_eq_getElem (by rw [Array.length_toList]; show _ < sg.length; omega)⟩
      refine ⟨_, rfl, _, rfl, _, rfl, _, _, rfl, rfl, .inl ⟨by decide, by decide⟩, _, _, rfl, rfl, b, _, _, .int rB, rfl, rfl, sqi, gB, _, _, rfl, rfl, ⟨by decide, by decide⟩, _, rfl, sg, rfl, by rw [sizeLine_eq]; omega, _, _, rfl, rfl, (by show (0 : Int) < _; omega), ?_⟩
      refine ⟨sg, _, c, rfl, rfl, by rw [sizeLine_eq]; omega, ?_, ?_⟩
      · rw [show rB / 8 % (sg.length : Int) = ((rB / 8 % (sg.length : Int)).toNat : Int) from (Int.toNat_of_nonneg s0).symm]
        exact atI_nat gc
      have one : (⟨#[c]⟩ : Str).length = 1 := rfl
      have at0 : 0 ≤ rA % ((z.length : Int) + 1) := Int.emod_nonneg _ (by omega)
      have fin : ∀ (z' : Str) (y3 y4 y5 y6 y7 : Option V) (H' : Hp), Same H2 H' → z'.length ≤ 2 * z.length + 2 → ∃ (z : Str) (x3 x4 x5 x6 x7 : Option V), [some (V.str z'), some (.ref b), some (.str sg), y3, y4, y5, y6, y7] = [some (.str z), some (.ref b), some (.str sg), x3, x4, x5, x6, x7] ∧ Same H H' ∧ z.length ≤ bnd (i + 1) := fun z' y3 y4 y5 y6 y7 H' s hl => ⟨z', y3, y4, y5, y6, y7, rfl, sm.trans s, by omega⟩
      have c1 := cut_len z none (some (rA % ((z.length : Int) + 1)))
      have c2 := cut_len z (some (rA % ((z.length : Int) + 1))) none
      have c3 := cut_len z (some (rA % ((z.length : Int) + 1) + 1)) none
      refine ⟨_, rfl, _, _, rfl, rfl, _, rfl, ite2 (fun h1 => ?_) (fun h1 => ?_)⟩
      · refine ⟨_, rfl, _, rfl, _, rfl, z, rfl, zb, _, rfl, _, _, rfl, rfl, by rw [one, sizeLine_eq]; omega, _, rfl, _, rfl, _, rfl, z, rfl, zb, _, _, rfl, rfl, by rw [app_len, one, sizeLine_eq]; omega, fin _ _ _ _ _ _ _ (Same.refl _) ?_⟩
        rw [app_len, app_len, one]
        have : (cutS z none (some (rA % ((z.length : Int) + 1)))).length + (cutS z (some (rA % ((z.length : Int) + 1))) none).length ≤ 2 * z.length := by omega
        omega
      refine ⟨_, rfl, _, _, rfl, rfl, _, rfl, ite2 (fun h2 => ?_) (fun h2 => ?_)⟩
      · refine ⟨_, rfl, _, rfl, _, rfl, z, rfl, zb, _, rfl, _, rfl, _, _, rfl, rfl, _, rfl, z, rfl, zb, _, _, rfl, rfl, by rw [sizeLine_eq]; omega, fin _ _ _ _ _ _ _ (Same.refl _) ?_⟩
        rw [app_len]
        omega
      refine ⟨_, rfl, _, _, rfl, rfl, _, rfl, ite2 (fun h3 => ?_) (fun h3 => ?_)⟩
      · refine ⟨_, rfl, _, rfl, _, rfl, z, rfl, zb, _, rfl, _, _, rfl, rfl, by rw [one, sizeLine_eq]; omega, _, rfl, _, rfl, _, _, rfl, rfl, _, rfl, z, rfl, zb, _, _, rfl, rfl, by rw [app_len, one, sizeLine_eq]; omega, fin _ _ _ _ _ _ _ (Same.refl _) ?_⟩
        rw [app_len, app_len, one]
        omega
      have esp : Txt.split z (S [32]) = (TL.spl [32] 0 [] z.cps.toList).map S := split_S (a := z.cps.toList) (by decide) (by decide)
      have zl2 : z.cps.toList.length = z.length := by simp [Str.length]
      have spS := spl_len z.cps.toList 0 [] [32]
      have spC := spl_count z.cps.toList 0 [] [32]
      rw [zl2, List.length_nil, Nat.zero_add] at spS
      rw [zl2] at spC
      refine ⟨_, rfl, rfl, _, rfl, ite2 (fun h4 => ?_) (fun h4 => ?_)⟩
      · refine ⟨_, rfl, ⟨_, rfl⟩, z, S [32], rfl, rfl, rfl, by rw [sizeLine_eq]; omega, ?_⟩
        rw [esp]
        generalize TL.spl [32] 0 [] z.cps.toList = ws at spS spC
        intro pw nw
        have sw := same_upd (o := HO.lst ((ws.map S).map V.str)) nw
        have atw : (upd H2 pw (.lst ((ws.map S).map V.str))) pw = some (.lst ((ws.map S).map V.str)) := upd_same
        generalize (upd H2 pw (.lst ((ws.map S).map V.str))) = Hw at sw atw ⊢
        have k0 : 0 ≤ rA % ((z.length : Int) + 1) % (((ws.map S).map V.str).length : Int) := Int.emod_nonneg _ (by rw [List.length_map, List.length_map]; omega)
        obtain ⟨k, ek⟩ : ∃ k : Nat, rA % ((z.length : Int) + 1) % (((ws.map S).map V.str).length : Int) = (k : Int) := ⟨_, (Int.toNat_of_nonneg k0).symm⟩
        have pos : (0 : Int) < (((ws.map S).map V.str).length : Int) := by rw [List.length_map, List.length_map]; omega
        refine ⟨⟨_, rfl⟩, _, rfl, _, rfl, _, rfl, pw, _, rfl, .inl (SqL.of atw), _, _, rfl, rfl, pos, _, rfl, pw, _, rfl, SqL.of atw, fun pa na => ?_⟩
        have sa := same_upd (o := HO.lst (cutV ((ws.map S).map V.str) none (some (rA % ((z.length : Int) + 1) % (((ws.map S).map V.str).length : Int))))) na
        have ata := upd_same (H := Hw) (a := pa) (o := HO.lst (cutV ((ws.map S).map V.str) none (some (rA % ((z.length : Int) + 1) % (((ws.map S).map V.str).length : Int)))))
        refine ⟨_, rfl, _, rfl, _, rfl, pw, _, rfl, .inl (SqL.of (sa _ _ atw)), _, _, rfl, rfl, pos, _, _, rfl, rfl, _, rfl, pw, _, rfl, SqL.of (sa _ _ atw), fun pb nb => ?_⟩
        have sb := same_upd (o := HO.lst (cutV ((ws.map S).map V.str) (some (rA % ((z.length : Int) + 1) % (((ws.map S).map V.str).length : Int) + 1)) none)) nb
        refine ⟨pa, pb, _, _, rfl, rfl, sb _ _ ata, upd_same, ?_, fun pc nc => ?_⟩
        · rw [ek, cut_to, show ((k : Int) + 1) = ((k + 1 : Nat) : Int) by omega, cut_from]
          rw [List.length_take, List.length_drop, List.length_map, List.length_map, sizeLine_eq]
          omega
        have el : cutV ((ws.map S).map V.str) none (some (rA % ((z.length : Int) + 1) % (((ws.map S).map V.str).length : Int))) ++ cutV ((ws.map S).map V.str) (some (rA % ((z.length : Int) + 1) % (((ws.map S).map V.str).length : Int) + 1)) none = ((ws.take k ++ ws.drop (k + 1)).map S).map V.str := by
          rw [ek, cut_to, show ((k : Int) + 1) = ((k + 1 : Nat) : Int) by omega, cut_from, ← List.map_take, ← List.map_take, ← List.map_drop, ← List.map_drop, List.map_append, List.map_append]
        have sc := same_upd (o := HO.lst (cutV ((ws.map S).map V.str) none (some (rA % ((z.length : Int) + 1) % (((ws.map S).map V.str).length : Int))) ++ cutV ((ws.map S).map V.str) (some (rA % ((z.length : Int) + 1) % (((ws.map S).map V.str).length : Int) + 1)) none)) nc
        have ssum := sum_sub ws k
        have slen : (ws.take k ++ ws.drop (k + 1)).length ≤ ws.length := by rw [List.length_append, List.length_take, List.length_drop]; omega
        refine ⟨S [32], pc, (ws.take k ++ ws.drop (k + 1)).map S, rfl, rfl, .inl (SqL.of (by rw [upd_same, el])), ?_, fin _ _ _ _ _ _ _ (sw.trans (sa.trans (sb.trans sc))) ?_⟩
        · rw [SX.lens, List.length_map, S_len]
          have ssum : ((ws.take k ++ ws.drop (k + 1)).map fun x => x.length).sum ≤ (ws.map List.length).sum := ssum
          simp only [List.length_singleton]
          omega
        · rw [join_S, S_len]
          have := join_len (ws.take k ++ ws.drop (k + 1))
          omega
      · refine ⟨_, rfl, _, _, rfl, rfl, by show z.length + 1 ≤ _; rw [sizeLine_eq]; omega, ?_⟩
        refine ⟨_, rfl, ⟨_, rfl⟩, z, S [32], rfl, rfl, rfl, by rw [sizeLine_eq]; omega, ?_⟩
        rw [esp]
        generalize TL.spl [32] 0 [] z.cps.toList = ws at spS spC
        intro pw nw
        have sw := same_upd (o := HO.lst ((ws.map S).map V.str)) nw
        obtain ⟨ws', a, rfl⟩ : ∃ ws' a, ws = ws' ++ [a] := by
          rcases List.eq_nil_or_concat ws with rfl | ⟨r, a, rfl⟩
          · simp at spC
          · exact ⟨r, a, List.concat_eq_append⟩
        have la : a.length ≤ z.length := by
          have := mem_sum (p := a) (ps := ws' ++ [a]) (by simp)
          omega
        refine ⟨_, rfl, pw, _, _, .str (S a), rfl, rfl, SqL.of upd_same, ?_, _, _, rfl, rfl, ?_, fin _ _ _ _ _ _ _ sw ?_⟩
        · rw [List.map_append, List.map_append]
          exact atI_last _ _
        · have e2 : (S a).length = a.length := S_len a
          rw [app_len, e2, show (" " : Str).length = 1 from rfl, sizeLine_eq]; omega
        · have e2 : (S a).length = a.length := S_len a
          rw [app_len, app_len, e2, show (" " : Str).length = 1 from rfl]; omega
    · rintro σ H1 ⟨z, y3, y4, y5, y6, y7, rfl, sm, zl⟩
      refine ⟨_, rfl, q _ z sm ?_⟩
      have : (1 + r0 % 3).toNat = 0 ∨ (1 + r0 % 3).toNat = 1 ∨ (1 + r0 % 3).toNat = 2 ∨ (1 + r0 % 3).toNat = 3 := by omega
      rcases this with e | e | e | e <;> rw [e] at zl <;> simp [bnd] at zl <;> omega
end
end K02
end
section
namespace K02
open PySem PySem.Spec PyProof.Rows L2 Tl Mx SX
def sp_strange : Sp := fun vs H Q _ => ∃ n : Int, vs = [.int n] ∧ 0 ≤ n ∧ ∀ H' z, Same H H' → z.length ≤ 1000 → Q (.str z) H'
def okL : V → Bool
  | .str z => decide (z.length ≤ 400)
  | _ => false
theorem okL_of {x : V} (h : okL x = true) : ∃ z : Str, x = .str z ∧ z.length ≤ 400 := by
  cases x with
  | str z => exact ⟨z, rfl, of_decide_eq_true h⟩
  | _ => cases h
theorem okL_str {z : Str} (h : z.length ≤ 400) : okL (.str z) = true := decide_eq_true h
theorem same_gen {H : Hp} {p : Addr} {xs : List V} (hn : H p = none) : Same H (upd H p (.lst xs)) ∧ (upd H p (.lst xs)) p = some (.lst xs) := ⟨same_upd hn, upd_same⟩
theorem mul_y {y : Str} (h1 : y.length = 1) {k : Int} (h0 : 0 ≤ k) (h : k ≤ 100) : MulOk y k ∧ (Txt.mul y k).length ≤ 100 := by
  refine ⟨mulOk_of 1 100 (by omega) h (by omega) (by decide) (by decide), ?_⟩
  have := len_mul_leN (x := y) (n := k) (L := 1) (N := 100) (by omega) h
  omega
section
variable {P : Program} {w : World} {K : PySem.W.Frag} {mg : Str → Option Value} {base : Heap}
theorem ok_law_strange (T : Txt K mg) : Pr P w K mg base CX0 1 "_law_strange" ["number"] sp_strange := by
  refine pr0 T.d_law_strange sc_law_strange (fun vs H Q E h => ?_) (fun f cdv A outer s H vs Q E hr h => ?_)
  · obtain ⟨n, rfl, _⟩ := h; rfl
  · obtain ⟨n, rfl, h0, q⟩ := h
    refine ⟨_, pss_cons (ps_set (i := 1) sc_law_strange.nd rfl (.inl rfl) (pe_lst (pa_cons pe_str (pa_cons pe_str (pa_cons pe_str (pa_cons pe_str (pa_cons pe_str (pa_cons pe_str pa_nil))))))))
      (pss_cons (ps_set (i := 1) sc_law_strange.nd rfl (.inl rfl) (pe_op op_cat (pv 1) (pe_lst (pa_cons pe_str (pa_cons pe_str (pa_cons pe_str (pa_cons pe_str (pa_cons pe_str (pa_cons pe_str (pa_cons pe_str (pa_cons pe_str pa_nil)))))))))))
      (pss_cons (ps_set (i := 1) sc_law_strange.nd rfl (.inl rfl) (pe_op op_cat (pv 1) (pe_lst (pa_cons (pe_op op_add_str (pe_op op_add_str pe_str (pe_op op_mulS pe_str (pe_op op_add pe_int (pe_op op_mod (pv 0) pe_int)))) pe_str) (pa_cons pe_str (pa_cons pe_str (pa_cons pe_str (pa_cons pe_str (pa_cons pe_str (pa_cons pe_str (pa_cons pe_str (pa_cons pe_str pa_nil))))))))))))
      (pss_cons (ps_set (i := 1) sc_law_strange.nd rfl (.inl rfl) (pe_op op_cat (pv 1) (pe_lst (pa_cons (pe_op op_add_str (pe_op op_add_str (pe_op op_add_str (pe_op op_add_str pe_str (pe_op op_mulS pe_str pe_int)) pe_str) (pe_op op_mulS pe_str pe_int)) pe_str) (pa_cons (pe_op op_add_str (pe_op op_add_str pe_str (pe_op op_mulS pe_str (pe_op op_add pe_int (pe_op op_mod (pv 0) pe_int)))) pe_str) (pa_cons pe_str (pa_cons pe_str pa_nil)))))))
      (pss_cons (ps_set (i := 1) sc_law_strange.nd rfl (.inl rfl) (pe_op op_cat (pv 1) (pe_lst (pa_cons pe_str (pa_cons pe_str (pa_cons pe_str (pa_cons pe_str (pa_cons pe_str (pa_cons pe_str (pa_cons pe_str (pa_cons pe_str (pa_cons pe_str pa_nil))))))))))))
      (pss_cons (ps_set (i := 1) sc_law_strange.nd rfl (.inl rfl) (pe_op op_cat (pv 1) (pe_lst (pa_cons pe_str (pa_cons pe_str (pa_cons pe_str (pa_cons pe_str (pa_cons pe_str (pa_cons pe_str (pa_cons pe_str (pa_cons pe_str (pa_cons pe_str pa_nil))))))))))))
      (pss_one (ps_ret (pe_op op_add_str (pe_ix ix_list (pv 1) (pe_op op_mod (pe_op op_fdiv (pv 0) pe_int) (pe_callB call_len_seq (by rfl) T.n_len PySem.boot_len (pa_cons (pv 1) pa_nil))) (fun _ _ => rfl)) (pe_op op_mulS pe_str (pe_op op_fdiv (pe_op op_mod (pv 0) pe_int) pe_int)))))))))), ?_⟩
    have m40 : 0 ≤ n % 4 := Int.emod_nonneg _ (by decide)
    have m41 : n % 4 < 4 := Int.emod_lt_of_pos _ (by decide)
    have m30 : 0 ≤ n % 3 := Int.emod_nonneg _ (by decide)
    have m31 : n % 3 < 3 := Int.emod_lt_of_pos _ (by decide)
    have m90 : 0 ≤ n % 97 := Int.emod_nonneg _ (by decide)
    have m91 : n % 97 < 97 := Int.emod_lt_of_pos _ (by decide)
    refine ⟨(by show 6 ≤ sizeLine; decide), fun p1 n1 => ?_⟩
    generalize e1 : upd H p1 (.lst _) = H1
    have s1 : Same H H1 := e1 ▸ same_upd n1
    obtain ⟨xs1, at1, o1, l1⟩ : ∃ xs, H1 p1 = some (.lst xs) ∧ xs.all okL = true ∧ xs.length = 6 := ⟨_, e1 ▸ upd_same, by decide +kernel, rfl⟩
    clear e1
    -- the next ones
    have app : ∀ {xs ys : List V}, xs.all okL = true → ys.all okL = true → (xs ++ ys).all okL = true := fun h1 h2 => by rw [List.all_append, h1, h2]; rfl
    refine ⟨_, rfl, (by show 8 ≤ sizeLine; decide), fun p2 n2 => ?_⟩
    generalize e2 : upd H1 p2 (.lst _) = H2
    have s2 : Same H1 H2 := e2 ▸ same_upd n2
    obtain ⟨xs2, at2, o2, l2⟩ : ∃ xs, H2 p2 = some (.lst xs) ∧ xs.all okL = true ∧ xs.length = 8 := ⟨_, e2 ▸ upd_same, by decide +kernel, rfl⟩
    clear e2
    refine ⟨p1, p2, _, _, rfl, rfl, s2 _ _ at1, at2, by rw [l1, l2, sizeLine_eq]; omega, fun p3 n3 => ?_⟩
    generalize e3 : upd H2 p3 (.lst _) = H3
    have s3 : Same H H3 := s1.trans (s2.trans (e3 ▸ same_upd n3))
    obtain ⟨xs3, at3, o3, l3⟩ : ∃ xs, H3 p3 = some (.lst xs) ∧ xs.all okL = true ∧ xs.length = 14 := ⟨_, e3 ▸ upd_same, app o1 o2, by rw [List.length_append, l1, l2]⟩
    clear e3 at1 at2 n1 n2 n3 o1 o2 s1 s2 l1 l2
    -- with y
    obtain ⟨my1, my2⟩ := mul_y (y := "y") rfl (k := 39 + n % 4) (by omega) (by omega)
    obtain ⟨mz1, mz2⟩ := mul_y (y := "z") rfl (k := 40) (by omega) (by omega)
    obtain ⟨mx1, mx2⟩ := mul_y (y := "y") rfl (k := 40) (by omega) (by omega)
    obtain ⟨mt1, mt2⟩ := mul_y (y := "t") rfl (k := 7 + n % 3) (by omega) (by omega)
    obtain ⟨ms1, ms2⟩ := mul_y (y := " ") rfl (k := n % 97 / 96) (by omega) (by omega)
    have la : ("put t '" : Str).length = 7 := by decide +kernel
    have lb : ("' 1" : Str).length = 3 := by decide +kernel
    have lc : ("' '" : Str).length = 3 := by decide +kernel
    have ld : ("'" : Str).length = 1 := by decide +kernel
    have le : ("put " : Str).length = 4 := by decide +kernel
    have lf : (" 1 1" : Str).length = 4 := by decide +kernel
    have p0 : ∀ k : Int, 0 < k → (0 : Int) < k := fun _ h => h
    refine ⟨_, rfl, _, rfl, _, _, rfl, rfl, (by show (0 : Int) < _; decide), _, _, rfl, rfl, _, _, rfl, rfl, my1, _, _, rfl, rfl, by rw [la, sizeLine_eq]; omega, _, _, rfl, rfl, by rw [app_len, la, lb, sizeLine_eq]; omega, (by show 9 ≤ sizeLine; decide), fun p4 n4 => ?_⟩
    generalize e4 : upd H3 p4 (.lst _) = H4
    have s4 : Same H3 H4 := e4 ▸ same_upd n4
    obtain ⟨xs4, at4, o4, l4⟩ : ∃ xs, H4 p4 = some (.lst xs) ∧ xs.all okL = true ∧ xs.length = 9 := ⟨_, e4 ▸ upd_same, by
      rw [List.all_cons, show okL (.str (("put t '" ++ Txt.mul "y" (39 + n % 4)) ++ "' 1")) = true from okL_str (by rw [app_len, app_len, la, lb]; omega)]
      decide +kernel, rfl⟩
    clear e4
    refine ⟨p3, p4, _, _, rfl, rfl, s4 _ _ at3, at4, by rw [l3, l4, sizeLine_eq]; omega, fun p5 n5 => ?_⟩
    generalize e5 : upd H4 p5 (.lst _) = H5
    have s5 : Same H H5 := s3.trans (s4.trans (e5 ▸ same_upd n5))
    obtain ⟨xs5, at5, o5, l5⟩ : ∃ xs, H5 p5 = some (.lst xs) ∧ xs.all okL = true ∧ xs.length = 23 := ⟨_, e5 ▸ upd_same, app o3 o4, by rw [List.length_append, l3, l4]⟩
    clear e5 at3 at4 n4 n5 o3 o4 s3 s4 l3 l4
    -- with y and z, with t
    refine ⟨_, rfl, _, _, rfl, rfl, mx1, _, _, rfl, rfl, by rw [la, sizeLine_eq]; omega, _, _, rfl, rfl, by rw [app_len, la, lc, sizeLine_eq]; omega, _, _, rfl, rfl, mz1, _, _, rfl, rfl, by rw [app_len, app_len, la, lc, sizeLine_eq]; omega, _, _, rfl, rfl, by rw [app_len, app_len, app_len, la, lc, ld, sizeLine_eq]; omega, ?_⟩
    refine ⟨_, rfl, _, _, rfl, rfl, (by show (0 : Int) < _; decide), _, _, rfl, rfl, _, _, rfl, rfl, mt1, _, _, rfl, rfl, by rw [le, sizeLine_eq]; omega, _, _, rfl, rfl, by rw [app_len, le, lf, sizeLine_eq]; omega, (by show 4 ≤ sizeLine; decide), fun p6 n6 => ?_⟩
    generalize e6 : upd H5 p6 (.lst _) = H6
    have s6 : Same H5 H6 := e6 ▸ same_upd n6
    obtain ⟨xs6, at6, o6, l6⟩ : ∃ xs, H6 p6 = some (.lst xs) ∧ xs.all okL = true ∧ xs.length = 4 := ⟨_, e6 ▸ upd_same, by
      rw [List.all_cons, List.all_cons, show okL (.str (((("put t '" ++ Txt.mul "y" 40) ++ "' '") ++ Txt.mul "z" 40) ++ "'")) = true from okL_str (by rw [app_len, app_len, app_len, app_len, la, lc, ld]; omega),
        show okL (.str (("put " ++ Txt.mul "t" (7 + n % 3)) ++ " 1 1")) = true from okL_str (by rw [app_len, app_len, le, lf]; omega)]
      decide +kernel, rfl⟩
    clear e6
    refine ⟨p5, p6, _, _, rfl, rfl, s6 _ _ at5, at6, by rw [l5, l6, sizeLine_eq]; omega, fun p7 n7 => ?_⟩
    generalize e7 : upd H6 p7 (.lst _) = H7
    have s7 : Same H H7 := s5.trans (s6.trans (e7 ▸ same_upd n7))
    obtain ⟨xs7, at7, o7, l7⟩ : ∃ xs, H7 p7 = some (.lst xs) ∧ xs.all okL = true ∧ xs.length = 27 := ⟨_, e7 ▸ upd_same, app o5 o6, by rw [List.length_append, l5, l6]⟩
    clear e7 at5 at6 n6 n7 o5 o6 s5 s6 l5 l6
    refine ⟨_, rfl, (by show 9 ≤ sizeLine; decide), fun p8 n8 => ?_⟩
    generalize e8 : upd H7 p8 (.lst _) = H8
    have s8 : Same H7 H8 := e8 ▸ same_upd n8
    obtain ⟨xs8, at8, o8, l8⟩ : ∃ xs, H8 p8 = some (.lst xs) ∧ xs.all okL = true ∧ xs.length = 9 := ⟨_, e8 ▸ upd_same, by decide +kernel, rfl⟩
    clear e8
    refine ⟨p7, p8, _, _, rfl, rfl, s8 _ _ at7, at8, by rw [l7, l8, sizeLine_eq]; omega, fun p9 n9 => ?_⟩
    generalize e9 : upd H8 p9 (.lst _) = H9
    have s9 : Same H H9 := s7.trans (s8.trans (e9 ▸ same_upd n9))
    obtain ⟨xs9, at9, o9, l9⟩ : ∃ xs, H9 p9 = some (.lst xs) ∧ xs.all okL = true ∧ xs.length = 36 := ⟨_, e9 ▸ upd_same, app o7 o8, by rw [List.length_append, l7, l8]⟩
    clear e9 at7 at8 n8 n9 o7 o8 s7 s8 l7 l8
    refine ⟨_, rfl, (by show 9 ≤ sizeLine; decide), fun pa na => ?_⟩
    generalize ea : upd H9 pa (.lst _) = Ha
    have sa : Same H9 Ha := ea ▸ same_upd na
    obtain ⟨xsa, ata, oa, lla⟩ : ∃ xs, Ha pa = some (.lst xs) ∧ xs.all okL = true ∧ xs.length = 9 := ⟨_, ea ▸ upd_same, by decide +kernel, rfl⟩
    clear ea
    refine ⟨p9, pa, _, _, rfl, rfl, sa _ _ at9, ata, by rw [l9, lla, sizeLine_eq]; omega, fun pb nb => ?_⟩
    generalize eb : upd Ha pb (.lst _) = Hb
    have sb : Same H Hb := s9.trans (sa.trans (eb ▸ same_upd nb))
    obtain ⟨xsb, atb, ob, lb'⟩ : ∃ xs, Hb pb = some (.lst xs) ∧ xs.all okL = true ∧ xs.length = 45 := ⟨_, eb ▸ upd_same, app o9 oa, by rw [List.length_append, l9, lla]⟩
    clear eb at9 ata na nb o9 oa s9 sa l9 lla
    -- one of them
    have k0 : 0 ≤ n / 4 % (xsb.length : Int) := Int.emod_nonneg _ (by omega)
    have k1 : n / 4 % (xsb.length : Int) < (xsb.length : Int) := Int.emod_lt_of_pos _ (by omega)
    obtain ⟨v, gv⟩ : ∃ v, xsb[(n / 4 % (xsb.length : Int)).toNat]? = some v := ⟨_, List.getElem?_eq_getElem (by omega)⟩
    obtain ⟨z, rfl, zl⟩ := okL_of (List.all_eq_true.mp ob v (List.mem_of_getElem? gv))
    refine ⟨_, rfl, _, rfl, _, _, rfl, rfl, ⟨by decide, by decide⟩, _, rfl, pb, _, rfl, .inl (SqL.of atb), _, _, rfl, rfl, (by show (0 : Int) < _; omega), pb, _, _, .str z, rfl, rfl, SqL.of atb, ?_, ?_⟩
    · rw [show n / 4 % (xsb.length : Int) = ((n / 4 % (xsb.length : Int)).toNat : Int) from (Int.toNat_of_nonneg k0).symm]
      exact atI_nat gv
    refine ⟨_, rfl, _, _, rfl, rfl, (by show (0 : Int) < _; decide), _, _, rfl, rfl, ⟨by decide, by decide⟩, _, _, rfl, rfl, ms1, _, _, rfl, rfl, by rw [sizeLine_eq]; omega, q _ _ sb (by rw [app_len]; omega)⟩
end
end K02
end
section
/-! in a def that an except suite calls: a comprehension over a range, isinstance of the exception -/
namespace Hq
open PySem PySem.Spec PyProof.Rows L2
/-- p is the exception that is handled; it stood at the entry, out of the reach of what is tracked -/
structure Held (X : Cx) (p : Addr × Obj) : Prop where
  hh : X.A.handled = some (.ref p.1)
  vs : ∃ vs : Array Value, p.2.data = .fields vs ∧ vs[2]? = some .none
  was : X.s_0.heap.get? p.1 = some p.2
  untr : X.H_0 p.1 = none
  nofr : p.1 ∉ X.fs
  noex : p.1 ∉ X.ex
section
variable {X : Cx} {p : Addr × Obj} {pins : List (Addr × Obj)} {σ : L2.St} {H : Hp} {s : Shared}
theorem Held.is (h : Held X p) (I : Inv X pins σ H s) : s.heap.get? p.1 = some p.2 ∧ H p.1 = none :=
  ⟨I.base.keep _ _ h.was h.untr h.nofr h.noex, I.base.free _ _ h.was h.untr h.noex⟩
theorem Held.hot (h : Held X p) (I : Inv X pins σ H s) : HotX.HotAt X.A p.1 s.heap := by
  obtain ⟨vs, e1, e2⟩ := h.vs
  exact ⟨h.hh, p.2, vs, (h.is I).1, e1, e2⟩
theorem held_def {CX : CXT} {P : Program} {w : World} {K : PySem.W.Frag} {mg : Str → Option Value} {base : Heap} {N : List Str} {qual : Str} {scope : Scope} {f : Addr} {cd : Value} {A : Around} {outer : List Env} {E : XK}
    (h1 : L2H.Hot1 A p) (h2 : L2H.PinOk outer H s p) : Held (L2H.cxH CX P w K mg base N qual scope f cd A outer s H E p) p :=
  ⟨h1.1, h1.2, h2.get, h2.free, h2.nofs, fun z => absurd (show p.1 ∈ ([] : List Addr) from z) (by simp)⟩
theorem held_pin {a : Addr} {oe : Obj} {vs : Array Value} {pn : List (Addr × Obj)} {X0 : Cx} (e1 : oe.data = .fields vs) (e2 : vs[2]? = some .none) : ∀ (I : Inv (X0.suite a ((a, oe) :: pn)) pins σ H s), s.heap.get? a = some oe := fun I => (I.pin (a, oe) (List.mem_append_left _ (List.mem_cons_self ..))).1
/-- within a block of such a def -/
theorem held_blk {scope : Scope} {ce : Env} {fp : List Addr} (h : Held X p) (i : CqN.In X s H scope ce fp) (hp : p ∈ X.pn) : Held (X.blk s H scope ce fp) p := by
  obtain ⟨pins, σ, I, hfp⟩ := i.inv
  have z := h.is I
  have q := I.pin p (List.mem_append_left _ hp)
  refine ⟨h.hh, h.vs, z.1, z.2, fun hm => ?_, fun hm => ?_⟩
  · rcases List.mem_cons.mp (I.stkSub p.1 hm) with e | e
    · exact q.2.2.1 e
    · exact q.2.2.2.1 e
  · exact (hfp p.1 hm).2.2.2.2.2 p (List.mem_append_left _ hp) rfl
/-- isinstance(e, C), e the exception -/
theorem call_isH {D : Addr} (h : Held X p) (C : ExcC X.K D) (hz : Zc (.ref D) none p.2) : CallR X (.builtin "isinstance") (rIsE X.K D p.1) := by
  intro pins s σ H xs us Q I r want
  obtain ⟨c, cv, b, rfl, hcv, e, q⟩ := want
  cases r with
  | cons rx rr =>
  cases rr with
  | cons rt rr =>
  cases rr
  cases rx
  obtain rfl := hcv _ rt
  have got := (h.is I).1
  obtain ⟨vs, hv, _⟩ := h.vs
  have J : PySem.W.InstAt s.heap p.1 p.2 D none := by
    obtain ⟨a, oc, od, oda, osl⟩ := p
    obtain ⟨k1, k2⟩ := hz
    dsimp only at k1 k2 hv
    subst k1 k2 hv
    exact ⟨got, rfl, rfl, trivial⟩
  exact PySem.W.kia_one (PySem.W.handS_kitx_exc C.hg C.hk C.hs C.hd C.ha C.hn C.ht C.hm) I.kIn J e (fun z => nomatch z) fun tk => ⟨.bl b, H, I.kept (t' := tk) fun _ _ z => z, rfl, q⟩
end
/-- an iterator that turns there -/
structure TurnH (P : Program) (w : World) (K : PySem.W.Frag) (tg : Expr) (J : It) (fp : List Addr) (it : Addr) (tn : Nat → Heap → Prop) : Prop where
  obj : ∀ i h, tn i h → ∀ b ∈ fp, ∃ o, h.get? b = some o ∧ ∀ v, o.data ≠ .cell v
  keep : ∀ i h h', tn i h → (∀ b ∈ fp, ∀ o, h.get? b = some o → h'.get? b = some o) → tn i h'
  item : ∀ (X : Cx) (p : Addr × Obj), X.prog = P → X.w = w → X.K = K → Held X p → ∀ (i : Nat) (pins : List (Addr × Obj)) (s : Shared) (σ : L2.St) (H : Hp) (E : Value → Shared → Prop),
    Inv X pins σ H s → (∀ b ∈ fp, FpOk X pins H b) → tn i s.heap → J.go i H →
    wpAny (model P w) X.A (pyNext (.ref it)) (fun r s1 => ∃ u, r = some u ∧ wpAny (model P w) X.A (letOwnedTupleGo tg (.ref it) u)
      (fun _ s2 => ∃ x H', Inv X pins σ H' s2 ∧ RelV x u ∧ J.yld i H x H' ∧ tn (i + 1) s2.heap ∧ ∀ b ∈ fp, H' b = none) E s1) E s
  over : ∀ (X : Cx) (p : Addr × Obj), X.prog = P → X.w = w → X.K = K → Held X p → ∀ (i : Nat) (pins : List (Addr × Obj)) (s : Shared) (σ : L2.St) (H : Hp) (E : Value → Shared → Prop),
    Inv X pins σ H s → (∀ b ∈ fp, FpOk X pins H b) → tn i s.heap → J.stop i H → wpAny (model P w) X.A (pyNext (.ref it)) (fun r s1 => r = none ∧ Inv X pins σ H s1) E s
  iter : ∀ (A : Around) (i : Nat) (s : Shared) (Q E : Value → Shared → Prop), tn i s.heap → Q (.ref it) s → wpAny (model P w) A (pyIter (.ref it)) Q E s
theorem turnH_range {P : Program} {w : World} {K : PySem.W.Frag} {tg : Expr} (it : Addr) (lo : Int) (n : Nat) :
    TurnH P w K tg (Itr lo n) [it] it (fun i h => IsRangeIter h it (lo + (i : Nat)) ((n : Int) - (i : Nat)) 1) where
  obj := fun i h st b hb => by
    obtain rfl : b = it := List.mem_singleton.mp hb
    exact ⟨_, st, fun v z => by cases (show Data.fields _ = Data.cell v from z)⟩
  keep := fun i h h' st k => k it (List.mem_singleton.mpr rfl) _ st
  item := by
    intro X p e1 e2 e3 hp i pins s σ H E I hf st lt
    subst e1 e2 e3
    have lt : i < n := lt
    obtain ⟨f0, f1, f2, f3, f4, f5⟩ := hf it (List.mem_singleton.mpr rfl)
    refine wpAny_pyNext_range_item st (by omega) fun h' nxt sb => ?_
    have J1 := I.turned (h' := h') (t' := s.toks + 1) (fun b o hb e => (sb.2 b hb).trans e) f0 f1 f3 f4 f5
    have nx2 : IsRangeIter h' it (lo + ((i + 1 : Nat) : Int)) ((n : Int) - ((i + 1 : Nat) : Int)) 1 := by
      rw [show lo + ((i + 1 : Nat) : Int) = lo + (i : Int) + 1 by omega, show (n : Int) - ((i + 1 : Nat) : Int) = (n : Int) - (i : Int) - 1 by omega]
      exact nxt
    refine ⟨_, rfl, go_of (n := "range_iterator") nxt rfl rfl (by decide) ⟨.int (lo + i), H, J1, ⟨_, rfl⟩, ⟨rfl, rfl⟩, nx2, fun b hb => (hf b hb).1⟩⟩
  over := by
    intro X p e1 e2 e3 hp i pins s σ H E I hf st le
    subst e1 e2 e3
    have le : n ≤ i := le
    obtain ⟨f0, f1, f2, f3, f4, f5⟩ := hf it (List.mem_singleton.mpr rfl)
    exact HotX.pyNext_range_end_hot (hp.hot I) st (by omega) fun h' k => ⟨rfl, I.kept (t' := s.toks) k⟩
  iter := fun _ _ _ _ _ st q => wpAny_pyIter_rangeiter st q
/-- range(..) walked there -/
def PIEH (X : Cx) (pins : List (Addr × Obj)) (σ : L2.St) (tg : Expr) (R : It → Hp → Prop) (v : Value) (s : Shared) : Prop :=
  ∃ (it : Addr) (fp : List Addr) (tn : Nat → Heap → Prop) (J : It) (H' : Hp), v = .ref it ∧ Inv X pins σ H' s ∧ TurnH X.prog X.w X.K tg J fp it tn ∧ tn 0 s.heap ∧ (∀ b ∈ fp, FpOk X pins H' b) ∧ R J H'
structure PIH (X : Cx) (tg iter : Expr) (wi : TI) : Prop where
  run : ∀ (pins : List (Addr × Obj)) (s : Shared) (σ : L2.St) (H : Hp) (R : It → Hp → Prop), Inv X pins σ H s → wi σ H R →
    wpAny (model X.prog X.w) X.A (eval iter X.env) (fun v s1 => wpAny (model X.prog X.w) X.A (pyIter v) (PIEH X pins σ tg R) X.xe s1) X.xe s
theorem rangeH {X : Cx} {tg : Expr} {pins : List (Addr × Obj)} {σ : L2.St} {H : Hp} {s : Shared} {R : It → Hp → Prop} {E : Value → Shared → Prop} {lo hi : Int} {t u v : Tok} {tk : Nat} (I : Inv X pins σ H s)
    (b1 : -(2 ^ 62) ≤ lo ∧ lo < 2 ^ 62) (b2 : -(2 ^ 62) ≤ hi ∧ hi < 2 ^ 62) (q : R (Itr lo (hi - lo).toNat) H) :
    wpAny (model X.prog X.w) X.A (pyIter (.ref s.heap.objs.size)) (PIEH X pins σ tg R) E { s with heap := s.heap.push { cls := .type "range", data := .fields #[.int lo t, .int hi u, .int 1 v] }, toks := tk } := by
  refine wpAny_pyIter_range (IsRange.new ..) (small_one b1.1 b1.2 b2.1 b2.2) ?_
  obtain ⟨h1, e1⟩ : ∃ h1, h1 = s.heap.push { cls := .type "range", data := .fields #[.int lo t, .int hi u, .int 1 v] } := ⟨_, rfl⟩
  rw [← e1]
  have J1 : Inv X pins σ H { s with heap := h1, toks := tk } := I.kept fun b o e => by rw [e1]; exact Heap.get?_push_of_some _ e
  have J2 := J1.kept (h' := h1.push { cls := .type "range_iterator", data := .fields #[rawInt lo, rawInt (Builtin.Range.rangeSize lo hi 1), rawInt 1] }) (t' := tk) fun b o e => Heap.get?_push_of_some _ e
  refine ⟨h1.objs.size, [h1.objs.size], _, _, H, rfl, J2, turnH_range _ lo (hi - lo).toNat, ?_, fun b hb => ?_, q⟩
  · have z : (((hi - lo).toNat : Nat) : Int) - ((0 : Nat) : Int) = Builtin.Range.rangeSize lo hi 1 := by
      rw [rangeSize_one]
      split <;> omega
    show IsRangeIter _ _ (lo + ((0 : Nat) : Int)) ((((hi - lo).toNat : Nat) : Int) - ((0 : Nat) : Int)) 1
    rw [z, show lo + ((0 : Nat) : Int) = lo by simp]
    exact Heap.get?_push_size _ rfl
  · obtain rfl : b = h1.objs.size := List.mem_singleton.mp hb
    exact J1.fpOk (Nat.le_refl _) (J1.hok.fresh (Nat.le_refl _))
theorem piH_range1 {X : Cx} {tg a : Expr} {ta : TA} {p pos : Pos} (hg : Gl X "range") (hm : X.mg "range" = none) (ha : PA X [a] ta) (hs : starEach [a] X.env = [(false, eval a X.env)] := by rfl) : PIH X tg (.Call (.Name "range" p) [a] [] pos) (iRng1 ta) := by
  constructor
  intro pins s σ H R I want
  refine Call_ (ld_blt I hg hm boot_range (PyProof.Rows.callWith_type1 (thn (ha.run pos pins s σ H _ I want) fun us s1 hh => ?_) hs rfl))
  obtain ⟨vs, H1, I1, r1, j, rfl, b1, b2, q⟩ := hh
  cases r1 with
  | cons r rr =>
  cases rr
  obtain ⟨t, rfl⟩ := r
  exact call_range_1 (rangeH I1 ⟨by omega, by omega⟩ ⟨b1, b2⟩ (by simpa using q))
theorem turnsH {X : Cx} {s s' : Shared} {H H' : Hp} {scope : Scope} {ce : Env} {fp : List Addr} {τ : L2.St} (J : Inv (X.blk s H scope ce fp) [] τ H' s') (n : ∀ b ∈ fp, H' b = none) : ∀ b ∈ fp, FpOk (X.blk s H scope ce fp) [] H' b := CqN.turns_in J n
/-- [elt for target in range(..) if ..] there -/
theorem pe_lcH {X : Cx} {p : Addr × Obj} {elt tg iter : Expr} {ifs : List Expr} {scope : Scope} {own : List (Str × Nat)} {pos : Pos} {wi : TI} {g : TG} {tt : TT} {te : TE}
    (hp : Held X p) (mp : p ∈ X.pn) (hN : X.N.Nodup) (hi : PIH X tg iter wi) (ok : BlkOk X.N X.env.scope scope own)
    (hg : ∀ s H C cl fp, PG (X.blk s H scope (compEnvC scope cl C X.env) fp) tg g)
    (ht : ∀ s H C cl fp, Held (X.blk s H scope (compEnvC scope cl C X.env) fp) p → PTs (X.blk s H scope (compEnvC scope cl C X.env) fp) ifs tt)
    (he : ∀ s H C cl fp, Held (X.blk s H scope (compEnvC scope cl C X.env) fp) p → PE (X.blk s H scope (compEnvC scope cl C X.env) fp) elt te)
    (hs : ∀ x, foldedSetIterable iter X.env x = pure x := by intro _; rfl) : PE X (.ListComp elt [⟨tg, iter, ifs, 0⟩] scope pos) (tLc wi g tt te (own.map (·.2))) := by
  refine ⟨fun pins s σ H Q I want => ?_⟩
  rw [eval_ListComp]
  have free : ∀ y ∈ scope.names, y.2 = .free → ∃ c, X.env.cells.lookup y.1 = some c := by
    intro y hy e
    exact (ok.free y hy e).elim (fun k => I.ok.has _ (.inl k)) fun k => I.ok.has _ (.inr k)
  refine wpAny_comprehension_free (use := none) rfl hs (closure_ok free) ok.kind (fun y hy e => (ok.uniq y hy).trans (by rw [e])) ?_
  refine thn (hi.run pins s σ H _ I want) fun xv sa hx => thn hx fun itv sb hy => ?_
  obtain ⟨it, fp, tn, J, H2, rfl, I2, T, begun, own2, q⟩ := hy
  refine wpAny_newObj_type (newEnv_comp ?_) (Nat.zero_le _)
  obtain ⟨D, hD⟩ : ∃ D, D = sb.heap.objs.size := ⟨_, rfl⟩
  have nD : H2 D = none := I2.hok.fresh (by rw [hD]; exact Nat.le_refl _)
  obtain ⟨W, ⟨m0, w0⟩, turn⟩ := q D nD
  rw [← hD]
  have atD : (sb.heap.push { cls := .type "list", data := .seq ([] : List Value).toArray }).get? D = some { cls := .type "list", data := .seq ([] : List Value).toArray } := by
    rw [hD]
    exact Heap.get?_push_size _ rfl
  obtain ⟨sc, hsc⟩ : ∃ sc : Shared, sc = { sb with heap := sb.heap.push { cls := .type "list", data := .seq ([] : List Value).toArray } } := ⟨_, rfl⟩
  have more : ∀ b o, sb.heap.get? b = some o → sc.heap.get? b = some o := fun b o e => by
    rw [hsc]
    exact Heap.get?_push_of_some _ e
  have Ic : Inv X pins σ (upd H2 D (.lst [])) sc := by
    have := I2.laid (a := D) (o := .lst []) (t' := sb.toks) (h' := sc.heap) more (by rw [hD]; exact Nat.le_refl _) ⟨Nat.zero_le _, [], 0, .nil, by rw [hsc]; exact atD⟩
    rw [hsc] at this ⊢
    exact this
  have under : ∀ b ∈ fp, b < sb.heap.objs.size := fun b hbf => by
    obtain ⟨o, e, _⟩ := T.obj _ _ begun b hbf
    exact Heap.lt_size e
  have sz : sc.heap.objs.size = sb.heap.objs.size + 1 := by rw [hsc]; exact Heap.size_push ..
  have fine : ∀ b ∈ fp, FpOk X pins (upd H2 D (.lst [])) b ∧ b < sc.heap.objs.size := fun b hbf => by
    have lt := under b hbf
    have z := own2 b hbf
    refine ⟨⟨?_, z.2⟩, by rw [sz]; exact Nat.lt_succ_of_lt lt⟩
    rw [upd_ne (by rw [hD]; exact Nat.ne_of_lt lt)]
    exact z.1
  have begun3 : tn 0 sc.heap := T.keep _ _ _ begun fun b _ o e => more b o e
  have I4 := block_start Ic ok hN fine
  obtain ⟨cl, hcl⟩ : ∃ cl, cl = cellsFrom (sc.heap.objs.size + 1) scope.names (cloFrom X.env.cells scope.names []) := ⟨_, rfl⟩
  obtain ⟨C, hC⟩ : ∃ C, C = sc.heap.objs.size := ⟨_, rfl⟩
  obtain ⟨ce, hce⟩ : ∃ ce, ce = compEnvC scope cl C X.env := ⟨_, rfl⟩
  obtain ⟨H3, hH3⟩ : ∃ H3, H3 = upd H2 D (.lst []) := ⟨_, rfl⟩
  rw [← hH3] at Ic w0 fine I4
  have inX : CqN.In X sc H3 scope (compEnvC scope cl C X.env) fp := ⟨⟨pins, σ, Ic, fun b hbf => (fine b hbf).1⟩, hC, rfl⟩
  have hb := held_blk hp inX mp
  have pg := hg sc H3 C cl fp
  have pt := ht sc H3 C cl fp hb
  have pe := he sc H3 C cl fp hb
  rw [← hcl, ← hC, ← hce] at I4
  rw [← hce] at pg pt pe hb
  have cL : ce.locals = C := by rw [hce]; rfl
  obtain ⟨sd, hsd⟩ : ∃ sd : Shared, sd = { sc with heap := pushCells (sc.heap.push { cls := .type "dict", data := .dict #[] }) scope.names } := ⟨_, rfl⟩
  rw [← hsd] at I4
  have begun4 : tn 0 sd.heap := T.keep _ _ _ begun3 fun b _ o e => by
    rw [hsd]
    exact pushCells_keeps _ _ _ _ (Heap.get?_push_of_some _ e)
  have nfp : ∀ b ∈ fp, H3 b = none := fun b hbf => (fine b hbf).1.1
  have goal : codeAny (model X.prog X.w) X.A (.compStart (.ListComp elt [⟨tg, iter, ifs, 0⟩] scope pos) 0 (.ref it) (.ref D) ce)
      (compPost (model X.prog X.w) X.A X.xe none (EP X pins σ Q) (.ref D) C) sd := by
    have loop : codeAny (model X.prog X.w) X.A (.compLoop (.ListComp elt [⟨tg, iter, ifs, 0⟩] scope pos) 0 (.ref it) (.ref D) ce)
        (compPost (model X.prog X.w) X.A X.xe none (EP X pins σ Q) (.ref D) C) sd := by
      refine compLoop_any (fun n s' => ∃ i H', Inv (X.blk sc H3 scope ce fp) [] (wipe σ (own.map (·.2))) H' s' ∧ tn i s'.heap ∧ (∀ b ∈ fp, H' b = none) ∧ W i n H') ?_ m0 ⟨0, H3, I4, begun4, nfp, w0⟩
      rintro n s5 ⟨i, H5, I5, at5, n5, w5⟩
      rcases turn i n H5 w5 with ⟨stop, fin⟩ | ⟨go, Nx, hNx, step⟩
      · have ends := T.over (X.blk sc H3 scope ce fp) p rfl rfl rfl hb i [] s5 _ H5 (fun _ _ => False) I5 (turnsH I5 n5) at5 stop
        refine thnF ends fun r s6 ⟨er, I6⟩ => ?_
        subst er
        have I7 : Inv X pins σ H5 s6 := Ic.call' (ch := fp) I6.os I6.base I6.hok I6.bare fun b hbf => by
          obtain ⟨z1, z2, z3, z4, z5, z6⟩ := (fine b hbf).1
          exact ⟨z4, z2, z5, z6⟩
        obtain ⟨m, hn, _⟩ := I6.loc
        have hn : s6.heap.Ns ce.locals m := hn
        have nC : H5 ce.locals = none := I6.free
        rw [cL] at hn nC
        refine ⟨m, hn, fun h'' sb'' => ?_⟩
        obtain ⟨f0, f1, f2, f3, f4, f5⟩ := Ic.fpOk (b := C) (by rw [hC]; exact Nat.le_refl _) nC
        exact ⟨.ref D, H5, I7.turned (t' := s6.toks) (fun b o ne e => (sb''.2 b ne).trans e) f0 f1 f3 f4 f5, rfl, fin⟩
      · have draw := T.item (X.blk sc H3 scope ce fp) p rfl rfl rfl hb i [] s5 _ H5 (fun _ _ => False) I5 (turnsH I5 n5) at5 go
        refine thnF draw fun r s6 ⟨u, er, h6⟩ => ?_
        subst er
        refine thnF h6 fun _ s7 ⟨x, H7, I7, r7, y7, at7, n7⟩ => ?_
        have I7p := I7.pinned (turnsH I7 n7) (T.obj _ _ at7)
        refine thnF (pg.run _ s7 _ H7 x u _ I7p r7 (step x H7 y7)) fun _ s8 ⟨σ8, H8, I8, hw8, q8⟩ => ?_
        refine thnF (pt.run _ s8 σ8 H8 _ I8 q8) fun b s9 ⟨H9, I9, q9⟩ => ?_
        have again : ∀ {s' : Shared} {H' : Hp}, Inv (X.blk sc H3 scope ce fp) ([] ++ pinsAt fp s7.heap) σ8 H' s' → Nx H' →
            ∃ m, m < n ∧ ∃ i H', Inv (X.blk sc H3 scope ce fp) [] (wipe σ (own.map (·.2))) H' s' ∧ tn i s'.heap ∧ (∀ b ∈ fp, H' b = none) ∧ W i m H' := by
          intro s' H' K nx
          obtain ⟨m', lt, w'⟩ := hNx H' nx
          have pinned : ∀ b ∈ fp, ∀ o, s7.heap.get? b = some o → s'.heap.get? b = some o ∧ H' b = none := by
            intro b hbf o e
            have z := K.pin (b, o) (List.mem_append_right _ (List.mem_append_right _ (mem_pinsAt hbf e)))
            exact ⟨z.1, z.2.1⟩
          have len : (wipe σ (own.map (·.2))).length = σ8.length := by
            rw [← hw8, wipe_length]
          refine ⟨m', lt, i + 1, H', (K.unpinned (pins := [])).weak len (fun j v e => (wipe_some (hw8 ▸ e)).1), T.keep _ _ _ at7 (fun b hbf o e => (pinned b hbf o e).1), fun b hbf => ?_, w'⟩
          obtain ⟨o, e, _⟩ := T.obj _ _ at7 b hbf
          exact (pinned b hbf o e).2
        cases b with
        | false =>
          simp only [Bool.false_eq_true, if_false] at q9 ⊢
          exact again I9 q9
        | true =>
          simp only [if_true] at q9 ⊢
          refine thnF (pe.run _ s9 σ8 H9 _ I9 q9) fun z sz ⟨yv, H10, I10, r10, acc, atD10, lt10, nx⟩ => ?_
          exact app_ok (X := X.blk sc H3 scope ce fp) I10 atD10 lt10 r10 fun s11 I11 => again I11 nx
    exact codeAny_compStart_list loop (T.iter X.A 0 _ _ _ begun4 loop)
  rw [hsc] at hcl hC hsd
  rw [hce, hcl, hC, hsd] at goal
  exact goal
end Hq
end
section
/-! a def that is called in an except suite and is told the exception -/
namespace Hq
open PySem PySem.Spec PyProof.Rows L2 L2H
structure FnK (P : Program) (w : World) (K : PySem.W.Frag) (mg : Str → Option Value) (base : Heap) (k : Nat) (f : Addr) (fd : FuncData) (ps : List Str) (sp : Addr × Obj → Sp) : Prop where
  len : ∀ p vs H Q E, sp p vs H Q E → vs.length = ps.length
  run : ∀ (A : Around) (outer : List Env) (s : Shared) (H : Hp) (args : Args) (us : List Value) (vs : List V) (Q : VK) (p : Addr × Obj), RoomH k A → Hot1 A p → PinOk outer H s p →
    Env0 P w K mg base A outer s H → BindsTo s fd args (ps.zip us) → Vals vs us → sp p vs H Q E0 → codeAny (model P w) A (.call (.ref f) args) (CR CX0 outer P w H s Q E0) s
structure PrK (P : Program) (w : World) (K : PySem.W.Frag) (mg : Str → Option Value) (base : Heap) (k : Nat) (x : Str) (ps : List Str) (sp : Addr × Obj → Sp) : Prop where
  ex : ∃ f fd, mg x = some (.ref f) ∧ PySem.W.keepIn K (.ref f) = true ∧ Binds K fd ps [] ∧ FnK P w K mg base k f fd ps sp
section
variable {P : Program} {w : World} {K : PySem.W.Frag} {mg : Str → Option Value} {base : Heap}
theorem prK {x : Str} {st : Stmt} {N ps : List Str} {k : Nat} {sp : Addr × Obj → Sp} (D : Tl.Dn K mg x st ps) (S : FnScope N ps (defScope st)) (len : ∀ p vs H Q E, sp p vs H Q E → vs.length = ps.length)
    (hbody : ∀ (f : Addr) (cdv : Value) (A : Around) (outer : List Env) (s : Shared) (H : Hp) (vs : List V) (Q : VK) (p : Addr × Obj), Hot1 A p → PinOk outer H s p → RoomH k (A.deeper (envOfC x (defScope st) s.heap.objs.size f cdv)) → sp p vs H Q E0 →
      ∃ t, PSs (cxH CX0 P w K mg base N x (defScope st) f cdv A outer s H E0 p) (defBody st) t ∧ t { nx := fun _ H' => Q .non H', rt := Q } (L2.start N vs) H) : PrK P w K mg base (k + 1) x ps sp := by
  obtain ⟨f, fd, hm, F, b⟩ := D.ex
  have kp := F.kp
  obtain ⟨oc, od, kV, doc, pm, an, cdv, ct, osl, rfl, lk, hcd⟩ := F.ex
  refine ⟨f, _, hm, kp, b, len, ?_⟩
  intro A outer s H args us vs Q p hr hot pin e0 hb r want
  have keepB : ∀ b o, base.get? b = some o → s.heap.get? b = some o := fun b o e => (e0.bs b o e).1
  have KX := e0.mod.kin.keeps keepB
  have lim := e0.mod.nolimit.keeps keepB
  have kinds : ∀ y ∈ ps.zip us, (defScope st).names.lookup y.1 = some .local ∨
      ((defScope st).names.lookup y.1 = some .cell ∧ ((cellsFrom (s.heap.objs.size + 1) (defScope st).names []).lookup y.1).isSome = true) := by
    rintro ⟨n, v⟩ hy
    exact (S.par n (List.of_mem_zip hy).1).imp id fun q => ⟨q, PySem.W.cellsFrom_some _ _ _ (.inl q)⟩
  refine codeAny_call_function hr.depth (KX _ _ lk) rfl S.co S.gen rfl (PySem.W.codeRec_of KX hcd) (hb _ _ _ _ (wpAny_newFunctionEnv_cells S.kind kinds ?_))
  intro env he s1 inc
  subst he
  refine ⟨lim.keeps inc.toInCall.keep, codeAny_func ?_⟩
  obtain ⟨t, ht, hq⟩ := hbody f cdv A outer s H vs Q p hot pin (hr.deeper _) want
  have I := inv_startH (CX := CX0) (E := E0) S pin e0 (len _ _ _ _ _ want) r inc
  refine wpAny_mono (ht.run [] s1 _ H _ I hq) (fun fl s' hs => ?_) fun e s' hs => hs
  cases fl with
  | ret u =>
    obtain ⟨v, σ', H', J, rv, q⟩ := hs
    exact ⟨v, H', J.os, J.bare, J.base, J.hok, rv, q⟩
  | next =>
    obtain ⟨σ', H', J, q⟩ := hs
    exact ⟨.non, H', J.os, J.bare, J.base, J.hok, rfl, q⟩
  | brk =>
    obtain ⟨_, _, _, bad⟩ := hs
    exact False.elim bad
  | cont =>
    obtain ⟨_, _, _, bad⟩ := hs
    exact False.elim bad
end
section
variable {X : Cx} {k : Nat} {x : Str} {ps : List Str} {sp : Addr × Obj → Sp} {q pos : Pos} {e : Expr} {es : List Expr} {t : TA} {p : Addr × Obj}
theorem pe_kG {R : List V → Hp → VK → Prop} (hR : ∀ vs H Q, R vs H Q → sp p (vs ++ []) H Q E0) (c : PrK X.prog X.w X.K X.mg X.base k x ps sp) (hr : RoomH k X.A) (hot : Hot1 X.A p) (hp : p ∈ X.pn) (hg : Gl X x) (ha : PA X (e :: es) t)
    (hdb : (x == ("__debug__" : Str)) = false := by decide) (he : starEach (e :: es) X.env = (false, eval e X.env) :: starEach es X.env := by rfl) (hpl : (backTo pos (starEach es X.env)).any (·.1) = false := by rfl) :
    PE X (.Call (.Name x q) (e :: es) [] pos) (fun σ H Q => t σ H fun vs H1 => R vs H1 Q) := by
  obtain ⟨f, fd, hm, kp, hb, F⟩ := c.ex
  refine ⟨fun pins s σ H Q I want => ?_⟩
  refine wpAny_Call_Name_kw (ld_glob I hg hm (PySem.W.callWith_K (h₀ := X.base) I.ok.mod.kin kp (thn (ha.run pos pins s σ H _ I want) fun us s1 hh => ?_) he hpl) hdb)
  obtain ⟨vs, H1, I1, r, w1⟩ := hh
  refine ⟨I1.kIn, ?_⟩
  replace w1 := hR _ _ _ w1
  rw [List.append_nil] at w1
  have hl : us.length = ps.length := r.length ▸ F.len _ _ _ _ _ w1
  have b := hb s1 us I1.kIn (by rw [List.append_nil]; exact hl)
  rw [List.append_nil] at b
  obtain ⟨z1, z2, z3, z4, z5⟩ := I1.pin p (List.mem_append_left _ hp)
  have pin : PinOk X.stack H1 s1 p := by
    refine ⟨z1, z2, fun hm => ?_, z5⟩
    rcases List.mem_cons.mp (I1.stkSub p.1 hm) with z | z
    · exact z3 z
    · exact z4 z
  refine wpAny_call (codeAny_mono (F.run X.A X.stack s1 H1 ⟨us, []⟩ us vs Q p hr hot pin I1.env0 b r w1) fun r s' hq => ?_)
  cases r with
  | error e => exact hq.elim
  | ok fl =>
    cases fl with
    | ret u => exact I1.after hq
    | next => exact hq.elim
    | brk => exact hq.elim
    | cont => exact hq.elim
theorem pe_kZ {a : Addr} {oe : Obj} {cls : Value} {d : Option Addr} (hz : L2N.Zn cls d oe) (c : PrK X.prog X.w X.K X.mg X.base k x ps sp) (hr : RoomH k X.A) (hot : Hot1 X.A (a, oe)) (hp : (a, oe) ∈ X.pn) (hg : Gl X x) (ha : PA X (e :: es) t)
    (hdb : (x == ("__debug__" : Str)) = false := by decide) (he : starEach (e :: es) X.env = (false, eval e X.env) :: starEach es X.env := by rfl) (hpl : (backTo pos (starEach es X.env)).any (·.1) = false := by rfl) :
    PE X (.Call (.Name x q) (e :: es) [] pos) (fun σ H Q => t σ H fun vs H1 => ∀ oe, Zc cls d oe → sp (a, oe) (vs ++ []) H1 Q E0) :=
  pe_kG (p := (a, oe)) (fun vs H Q z => z oe hz.zc) c hr hot hp hg ha hdb he hpl
end
end Hq
end
section
namespace Tl
open PySem PySem.Spec PyProof.Rows L2
section
variable {X : Cx} {k j : Nat} {x : Str} {ps : List Str} {sp : Sp} {p pos : Pos} {e : Expr} {es : List Expr} {t : TA} {CX : CXT} {E : L2.St → XK}
theorem pe_kS (c : Pr X.prog X.w X.K X.mg X.base CX k x ps sp) (hr : Room j X.A) (hk : k ≤ j) (hx : ∀ σ, PassesAt CX X σ (E σ)) (hg : Gl X x) (ha : PA X (e :: es) t)
    (hdb : (x == ("__debug__" : Str)) = false := by decide) (he : starEach (e :: es) X.env = (false, eval e X.env) :: starEach es X.env := by rfl) (hpl : (backTo pos (starEach es X.env)).any (·.1) = false := by rfl) :
    PE X (.Call (.Name x p) (e :: es) [] pos) (tCallS sp E t) := by
  obtain ⟨f, fd, hm, kp, b, F⟩ := c.ex
  exact pe_callS F (hr.mono hk) hg hm kp b hx ha hdb he hpl
end
theorem pe_gref {X : Cx} {x : Str} {D : Addr} {pos : Pos} (hg : Gl X x) (hm : X.mg x = some (.ref D)) (hd : (x == ("__debug__" : Str)) = false := by decide) : PE X (.Name x pos) (tC (.ref D)) := pe_glob (v := .ref D) hg hm rfl hd
theorem takesN0 {X : Cx} : L2N.Takes X (fun _ _ _ _ => False) := by
  rintro _ _ ⟨_, _, _, _, _, _, _, _, _, _, _, _, _, _, _, _, z⟩
  exact z.elim
/-- isinstance(e, c) in the suite, whatever its class -/
theorem call_isS {X : Cx} {a : Addr} {oe : Obj} {pn : List (Addr × Obj)} {cls : Value} {d : Option Addr} (hz : L2N.Zn cls d oe) (hf : ∃ vs, oe.data = .fields vs) :
    CallR (X.suite a ((a, oe) :: pn)) (.builtin "isinstance") (fun xs H Q => ∃ D, cls = .ref D ∧ d = none ∧ ExcC X.K D ∧ rIsE X.K D a xs H Q) := by
  intro pins s σ H xs us Q I r want
  obtain ⟨D, rfl, rfl, C, w2⟩ := want
  exact call_isE C hz.zc hf pins s σ H xs us Q I r w2
end Tl
namespace K02
open PySem PySem.Spec PyProof.Rows L2 Tl Mx SX
/-- the error classes, seen from Unreadable's -/
structure Errs (K : PySem.W.Frag) (mg : Str → Option Value) (C B : Addr) : Prop where
  u : ErrC K mg "Unreadable" C
  ex : ExcC K C
  u1 : PySem.W.kitOne K (.ref C) (.ref C) = some true
  c2 : ∃ D, mg "InvalidCommand" = some (.ref D) ∧ PySem.W.kitOne K (.ref C) (.ref D) = some false
  c3 : ∃ D, mg "BatchFull" = some (.ref D) ∧ PySem.W.kitOne K (.ref C) (.ref D) = some false
  c4 : ∃ D, mg "TooManyBatches" = some (.ref D) ∧ PySem.W.kitOne K (.ref C) (.ref D) = some false
  c5 : ∃ D, mg "NotClosed" = some (.ref D) ∧ PySem.W.kitOne K (.ref C) (.ref D) = some false
  c6 : ∃ D, mg "NoSuchBatch" = some (.ref D) ∧ PySem.W.kitOne K (.ref C) (.ref D) = some false
  b : mg "EndError" = some (.ref B)
  b1 : PySem.W.kitOne K (.ref C) (.ref B) = some true
  bm : PySem.W.exmOne K (.ref C) (.ref B) = some true
  ve : PySem.W.kitOne K (.ref C) (.type "ValueError") = some true
def sp_kinds (C : Addr) : Addr × Obj → Sp := fun p vs H Q _ => vs = [.ref p.1] ∧ Zc (.ref C) none p.2 ∧ ∀ H' D, Same H H' → H D = none → H' D = some (.lst [.str "unreadable"]) → Q (.ref D) H'
section
variable {P : Program} {w : World} {K : PySem.W.Frag} {mg : Str → Option Value} {base : Heap} {C B : Addr}
theorem ref_only {D : Addr} : ∀ u, RelV (.ref D) u → u = .ref D := fun u h => h
theorem ok_law_kinds (T : Txt K mg) (R : Errs K mg C B) : Hq.PrK P w K mg base 1 "_law_kinds" ["e"] (sp_kinds C) := by
  refine Hq.prK T.d_law_kinds sc_law_kinds (fun p vs H Q E h => ?_) (fun f cdv A outer s H vs Q p hot pin hr h => ?_)
  · obtain ⟨rfl, _⟩ := h; rfl
  · obtain ⟨rfl, hz, q⟩ := h
    have hh := Hq.held_def (CX := CX0) (P := P) (w := w) (K := K) (mg := mg) (base := base) (N := ["e", "kinds", "names", "k"]) (qual := "_law_kinds") (scope := defScope s_law_kinds) (f := f) (cd := cdv) (E := E0) hot pin
    obtain ⟨D2, g2, k2⟩ := R.c2
    obtain ⟨D3, g3, k3⟩ := R.c3
    obtain ⟨D4, g4, k4⟩ := R.c4
    obtain ⟨D5, g5, k5⟩ := R.c5
    obtain ⟨D6, g6, k6⟩ := R.c6
    refine ⟨_, pss_cons (ps_set (i := 1) sc_law_kinds.nd rfl (.inr rfl) (pe_lst (pa_cons (pe_callB (Hq.call_isH hh R.ex hz) (by rfl) T.n_isinstance boot_isinstance (pa_cons (pv 0) (pa_cons (pe_gref (by rfl) R.u.g) pa_nil))) (pa_cons (pe_callB (Hq.call_isH hh R.ex hz) (by rfl) T.n_isinstance boot_isinstance (pa_cons (pv 0) (pa_cons (pe_gref (by rfl) g2) pa_nil))) (pa_cons (pe_callB (Hq.call_isH hh R.ex hz) (by rfl) T.n_isinstance boot_isinstance (pa_cons (pv 0) (pa_cons (pe_gref (by rfl) g3) pa_nil))) pa_nil)))))
      (pss_cons (ps_set (i := 1) sc_law_kinds.nd rfl (.inr rfl) (pe_op op_cat (pv 1) (pe_lst (pa_cons (pe_callB (Hq.call_isH hh R.ex hz) (by rfl) T.n_isinstance boot_isinstance (pa_cons (pv 0) (pa_cons (pe_gref (by rfl) g4) pa_nil))) (pa_cons (pe_callB (Hq.call_isH hh R.ex hz) (by rfl) T.n_isinstance boot_isinstance (pa_cons (pv 0) (pa_cons (pe_gref (by rfl) g5) pa_nil))) (pa_cons (pe_callB (Hq.call_isH hh R.ex hz) (by rfl) T.n_isinstance boot_isinstance (pa_cons (pv 0) (pa_cons (pe_gref (by rfl) g6) pa_nil))) pa_nil))))))
      (pss_cons (ps_set (i := 2) sc_law_kinds.nd rfl (.inr rfl) (pe_lst (pa_cons pe_str (pa_cons pe_str (pa_cons pe_str (pa_cons pe_str (pa_cons pe_str (pa_cons pe_str pa_nil))))))))
      (pss_one (ps_ret (Hq.pe_lcH (own := [("k", 3)]) (g := gName 3) (tt := tAnd (tB (tOp (rIxL K) (tVar 1) (tVar 3))) (tB (tCB (rIsE K C p.1) (tCons (tVar 0) (tCons (tC (.ref B)) tNil))))) (te := tOp (rIxL K) (tVar 2) (tVar 3)) hh (List.mem_singleton.mpr rfl) sc_law_kinds.nd (Hq.piH_range1 (by rfl) T.n_range (pa_cons pe_int pa_nil)) (blkOk_by (N := ["e", "kinds", "names", "k"]) (sc := defScope s_law_kinds) (by decide +kernel))
        (fun _ _ _ _ _ => pg_name (i := 3) sc_law_kinds.nd rfl (.inl rfl)) (fun _ _ _ _ _ hb => pts_one (PW.pt (pw_and (pt_val (pe_ix ix_list (pv 1) (pv 3) (fun _ _ => rfl))) (pw_and1 (pt_val (pe_callB (Hq.call_isH hb R.ex hz) (by rfl) T.n_isinstance boot_isinstance (pa_cons (pv 0) (pa_cons (pe_gref (by rfl) R.b) pa_nil))))))))
        (fun _ _ _ _ _ _ => pe_ix ix_list (pv 2) (pv 3) (fun _ _ => rfl))))))), ?_⟩
    refine ⟨_, rfl, _, _, _, rfl, ref_only, R.u1, _, rfl, _, _, _, rfl, ref_only, k2, _, rfl, _, _, _, rfl, ref_only, k3, (by show 3 ≤ sizeLine; decide), fun p1 n1 => ?_⟩
    have s1 := same_upd (o := HO.lst [.bl true, .bl false, .bl false]) n1
    refine ⟨_, rfl, _, rfl, _, _, _, rfl, ref_only, k4, _, rfl, _, _, _, rfl, ref_only, k5, _, rfl, _, _, _, rfl, ref_only, k6, (by show 3 ≤ sizeLine; decide), fun p2 n2 => ?_⟩
    have s2 := same_upd (o := HO.lst [.bl false, .bl false, .bl false]) n2
    refine ⟨p1, p2, _, _, rfl, rfl, s2 _ _ upd_same, upd_same, (by show 6 ≤ sizeLine; decide), fun p3 n3 => ?_⟩
    have s3 := same_upd (o := HO.lst [.bl true, .bl false, .bl false, .bl false, .bl false, .bl false]) n3
    refine ⟨(by show 6 ≤ sizeLine; decide), fun p4 n4 => ?_⟩
    have s4 := same_upd (o := HO.lst [.str "unreadable", .str "invalid", .str "full", .str "batches", .str "closed", .str "none"]) n4
    have at3 := s4 _ _ (upd_same (a := p3))
    have at4 := upd_same (a := p4) (o := HO.lst [.str "unreadable", .str "invalid", .str "full", .str "batches", .str "closed", .str "none"]) (H := upd (upd (upd H p1 (.lst [.bl true, .bl false, .bl false])) p2 (.lst [.bl false, .bl false, .bl false])) p3 (.lst ([.bl true, .bl false, .bl false] ++ [.bl false, .bl false, .bl false])))
    have s04 := s1.trans (s2.trans (s3.trans s4))
    change gName 2 _ _ (upd (upd (upd (upd H p1 (.lst [.bl true, .bl false, .bl false])) p2 (.lst [.bl false, .bl false, .bl false])) p3 (.lst ([.bl true, .bl false, .bl false] ++ [.bl false, .bl false, .bl false]))) p4 (.lst [.str "unreadable", .str "invalid", .str "full", .str "batches", .str "closed", .str "none"])) _
    generalize (upd (upd (upd (upd H p1 (.lst [.bl true, .bl false, .bl false])) p2 (.lst [.bl false, .bl false, .bl false])) p3 (.lst ([.bl true, .bl false, .bl false] ++ [.bl false, .bl false, .bl false]))) p4 (.lst [.str "unreadable", .str "invalid", .str "full", .str "batches", .str "closed", .str "none"])) = H4 at at3 at4 s04 ⊢
    refine ⟨6, rfl, by decide, by decide, lc_acc (n := 6) walk_range (fun i => if i = 0 then [] else [V.str "unreadable"]) rfl (fun i hi => ?_) (fun _ _ => trivial) ?_ ?_⟩
    · split <;> (rw [sizeLine_eq]; simp)
    · rintro i x H1 H' Rr Nn hi sm ⟨rfl, rfl⟩ kR kN
      have a3 := sm _ _ at3
      have a4 := sm _ _ at4
      have : i = 0 ∨ i = 1 ∨ i = 2 ∨ i = 3 ∨ i = 4 ∨ i = 5 := by omega
      rcases this with rfl | rfl | rfl | rfl | rfl | rfl
      · exact ⟨rfl, _, rfl, _, rfl, p3, _, _, .bl true, rfl, rfl, SqL.of a3, rfl, _, rfl, iteT ⟨_, rfl, _, _, _, rfl, ref_only, R.b1, _, rfl, iteT ⟨_, rfl, _, rfl, p4, _, _, .str "unreadable", rfl, rfl, SqL.of a4, rfl, kR _ _ (Same.refl _) rfl⟩⟩⟩
      all_goals exact ⟨rfl, _, rfl, _, rfl, p3, _, _, .bl false, rfl, rfl, SqL.of a3, rfl, _, rfl, iteF (kN _ (Same.refl _) rfl)⟩
    · intro H1 D sm nD eD
      exact q _ D (s04.trans sm) (s04.free nD) eD
def sp_told (C : Addr) : Sp := fun vs H Q _ => (∃ l : List Nat, vs = [.str (S l)] ∧ l.length ≤ 10000 ∧ (∀ (wd : Str) (ps : List Part), stmtM l = some (wd, ps) → ∀ H' D a xs, Same H H' → H' D = some (.lst [.str "parts", .ref a]) → H' a = some (.tup (.str wd :: xs)) → ArePs H' xs ps → xs.length ≤ 300 → Q (.ref D) H') ∧
    (stmtM l = none → ∀ H' D, Same H H' → H' D = some (.lst [.str "refused", .bl true]) → Q (.ref D) H')) ∨
  (∃ v, vs = [v] ∧ (v = .non ∨ (∃ n, v = .int n) ∨ ∃ b, v = .bl b) ∧ ∀ H' D, Same H H' → H' D = some (.lst [.str "refused", .bl true]) → Q (.ref D) H')
theorem ok_law_told (T : Txt K mg) (Tb : Tab K w mg) (R : Errs K mg C B) : Pr P w K mg base CX0 7 "_law_told" ["string"] (sp_told C) := by
  refine pr0 T.d_law_told sc_law_told (fun vs H Q E h => ?_) (fun f cdv A outer s H vs Q E hr h => ?_)
  · rcases h with ⟨l, rfl, _⟩ | ⟨v, rfl, _⟩ <;> rfl
  have Gp := ok_parse_statement (P := P) (w := w) (base := base) T Tb R.u
  have Gk := ok_law_kinds (P := P) (w := w) (base := base) T R
  refine ⟨_, pss_one (L2N.ps_try_as (i := 1) rfl rfl sc_law_told.nd rfl rfl ⟨by rfl, by decide, .inl R.b⟩ takesN0
    (fun W pn xe tk _ => pss_one (ps_ret (pe_lst (pa_cons pe_str (pa_cons (pe_kS Gp hr (by decide) (fun σ => L2N.passAt tk σ) (by rfl) (pa_cons (pv 0) pa_nil)) pa_nil)))))
    (fun a oe cls d pn hz hf =>
      have u64 : (A.deeper (envOfC "_law_told" (defScope s_law_told) s.heap.objs.size f cdv)).units + 64 < cLine := by have := hu65 hr; exact Nat.lt_of_succ_lt this
      have rk : L2H.RoomH 1 ((A.deeper (envOfC "_law_told" (defScope s_law_told) s.heap.objs.size f cdv)).mark (some (.ref a))) := ⟨(hr.mono (show 1 ≤ 6 by decide)).dp, (hr.mono (show 1 ≤ 6 by decide)).un⟩
      have hk : L2H.Hot1 ((A.deeper (envOfC "_law_told" (defScope s_law_told) s.heap.objs.size f cdv)).mark (some (.ref a))) (a, oe) := ⟨rfl, hf.elim fun vs e => ⟨vs, e, hz.2.2 vs e⟩⟩
      pss_one (ps_ret (pe_lst (pa_cons pe_str (pa_cons (pe_and (pe_callB (call_isS hz hf) (by rfl) T.n_isinstance boot_isinstance (pa_cons (pv 1) (pa_cons (pe_bltn (v := .ty "ValueError") (by rfl) T.n_ValueError (by decide +kernel) rfl) pa_nil)))
        (pe_one (pe_cmpR (show OpR _ _ (rEqD K) from op_eqD u64) (Hq.pe_kZ hz Gk rk hk (List.mem_cons_self ..) (by rfl) (pa_cons (pv 1) pa_nil)) (pe_lst (pa_cons pe_str pa_nil)) (nomark _)))) pa_nil)))))), ?_⟩
  -- what the handler hands back
  have caught : ∀ (v : V) (H1 : Hp) (a : Addr), Same H H1 → (∀ H' D, Same H H' → H' D = some (.lst [.str "refused", .bl true]) → Q (.ref D) H') → H1 a = none → tRet (tLst (tCons (tC (V.str "refused")) (tCons (tAndV (tCB (fun xs H Q => ∃ D, Value.ref C = Value.ref D ∧ (none : Option Addr) = none ∧ ExcC K D ∧ rIsE K D a xs H Q) (tCons (tVar 1) (tCons (tC (V.ty "ValueError")) tNil)))
      (tOp (rEqD K) (fun σ H Q => tCons (tVar 1) tNil σ H fun vs H1 => ∀ (oe : Obj), Zc (.ref C) none oe → sp_kinds C (a, oe) (vs ++ []) H1 Q E0) (tLst (tCons (tC (V.str "unreadable")) tNil)))) tNil)))
      { nx := fun σ' H' => Q V.non H', rt := Q } [some v, some (V.ref a)] H1 := by
    intro v H1 a sm q na
    refine ⟨_, rfl, C, rfl, rfl, R.ex, _, _, _, rfl, (fun u h => h), R.ve, _, rfl, iteT ?_⟩
    refine ⟨_, rfl, fun oe hz => ⟨rfl, hz, fun H2 D2 sm2 nD2 at2 => ?_⟩⟩
    refine ⟨(by show 1 ≤ sizeLine; decide), fun p3 n3 => ?_⟩
    have s3 := same_upd (o := HO.lst [.str "unreadable"]) n3
    refine ⟨.list [.str "unreadable"], .list [.str "unreadable"], .lst (SqL.of (s3 _ _ at2)) (.cons (.str _) .nil), .lst (SqL.of upd_same) (.cons (.str _) .nil), by decide +kernel, by decide +kernel, ?_⟩
    rw [show PyData.eqv (.list [.str "unreadable"]) (.list [.str "unreadable"]) = true by decide +kernel]
    refine ⟨(by show 2 ≤ sizeLine; decide), fun p4 n4 => q _ p4 ?_ upd_same⟩
    exact (sm.trans (sm2.trans s3)).trans (same_upd n4)
  rcases h with ⟨l, rfl, hl, q, e⟩ | ⟨v, rfl, hv, e⟩
  · refine ⟨_, rfl, .inl ⟨l, rfl, hl, fun wd ps est H1 a xs sm na at1 ar lx => ⟨(by show 2 ≤ sizeLine; decide), fun D nD => ?_⟩, fun en H1 sm => ⟨true, R.bm, fun _ a na => ?_, fun z => nomatch z⟩⟩⟩
    · have s2 := same_upd (o := HO.lst [.str "parts", .ref a]) nD
      exact q wd ps est _ D a xs (sm.trans s2) upd_same (s2 _ _ at1) (ar.same s2) lx
    · exact caught _ H1 a sm (e en) na
  · refine ⟨_, rfl, .inr ⟨v, rfl, hv, true, R.bm, fun _ a na => ?_, fun z => nomatch z⟩⟩
    exact caught _ H a (Same.refl _) e na
end
end K02
end
section
namespace Mx
open PySem PySem.Spec PyProof.Rows L2 SX
theorem eqv_Pp (p : Part) : PyData.eqv (dataP p) (dataP p) = true := by
  cases p with
  | name l => show PyData.eqv (.str (S l)) (.str (S l)) = true; simp [PyData.eqv]
  | num n => show PyData.eqv (.int n) (.int n) = true; simp [PyData.eqv]
  | text l => show PyData.eqv (.tuple [.str "text", .str (S l)]) (.tuple [.str "text", .str (S l)]) = true; simp [PyData.eqv, PyData.eqvAll]
  | par n => exact eqv_par n
theorem eqv_Pps : ∀ ps : List Part, PyData.eqvAll (ps.map dataP) (ps.map dataP) = true
  | [] => by rw [List.map_nil, PyData.eqvAll]
  | p :: ps => by rw [List.map_cons, PyData.eqvAll, eqv_Pp, eqv_Pps ps]; rfl
/-- ["parts", the parts] -/
def dataL (ps : List Part) : PyData := .list [.str "parts", .tuple (ps.map dataP)]
theorem eqv_L (ps : List Part) : PyData.eqv (dataL ps) (dataL ps) = true := by
  unfold dataL
  rw [PyData.eqv, PyData.eqvAll, PyData.eqvAll, PyData.eqvAll, PyData.eqv, PyData.eqv, eqv_Pps]
  decide +kernel
theorem shaped_L {ps : List Part} (h : ∀ p ∈ ps, okP p = true) : SeqAt.shaped (dataL ps) = true := by
  have a := lay_all h
  have t1 : PyData.strOk "parts" = true := by decide +kernel
  unfold SeqAt.shaped dataL
  rw [PyData.canLay0, PyData.canLayAll0, PyData.canLayAll0, PyData.canLayAll0, PyData.canLay0, PyData.canLay0, a.1, t1, PyData.depth, PyData.depthAll, PyData.depthAll, PyData.depthAll, PyData.depth, PyData.depth, decide_eq_true (by have := a.2; omega)]
  rfl
theorem stmt_ok {l : List Nat} {wd : Str} {ps : List Part} (h : stmtM l = some (wd, ps)) : ∃ wl, wd = S wl ∧ ∀ p ∈ Part.name wl :: ps, okP p = true := by
  rw [stmt_tail] at h
  by_cases c : l.length ≤ 200 ∧ l.all sgn = true
  · rw [if_pos c] at h
    cases e : splitM l with
    | nil => rw [e] at h; cases h
    | cons w ls =>
      rw [e, prog_cons] at h
      cases e1 : formOf (S w) ls.length with
      | none => rw [e1] at h; cases h
      | some f =>
        rw [e1] at h
        dsimp only at h
        cases e2 : partsOf f.cps.toList ls with
        | none => rw [e2] at h; cases h
        | some qs =>
          rw [e2] at h
          dsimp only at h
          by_cases e3 : full qs = true
          · rw [if_pos e3] at h
            have h := Option.some.inj h
            obtain ⟨rfl, rfl⟩ := Prod.mk.inj h
            refine ⟨w, rfl, fun p hp => ?_⟩
            rcases List.mem_cons.mp hp with rfl | hp
            · exact form_name (n := ls.length) (by rw [e1]; rfl)
            · exact partsOf_ok e2 p hp
          · rw [if_neg e3] at h; cases h
  · rw [if_neg c] at h; cases h
theorem fits_ok : ∀ {cs : List Nat} {ps : List Part}, Paired fits cs ps → ∀ p ∈ ps, okP p = true
  | _, _, .nil, _, hp => by cases hp
  | c :: cs, q :: ps, .cons h t, p, hp => by
    rcases List.mem_cons.mp hp with rfl | hp
    · unfold fits at h
      by_cases z : c = 84 ∨ c = 78
      · rw [if_pos z] at h
        obtain ⟨l, rfl, hl⟩ := h
        exact hl
      · rw [if_neg z] at h; exact h.1
    · exact fits_ok t p hp
theorem okS.all {wl : List Nat} {ps : List Part} (h : okS wl ps) : ∀ p ∈ Part.name wl :: ps, okP p = true := fun p hp => by
  rcases List.mem_cons.mp hp with rfl | hp
  · exact h.nm
  · obtain ⟨f, _, pf⟩ := h.ex
    exact fits_ok pf p hp
/-- what is due to a string -/
def dueD (l : List Nat) : PyData := match stmtM l with
  | some (wd, ps) => .list [.str "parts", .tuple (.str wd :: ps.map dataP)]
  | none => .list [.str "refused", .bool true]
theorem due_some {l : List Nat} {wd : Str} {ps : List Part} (h : stmtM l = some (wd, ps)) : dueD l = .list [.str "parts", .tuple (.str wd :: ps.map dataP)] := by unfold dueD; rw [h]
theorem due_none {l : List Nat} (h : stmtM l = none) : dueD l = .list [.str "refused", .bool true] := by unfold dueD; rw [h]
theorem due_ok (l : List Nat) : PyData.eqv (dueD l) (dueD l) = true ∧ SeqAt.shaped (dueD l) = true := by
  cases h : stmtM l with
  | none => rw [due_none h]; exact ⟨by decide +kernel, by decide +kernel⟩
  | some e =>
    obtain ⟨wd, ps⟩ := e
    obtain ⟨wl, rfl, ok⟩ := stmt_ok h
    rw [due_some h]
    exact ⟨eqv_L (.name wl :: ps), shaped_L ok⟩
theorem long_x {k : Int} (h0 : 198 ≤ k) (h1 : k ≤ 203) : stmtM (Txt.mul "x" k).cps.toList = none ∧ (Txt.mul "x" k).cps.toList.length ≤ 300 := by
  have : k = 198 ∨ k = 199 ∨ k = 200 ∨ k = 201 ∨ k = 202 ∨ k = 203 := by omega
  rcases this with rfl | rfl | rfl | rfl | rfl | rfl <;> exact ⟨by decide +kernel, by decide +kernel⟩
end Mx
namespace K02
open PySem PySem.Spec PyProof.Rows L2 Tl Mx SX
mutual
theorem dp_same {H H' : Hp} {K : PySem.W.Frag} (s : Same H H') : ∀ {v : V} {d : PyData}, Dp K H v d → Dp K H' v d
  | _, _, .non => .non
  | _, _, .bl b => .bl b
  | _, _, .int i => .int i
  | _, _, .str x => .str x
  | _, _, .lst h t => .lst (s.seq h) (dpAll_same s t)
  | _, _, .tup h t => .tup (Same.tup s h) (dpAll_same s t)
theorem dpAll_same {H H' : Hp} {K : PySem.W.Frag} (s : Same H H') : ∀ {vs : List V} {ds : List PyData}, DpAll K H vs ds → DpAll K H' vs ds
  | _, _, .nil => .nil
  | _, _, .cons h t => .cons (dp_same s h) (dpAll_same s t)
end
def sp_law (K : PySem.W.Frag) : Sp := fun vs H Q _ => ∃ (a : Addr) (ns : List Int), vs = [.ref a] ∧ SqL K H a (ns.map V.int) ∧ ns.length ≤ 63 ∧ ∀ H', Q (.bl true) H'
section
variable {P : Program} {w : World} {K : PySem.W.Frag} {mg : Str → Option Value} {base : Heap} {C B : Addr}
theorem written_len {ps : List Part} (h : ∀ p ∈ ps, okP p = true) (l : ps.length ≤ 10) : (S (writS ps)).length ≤ 1000 := by
  rw [S_len]
  unfold writS
  have a := join_len (ps.map writP)
  have b : ∀ qs : List Part, (∀ p ∈ qs, okP p = true) → ((qs.map writP).map List.length).sum ≤ 42 * qs.length := by
    intro qs
    induction qs with
    | nil => intro _; simp
    | cons p qs ih =>
      intro h
      have a := writ_len (h p (List.mem_cons_self ..))
      have b := ih fun z hz => h z (List.mem_cons_of_mem _ hz)
      simp only [List.map_cons, List.sum_cons, List.length_cons] at b ⊢
      omega
  have := b ps h
  rw [List.length_map] at a
  omega
theorem ok_law {f : Addr} {fd : FuncData} (F : Fun K "law" "law" s_law f fd) (T : Txt K mg) (Tb : Tab K w mg) (R : Errs K mg C B) : FnOk P w K mg base CX0 8 f fd ["script"] (sp_law K) := by
  refine F.ok sc_law (fun vs H Q E h => ?_) (fun cdv A outer s H vs Q E hr h => ?_)
  · obtain ⟨a, ns, rfl, _⟩ := h; rfl
  · obtain ⟨a, ns, rfl, sq, l63, q⟩ := h
    have G_law_cell := ok_cell (P := P) (w := w) (base := base) T
    have G_law_row := ok_row (P := P) (w := w) (base := base) T
    have G_law_name := ok_name (P := P) (w := w) (base := base) T
    have G_law_statement := ok_statement (P := P) (w := w) (base := base) T
    have G_law_written := ok_written (P := P) (w := w) (base := base) T
    have G_law_spoilt := ok_law_spoilt (P := P) (w := w) (base := base) T
    have G_law_strange := ok_law_strange (P := P) (w := w) (base := base) T
    have G_law_read := ok_law_read (P := P) (w := w) (base := base) T
    have G_law_told := ok_law_told (P := P) (w := w) (base := base) T Tb R
    refine ⟨_, pss_cons (ps_for PassesOwn.never rfl (pi_list (pe_op op_cat (pe_lst (pa_cons (pe_k G_law_cell hr (by decide) pass0 (by rfl) (pa_cons (pv 0) (pa_cons pe_int pa_nil))) (pa_cons (pe_k G_law_cell hr (by decide) pass0 (by rfl) (pa_cons (pv 0) (pa_cons pe_int pa_nil))) pa_nil))) (pe_slice sl_list (pv 0) (po_some pe_int) (po_some pe_int)))) (pg_name (i := 1) sc_law.nd rfl (.inl rfl))
        (pss_cons (ps_set (i := 2) sc_law.nd rfl (.inl rfl) (pe_k G_law_row hr (by decide) pass0 (by rfl) (pa_cons (pv 1) (pa_cons pe_int pa_nil))))
        (pss_cons (ps_set (i := 3) sc_law.nd rfl (.inl rfl) (pe_k G_law_written hr (by decide) pass0 (by rfl) (pa_cons (pe_k G_law_statement hr (by decide) pass0 (by rfl) (pa_cons (pe_slice sl_list (pv 2) po_none (po_some pe_int)) (pa_cons (pe_lst (pa_cons (pe_k G_law_name hr (by decide) pass0 (by rfl) (pa_cons (pe_ix ix_list (pv 2) pe_int (fun _ _ => rfl)) pa_nil)) (pa_cons pe_str pa_nil))) pa_nil))) pa_nil)))
        (pss_cons (ps_set (i := 4) sc_law.nd rfl (.inl rfl) (pe_lst (pa_cons (pe_k G_law_spoilt hr (by decide) pass0 (by rfl) (pa_cons (pv 3) (pa_cons (pe_slice sl_list (pv 2) (po_some pe_int) (po_some pe_int)) pa_nil))) (pa_cons (pe_k G_law_strange hr (by decide) pass0 (by rfl) (pa_cons (pe_ix ix_list (pv 2) pe_int (fun _ _ => rfl)) pa_nil)) (pa_cons (pe_k G_law_strange hr (by decide) pass0 (by rfl) (pa_cons (pe_ix ix_list (pv 2) pe_int (fun _ _ => rfl)) pa_nil)) pa_nil)))))
        (pss_one (ps_for PassesOwn.never rfl (pi_list (pv 4)) (pg_name (i := 5) sc_law.nd rfl (.inl rfl))
          (pss_cons (ps_set (i := 6) sc_law.nd rfl (.inl rfl) (pe_lst (pa_cons pe_str (pa_cons (pe_k G_law_read hr (by decide) pass0 (by rfl) (pa_cons (pv 5) pa_nil)) pa_nil))))
          (C8.pss_cut (ps_if (pt_cmpR op_isN (pe_ix ix_list (pv 6) pe_int (fun _ _ => rfl)) pe_non (nomark _))
            (pss_one (ps_set (i := 6) sc_law.nd rfl (.inl rfl) (pe_lst (pa_cons pe_str (pa_cons pe_bl pa_nil))))) pss_nil)
          (pss_one (ps_if (pt_cmpR (op_neD (by have := hu65 hr; exact Nat.lt_of_succ_lt this)) (pe_k G_law_told hr (by decide) pass0 (by rfl) (pa_cons (pv 5) pa_nil)) (pv 6) (nomark _))
            (pss_one (ps_ret pe_bl)) pss_nil))))))))))
      (pss_cons (ps_for PassesOwn.never rfl (pi_list (pe_lst (pa_cons (pe_op op_mulS pe_str (pe_op op_add pe_int (pe_op op_mod (pe_k G_law_cell hr (by decide) pass0 (by rfl) (pa_cons (pv 0) (pa_cons pe_int pa_nil))) pe_int))) (pa_cons pe_non (pa_cons pe_int (pa_cons pe_bl pa_nil)))))) (pg_name (i := 5) sc_law.nd rfl (.inl rfl))
        (pss_one (ps_if (pt_cmpR (op_neD (by have := hu65 hr; exact Nat.lt_of_succ_lt this)) (pe_k G_law_told hr (by decide) pass0 (by rfl) (pa_cons (pv 5) pa_nil)) (pe_lst (pa_cons pe_str (pa_cons pe_bl pa_nil))) (nomark _))
          (pss_one (ps_ret pe_bl)) pss_nil)))
      (pss_one (ps_ret pe_bl))), ?_⟩
    -- the cells
    refine ⟨_, rfl, a, ns, 0, rfl, sq, fun c0 => ⟨_, rfl, a, ns, 1, rfl, sq, fun c1 => ⟨(by show 2 ≤ sizeLine; decide), fun p1 n1 => ?_⟩⟩⟩
    have s1 : Same H (upd H p1 (.lst [.int c0, .int c1])) := same_upd n1
    refine ⟨_, rfl, _, rfl, _, rfl, a, _, rfl, s1.seq sq, fun p2 n2 => ?_⟩
    have cl : (cutV (ns.map V.int) (some 2) (some 20)).length ≤ 63 := by unfold cutV; rw [List.length_take, List.length_drop, List.length_map]; omega
    have ci : ∀ x ∈ cutV (ns.map V.int) (some 2) (some 20), ∃ n, x = V.int n := fun x hx => by
      unfold cutV at hx
      obtain ⟨n, _, e⟩ := List.mem_map.mp (List.mem_of_mem_drop (List.mem_of_mem_take hx))
      exact ⟨n, e.symm⟩
    obtain ⟨cs, ecs⟩ : ∃ cs, cs = cutV (ns.map V.int) (some 2) (some 20) := ⟨_, rfl⟩
    rw [← ecs] at cl ci ⊢
    have s2 : Same (upd H p1 (.lst [.int c0, .int c1])) (upd (upd H p1 (.lst [.int c0, .int c1])) p2 (.lst cs)) := same_upd n2
    refine ⟨p1, p2, _, _, rfl, rfl, s2 _ _ upd_same, upd_same, by rw [sizeLine_eq]; show 2 + _ ≤ _; omega, fun p3 n3 => ?_⟩
    have s3 := same_upd (o := HO.lst ([V.int c0, .int c1] ++ cs)) n3
    have sHx := (s1.trans s2).trans s3
    have atx := upd_same (a := p3) (o := HO.lst ([V.int c0, .int c1] ++ cs)) (H := upd (upd H p1 (.lst [.int c0, .int c1])) p2 (.lst cs))
    generalize (upd (upd (upd H p1 (.lst [.int c0, .int c1])) p2 (.lst cs)) p3 (.lst ([V.int c0, .int c1] ++ cs))) = Hx at sHx atx ⊢
    have allI : ∀ x ∈ [V.int c0, .int c1] ++ cs, ∃ n, x = V.int n := fun x hx => by
      rcases List.mem_append.mp hx with hx | hx
      · simp only [List.mem_cons, List.not_mem_nil, or_false] at hx
        rcases hx with rfl | rfl <;> exact ⟨_, rfl⟩
      · exact ci x hx
    refine ⟨p3, rfl, ⟨_, SqL.of atx⟩, for_it walk_list (fun i σ H' => ∃ y1 y2 y3 y4 y5 y6, σ = [some (.ref a), y1, y2, y3, y4, y5, y6] ∧ Same Hx H') ⟨none, none, none, none, none, none, rfl, Same.refl _⟩ (fun i σ H' _ z => by obtain ⟨_, _, _, _, _, _, _, s⟩ := z; exact SqL.of (s _ _ atx)) ?_ ?_⟩
    · rintro i x σ H2 H3 hi ⟨y1, y2, y3, y4, y5, y6, rfl, sm⟩ ⟨rfl, gx⟩
      obtain ⟨n, rfl⟩ := allI x (List.mem_of_getElem? gx)
      refine ⟨_, rfl, n, 18, rfl, by decide, fun H4 p4 xs s4 np4 at4 lx bx => ?_⟩
      obtain ⟨x0, x1, x2, x3, x4, x5, x6, x7, x8, x9, xa, xb, xc, xd, xe, xf, xg, xh, rfl⟩ : ∃ x0 x1 x2 x3 x4 x5 x6 x7 x8 x9 xa xb xc xd xe xf xg xh, xs = [x0, x1, x2, x3, x4, x5, x6, x7, x8, x9, xa, xb, xc, xd, xe, xf, xg, xh] := by
        match xs, lx with
        | [x0, x1, x2, x3, x4, x5, x6, x7, x8, x9, xa, xb, xc, xd, xe, xf, xg, xh], _ => exact ⟨x0, x1, x2, x3, x4, x5, x6, x7, x8, x9, xa, xb, xc, xd, xe, xf, xg, xh, rfl⟩
      have b6 := (bx x6 (by simp)).1
      have bf := (bx xf (by simp)).1
      have bg := (bx xg (by simp)).1
      have sq4 := SqL.of (K := K) at4
      -- the statement
      refine ⟨_, rfl, _, rfl, p4, _, rfl, sq4, fun p6 n6 => ?_⟩
      have s6 := same_upd (o := HO.lst ([x0, x1, x2, x3, x4, x5].map V.int)) n6
      have at6 := upd_same (a := p6) (o := HO.lst ([x0, x1, x2, x3, x4, x5].map V.int)) (H := H4)
      change tCons _ _ _ (upd H4 p6 (.lst ([x0, x1, x2, x3, x4, x5].map V.int))) _
      generalize (upd H4 p6 (.lst ([x0, x1, x2, x3, x4, x5].map V.int))) = H6 at s6 at6 ⊢
      have sq6 := s6.seq sq4
      refine ⟨_, rfl, p4, _, 6, _, rfl, rfl, sq6, rfl, x6, rfl, b6, fun H7 s7 => ?_⟩
      refine ⟨(by show 2 ≤ sizeLine; decide), fun p9 n9 => ?_⟩
      have s9 := same_upd (o := HO.lst [.str (S (nameL x6)), .str "t"]) n9
      refine ⟨p6, p9, [x0, x1, x2, x3, x4, x5], [nameL x6, [116]], rfl, s9.seq (s7.seq (SqL.of at6)), rfl, fun z hz => (bx z (by simp only [List.mem_cons, List.not_mem_nil, or_false] at hz ⊢; rcases hz with h | h | h | h | h | h <;> simp [h])).1, SqL.of upd_same, by simp, fun z hz => ?_, fun H10 pp wl ps vs s10 npp atp app okp l3 => ?_⟩
      · simp only [List.mem_cons, List.not_mem_nil, or_false] at hz
        rcases hz with rfl | rfl
        · exact name_ok b6
        · decide +kernel
      have okall := okp.all
      have app' : ArePs H10 (.str (S wl) :: vs) (.name wl :: ps) := .cons rfl app
      -- the string
      refine ⟨pp, _, _, rfl, SqT.of atp, app', by rw [List.length_cons]; omega, okall, fun H11 s11 => ?_⟩
      have s411 : Same H4 H11 := s6.trans (s7.trans (s9.trans (s10.trans s11)))
      have wlen := written_len okall (by rw [List.length_cons]; omega)
      generalize S (writS (.name wl :: ps)) = zs at wlen ⊢
      -- the strings
      refine ⟨_, rfl, _, rfl, _, rfl, _, rfl, p4, _, rfl, s411.seq sq4, fun pb nb => ?_⟩
      have sb := same_upd (o := HO.lst ([x8, x9, xa, xb, xc, xd, xe].map V.int)) nb
      refine ⟨zs, pb, [x8, x9, xa, xb, xc, xd, xe], rfl, wlen, SqL.of upd_same, rfl, fun z hz => (bx z (by simp only [List.mem_cons, List.not_mem_nil, or_false] at hz ⊢; rcases hz with h | h | h | h | h | h | h <;> simp [h])).1, fun H12 z1 s12 lz1 => ?_⟩
      have s412 := s411.trans (Same.trans sb s12)
      refine ⟨_, rfl, p4, _, 15, _, rfl, rfl, s412.seq sq4, rfl, xf, rfl, bf, fun H13 z2 s13 lz2 => ?_⟩
      have s413 := s412.trans s13
      refine ⟨_, rfl, p4, _, 16, _, rfl, rfl, s413.seq sq4, rfl, xg, rfl, bg, fun H14 z3 s14 lz3 => ?_⟩
      have s414 := s413.trans s14
      refine ⟨(by show 3 ≤ sizeLine; decide), fun pc nc => ?_⟩
      have sc := same_upd (o := HO.lst [.str z1, .str z2, .str z3]) nc
      have atc := upd_same (a := pc) (o := HO.lst [.str z1, .str z2, .str z3]) (H := H14)
      change gName 4 _ _ (upd H14 pc (.lst [.str z1, .str z2, .str z3])) _
      generalize (upd H14 pc (.lst [.str z1, .str z2, .str z3])) = Hc at sc atc ⊢
      have sxc : Same Hx Hc := sm.trans (s4.trans (s414.trans sc))
      -- each of them
      refine ⟨_, rfl, pc, rfl, ⟨_, SqL.of atc⟩, for_it walk_list (fun i σ H' => ∃ y2 y3 y4 y5 y6, σ = [some (.ref a), some (.int n), y2, y3, y4, y5, y6] ∧ Same Hc H') ⟨_, _, _, _, _, rfl, Same.refl _⟩ (fun i σ H' _ z => by obtain ⟨_, _, _, _, _, _, s⟩ := z; exact SqL.of (s _ _ atc)) ?_ ?_⟩
      · rintro j x σ H15 H16 hj ⟨y2, y3, y4, y5, y6, rfl, sj⟩ ⟨rfl, gx⟩
        obtain ⟨z, rfl, lz⟩ : ∃ z : Str, x = .str z ∧ z.length ≤ 10000 := by
          have := List.mem_of_getElem? gx
          simp only [List.mem_cons, List.not_mem_nil, or_false] at this
          rcases this with rfl | rfl | rfl
          · exact ⟨_, rfl, lz1⟩
          · exact ⟨_, rfl, by omega⟩
          · exact ⟨_, rfl, by omega⟩
        have lz' : z.cps.toList.length ≤ 10000 := by simpa [Str.length] using lz
        -- due
        obtain ⟨dok1, dok2⟩ := due_ok z.cps.toList
        have isDue : ∀ (H17 : Hp) (y6 : Option V), Same H16 H17 → (∃ pd, y6 = some (.ref pd) ∧ Dp K H17 (.ref pd) (dueD z.cps.toList)) → ∃ pd, (some (V.ref a) :: some (.int n) :: y2 :: y3 :: y4 :: some (.str z) :: y6 :: []) = [some (.ref a), some (.int n), y2, y3, y4, some (.str z), some (.ref pd)] ∧ Same H16 H17 ∧ Dp K H17 (.ref pd) (dueD z.cps.toList) := by
          rintro H17 y6 s ⟨pd, rfl, h⟩
          exact ⟨pd, rfl, s, h⟩
        refine ⟨_, rfl, z.cps.toList, rfl, lz', fun wd ps el H17 ar xr s17 nr atr arr lr => ?_, fun el H17 s17 => ?_⟩
        rotate_left
        all_goals
          rw [lawRead_eq] at el
          refine ⟨(by show 2 ≤ sizeLine; decide), fun pd nd => ?_⟩
          refine ⟨fun σ' H18 => ∃ pd, σ' = [some (.ref a), some (.int n), y2, y3, y4, some (.str z), some (.ref pd)] ∧ Same H16 H18 ∧ Dp K H18 (.ref pd) (dueD z.cps.toList), ?_, ?_⟩
          rotate_left
          · rintro σ' H18 ⟨pd, rfl, s18, dp⟩
            have told : ∀ (H19 : Hp) (D : Addr), Same H18 H19 → Dp K H19 (.ref D) (dueD z.cps.toList) → ∃ d e, Dp K H19 (.ref D) d ∧ Dp K H19 (.ref pd) e ∧ SeqAt.shaped d = true ∧ SeqAt.shaped e = true ∧ (!PyData.eqv d e) = false := fun H19 D s19 dD =>
              ⟨_, _, dD, dp_same s19 dp, dok2, dok2, by rw [dok1]; rfl⟩
            refine ⟨_, rfl, .inl ⟨z.cps.toList, rfl, lz', fun wd ps est H19 D a xs s19 atD ata ar lx => ?_, fun en H19 D s19 atD => ?_⟩⟩
            · obtain ⟨d, e, d1, d2, d3, d4, d5⟩ := told H19 D s19 (by
                rw [due_some est]
                exact .lst (SqL.of atD) (.cons (.str _) (.cons (.tup (SqT.of ata) (.cons (.str _) (data_all ar))) .nil)))
              refine ⟨_, rfl, d, e, d1, d2, d3, d4, ?_⟩
              rw [d5]
              exact ⟨_, rfl, iteF ⟨_, _, _, _, _, rfl, sj.trans (s18.trans s19)⟩⟩
            · obtain ⟨d, e, d1, d2, d3, d4, d5⟩ := told H19 D s19 (by
                rw [due_none en]
                exact .lst (SqL.of atD) (.cons (.str _) (.cons (.bl _) .nil)))
              refine ⟨_, rfl, d, e, d1, d2, d3, d4, ?_⟩
              rw [d5]
              exact ⟨_, rfl, iteF ⟨_, _, _, _, _, rfl, sj.trans (s18.trans s19)⟩⟩
        · -- unreadable
          have sd := same_upd (o := HO.lst [.str "parts", .non]) nd
          refine ⟨_, rfl, pd, _, 1, _, rfl, rfl, SqL.of upd_same, rfl, rfl, _, rfl, ite2 (fun _ => ?_) (fun z => absurd (decide_eq_true rfl) z)⟩
          refine ⟨(by show 2 ≤ sizeLine; decide), fun pe ne => ?_⟩
          have se := same_upd (o := HO.lst [.str "refused", .bl true]) ne
          refine ⟨pe, rfl, s17.trans (sd.trans se), ?_⟩
          rw [due_none el]
          exact .lst (SqL.of upd_same) (.cons (.str _) (.cons (.bl _) .nil))
        · have sd := same_upd (o := HO.lst [.str "parts", .ref ar]) nd
          refine ⟨_, rfl, pd, _, 1, _, rfl, rfl, SqL.of upd_same, rfl, rfl, _, rfl, ite2 (fun z => absurd (of_decide_eq_true z) (by simp)) (fun _ => ?_)⟩
          refine ⟨pd, rfl, s17.trans sd, ?_⟩
          rw [due_some el]
          exact .lst (SqL.of upd_same) (.cons (.str _) (.cons (.tup (SqT.of (sd _ _ atr)) (.cons (.str _) (data_all (arr.same sd)))) .nil))
      · rintro σ H15 ⟨y2, y3, y4, y5, y6, rfl, sj⟩
        exact ⟨_, y2, y3, y4, y5, y6, rfl, sxc.trans sj⟩
    · rintro σ H2 ⟨y1, y2, y3, y4, y5, y6, rfl, sm⟩
      -- the long one, and what is no string
      have sq2 : SqL K H2 a (ns.map V.int) := (sHx.trans sm).seq sq
      refine ⟨_, rfl, a, ns, 0, rfl, sq2, fun c => ?_⟩
      have r0 : 0 ≤ c % 6 := Int.emod_nonneg _ (by decide)
      have r1 : c % 6 < 6 := Int.emod_lt_of_pos _ (by decide)
      obtain ⟨lx1, lx2⟩ := long_x (k := 198 + c % 6) (by omega) (by omega)
      have mo : MulOk "x" (198 + c % 6) := mulOk_of 1 300 (by decide) (by omega) (by omega) (by decide) (by decide)
      generalize hz : Txt.mul "x" (198 + c % 6) = z at lx1 lx2
      refine ⟨_, _, rfl, rfl, (by show (0 : Int) < _; decide), _, _, rfl, rfl, _, _, rfl, rfl, mo, (by show 4 ≤ sizeLine; decide), fun pe ne => ?_⟩
      rw [hz]
      have se := same_upd (o := HO.lst [.str z, .non, .int 5, .bl true]) ne
      have ate := upd_same (a := pe) (o := HO.lst [.str z, .non, .int 5, .bl true]) (H := H2)
      generalize (upd H2 pe (.lst [.str z, .non, .int 5, .bl true])) = He at se ate ⊢
      refine ⟨pe, rfl, ⟨_, SqL.of ate⟩, for_it walk_list (fun i σ H' => ∃ y5, σ = [some (.ref a), y1, y2, y3, y4, y5, y6] ∧ Same He H') ⟨_, rfl, Same.refl _⟩ (fun i σ H' _ z => by obtain ⟨_, _, s⟩ := z; exact SqL.of (s _ _ ate)) ?_ ?_⟩
      · rintro j x σ H3 H4 hj ⟨y5, rfl, sj⟩ ⟨rfl, gx⟩
        have eqr : PyData.eqv (.list [.str "refused", .bool true]) (.list [.str "refused", .bool true]) = true := by decide +kernel
        have shr : SeqAt.shaped (.list [.str "refused", .bool true]) = true := by decide +kernel
        have mem := List.mem_of_getElem? gx
        simp only [List.mem_cons, List.not_mem_nil, or_false] at mem
        rcases mem with rfl | rfl | rfl | rfl
        · refine ⟨_, rfl, .inl ⟨z.cps.toList, rfl, by omega, fun wd ps est => (by rw [lx1] at est; cases est), fun _ H5 D s5 atD => ⟨(by show 2 ≤ sizeLine; decide), fun p np => ?_⟩⟩⟩
          have sp := same_upd (o := HO.lst [.str "refused", .bl true]) np
          refine ⟨.list [.str "refused", .bool true], .list [.str "refused", .bool true], .lst (SqL.of (sp _ _ atD)) (.cons (.str _) (.cons (.bl _) .nil)), .lst (SqL.of upd_same) (.cons (.str _) (.cons (.bl _) .nil)), shr, shr, ?_⟩
          rw [eqr]
          exact ⟨_, rfl, iteF ⟨_, rfl, sj.trans (s5.trans sp)⟩⟩
        all_goals
          refine ⟨_, rfl, .inr ⟨_, rfl, (by first | exact .inl rfl | exact .inr (.inl ⟨_, rfl⟩) | exact .inr (.inr ⟨_, rfl⟩)), fun H5 D s5 atD => ⟨(by show 2 ≤ sizeLine; decide), fun p np => ?_⟩⟩⟩
          have sp := same_upd (o := HO.lst [.str "refused", .bl true]) np
          refine ⟨.list [.str "refused", .bool true], .list [.str "refused", .bool true], .lst (SqL.of (sp _ _ atD)) (.cons (.str _) (.cons (.bl _) .nil)), .lst (SqL.of upd_same) (.cons (.str _) (.cons (.bl _) .nil)), shr, shr, ?_⟩
          rw [eqr]
          exact ⟨_, rfl, iteF ⟨_, rfl, sj.trans (s5.trans sp)⟩⟩
      · rintro σ H3 ⟨y5, rfl, sj⟩
        exact q H3
end
end K02
end
section
namespace K02
open PySem PySem.Spec PyProof.Rows L2 Tl Mx SX
theorem tupK {K : PySem.W.Frag} {a : Addr} {od : Option Addr} {its : Array Value} {n : Nat} {sl : Array (Option Value)} {xs : List V} (l : K.lookup a = some ⟨.type "tuple", od, .seq its n, sl⟩) (hv : Vals xs its.toList) (hz : its.size ≤ sizeLine) : ∀ H, SqT K H a xs :=
  fun H => .inr ⟨_, its, n, l, rfl, rfl, hz, hv⟩
def RowOk (K : PySem.W.Frag) (e : DictEntry) (p : Str × List Str) : Prop := (∃ t, e.key = .str p.1 t) ∧ ∃ a, e.val = .ref a ∧ ∀ H, SqT K H a (p.2.map V.str)
theorem row_find {K : PySem.W.Frag} (k : Str) : ∀ {es : List DictEntry} {ps : List (Str × List Str)}, Paired (RowOk K) es ps →
    (ps.lookup k = none → (es.find? fun e => Value.isStrOf k e.key).map (·.val) = none) ∧ ∀ fs, ps.lookup k = some fs → ∃ a, (es.find? fun e => Value.isStrOf k e.key).map (·.val) = some (.ref a) ∧ ∀ H, SqT K H a (fs.map V.str)
  | _, _, .nil => ⟨fun _ => rfl, fun _ h => by cases h⟩
  | e :: es, p :: ps, .cons h t => by
    obtain ⟨⟨tk, hk⟩, a, hv, sq⟩ := h
    obtain ⟨r1, r2⟩ := row_find k t
    have eb : Value.isStrOf k e.key = (k == p.1) := by
      rw [hk]
      by_cases z : p.1 = k
      · rw [z]; simp [Value.isStrOf]
      · have z2 : ¬ k = p.1 := fun w => z w.symm
        show (p.1 == k) = (k == p.1)
        rw [beq_eq_false_iff_ne.mpr z, beq_eq_false_iff_ne.mpr z2]
    rw [List.lookup_cons, List.find?_cons, eb]
    cases c : k == p.1 with
    | true => exact ⟨fun h => (by cases h), fun fs h => (by obtain rfl := Option.some.inj h; exact ⟨a, (by rw [← hv]; rfl), sq⟩)⟩
    | false => exact ⟨r1, r2⟩
theorem end_mk {P : Program} {w : World} {K : PySem.W.Frag} {mg : Str → Option Value} {fa C B : Addr} (T : Txt K mg) (Tb : Tab K w mg) (R : Errs K mg C B) (hfa : mg "law" = some (.ref fa)) :
    ∃ fd : FuncData, (∀ (s : Shared) (v : Value), BindsTo s fd ⟨[v], []⟩ [("script", v)]) ∧ ∀ base : Heap, K.In base → base.Ns mainGlobals mg → FnOk P w K mg base CX0 8 fa fd ["script"] (sp_law K) := by
  obtain ⟨f, fd, hm, F, b⟩ := T.d_law.ex
  have e : f = fa := by have z := hm.symm.trans hfa; cases z; rfl
  subst e
  refine ⟨fd, fun s v => ?_, fun base _ _ => ok_law F T Tb R⟩
  obtain ⟨oc, od, kV, doc, pm, an, cdv, ct, osl, rfl, lk, hcd⟩ := F.ex
  exact .of_eq rfl
theorem tab_mk {w : World} {K : PySem.W.Frag} {h : Heap} {mg : Str → Option Value} (X : K.In h) (G : h.Ns mainGlobals mg) {d aP : Addr} {n nP : Nat} {odP : Option Addr} {slP : Array (Option Value)} {v1 v2 v3 v4 : Tok} {t0 t1 t2 t3 t4 t5 t6 t7 t8 t9 t10 t11 u0 u1 u2 u3 u4 u5 u6 u7 u8 u9 u10 u11 u5b : Tok} {a0 a1 a2 a3 a4 a5 a6 a7 a8 a9 a10 a11 : Addr} {od0 od1 od2 od3 od4 od5 od6 od7 od8 od9 od10 od11 : Option Addr} {n0 n1 n2 n3 n4 n5 n6 n7 n8 n9 n10 n11 : Nat} {sl0 sl1 sl2 sl3 sl4 sl5 sl6 sl7 sl8 sl9 sl10 sl11 : Array (Option Value)}
    (gF : PySem.W.nsIn K mainGlobals "FORMS" = some (some (.ref d))) (low : (d == sysModules) = false) (gP : PySem.W.nsIn K mainGlobals "PARAMETERS" = some (some (.ref aP)))
    (lP : K.lookup aP = some ⟨.type "tuple", odP, .seq #[.str "$1" v1, .str "$2" v2, .str "$3" v3, .str "$4" v4] nP, slP⟩)
    (l : K.lookup d = some ⟨.type "dict", none, .dict #[⟨PyData.keyHash w.params "create", .str "create" t0, .ref a0⟩, ⟨PyData.keyHash w.params "drop", .str "drop" t1, .ref a1⟩, ⟨PyData.keyHash w.params "put", .str "put" t2, .ref a2⟩, ⟨PyData.keyHash w.params "delete", .str "delete" t3, .ref a3⟩, ⟨PyData.keyHash w.params "get", .str "get" t4, .ref a4⟩, ⟨PyData.keyHash w.params "scan", .str "scan" t5, .ref a5⟩, ⟨PyData.keyHash w.params "total", .str "total" t6, .ref a6⟩, ⟨PyData.keyHash w.params "begin", .str "begin" t7, .ref a7⟩, ⟨PyData.keyHash w.params "commit", .str "commit" t8, .ref a8⟩, ⟨PyData.keyHash w.params "rollback", .str "rollback" t9, .ref a9⟩, ⟨PyData.keyHash w.params "save", .str "save" t10, .ref a10⟩, ⟨PyData.keyHash w.params "undo", .str "undo" t11, .ref a11⟩] n, #[]⟩)
    (l0 : K.lookup a0 = some ⟨.type "tuple", od0, .seq #[.str "T" u0] n0, sl0⟩)
    (l1 : K.lookup a1 = some ⟨.type "tuple", od1, .seq #[.str "T" u1] n1, sl1⟩)
    (l2 : K.lookup a2 = some ⟨.type "tuple", od2, .seq #[.str "TXY" u2] n2, sl2⟩)
    (l3 : K.lookup a3 = some ⟨.type "tuple", od3, .seq #[.str "TX" u3] n3, sl3⟩)
    (l4 : K.lookup a4 = some ⟨.type "tuple", od4, .seq #[.str "TX" u4] n4, sl4⟩)
    (l5 : K.lookup a5 = some ⟨.type "tuple", od5, .seq #[.str "T" u5, .str "TXY" u5b] n5, sl5⟩)
    (l6 : K.lookup a6 = some ⟨.type "tuple", od6, .seq #[.str "T" u6] n6, sl6⟩)
    (l7 : K.lookup a7 = some ⟨.type "tuple", od7, .seq #[.str "" u7] n7, sl7⟩)
    (l8 : K.lookup a8 = some ⟨.type "tuple", od8, .seq #[.str "" u8] n8, sl8⟩)
    (l9 : K.lookup a9 = some ⟨.type "tuple", od9, .seq #[.str "" u9] n9, sl9⟩)
    (l10 : K.lookup a10 = some ⟨.type "tuple", od10, .seq #[.str "N" u10] n10, sl10⟩)
    (l11 : K.lookup a11 = some ⟨.type "tuple", od11, .seq #[.str "N" u11] n11, sl11⟩) : Tab K w mg where
  pars := ⟨aP, ⟨_, PySem.W.mg_of X G gP, rfl⟩, tupK lP (.cons ⟨_, rfl⟩ (.cons ⟨_, rfl⟩ (.cons ⟨_, rfl⟩ (.cons ⟨_, rfl⟩ .nil)))) (by rw [sizeLine_eq]; simp)⟩
  forms := ⟨d, _, n, ⟨_, PySem.W.mg_of X G gF, rfl⟩, ⟨l, ⟨⟨_, _, rfl, rfl⟩, ⟨⟨_, _, rfl, rfl⟩, ⟨⟨_, _, rfl, rfl⟩, ⟨⟨_, _, rfl, rfl⟩, ⟨⟨_, _, rfl, rfl⟩, ⟨⟨_, _, rfl, rfl⟩, ⟨⟨_, _, rfl, rfl⟩, ⟨⟨_, _, rfl, rfl⟩, ⟨⟨_, _, rfl, rfl⟩, ⟨⟨_, _, rfl, rfl⟩, ⟨⟨_, _, rfl, rfl⟩, ⟨⟨_, _, rfl, rfl⟩, trivial⟩⟩⟩⟩⟩⟩⟩⟩⟩⟩⟩⟩, low⟩, fun k => by
    have rows : Paired (RowOk K) [⟨PyData.keyHash w.params "create", .str "create" t0, .ref a0⟩, ⟨PyData.keyHash w.params "drop", .str "drop" t1, .ref a1⟩, ⟨PyData.keyHash w.params "put", .str "put" t2, .ref a2⟩, ⟨PyData.keyHash w.params "delete", .str "delete" t3, .ref a3⟩, ⟨PyData.keyHash w.params "get", .str "get" t4, .ref a4⟩, ⟨PyData.keyHash w.params "scan", .str "scan" t5, .ref a5⟩, ⟨PyData.keyHash w.params "total", .str "total" t6, .ref a6⟩, ⟨PyData.keyHash w.params "begin", .str "begin" t7, .ref a7⟩, ⟨PyData.keyHash w.params "commit", .str "commit" t8, .ref a8⟩, ⟨PyData.keyHash w.params "rollback", .str "rollback" t9, .ref a9⟩, ⟨PyData.keyHash w.params "save", .str "save" t10, .ref a10⟩, ⟨PyData.keyHash w.params "undo", .str "undo" t11, .ref a11⟩] formTable := (.cons ⟨⟨_, rfl⟩, _, rfl, tupK l0 (.cons ⟨_, rfl⟩ .nil) (by rw [sizeLine_eq]; simp)⟩ (.cons ⟨⟨_, rfl⟩, _, rfl, tupK l1 (.cons ⟨_, rfl⟩ .nil) (by rw [sizeLine_eq]; simp)⟩ (.cons ⟨⟨_, rfl⟩, _, rfl, tupK l2 (.cons ⟨_, rfl⟩ .nil) (by rw [sizeLine_eq]; simp)⟩ (.cons ⟨⟨_, rfl⟩, _, rfl, tupK l3 (.cons ⟨_, rfl⟩ .nil) (by rw [sizeLine_eq]; simp)⟩ (.cons ⟨⟨_, rfl⟩, _, rfl, tupK l4 (.cons ⟨_, rfl⟩ .nil) (by rw [sizeLine_eq]; simp)⟩ (.cons ⟨⟨_, rfl⟩, _, rfl, tupK l5 (.cons ⟨_, rfl⟩ (.cons ⟨_, rfl⟩ .nil)) (by rw [sizeLine_eq]; simp)⟩ (.cons ⟨⟨_, rfl⟩, _, rfl, tupK l6 (.cons ⟨_, rfl⟩ .nil) (by rw [sizeLine_eq]; simp)⟩ (.cons ⟨⟨_, rfl⟩, _, rfl, tupK l7 (.cons ⟨_, rfl⟩ .nil) (by rw [sizeLine_eq]; simp)⟩ (.cons ⟨⟨_, rfl⟩, _, rfl, tupK l8 (.cons ⟨_, rfl⟩ .nil) (by rw [sizeLine_eq]; simp)⟩ (.cons ⟨⟨_, rfl⟩, _, rfl, tupK l9 (.cons ⟨_, rfl⟩ .nil) (by rw [sizeLine_eq]; simp)⟩ (.cons ⟨⟨_, rfl⟩, _, rfl, tupK l10 (.cons ⟨_, rfl⟩ .nil) (by rw [sizeLine_eq]; simp)⟩ (.cons ⟨⟨_, rfl⟩, _, rfl, tupK l11 (.cons ⟨_, rfl⟩ .nil) (by rw [sizeLine_eq]; simp)⟩ .nil))))))))))))
    have z := row_find (K := K) k rows
    unfold findBy
    rw [List.find?_toArray]
    exact z⟩
theorem kit_own {K : PySem.W.Frag} {C D : Addr} {b : Bool} (hd : PySem.W.hasDictIn K D = true) (ht : PySem.W.typeIn K (.ref D) = some (.type "type")) (hs : PySem.W.subIn K (.ref C) (.ref D) = some b) (hn : (Value.ref C == Value.ref D) = false) : PySem.W.kitOne K (.ref C) (.ref D) = some b := by
  obtain ⟨cd, hc, _⟩ := PySem.W.any_some hd
  unfold PySem.W.kitOne
  rw [if_neg (by rw [hn]; decide)]
  unfold PySem.W.kitCls
  dsimp only
  rw [hc, ht]
  exact hs
theorem kit_self {K : PySem.W.Frag} {C : Addr} : PySem.W.kitOne K (.ref C) (.ref C) = some true := by
  unfold PySem.W.kitOne
  rw [if_pos (by simp)]
theorem errs_mk {K : PySem.W.Frag} {h : Heap} {mg : Str → Option Value} {C B D2 D3 D4 D5 D6 : Addr} {newId initId : String} {bm : List Value} (X : K.In h) (G : h.Ns mainGlobals mg)
    (F : PySem.ExcBaseFacts "ValueError" newId initId bm) (g : PySem.W.nsIn K mainGlobals "Unreadable" = some (some (.ref C))) (ex : PySem.W.excIn K C bm newId = true) (kp : PySem.W.keepIn K (.ref C) = true) (sb : PySem.W.subIn K (.ref C) (.type "BaseException") = some true) (ty : PySem.W.typeIn K (.ref C) = some (.type "type"))
    (ec : ExcC K C)
    (g2 : PySem.W.nsIn K mainGlobals "InvalidCommand" = some (some (.ref D2))) (d2 : PySem.W.hasDictIn K D2 = true) (t2 : PySem.W.typeIn K (.ref D2) = some (.type "type")) (s2 : PySem.W.subIn K (.ref C) (.ref D2) = some false) (n2 : (Value.ref C == Value.ref D2) = false)
    (g3 : PySem.W.nsIn K mainGlobals "BatchFull" = some (some (.ref D3))) (d3 : PySem.W.hasDictIn K D3 = true) (t3 : PySem.W.typeIn K (.ref D3) = some (.type "type")) (s3 : PySem.W.subIn K (.ref C) (.ref D3) = some false) (n3 : (Value.ref C == Value.ref D3) = false)
    (g4 : PySem.W.nsIn K mainGlobals "TooManyBatches" = some (some (.ref D4))) (d4 : PySem.W.hasDictIn K D4 = true) (t4 : PySem.W.typeIn K (.ref D4) = some (.type "type")) (s4 : PySem.W.subIn K (.ref C) (.ref D4) = some false) (n4 : (Value.ref C == Value.ref D4) = false)
    (g5 : PySem.W.nsIn K mainGlobals "NotClosed" = some (some (.ref D5))) (d5 : PySem.W.hasDictIn K D5 = true) (t5 : PySem.W.typeIn K (.ref D5) = some (.type "type")) (s5 : PySem.W.subIn K (.ref C) (.ref D5) = some false) (n5 : (Value.ref C == Value.ref D5) = false)
    (g6 : PySem.W.nsIn K mainGlobals "NoSuchBatch" = some (some (.ref D6))) (d6 : PySem.W.hasDictIn K D6 = true) (t6 : PySem.W.typeIn K (.ref D6) = some (.type "type")) (s6 : PySem.W.subIn K (.ref C) (.ref D6) = some false) (n6 : (Value.ref C == Value.ref D6) = false)
    (gb : PySem.W.nsIn K mainGlobals "EndError" = some (some (.ref B))) (db : PySem.W.hasDictIn K B = true) (tb : PySem.W.typeIn K (.ref B) = some (.type "type")) (s1 : PySem.W.subIn K (.ref C) (.ref B) = some true) (nb : (Value.ref C == Value.ref B) = false) (sbb : PySem.W.subIn K (.ref B) (.type "BaseException") = some true)
    (sv : PySem.W.subIn K (.ref C) (.type "ValueError") = some true) : Errs K mg C B where
  u := ⟨PySem.W.mg_of X G g, ⟨_, _, _, F, ex⟩, kp, sb, ty⟩
  ex := ec
  u1 := kit_self
  c2 := ⟨D2, PySem.W.mg_of X G g2, kit_own d2 t2 s2 n2⟩
  c3 := ⟨D3, PySem.W.mg_of X G g3, kit_own d3 t3 s3 n3⟩
  c4 := ⟨D4, PySem.W.mg_of X G g4, kit_own d4 t4 s4 n4⟩
  c5 := ⟨D5, PySem.W.mg_of X G g5, kit_own d5 t5 s5 n5⟩
  c6 := ⟨D6, PySem.W.mg_of X G g6, kit_own d6 t6 s6 n6⟩
  b := PySem.W.mg_of X G gb
  b1 := kit_own db tb s1 nb
  bm := PySem.W.exm_ref sbb db tb s1
  ve := by
    unfold PySem.W.kitOne
    rw [if_neg (by simp)]
    unfold PySem.W.kitCls
    dsimp only
    rw [if_pos (by decide +kernel)]
    exact sv
end K02
end
open PySem PySem.W PyProof.Rows
set_option maxHeartbeats 0 in
theorem PySem.Challenge.cw_batchends_k02_strings_that_are_unreadabl_holds : PySem.Challenge.rw_batchends_k02_strings_that_are_unreadabl.Holds := by
  w_on; o_law; k_head; (case hw => w_witness2)
  k_fill
  refine L2.walk_of (l := PySem.Challenge.rw_batchends_k02_strings_that_are_unreadabl) (n := 63) (k := 8) (x := "script") (CX := fun _ => L2.CX0) (sp := fun w => K02.sp_law _) rfl (by decide) rfl ⟨rfl, by decide, by decide⟩ (fun w h Y => PySem.W.kIn_of Y) ?F (fun _ _ a ns hl _ hS => ⟨a, ns, rfl, hS, hl, fun _ => rfl⟩) (fun _ _ _ _ _ h => h)
  case F =>
    intro w mg fa h KX G hmg
    have d_is_sign : Tl.Dn (PySem.Challenge.cw_batchends_k02_strings_that_are_unreadabl_holds.heap_39 w.params) mg "is_sign" K02.s_is_sign ["character"] := by
      refine' Tl.dn_mk KX G ?a ?l ?c ?k ?b; (case a => k_is); (case l => k_is); (case c => k_is); (case k => k_is)
      case b => intro _ _ _ _ _ _ us hl; exact match us, hl with | [_], _ => rfl
    have d_has_only_signs : Tl.Dn (PySem.Challenge.cw_batchends_k02_strings_that_are_unreadabl_holds.heap_39 w.params) mg "has_only_signs" K02.s_has_only_signs ["string"] := by
      refine' Tl.dn_mk KX G ?a ?l ?c ?k ?b; (case a => k_is); (case l => k_is); (case c => k_is); (case k => k_is)
      case b => intro _ _ _ _ _ _ us hl; exact match us, hl with | [_], _ => rfl
    have d_may_be_prepared : Tl.Dn (PySem.Challenge.cw_batchends_k02_strings_that_are_unreadabl_holds.heap_39 w.params) mg "may_be_prepared" K02.s_may_be_prepared ["string"] := by
      refine' Tl.dn_mk KX G ?a ?l ?c ?k ?b; (case a => k_is); (case l => k_is); (case c => k_is); (case k => k_is)
      case b => intro _ _ _ _ _ _ us hl; exact match us, hl with | [_], _ => rfl
    have d_is_name : Tl.Dn (PySem.Challenge.cw_batchends_k02_strings_that_are_unreadabl_holds.heap_39 w.params) mg "is_name" K02.s_is_name ["string"] := by
      refine' Tl.dn_mk KX G ?a ?l ?c ?k ?b; (case a => k_is); (case l => k_is); (case c => k_is); (case k => k_is)
      case b => intro _ _ _ _ _ _ us hl; exact match us, hl with | [_], _ => rfl
    have d_is_text : Tl.Dn (PySem.Challenge.cw_batchends_k02_strings_that_are_unreadabl_holds.heap_39 w.params) mg "is_text" K02.s_is_text ["string"] := by
      refine' Tl.dn_mk KX G ?a ?l ?c ?k ?b; (case a => k_is); (case l => k_is); (case c => k_is); (case k => k_is)
      case b => intro _ _ _ _ _ _ us hl; exact match us, hl with | [_], _ => rfl
    have d_is_number : Tl.Dn (PySem.Challenge.cw_batchends_k02_strings_that_are_unreadabl_holds.heap_39 w.params) mg "is_number" K02.s_is_number ["number"] := by
      refine' Tl.dn_mk KX G ?a ?l ?c ?k ?b; (case a => k_is); (case l => k_is); (case c => k_is); (case k => k_is)
      case b => intro _ _ _ _ _ _ us hl; exact match us, hl with | [_], _ => rfl
    have d_parse_statement : Tl.Dn (PySem.Challenge.cw_batchends_k02_strings_that_are_unreadabl_holds.heap_39 w.params) mg "parse_statement" K02.s_parse_statement ["string"] := by
      refine' Tl.dn_mk KX G ?a ?l ?c ?k ?b; (case a => k_is); (case l => k_is); (case c => k_is); (case k => k_is)
      case b => intro _ _ _ _ _ _ us hl; exact match us, hl with | [_], _ => rfl
    have d_parameters : Tl.Dn (PySem.Challenge.cw_batchends_k02_strings_that_are_unreadabl_holds.heap_39 w.params) mg "parameters" K02.s_parameters ["parts"] := by
      refine' Tl.dn_mk KX G ?a ?l ?c ?k ?b; (case a => k_is); (case l => k_is); (case c => k_is); (case k => k_is)
      case b => intro _ _ _ _ _ _ us hl; exact match us, hl with | [_], _ => rfl
    have d_is_parameter : Tl.Dn (PySem.Challenge.cw_batchends_k02_strings_that_are_unreadabl_holds.heap_39 w.params) mg "is_parameter" K02.s_is_parameter ["part"] := by
      refine' Tl.dn_mk KX G ?a ?l ?c ?k ?b; (case a => k_is); (case l => k_is); (case c => k_is); (case k => k_is)
      case b => intro _ _ _ _ _ _ us hl; exact match us, hl with | [_], _ => rfl
    have d_split_pieces : Tl.Dn (PySem.Challenge.cw_batchends_k02_strings_that_are_unreadabl_holds.heap_39 w.params) mg "split_pieces" K02.s_split_pieces ["string"] := by
      refine' Tl.dn_mk KX G ?a ?l ?c ?k ?b; (case a => k_is); (case l => k_is); (case c => k_is); (case k => k_is)
      case b => intro _ _ _ _ _ _ us hl; exact match us, hl with | [_], _ => rfl
    have d_find_form : Tl.Dn (PySem.Challenge.cw_batchends_k02_strings_that_are_unreadabl_holds.heap_39 w.params) mg "find_form" K02.s_find_form ["word", "many"] := by
      refine' Tl.dn_mk KX G ?a ?l ?c ?k ?b; (case a => k_is); (case l => k_is); (case c => k_is); (case k => k_is)
      case b => intro _ _ _ _ _ _ us hl; exact match us, hl with | [_, _], _ => rfl
    have d_parse_part : Tl.Dn (PySem.Challenge.cw_batchends_k02_strings_that_are_unreadabl_holds.heap_39 w.params) mg "parse_part" K02.s_parse_part ["letter", "piece"] := by
      refine' Tl.dn_mk KX G ?a ?l ?c ?k ?b; (case a => k_is); (case l => k_is); (case c => k_is); (case k => k_is)
      case b => intro _ _ _ _ _ _ us hl; exact match us, hl with | [_, _], _ => rfl
    have d_parse_name : Tl.Dn (PySem.Challenge.cw_batchends_k02_strings_that_are_unreadabl_holds.heap_39 w.params) mg "parse_name" K02.s_parse_name ["piece"] := by
      refine' Tl.dn_mk KX G ?a ?l ?c ?k ?b; (case a => k_is); (case l => k_is); (case c => k_is); (case k => k_is)
      case b => intro _ _ _ _ _ _ us hl; exact match us, hl with | [_], _ => rfl
    have d_parse_text : Tl.Dn (PySem.Challenge.cw_batchends_k02_strings_that_are_unreadabl_holds.heap_39 w.params) mg "parse_text" K02.s_parse_text ["piece"] := by
      refine' Tl.dn_mk KX G ?a ?l ?c ?k ?b; (case a => k_is); (case l => k_is); (case c => k_is); (case k => k_is)
      case b => intro _ _ _ _ _ _ us hl; exact match us, hl with | [_], _ => rfl
    have d_parse_number : Tl.Dn (PySem.Challenge.cw_batchends_k02_strings_that_are_unreadabl_holds.heap_39 w.params) mg "parse_number" K02.s_parse_number ["piece"] := by
      refine' Tl.dn_mk KX G ?a ?l ?c ?k ?b; (case a => k_is); (case l => k_is); (case c => k_is); (case k => k_is)
      case b => intro _ _ _ _ _ _ us hl; exact match us, hl with | [_], _ => rfl
    have d_law_cell : Tl.Dn (PySem.Challenge.cw_batchends_k02_strings_that_are_unreadabl_holds.heap_39 w.params) mg "_law_cell" K02.s_law_cell ["script", "k"] := by
      refine' Tl.dn_mk KX G ?a ?l ?c ?k ?b; (case a => k_is); (case l => k_is); (case c => k_is); (case k => k_is)
      case b => intro _ _ _ _ _ _ us hl; exact match us, hl with | [_, _], _ => rfl
    have d_law_row : Tl.Dn (PySem.Challenge.cw_batchends_k02_strings_that_are_unreadabl_holds.heap_39 w.params) mg "_law_row" K02.s_law_row ["cell", "count"] := by
      refine' Tl.dn_mk KX G ?a ?l ?c ?k ?b; (case a => k_is); (case l => k_is); (case c => k_is); (case k => k_is)
      case b => intro _ _ _ _ _ _ us hl; exact match us, hl with | [_, _], _ => rfl
    have d_law_name : Tl.Dn (PySem.Challenge.cw_batchends_k02_strings_that_are_unreadabl_holds.heap_39 w.params) mg "_law_name" K02.s_law_name ["number"] := by
      refine' Tl.dn_mk KX G ?a ?l ?c ?k ?b; (case a => k_is); (case l => k_is); (case c => k_is); (case k => k_is)
      case b => intro _ _ _ _ _ _ us hl; exact match us, hl with | [_], _ => rfl
    have d_law_text : Tl.Dn (PySem.Challenge.cw_batchends_k02_strings_that_are_unreadabl_holds.heap_39 w.params) mg "_law_text" K02.s_law_text ["number"] := by
      refine' Tl.dn_mk KX G ?a ?l ?c ?k ?b; (case a => k_is); (case l => k_is); (case c => k_is); (case k => k_is)
      case b => intro _ _ _ _ _ _ us hl; exact match us, hl with | [_], _ => rfl
    have d_law_value : Tl.Dn (PySem.Challenge.cw_batchends_k02_strings_that_are_unreadabl_holds.heap_39 w.params) mg "_law_value" K02.s_law_value ["number"] := by
      refine' Tl.dn_mk KX G ?a ?l ?c ?k ?b; (case a => k_is); (case l => k_is); (case c => k_is); (case k => k_is)
      case b => intro _ _ _ _ _ _ us hl; exact match us, hl with | [_], _ => rfl
    have d_law_term : Tl.Dn (PySem.Challenge.cw_batchends_k02_strings_that_are_unreadabl_holds.heap_39 w.params) mg "_law_term" K02.s_law_term ["number", "used"] := by
      refine' Tl.dn_mk KX G ?a ?l ?c ?k ?b; (case a => k_is); (case l => k_is); (case c => k_is); (case k => k_is)
      case b => intro _ _ _ _ _ _ us hl; exact match us, hl with | [_, _], _ => rfl
    have d_law_used : Tl.Dn (PySem.Challenge.cw_batchends_k02_strings_that_are_unreadabl_holds.heap_39 w.params) mg "_law_used" K02.s_law_used ["parts"] := by
      refine' Tl.dn_mk KX G ?a ?l ?c ?k ?b; (case a => k_is); (case l => k_is); (case c => k_is); (case k => k_is)
      case b => intro _ _ _ _ _ _ us hl; exact match us, hl with | [_], _ => rfl
    have d_law_statement : Tl.Dn (PySem.Challenge.cw_batchends_k02_strings_that_are_unreadabl_holds.heap_39 w.params) mg "_law_statement" K02.s_law_statement ["row", "names"] := by
      refine' Tl.dn_mk KX G ?a ?l ?c ?k ?b; (case a => k_is); (case l => k_is); (case c => k_is); (case k => k_is)
      case b => intro _ _ _ _ _ _ us hl; exact match us, hl with | [_, _], _ => rfl
    have d_law_written : Tl.Dn (PySem.Challenge.cw_batchends_k02_strings_that_are_unreadabl_holds.heap_39 w.params) mg "_law_written" K02.s_law_written ["parts"] := by
      refine' Tl.dn_mk KX G ?a ?l ?c ?k ?b; (case a => k_is); (case l => k_is); (case c => k_is); (case k => k_is)
      case b => intro _ _ _ _ _ _ us hl; exact match us, hl with | [_], _ => rfl
    have d_law_is_name : Tl.Dn (PySem.Challenge.cw_batchends_k02_strings_that_are_unreadabl_holds.heap_39 w.params) mg "_law_is_name" K02.s_law_is_name ["word"] := by
      refine' Tl.dn_mk KX G ?a ?l ?c ?k ?b; (case a => k_is); (case l => k_is); (case c => k_is); (case k => k_is)
      case b => intro _ _ _ _ _ _ us hl; exact match us, hl with | [_], _ => rfl
    have d_law_number : Tl.Dn (PySem.Challenge.cw_batchends_k02_strings_that_are_unreadabl_holds.heap_39 w.params) mg "_law_number" K02.s_law_number ["word"] := by
      refine' Tl.dn_mk KX G ?a ?l ?c ?k ?b; (case a => k_is); (case l => k_is); (case c => k_is); (case k => k_is)
      case b => intro _ _ _ _ _ _ us hl; exact match us, hl with | [_], _ => rfl
    have d_law_pieces : Tl.Dn (PySem.Challenge.cw_batchends_k02_strings_that_are_unreadabl_holds.heap_39 w.params) mg "_law_pieces" K02.s_law_pieces ["string"] := by
      refine' Tl.dn_mk KX G ?a ?l ?c ?k ?b; (case a => k_is); (case l => k_is); (case c => k_is); (case k => k_is)
      case b => intro _ _ _ _ _ _ us hl; exact match us, hl with | [_], _ => rfl
    have d_law_read_term : Tl.Dn (PySem.Challenge.cw_batchends_k02_strings_that_are_unreadabl_holds.heap_39 w.params) mg "_law_read_term" K02.s_law_read_term ["piece"] := by
      refine' Tl.dn_mk KX G ?a ?l ?c ?k ?b; (case a => k_is); (case l => k_is); (case c => k_is); (case k => k_is)
      case b => intro _ _ _ _ _ _ us hl; exact match us, hl with | [_], _ => rfl
    have d_law_read : Tl.Dn (PySem.Challenge.cw_batchends_k02_strings_that_are_unreadabl_holds.heap_39 w.params) mg "_law_read" K02.s_law_read ["string"] := by
      refine' Tl.dn_mk KX G ?a ?l ?c ?k ?b; (case a => k_is); (case l => k_is); (case c => k_is); (case k => k_is)
      case b => intro _ _ _ _ _ _ us hl; exact match us, hl with | [_], _ => rfl
    have d_law_spoilt : Tl.Dn (PySem.Challenge.cw_batchends_k02_strings_that_are_unreadabl_holds.heap_39 w.params) mg "_law_spoilt" K02.s_law_spoilt ["string", "row"] := by
      refine' Tl.dn_mk KX G ?a ?l ?c ?k ?b; (case a => k_is); (case l => k_is); (case c => k_is); (case k => k_is)
      case b => intro _ _ _ _ _ _ us hl; exact match us, hl with | [_, _], _ => rfl
    have d_law_strange : Tl.Dn (PySem.Challenge.cw_batchends_k02_strings_that_are_unreadabl_holds.heap_39 w.params) mg "_law_strange" K02.s_law_strange ["number"] := by
      refine' Tl.dn_mk KX G ?a ?l ?c ?k ?b; (case a => k_is); (case l => k_is); (case c => k_is); (case k => k_is)
      case b => intro _ _ _ _ _ _ us hl; exact match us, hl with | [_], _ => rfl
    have d_law_kinds : Tl.Dn (PySem.Challenge.cw_batchends_k02_strings_that_are_unreadabl_holds.heap_39 w.params) mg "_law_kinds" K02.s_law_kinds ["e"] := by
      refine' Tl.dn_mk KX G ?a ?l ?c ?k ?b; (case a => k_is); (case l => k_is); (case c => k_is); (case k => k_is)
      case b => intro _ _ _ _ _ _ us hl; exact match us, hl with | [_], _ => rfl
    have d_law_told : Tl.Dn (PySem.Challenge.cw_batchends_k02_strings_that_are_unreadabl_holds.heap_39 w.params) mg "_law_told" K02.s_law_told ["string"] := by
      refine' Tl.dn_mk KX G ?a ?l ?c ?k ?b; (case a => k_is); (case l => k_is); (case c => k_is); (case k => k_is)
      case b => intro _ _ _ _ _ _ us hl; exact match us, hl with | [_], _ => rfl
    have d_law : Tl.Dn (PySem.Challenge.cw_batchends_k02_strings_that_are_unreadabl_holds.heap_39 w.params) mg "law" K02.s_law ["script"] := by
      refine' Tl.dn_mk KX G ?a ?l ?c ?k ?b; (case a => k_is); (case l => k_is); (case c => k_is); (case k => k_is)
      case b => intro _ _ _ _ _ _ us hl; exact match us, hl with | [_], _ => rfl
    have n_ValueError : mg "ValueError" = none := by
      refine' PySem.W.mg_none_of KX G ?z; (case z => k_is)
    have n_ord : mg "ord" = none := by
      refine' PySem.W.mg_none_of KX G ?z; (case z => k_is)
    have n_all : mg "all" = none := by
      refine' PySem.W.mg_none_of KX G ?z; (case z => k_is)
    have n_len : mg "len" = none := by
      refine' PySem.W.mg_none_of KX G ?z; (case z => k_is)
    have n_max : mg "max" = none := by
      refine' PySem.W.mg_none_of KX G ?z; (case z => k_is)
    have n_int : mg "int" = none := by
      refine' PySem.W.mg_none_of KX G ?z; (case z => k_is)
    have n_str : mg "str" = none := by
      refine' PySem.W.mg_none_of KX G ?z; (case z => k_is)
    have n_list : mg "list" = none := by
      refine' PySem.W.mg_none_of KX G ?z; (case z => k_is)
    have n_tuple : mg "tuple" = none := by
      refine' PySem.W.mg_none_of KX G ?z; (case z => k_is)
    have n_bool : mg "bool" = none := by
      refine' PySem.W.mg_none_of KX G ?z; (case z => k_is)
    have n_zip : mg "zip" = none := by
      refine' PySem.W.mg_none_of KX G ?z; (case z => k_is)
    have n_range : mg "range" = none := by
      refine' PySem.W.mg_none_of KX G ?z; (case z => k_is)
    have n_isinstance : mg "isinstance" = none := by
      refine' PySem.W.mg_none_of KX G ?z; (case z => k_is)
    have c_LETTERS : ∃ u, mg "LETTERS" = some u ∧ L2.RelV (.str "abcdefghijklmnopqrstuvwxyz") u := by
      refine' ⟨_, PySem.W.mg_of KX G ?z, ?r⟩; (case z => k_is); (case r => exact ⟨_, rfl⟩)
    have c_LONGEST_NAME : ∃ u, mg "LONGEST_NAME" = some u ∧ L2.RelV (.int 8) u := by
      refine' ⟨_, PySem.W.mg_of KX G ?z, ?r⟩; (case z => k_is); (case r => exact ⟨_, rfl⟩)
    have c_LONGEST_TEXT : ∃ u, mg "LONGEST_TEXT" = some u ∧ L2.RelV (.int 40) u := by
      refine' ⟨_, PySem.W.mg_of KX G ?z, ?r⟩; (case z => k_is); (case r => exact ⟨_, rfl⟩)
    have c_LEAST_NUMBER : ∃ u, mg "LEAST_NUMBER" = some u ∧ L2.RelV (.int (-2147483648)) u := by
      refine' ⟨_, PySem.W.mg_of KX G ?z, ?r⟩; (case z => k_is); (case r => exact ⟨_, rfl⟩)
    have c_GREATEST_NUMBER : ∃ u, mg "GREATEST_NUMBER" = some u ∧ L2.RelV (.int 2147483647) u := by
      refine' ⟨_, PySem.W.mg_of KX G ?z, ?r⟩; (case z => k_is); (case r => exact ⟨_, rfl⟩)
    have c_PERCENT : ∃ u, mg "PERCENT" = some u ∧ L2.RelV (.int 37) u := by
      refine' ⟨_, PySem.W.mg_of KX G ?z, ?r⟩; (case z => k_is); (case r => exact ⟨_, rfl⟩)
    have c_LONGEST_STRING : ∃ u, mg "LONGEST_STRING" = some u ∧ L2.RelV (.int 200) u := by
      refine' ⟨_, PySem.W.mg_of KX G ?z, ?r⟩; (case z => k_is); (case r => exact ⟨_, rfl⟩)
    have T := K02.Txt.mk d_is_sign d_has_only_signs d_may_be_prepared d_is_name d_is_text d_is_number d_parse_statement d_parameters d_is_parameter d_split_pieces d_find_form d_parse_part d_parse_name d_parse_text d_parse_number d_law_cell d_law_row d_law_name d_law_text d_law_value d_law_term d_law_used d_law_statement d_law_written d_law_is_name d_law_number d_law_pieces d_law_read_term d_law_read d_law_spoilt d_law_strange d_law_kinds d_law_told d_law n_ValueError n_ord n_all n_len n_max n_int n_str n_list n_tuple n_bool n_zip n_range n_isinstance c_LETTERS c_LONGEST_NAME c_LONGEST_TEXT c_LEAST_NUMBER c_GREATEST_NUMBER c_PERCENT c_LONGEST_STRING
    have B : K02.Tab (PySem.Challenge.cw_batchends_k02_strings_that_are_unreadabl_holds.heap_39 w.params) w mg := by
      refine' K02.tab_mk KX G ?gF ?low ?gP ?lP ?l ?l0 ?l1 ?l2 ?l3 ?l4 ?l5 ?l6 ?l7 ?l8 ?l9 ?l10 ?l11; (case gF => k_is); (case low => rfl); (case gP => k_is); (case lP => k_is); (case l => k_is); (case l0 => k_is); (case l1 => k_is); (case l2 => k_is); (case l3 => k_is); (case l4 => k_is); (case l5 => k_is); (case l6 => k_is); (case l7 => k_is); (case l8 => k_is); (case l9 => k_is); (case l10 => k_is); (case l11 => k_is)
    have U : ∃ C B, K02.Errs (PySem.Challenge.cw_batchends_k02_strings_that_are_unreadabl_holds.heap_39 w.params) mg C B := by
      refine' ⟨_, _, K02.errs_mk KX G PySem.F.excBase_ValueError ?g ?ex ?kp ?sb ?ty ⟨?a1, ?a2, ?a3, ?a4, ?a5, ?a6, ?a7, ?a8⟩ ?g2 ?d2 ?t2 ?s2 ?n2 ?g3 ?d3 ?t3 ?s3 ?n3 ?g4 ?d4 ?t4 ?s4 ?n4 ?g5 ?d5 ?t5 ?s5 ?n5 ?g6 ?d6 ?t6 ?s6 ?n6 ?gb ?db ?tb ?s1 ?nb ?sbb ?sv⟩
      (case g => k_is); (case ex => k_exc); (case kp => k_is); (case sb => k_is); (case ty => k_is); (case a1 => k_is); (case a2 => k_is); (case a3 => k_is); (case a4 => k_is); (case a5 => k_is); (case a6 => k_is); (case a7 => k_is); (case a8 => k_is)
      (case g2 => k_is); (case d2 => k_is); (case t2 => k_is); (case s2 => k_is); (case n2 => rfl); (case g3 => k_is); (case d3 => k_is); (case t3 => k_is); (case s3 => k_is); (case n3 => rfl); (case g4 => k_is); (case d4 => k_is); (case t4 => k_is); (case s4 => k_is); (case n4 => rfl)
      (case g5 => k_is); (case d5 => k_is); (case t5 => k_is); (case s5 => k_is); (case n5 => rfl); (case g6 => k_is); (case d6 => k_is); (case t6 => k_is); (case s6 => k_is); (case n6 => rfl); (case gb => k_is); (case db => k_is); (case tb => k_is); (case s1 => k_is); (case nb => rfl); (case sbb => k_is); (case sv => k_is)
    obtain ⟨C, B', U⟩ := U
    exact K02.end_mk T B U hmg
