import PyProof.Rows.All
import Wide.All
import OpenK.AllK
import Wide.FinOn
import HandS.ForMost
import HandS.ForExc
import HandS.Walk
import HandS.Codes
import HandS.IsInst
import HandS.Star
import HandS.StrMore
import HandS.RaiseMore
import HandS.FStr
import HandS.Small
import HandS.Deep
import HandS.SortKw
import HandS.ForDict
import KE.KUnpackStar
import KE.GoesZip
import KE.GoesMore
import PySem.Challenge.RW_batchends_k01_statements_read
set_option Elab.async false
set_option linter.all false
set_option maxRecDepth 100000
section
/-! tools of mine over the layer: a def by its name, pure comprehensions -/
namespace Tl
open PySem PySem.Spec PyProof.Rows L2
/-- the def x stands in the text as st -/
structure Dn (K : PySem.W.Frag) (mg : Str → Option Value) (x : Str) (st : Stmt) (ps : List Str) : Prop where
  ex : ∃ f fd, mg x = some (.ref f) ∧ Fun K x x st f fd ∧ Binds K fd ps []
theorem dn_mk {K : PySem.W.Frag} {h : Heap} {mg : Str → Option Value} {x : Str} {st : Stmt} {ps : List Str} {f : Addr} {oc : Value} {od an : Option Addr} {osl : Array (Option Value)} {kV doc pm cdv ct : Value} (X : K.In h) (G : h.Ns mainGlobals mg)
    (a : PySem.W.nsIn K mainGlobals x = some (some (.ref f))) (l : K.lookup f = some ⟨oc, od, .func (PySem.W.fnOf x x (defArgs st) (defBody st) (defScope st) .none kV doc pm an cdv ct), osl⟩)
    (c : PySem.W.codeIn K cdv x = true) (k : PySem.W.keepIn K (.ref f) = true)
    (b : ∀ (kV doc pm : Value) (an : Option Addr) (cdv ct : Value) (us : List Value), us.length = ps.length → bindArgs (PySem.W.fnOf x x (defArgs st) (defBody st) (defScope st) .none kV doc pm an cdv ct) ⟨us, []⟩ = pure (ps.zip us)) : Dn K mg x st ps := by
  have F := fun_mk l c k
  exact ⟨⟨_, _, PySem.W.mg_of X G a, F, F.binds b⟩⟩
/-- the promise of the def named x -/
structure Pr (P : Program) (w : World) (K : PySem.W.Frag) (mg : Str → Option Value) (base : Heap) (CX : CXT) (k : Nat) (x : Str) (ps : List Str) (sp : Sp) : Prop where
  ex : ∃ f fd, mg x = some (.ref f) ∧ PySem.W.keepIn K (.ref f) = true ∧ Binds K fd ps [] ∧ FnOk P w K mg base CX k f fd ps sp
section
variable {P : Program} {w : World} {K : PySem.W.Frag} {mg : Str → Option Value} {base : Heap}
/-- a def that lets no exception out -/
theorem pr0 {x : Str} {st : Stmt} {N ps : List Str} {k : Nat} {sp : Sp} (D : Dn K mg x st ps) (S : FnScope N ps (defScope st)) (len : ∀ vs H Q E, sp vs H Q E → vs.length = ps.length)
    (hbody : ∀ (f : Addr) (cdv : Value) (A : Around) (outer : List Env) (s : Shared) (H : Hp) (vs : List V) (Q : VK) (E : XK), Room k (A.deeper (envOfC x (defScope st) s.heap.objs.size f cdv)) → sp vs H Q E →
      ∃ t, PSs (cxOf CX0 P w K mg base N x (defScope st) f cdv A outer s H E).nox (defBody st) t ∧ t { nx := fun _ H' => Q .non H', rt := Q } (start N vs) H) : Pr P w K mg base CX0 (k + 1) x ps sp := by
  obtain ⟨f, fd, hm, F, b⟩ := D.ex
  exact ⟨f, fd, hm, F.kp, b, F.ok S len (hbody f)⟩
/-- a def that may raise -/
theorem prX {x : Str} {st : Stmt} {N ps : List Str} {k : Nat} {sp : Sp} (D : Dn K mg x st ps) (S : FnScope N ps (defScope st)) (len : ∀ vs H Q E, sp vs H Q E → vs.length = ps.length)
    (hbody : ∀ (f : Addr) (cdv : Value) (A : Around) (outer : List Env) (s : Shared) (H : Hp) (vs : List V) (Q : VK) (E : XK), Room k (A.deeper (envOfC x (defScope st) s.heap.objs.size f cdv)) → sp vs H Q E →
      ∃ t, PSs (cxOf (L2.CX P w) P w K mg base N x (defScope st) f cdv A outer s H E) (defBody st) t ∧ t { nx := fun _ H' => Q .non H', rt := Q } (start N vs) H) : Pr P w K mg base (L2.CX P w) (k + 1) x ps sp := by
  obtain ⟨f, fd, hm, F, b⟩ := D.ex
  exact ⟨f, fd, hm, F.kp, b, F.okX S len (hbody f)⟩
end
section
variable {X : Cx} {k j : Nat} {x : Str} {ps : List Str} {sp : Sp} {p pos : Pos} {e : Expr} {es : List Expr} {t : TA} {CX : CXT} {E : XK}
theorem pe_k (c : Pr X.prog X.w X.K X.mg X.base CX k x ps sp) (hr : Room j X.A) (hk : k ≤ j) (hx : Passes CX X E) (hg : Gl X x) (ha : PA X (e :: es) t)
    (hdb : (x == ("__debug__" : Str)) = false := by decide) (he : starEach (e :: es) X.env = (false, eval e X.env) :: starEach es X.env := by rfl) (hpl : (backTo pos (starEach es X.env)).any (·.1) = false := by rfl) :
    PE X (.Call (.Name x p) (e :: es) [] pos) (tCall sp [] E t) := by
  obtain ⟨f, fd, hm, kp, b, F⟩ := c.ex
  exact pe_call F (hr.mono hk) hg hm kp b .nil hx ha hdb he hpl
end
/-! ### heaps -/
theorem same_upd {H : Hp} {p : Addr} {o : HO} (h : H p = none) : Same H (upd H p o) := fun b x e => by
  rw [upd_ne (ne_of_none e h)]
  exact e
/-- what is new behind H1 may change: a store at an address that was free -/
theorem same_put {H H' : Hp} {p : Addr} {o : HO} (h : H p = none) (s : Same H H') : Same H (upd H' p o) := fun b x e => by
  rw [upd_ne (ne_of_none e h)]
  exact s b x e
theorem Same.tup {K : PySem.W.Frag} {H H' : Hp} {a : Addr} {xs : List V} (e : Same H H') (h : SqT K H a xs) : SqT K H' a xs := by
  rcases h with (h | ⟨o, h⟩) | h
  · exact .inl (.inl (e _ _ h))
  · exact .inl (.inr ⟨o, e _ _ h⟩)
  · exact .inr h
/-! ### a comprehension whose elements are flat values known before -/
theorem lc_acc {J : It} {n : Nat} {G : Hp → Prop} {Y : Nat → Hp → V → Hp → Prop} (w : Walk J n G Y) {g : TG} {tt : TT} {te : TE} {vs : List Nat} {σ : L2.St} {H1 : Hp} {Qd : Addr → Hp → Prop} (acc : Nat → List V) (h0 : acc 0 = [])
    (hz : ∀ i, i < n → (acc i).length < sizeLine) (hG : ∀ H, Same H1 H → G H)
    (hs : ∀ (i : Nat) (x : V) (H H' : Hp) (R : V → Hp → Prop) (Nn : Hp → Prop), i < n → Same H1 H → Y i H x H' → (∀ z H4, Same H H4 → acc (i + 1) = acc i ++ [z] → R z H4) → (∀ H4, Same H H4 → acc (i + 1) = acc i → Nn H4) →
      g x (wipe σ vs) H' fun σ2 H2 => wipe σ2 vs = wipe σ vs ∧ tt σ2 H2 fun b H3 => if b = true then te σ2 H3 R else Nn H3)
    (hd : ∀ H D, Same H1 H → H1 D = none → H D = some (.lst (acc n)) → Qd D H) :
    ∀ D, H1 D = none → ∃ W : Nat → Nat → Hp → Prop, (∃ m, W 0 m (upd H1 D (.lst []))) ∧ ∀ i m H, W i m H →
      (J.stop i H ∧ Qd D H) ∨ (J.go i H ∧ ∃ Nx : Hp → Prop, (∀ H', Nx H' → ∃ m', m' < m ∧ W (i + 1) m' H') ∧ ∀ x H', J.yld i H x H' → g x (wipe σ vs) H' fun σ2 H2 => wipe σ2 vs = wipe σ vs ∧ tt σ2 H2 fun b H3 =>
        if b = true then te σ2 H3 fun y H4 => ∃ acc, H4 D = some (.lst acc) ∧ acc.length < sizeLine ∧ Nx (upd H4 D (.lst (acc ++ [y]))) else Nx H3) := by
  intro D hD
  refine lc_it (Qd := fun H => Qd D H) w (fun i H => Same H1 H ∧ H D = some (.lst (acc i))) ⟨same_upd hD, by rw [h0]; exact upd_same⟩ (fun i H _ h => hG H h.1) ?_ (fun H h => hd H D h.1 hD h.2)
  intro i x H H' hi hP hY
  obtain ⟨sm, eD⟩ := hP
  refine hs i x H H' _ _ hi sm hY (fun z H4 s4 e => ?_) (fun H4 s4 e => ?_)
  · exact ⟨acc i, s4 _ _ eD, hz i hi, same_put hD (sm.trans s4), by rw [upd_same, e]⟩
  · exact ⟨sm.trans s4, by rw [e]; exact s4 _ _ eD⟩
theorem take_next {α : Type} {l : List α} {i : Nat} {x : α} (h : l[i]? = some x) : l.take (i + 1) = l.take i ++ [x] := by
  rw [List.take_add_one, h]; rfl
/-- .. without a condition, the elements known before -/
theorem lc_pure {J : It} {n : Nat} {G : Hp → Prop} {Y : Nat → Hp → V → Hp → Prop} (w : Walk J n G Y) {g : TG} {te : TE} {vs : List Nat} {σ : L2.St} {H1 : Hp} {Qd : Addr → Hp → Prop} (ys : List V) (hn : ys.length = n)
    (hz : n ≤ sizeLine) (hG : ∀ H, Same H1 H → G H)
    (hs : ∀ (i : Nat) (x : V) (H H' : Hp) (y : V) (R : V → Hp → Prop), i < n → ys[i]? = some y → Same H1 H → Y i H x H' → (∀ H4, Same H H4 → R y H4) →
      g x (wipe σ vs) H' fun σ2 H2 => wipe σ2 vs = wipe σ vs ∧ te σ2 H2 R)
    (hd : ∀ H D, Same H1 H → H1 D = none → H D = some (.lst ys) → Qd D H) :
    ∀ D, H1 D = none → ∃ W : Nat → Nat → Hp → Prop, (∃ m, W 0 m (upd H1 D (.lst []))) ∧ ∀ i m H, W i m H →
      (J.stop i H ∧ Qd D H) ∨ (J.go i H ∧ ∃ Nx : Hp → Prop, (∀ H', Nx H' → ∃ m', m' < m ∧ W (i + 1) m' H') ∧ ∀ x H', J.yld i H x H' → g x (wipe σ vs) H' fun σ2 H2 => wipe σ2 vs = wipe σ vs ∧ tYes σ2 H2 fun b H3 =>
        if b = true then te σ2 H3 fun y H4 => ∃ acc, H4 D = some (.lst acc) ∧ acc.length < sizeLine ∧ Nx (upd H4 D (.lst (acc ++ [y]))) else Nx H3) := by
  refine lc_acc w (fun i => ys.take i) (by simp) (fun i hi => ?_) hG ?_ (fun H D sm f h => hd H D sm f (by rw [h, List.take_of_length_le (by omega)]))
  · rw [List.length_take]; omega
  · intro i x H H' R Nn hi sm hY kR kN
    have g1 : ys[i]? = some ys[i] := List.getElem?_eq_getElem (by omega)
    exact hs i x H H' ys[i] R hi g1 sm hY fun H4 s4 => kR _ H4 s4 (take_next g1)
end Tl
end
section
namespace Tl
open PySem PySem.Spec PyProof.Rows L2
/-- (x, *rest) = a list of one or more: rest is a new list -/
def gStarOne (K : PySem.W.Frag) (t : TGs) : TG := fun v σ H Q => ∃ (a : Addr) (x : V) (xs : List V), v = .ref a ∧ SqL K H a (x :: xs) ∧ xs.length ≤ 10000 ∧ ∀ p, H p = none → t [x, .ref p] σ (upd H p (.lst xs)) Q
section
variable {X : Cx} {pos : Pos}
theorem pg_starOne {es : List Expr} {kk : Nat} {t : TGs} (quiet : X.calm = true) (hes : PGs X es t)
    (two : (assignEach es X.env).length = 2 := by rfl) (second : (assignEach es X.env).findIdx? (·.1) = some 1 := by rfl) : PG X (.Tuple es kk pos) (gStarOne X.K t) := by
  constructor
  intro pins s σ H v u Q I r want
  obtain ⟨a, x, xs, ev, seq, small, want⟩ := want
  subst ev
  cases r
  obtain ⟨vals, rel, place, _⟩ := I.list seq
  have isl : s.heap.IsList a vals.toArray := by
    obtain ⟨ob, m, e1, e2, e3, e4⟩ := place
    exact ⟨ob, e1, e2, m, e4⟩
  cases rel with
  | @cons _ y _ ys rel0 rels =>
  have lens : xs.length = ys.length := rels.length
  have apart : a ≠ s.heap.objs.size := by
    obtain ⟨ob, ho, _⟩ := isl
    exact Nat.ne_of_lt (Heap.lt_size ho)
  rw [PyProof.Rows.assign_Tuple]
  refine wpAny_bind (wpAny_standAt ?_)
  unfold unpack
  rw [two, second]
  refine wpAny_bind (wpAny_holding ?_)
  unfold unpackItems notIterableAtAll
  refine wpAny_bind (wpAny_bind (wpAny_specialOf isl.typeIs slot_list_iter.lookup (wpAny_pure ?_)))
  simp only [Bool.false_eq_true, if_false]
  refine wpAny_bind (wpAny_holding (wpAny_pyIter_list isl ?_))
  have isl0 := isl.push { cls := .type "list_iterator", data := .fields #[.ref a, .int 0 0] }
  refine wpAny_bind (wpAny_holding (PySem.W.kun_draw apart 1 0 _ _ ⟨_, Heap.get?_push_size _ rfl, rfl, rfl⟩ isl0 (by simp) fun h1 it1 same1 => ?_))
  have isl1 : h1.IsList a (y :: ys).toArray := isl0.extBut same1.extBut apart
  have hh : X.A.handled = none := I.ok.hd quiet
  obtain ⟨oi, hoi, _⟩ := id it1
  obtain ⟨ol, hol, _⟩ := id isl1
  have e1 : List.take 1 (List.drop 0 (y :: ys).toArray.toList) = [y] := rfl
  rw [e1, if_neg (show ¬ [y].length < 1 from Nat.lt_irrefl 1)]
  refine wpAny_bind (wpAny_holding (PySem.W.kun_collect (s := { s with heap := h1 }) (T := "list_iterator") (.inr (.inr (.inl rfl))) (Walks.list (A := X.A.in1) hh s.heap.objs.size a apart (y :: ys).toArray) (fun j u st => st.1.typeIs) (k := 1) (by simp) ⟨it1, isl1⟩ (Heap.lt_size hoi) (Heap.lt_size hol) (fun h2 tk keep2 => ?_) (by rw [sizeLine_eq]; simp; omega)))
  have e2 : (y :: ys).toArray.toList.drop 1 = ys := rfl
  rw [e2]
  simp only [Nat.sub_self, Nat.not_lt_zero, if_false, Nat.sub_zero, List.take_length, List.drop_length, Nat.reduceSub]
  refine wpAny_bind (PySem.wpAny_newList ?_ ?_)
  · have old : ∀ b u, s.heap.get? b = some u → h2.get? b = some u := fun b u e =>
      keep2 b u (Nat.ne_of_lt (Heap.lt_size e)) (same1.extBut b u (Nat.ne_of_lt (Heap.lt_size e)) (Heap.get?_push_of_some _ e))
    have I2 : L2.Inv X pins σ H ⟨h2, s.gens, s.drawn, tk, s.os⟩ := I.kept (h' := h2) (t' := tk) old
    have hf : H h2.objs.size = none := I2.hok.fresh (Nat.le_refl _)
    have I3 : L2.Inv X pins σ (upd H h2.objs.size (.lst xs)) ⟨h2.push { cls := .type "list", data := .seq ys.toArray }, s.gens, s.drawn, tk, s.os⟩ :=
      I2.laid (t' := tk) (fun b u e => Heap.get?_push_of_some _ e) (Nat.le_refl _) ⟨by rw [sizeLine_eq]; omega, ys, 0, rels, Heap.get?_push_size _ rfl⟩
    exact wpAny_pure (hes.run pins _ σ _ [x, .ref h2.objs.size] _ Q I3 (.cons rel0 (.cons rfl .nil)) (want _ hf))
  · rw [sizeLine_eq]; omega
end
end Tl
end
section
/-! max(list of ints, default=d) -/
namespace Tl
open PySem PySem.Spec PyProof.Rows L2
def biggest (m : Int) (ns : List Int) : Int := ns.foldl (fun a b => if b > a then b else a) m
def bestKw (d : Value) : List (Str × Value) := [(Str.ofString "default", d)]
theorem args_maxD (a d : Value) : argsOk "max" ⟨[a], bestKw d⟩ := by unfold argsOk bestKw; kernel_rfl
theorem maxLoopName : (toString "max" ++ toString ".loop" : String) = "max.loop" := by decide
theorem gt_ints {prog : Program} {w : World} {A : Around} {E : Value → Shared → Prop} {s : Shared} {a b : Int} {t u : Tok} {Q : Value → Shared → Prop} (h : Q (.bool (decide (a > b))) s) : wpAny (model prog w) A (richCompare .Gt (.int a t) (.int b u)) Q E s :=
  CmpOf.ints_gt (P := fun i v => if i = 0 then v = .int a t else v = .int b u) (fun i => if i = 0 then a else b) (fun i v hv => by by_cases z : i = 0 <;> simp only [z, if_true, if_false] at hv ⊢ <;> exact ⟨_, hv⟩) 0 1 _ _ s Q E rfl rfl h
section
variable {prog : Program} {w : World} {A : Around} {R : Result → Shared → Prop} {I : Addr} {fp wr : List Addr} {St : Nat → Heap → Prop} {d : Value} {its : List Value} {ns : List Int}
theorem maxD_turns (W : Walks prog w A.in1 I fp wr its.length (fun i v => its[i]? = some v) St) (hi : Vals (ns.map V.int) its) (S : Addr) (off : S ∉ fp) : ∀ (left j : Nat) (s : Shared) (m : Int) (t : Tok) (c : Nat),
    its.length - j = left → j ≤ its.length → St j s.heap → s.heap.get? S = some { cls := .type "list", dict := none, data := .seq #[.int m t, .int m t] c, slots := #[] } →
    (∀ t' h' tk, (∀ b o, b ∉ wr → b ≠ S → s.heap.get? b = some o → h'.get? b = some o) → R (.ok (.ret (.int (biggest m (ns.drop j)) t'))) { s with heap := h', toks := tk }) →
    codeAny (model prog w) A (.builtin "max.loop" ⟨[.ref I, .none, .ref S], bestKw d⟩) R s := by
  have off2 : S ∉ wr := fun z => off (W.sub _ z)
  have len : ns.length = its.length := by have := hi.length; rwa [List.length_map] at this
  intro left
  induction left with
  | zero =>
    intro j s m t c e1 e2 st at1 fin
    have e3 : j = its.length := by omega
    subst e3
    refine codeAny_builtin F.entry_max_loop ?_
    rw [Around.under_plainId F.plain_max_loop _]; show wpAny (model prog w) A.in1 (seqItems? (.ref S) >>= _) _ _ s; refine wpAny_bind (wpAny_seqItems at1 rfl ?_)
    show wpAny (model prog w) A.in1 (tryCatch (pyNext (.ref I)) _ >>= _) _ _ s
    refine wpAny_bind (wpAny_tryCatch (W.done s _ _ st fun h' tk keep => ?_))
    have at2 := keep S _ off2 at1
    show wpAny (model prog w) A.in1 (updateSeq S (fun _ => #[]) >>= _) _ _ _
    refine wpAny_bind (wpAny_updateSeq at2 rfl (wpAny_bind (wpAny_letGo (wpAny_pure ?_))))
    have e4 : ns.drop its.length = [] := List.drop_eq_nil_of_le (by omega)
    rw [e4] at fin
    exact fin t _ tk fun b o hw hS e => (Heap.get?_update_other _ _ (Ne.symm hS)).trans (keep b o hw e)
  | succ left ih =>
    intro j s m t c e1 e2 st at1 fin
    have lt : j < its.length := by omega
    refine codeAny_builtin F.entry_max_loop ?_
    rw [Around.under_plainId F.plain_max_loop _]; show wpAny (model prog w) A.in1 (seqItems? (.ref S) >>= _) _ _ s; refine wpAny_bind (wpAny_seqItems at1 rfl ?_)
    show wpAny (model prog w) A.in1 (tryCatch (pyNext (.ref I)) _ >>= _) _ _ s
    refine wpAny_bind (wpAny_tryCatch (W.item j s _ _ lt st fun v h' tk gv st' keep => ?_))
    have at2 := keep S _ off2 at1
    have gn : ns[j]? = some ns[j] := List.getElem?_eq_getElem (by omega)
    obtain ⟨v', gv', t1, rfl⟩ := hi.get (i := j) (x := .int ns[j]) (by rw [List.getElem?_map, gn]; rfl)
    have ev : v = .int ns[j] t1 := Option.some.inj (gv.symm.trans gv')
    subst ev
    have e4 : ns.drop j = ns[j] :: ns.drop (j + 1) := List.drop_eq_getElem_cons (by omega)
    rw [e4] at fin
    show wpAny (model prog w) A.in1 (tryCatch (holding [_, _] (richCompare .Gt _ (.int m t) >>= _)) _ >>= _) _ _ _
    refine wpAny_bind (wpAny_tryCatch (wpAny_holding (wpAny_bind ?cmp)))
    case cmp =>
      refine gt_ints ?_
      refine wpAny_bind (wpAny_holding (wpAny_truthy_bool (wpAny_bind (wpAny_letGo (wpAny_pure ?_)))))
      by_cases bt : ns[j] > m
      · rw [decide_eq_true bt]
        simp only [if_true]
        refine wpAny_bind (wpAny_updateSeq at2 rfl (wpAny_bind (wpAny_letGo ?_)))
        rw [maxLoopName]
        refine wpAny_pure ⟨plainId_quiet F.plain_max_loop _, ih (j + 1) _ ns[j] t1 _ (by omega) lt (W.frame _ _ _ st' fun b hb o e => (Heap.get?_update_other _ _ (fun z : S = b => off (by rw [z]; exact hb))).trans e) (Heap.get?_update_self _ at2 rfl) fun t' h2 tk2 keep2 => ?_⟩
        rw [show biggest m (ns[j] :: ns.drop (j + 1)) = biggest ns[j] (ns.drop (j + 1)) by unfold biggest; rw [List.foldl_cons, if_pos bt]] at fin
        exact fin t' h2 tk2 fun b o hw hS e => keep2 b o hw hS ((Heap.get?_update_other _ _ (Ne.symm hS)).trans (keep b o hw e))
      · rw [decide_eq_false bt]
        simp only [Bool.false_eq_true, if_false]
        refine wpAny_bind (wpAny_letGo ?_)
        rw [maxLoopName]
        refine wpAny_pure ⟨plainId_quiet F.plain_max_loop _, ih (j + 1) _ m t c (by omega) lt st' at2 fun t' h2 tk2 keep2 => ?_⟩
        rw [show biggest m (ns[j] :: ns.drop (j + 1)) = biggest m (ns.drop (j + 1)) by unfold biggest; rw [List.foldl_cons, if_neg bt]] at fin
        exact fin t' h2 tk2 fun b o hw hS e => keep2 b o hw hS (keep b o hw e)
/-- the whole loop: it begins with an empty list of the best -/
theorem maxD_first (W : Walks prog w A.in1 I fp wr its.length (fun i v => its[i]? = some v) St) (hi : Vals (ns.map V.int) its) (S : Addr) (off : S ∉ fp) {s : Shared} {c : Nat} (st : St 0 s.heap) (at1 : s.heap.get? S = some { cls := .type "list", dict := none, data := .seq #[] c, slots := #[] })
    (none' : ns = [] → ∀ h' tk, (∀ b o, b ∉ wr → b ≠ S → s.heap.get? b = some o → h'.get? b = some o) → R (.ok (.ret d)) { s with heap := h', toks := tk })
    (some' : ∀ m r, ns = m :: r → ∀ t' h' tk, (∀ b o, b ∉ wr → b ≠ S → s.heap.get? b = some o → h'.get? b = some o) → R (.ok (.ret (.int (biggest m r) t'))) { s with heap := h', toks := tk }) :
    codeAny (model prog w) A (.builtin "max.loop" ⟨[.ref I, .none, .ref S], bestKw d⟩) R s := by
  have off2 : S ∉ wr := fun z => off (W.sub _ z)
  have len : ns.length = its.length := by have := hi.length; rwa [List.length_map] at this
  refine codeAny_builtin F.entry_max_loop ?_
  rw [Around.under_plainId F.plain_max_loop _]; show wpAny (model prog w) A.in1 (seqItems? (.ref S) >>= _) _ _ s; refine wpAny_bind (wpAny_seqItems at1 rfl ?_)
  show wpAny (model prog w) A.in1 (tryCatch (pyNext (.ref I)) _ >>= _) _ _ s
  cases ns with
  | nil =>
    have e0 : its.length = 0 := len.symm
    refine wpAny_bind (wpAny_tryCatch (W.done s _ _ (by rw [e0]; exact st) fun h' tk keep => ?_))
    show wpAny (model prog w) A.in1 (rule _ >>= fun _ => ret d) _ _ _
    exact wpAny_bind (wpAny_rule (wpAny_pure (none' rfl h' tk fun b o hw _ e => keep b o hw e)))
  | cons m r =>
    have lt : 0 < its.length := by rw [← len]; exact Nat.succ_pos _
    refine wpAny_bind (wpAny_tryCatch (W.item 0 s _ _ lt st fun v h' tk gv st' keep => ?_))
    obtain ⟨v', gv', t1, rfl⟩ := hi.get (i := 0) (x := .int m) rfl
    have ev : v = .int m t1 := Option.some.inj (gv.symm.trans gv')
    subst ev
    have at2 := keep S _ off2 at1
    show wpAny (model prog w) A.in1 (updateSeq S (fun _ => #[Value.int m t1, Value.int m t1]) >>= _) _ _ _
    refine wpAny_bind (wpAny_updateSeq at2 rfl ?_)
    rw [maxLoopName]
    refine wpAny_pure ⟨plainId_quiet F.plain_max_loop _, maxD_turns W hi S off _ 1 _ m t1 _ rfl lt (W.frame _ _ _ st' fun b hb o e => (Heap.get?_update_other _ _ (fun z : S = b => off (by rw [z]; exact hb))).trans e) (Heap.get?_update_self _ at2 rfl) fun t' h2 tk2 keep2 => ?_⟩
    exact some' m r rfl t' h2 tk2 fun b o hw hS e => keep2 b o hw hS ((Heap.get?_update_other _ _ (Ne.symm hS)).trans (keep b o hw e))
end
/-- max(a list of ints, default=d): an int -/
def rMaxD (K : PySem.W.Frag) : List V → List V → Hp → VK → Prop := fun vs zs H Q => ∃ (a : Addr) (ns : List Int) (d : Int), vs = [V.ref a] ∧ zs = [.int d] ∧ SqL K H a (ns.map V.int) ∧
  Q (.int (match ns with | [] => d | m :: r => biggest m r)) H
theorem cr_maxD {X : Cx} (hc : X.calm = true) : CallRK X (.builtin "max") [Str.ofString "default"] (rMaxD X.K) := by
  intro pins s σ H vs zs us ws Q I r rz h
  obtain ⟨a, ns, d, rfl, rfl, hs, q⟩ := h
  obtain ⟨its, rv, place, _⟩ := I.list hs
  rw [Vals.ref1 r]
  cases rz with
  | cons rd rn =>
  cases rn
  obtain ⟨td, rfl⟩ := rd
  have isl : s.heap.IsList a its.toArray := by
    obtain ⟨ob, m, e1, e2, e3, e4⟩ := place
    exact ⟨ob, e1, e2, m, e4⟩
  have apart : a ≠ s.heap.objs.size := by
    obtain ⟨ob, ho, _⟩ := isl
    exact Nat.ne_of_lt (Heap.lt_size ho)
  have small : a < s.heap.objs.size := by
    obtain ⟨ob, ho, _⟩ := isl
    exact Heap.lt_size ho
  refine kmk_tree F.kind_max F.plain_max F.entry_max (args_maxD _ _) ?_
  show wpAny _ X.A.in1 (Builtin.Builtins.bindParams "max" ["key", "default"] 0 ⟨[], bestKw (.int d td)⟩ >>= _) _ _ s
  refine wpAny_bind (wpAny_of_eq (show Builtin.Builtins.bindParams "max" ["key", "default"] 0 ⟨[], bestKw (.int d td)⟩ = pure [none, some (.int d td)] from rfl) (wpAny_bind (wpAny_pure ?_)))
  refine wpAny_bind (wpAny_pyIter_list isl (wpAny_bind (wpAny_newObj_type ?_)))
  rw [maxLoopName]
  have W : Walks X.prog X.w X.A.in1 s.heap.objs.size [s.heap.objs.size, a] [s.heap.objs.size] its.length (fun i v => its[i]? = some v) (fun i h => h.IsListIter s.heap.objs.size a i ∧ h.IsList a its.toArray) := by
    simpa using Walks.list (prog := X.prog) (w := X.w) (A := X.A.in1) (I.ok.hd hc) s.heap.objs.size a apart its.toArray
  have z1 : (s.heap.push { cls := .type "list_iterator", data := .fields #[.ref a, .int 0 0] }).objs.size = s.heap.objs.size + 1 := Heap.size_push ..
  have off : (s.heap.push { cls := .type "list_iterator", data := .fields #[.ref a, .int 0 0] }).objs.size ∉ [s.heap.objs.size, a] := by
    rw [z1]; simp only [List.mem_cons, List.not_mem_nil, or_false, not_or]; exact ⟨Nat.succ_ne_self _, (Nat.ne_of_lt (Nat.lt_succ_of_lt small)).symm⟩
  have done : ∀ (z : Int) (t' : Tok) (h' : Heap) (tk : Nat), Q (.int z) H → (∀ b o, b ∉ [s.heap.objs.size] → b ≠ (s.heap.push { cls := .type "list_iterator", data := .fields #[.ref a, .int 0 0] }).objs.size →
      ((s.heap.push { cls := .type "list_iterator", data := .fields #[.ref a, .int 0 0] }).push { cls := .type "list", data := .seq #[] }).get? b = some o → h'.get? b = some o) → EP X pins σ Q (.int z t') ⟨h', s.gens, s.drawn, tk, s.os⟩ := fun z t' h' tk q keep => by
    refine ⟨.int z, H, I.kept (h' := h') (t' := tk) fun b o e => keep b o ?_ ?_ (Heap.get?_push_of_some _ (Heap.get?_push_of_some _ e)), ⟨_, rfl⟩, q⟩
    · simp only [List.mem_cons, List.not_mem_nil, or_false]; exact Nat.ne_of_lt (Heap.lt_size e)
    · rw [z1]; exact Nat.ne_of_lt (Nat.lt_succ_of_lt (Heap.lt_size e))
  refine wpAny_pure ⟨plainId_quiet F.plain_max_loop _, maxD_first (d := .int d td) W rv _ off ⟨⟨_, Heap.get?_push_of_some _ (Heap.get?_push_size _ rfl), rfl, rfl⟩, (isl.push _).push _⟩ (Heap.get?_push_size _ rfl) (fun e h' tk keep => ?_) (fun m r e t' h' tk keep => ?_)⟩
  · subst e; exact done d td h' tk q keep
  · subst e; exact done (biggest m r) t' h' tk q keep
end Tl
end
section
namespace Tl
open PySem PySem.Spec PyProof.Rows L2
section
variable {X : Cx} {pos : Pos}
/-- a starred target among several -/
theorem pgs_star {e : Expr} {p : Pos} {es : List Expr} {t : TG} {u : TGs} (h1 : PG X e t) (h2 : PGs X es u)
    (hs : (assignEach (.Starred e p :: es) X.env).map (·.2) = assign e X.env :: (assignEach es X.env).map (·.2) := by rfl) : PGs X (.Starred e p :: es) (gCons t u) := by
  constructor
  intro pins s σ H vs us Q I r h
  obtain ⟨v, vr, rfl, h⟩ := h
  cases r with
  | cons r rr =>
    rw [hs]
    exact assignInOrder_cons (thn (h1.run pins s σ H _ _ _ I r h) fun _ s1 ⟨σ1, H1, I1, q1⟩ => h2.run pins s1 σ1 H1 _ _ Q I1 rr q1)
/-- x not in (a tuple), by depth -/
def rNotInT (K : PySem.W.Frag) : R2 := fun x y H Q => ∃ d ds, Dp K H x d ∧ Dp K H y (.tuple ds) ∧ SeqAt.shaped d = true ∧ SeqAt.shaped (.tuple ds) = true ∧ Q (.bl (!ds.any fun z => PyData.eqv z d)) H
theorem op_notInT (hu : X.A.units + 65 < cLine) : OpR X (compareOp .NotIn) (rNotInT X.K) := by
  intro pins s σ H x y v u Q I rx ry h
  obtain ⟨d, ds, hd, he, sd, se, q⟩ := h
  obtain ⟨as, r1⟩ := Dp.reads I d x v hd rx
  obtain ⟨bs, r2⟩ := Dp.reads I (.tuple ds) y u he ry
  exact SeqAt.notIn_tuple_reads r2 r1 (SeqAt.canLay_of_shaped se) (SeqAt.canLay_of_shaped sd) (room_in_shaped sd hu) ⟨.bl _, H, I, rfl, q⟩
/-- D.get(k, x), D a dict of the module with text keys -/
def tKGet2 (d : Addr) (es : Array DictEntry) (td ty tx : TE) : TE := fun σ H Q => td σ H fun x H1 => x = .ref d ∧ ty σ H1 fun y H2 => tx σ H2 fun z H3 => ∃ k : Str, y = .str k ∧
  (∀ u0, findBy Value.isStrOf es k = some u0 → ∃ v0, RelV v0 u0 ∧ Q v0 H3) ∧ (findBy Value.isStrOf es k = none → Q z H3)
theorem pe_kget2 {o e f : Expr} {td ty tx : TE} {d : Addr} {es : Array DictEntry} {n : Nat} {apos cpos : Pos} (D : KDict X.K X.w d es n) (ho : PE X o td) (he : PE X e ty) (hf : PE X f tx) (m : M2 X o "get" apos e f cpos) :
    PE X (.Call (.Attribute o "get" apos) [e, f] [] cpos) (tKGet2 d es td ty tx) := by
  constructor
  intro pins s σ H Q I h
  refine wpAny_Call_method m.base m.few m.line PySem.F.plainAttrs_dict PySem.F.slot_dict_get PySem.F.type_dict_get (thn (ho.run pins s σ H _ I h) fun u s1 hh => ?_)
  obtain ⟨x, H1, I1, rx, ex, q1⟩ := hh
  subst ex
  obtain rfl : u = Value.ref d := rx
  have map1 := PySem.W.mapOf_K (prog := X.prog) (w := X.w) I1.kIn D.at_ D.lit
  refine ⟨map1.typeIs, fun b q => ?_, ?_⟩
  · cases q; exact ⟨_, I1.kIn _ _ D.at_, rfl⟩
  rw [m.trees]
  refine Calls.callWith_builtin rfl (Calls.evalArgs_plain (Calls.spliced_cons (thn (he.run pins s1 σ H1 _ I1 q1) fun iv s2 hh2 => ?_)))
  obtain ⟨y, H2, I2, ry, q2⟩ := hh2
  refine Calls.spliced_cons (thn (hf.run pins s2 σ H2 _ I2 q2) fun fv s3 hh3 => Calls.spliced_nil ?_)
  obtain ⟨z, H3, I3, rz, k, rfl, there, miss⟩ := hh3
  obtain ⟨t, rfl⟩ := ry
  have map3 := PySem.W.mapOf_K (prog := X.prog) (w := X.w) I3.kIn D.at_ D.lit
  refine call_meetsIn PySem.F.slot_dict_get map3.typeIs PySem.F.entry_dict_get (PySem.F.args_dict_get_3 _ _ _) (meets_dict_get_default (strKind X.prog X.w) d (strKind_is X.prog X.w k t) D.low fv) ⟨_, map3, ?_⟩
  cases e0 : findBy Value.isStrOf es k with
  | some u0 =>
    obtain ⟨v0, r0, q⟩ := there u0 e0
    exact ⟨v0, H3, I3.tok _, r0, q⟩
  | none => exact ⟨z, H3, I3.tok _, rz, miss e0⟩
/-- xs[-1], for xs[-1] op= e -/
def rGetLast (K : PySem.W.Frag) : V → V → Hp → VK → Prop := fun o i H Q => ∃ p xs x, o = .ref p ∧ i = .int (-1) ∧ SqL K H p (xs ++ [x]) ∧ Q x H
theorem get_last : PGet X (rGetLast X.K) := by
  intro pins s σ H o i ov iv Q I ro ri h
  obtain ⟨p, xs, x, rfl, rfl, sq, q⟩ := h
  cases ro
  obtain ⟨t, rfl⟩ := ri
  obtain ⟨its, rv, pl, hz⟩ := I.list sq
  have len := rv.length
  rw [List.length_append, List.length_singleton] at len
  obtain ⟨u, gu, ru⟩ := rv.get (i := xs.length) (x := x) (by simp)
  have e : ((-1 : Int) + (its.toArray.size : Int)).toNat = xs.length := by rw [List.size_toArray]; omega
  exact wpAny_getItem_list_neg pl.isList (by decide) (by rw [List.size_toArray]; omega) (by decide) (by rw [e]; simpa using gu) ⟨x, H, I, ru, q⟩
theorem ip_of {op : Operator} {r : R2} (h : OpR X (inplaceOp op) r) : PIp X op r := fun pins s σ H x y v u Q I rx ry q => h pins s σ H x y v u Q I rx ry q
theorem ixN_last (n : Nat) : ixN (n + 1) (-1) = some n := by
  unfold ixN
  rw [if_neg (by decide), if_pos (by omega)]
  congr 1
  omega
end
end Tl
end
section
/-! for a, b in zip(a text, a list) -/
namespace Tl
open PySem PySem.Spec PyProof.Rows L2
def Itzs (K : PySem.W.Frag) (x : Str) (b : Addr) : It :=
  ⟨fun i H => i < x.cps.size ∧ ∃ (ys : List V) (y : V), SqL K H b ys ∧ ys[i]? = some y,
    fun i H v H' => ∃ T c y, v = .ref T ∧ H T = none ∧ H' = upd H T (.tup [.str ⟨#[c]⟩, y]) ∧ x.cps[i]? = some c ∧ ∀ ys, SqL K H b ys → ys[i]? = some y,
    fun i H => ∃ ys : List V, SqL K H b ys ∧ i = x.cps.size ∧ i ≤ ys.length⟩
theorem sep_zs {z TI TO i1 i2 b : Addr} (D : ZipApart z TI TO i1 i2 b b) (h : b ≠ i1) : ZipSep2 z TI TO i1 i2 [i1] [i2, b] where
  TIz := D.TIz
  TOz := D.TOz
  TITO := D.TITO
  TIi1 := D.TIi1
  mem1 := by simp
  zf1 := by simp; exact D.i1z.symm
  Tf1 := by simp; exact D.TOi1
  TIi2 := D.TIi2
  mem2 := by simp
  zf2 := by simp; exact ⟨D.i2z.symm, D.l1z.symm⟩
  Tf2 := by simp; exact ⟨D.TOi2, D.l1TO.symm⟩
  sep1_2 := by simp; exact ⟨D.i12, h.symm⟩
  sep2_1 := by simp; exact D.i12.symm
theorem turn_zs {P : Program} {w : World} {K : PySem.W.Frag} {elts : List Expr} {kk : Nat} {tpos : Pos} {x : Str} {t : Tok} {b z TI TO i1 i2 : Addr} (D : ZipApart z TI TO i1 i2 b b) :
    Turn P w K (.Tuple elts kk tpos) (Itzs K x b) [z, TI, TO, i1, i2] z (fun i h => IsZip h z TI TO .none ∧ IsTupOf2 h TI (.ref i1) (.ref i2) ∧ (∃ u v, IsTupOf2 h TO u v) ∧ h.IsStrIter i1 (strIterType x) x t i ∧ h.IsListIter i2 b i) where
  mem := by simp
  obj := fun i h st c hc => by
    obtain ⟨zz, zI, ⟨u, v, zO⟩, ⟨o1, e1, _, d1⟩, ⟨o2, e2, _, d2⟩⟩ := st
    simp only [List.mem_cons, List.not_mem_nil, or_false] at hc
    rcases hc with rfl | rfl | rfl | rfl | rfl
    · exact ⟨_, zz, fun v q => nomatch q⟩
    · exact ⟨_, zI, fun v q => nomatch q⟩
    · exact ⟨_, zO, fun v q => nomatch q⟩
    · exact ⟨o1, e1, fun v q => by rw [d1] at q; cases q⟩
    · exact ⟨o2, e2, fun v q => by rw [d2] at q; cases q⟩
  keep := fun i h h' st k => by
    obtain ⟨zz, zI, ⟨u, v, zO⟩, ⟨o1, e1, r1⟩, s2⟩ := st
    exact ⟨k z (by simp) _ zz, k TI (by simp) _ zI, ⟨u, v, k TO (by simp) _ zO⟩, ⟨o1, k i1 (by simp) _ e1, r1⟩, s2.at fun o q => k i2 (by simp) o q⟩
  item := by
    intro X hP hw hK hc i pins s σ H E I hf st hg
    subst hP hw hK
    obtain ⟨zz, zI, ⟨u0, v0, zO⟩, s1, s2⟩ := st
    obtain ⟨lt1, ys, y, sq, gy⟩ := hg
    obtain ⟨its, rv, pl, _⟩ := I.list sq
    have isl : s.heap.IsList b its.toArray := pl.isList
    have lt2 : i < its.length := by have := rv.length; have := (List.getElem?_eq_some_iff.mp gy).1; omega
    have D1 := Draws.text (prog := X.prog) (w := X.w) (A := X.A.in1) (I.ok.hd hc) i1 x t
    have D2 := Draws.list (prog := X.prog) (w := X.w) (A := X.A.in1) (I.ok.hd hc) i2 b D.l1i2 its.toArray
    refine wpAny_pyNext_zipD2_item (sep_zs D D.l1i1) D1 D2 zz zI zO s1 ⟨s2, isl⟩ lt1 (by simpa using lt2) fun x1 x2 h' tk p1 p2 zz' zO' t1 t2 nT hsz kp => ?_
    obtain ⟨c, tc, gc, rfl⟩ := p1
    obtain ⟨u2, gu2, r2⟩ := rv.get gy
    have e2 : x2 = u2 := by have p2' : its[i]? = some x2 := by simpa using p2
                            exact Option.some.inj (p2'.symm.trans gu2)
    subst e2
    refine ⟨_, rfl, wpAny_letOwnedTupleGo_zip (s := ⟨h', s.gens, s.drawn, tk, s.os⟩) zz' fun h2 zz2 sb => ?_⟩
    have zlt : z < s.heap.objs.size := Heap.lt_size zz
    have nT2 : h2.get? s.heap.objs.size = some { cls := .type "tuple", data := .seq #[.str ⟨#[c]⟩ tc, x2] } := (sb.2 _ (Nat.ne_of_gt zlt)).trans nT
    have new : ObjOk X.prog X.w (upd H s.heap.objs.size (.tup [.str ⟨#[c]⟩, y])) h2 s.heap.objs.size (.tup [.str ⟨#[c]⟩, y]) :=
      ⟨by show 2 ≤ sizeLine; decide, [.str ⟨#[c]⟩ tc, x2], .cons ⟨_, rfl⟩ (.cons r2 .nil), ⟨_, nT2, rfl, _, rfl⟩⟩
    have I1 : L2.Inv X pins σ (upd H s.heap.objs.size (.tup [.str ⟨#[c]⟩, y])) { s with heap := h2, toks := tk } :=
      I.turnedNew (t' := tk) (ch := [z, TI, TO, i1, i2]) (fun d o hb q => (sb.2 d (fun q' => hb (by simp [q']))).trans (kp d o (fun q' => hb (by simp [q'])) (fun q' => hb (by simp [q'])) (fun q' => hb (by simp [q'])) (fun q' => hb (by simp [q'])) q)) hf (Nat.le_refl _) new
    refine ⟨.ref s.heap.objs.size, _, I1, rfl, ⟨_, c, y, rfl, I.hok.fresh (Nat.le_refl _), rfl, gc, fun l hl => by rw [I.list_inj hl sq]; exact gy⟩, ⟨zz2, ?_, ⟨.str ⟨#[c]⟩ tc, x2, ?_⟩, ?_, ?_⟩, fun d hd => ?_⟩
    · exact (sb.2 _ D.TIz).trans (kp _ _ D.TIz D.TITO D.TIi1 D.TIi2 zI)
    · exact (sb.2 _ D.TOz).trans zO'
    · obtain ⟨o1, e1, r1⟩ := t1; exact ⟨o1, (sb.2 _ D.i1z).trans e1, r1⟩
    · exact t2.1.at fun o q => (sb.2 _ D.i2z).trans q
    · have young : d < s.heap.objs.size := by
        have hd' := hd
        simp only [List.mem_cons, List.not_mem_nil, or_false] at hd'
        rcases hd' with rfl | rfl | rfl | rfl | rfl
        · exact zlt
        · exact Heap.lt_size zI
        · exact Heap.lt_size zO
        · obtain ⟨_, e1, _⟩ := s1; exact Heap.lt_size e1
        · obtain ⟨_, e2, _⟩ := s2; exact Heap.lt_size e2
      rw [upd_ne (Nat.ne_of_lt young)]; exact (hf d hd).1
  done := by
    intro X hP hw hK hc i pins s σ H E I hf st hg
    subst hP hw hK
    obtain ⟨zz, zI, ⟨u0, v0, zO⟩, s1, s2⟩ := st
    obtain ⟨ys, sq, e1, le2⟩ := hg
    obtain ⟨its, rv, pl, _⟩ := I.list sq
    have len := rv.length
    have D1 := Draws.text (prog := X.prog) (w := X.w) (A := X.A.in1) (I.ok.hd hc) i1 x t
    have D2 := Draws.list (prog := X.prog) (w := X.w) (A := X.A.in1) (I.ok.hd hc) i2 b D.l1i2 its.toArray
    exact wpAny_pyNext_zipD2_end (sep_zs D D.l1i1) D1 D2 zz zI zO s1 ⟨s2, pl.isList⟩ (by omega) (by simp; omega) (.inl e1) fun h' tk kp => ⟨rfl, I.turnedL (t' := tk) (ch := [z, TI, TO, i1, i2]) (fun d o hb q =>
      kp d o (fun q' => hb (by simp [q'])) (fun q' => hb (by simp [q'])) (fun q' => hb (by simp [q'])) (fun q' => hb (by simp [q'])) q) hf⟩
  self := fun A i s Q E st h => wpAny_pyIter_zip st.1 h
def iZipS (K : PySem.W.Frag) (ta : TA) : TI := fun σ H R => ta σ H fun vs H1 => ∃ x b ys, vs = [.str x, .ref b] ∧ SqL K H1 b ys ∧ R (Itzs K x b) H1
theorem pi_zipS {X : Cx} {e e2 : Expr} {ta : TA} {p pos tpos : Pos} {elts : List Expr} {kk : Nat} (hg : Gl X "zip") (hm : X.mg "zip" = none) (ha : PA X [e, e2] ta)
    (hs : starEach [e, e2] X.env = (false, eval e X.env) :: starEach [e2] X.env := by rfl) (hpl : (backTo pos (starEach [e2] X.env)).any (·.1) = false := by rfl) :
    PI X (.Tuple elts kk tpos) (.Call (.Name "zip" p) [e, e2] [] pos) (iZipS X.K ta) := by
  constructor
  intro pins s σ H R I h
  refine Call_ (ld_blt I hg hm PyProof.Rows.boot_zip (PyProof.Rows.callWith_type1 (thn (ha.run pos pins s σ H _ I h) fun us s1 hh => ?_) hs hpl))
  obtain ⟨vs, H1, I1, r1, x, b, ys, ex, sq, q⟩ := hh
  subst ex
  cases r1 with
  | cons r rr =>
  cases rr with
  | cons r' rr =>
  cases rr
  cases r'
  obtain ⟨t, rfl⟩ := r
  obtain ⟨its, rv, pl, _⟩ := I1.list sq
  have lb : b < s1.heap.objs.size := pl.lt
  refine zip_begins2 (begins_text x t) (begins_list b its.toArray) trivial pl.isList fun h' zz zI zO g1 g2 hsz kp => wpAny_pyIter_zip zz ?_
  have I2 : L2.Inv X pins σ H1 { s1 with heap := h' } := I1.kept (t' := s1.toks) kp
  refine ⟨s1.heap.objs.size + 4, [s1.heap.objs.size + 4, s1.heap.objs.size + 2, s1.heap.objs.size + 3, s1.heap.objs.size, s1.heap.objs.size + 1], _, _, H1, rfl, I2, turn_zs (t := t) (PySem.W.ktu_apart s1.heap.objs.size b b lb lb), ⟨zz, zI, ⟨_, _, zO⟩, ⟨_, g1, rfl, rfl⟩, ⟨_, g2, rfl, rfl⟩⟩, fun d hd => ?_, q⟩
  simp only [List.mem_cons, List.not_mem_nil, or_false] at hd
  have old : s1.heap.objs.size ≤ d := by
    rcases hd with rfl | rfl | rfl | rfl | rfl <;> first | exact Nat.le_refl _ | exact Nat.le_add_right _ _
  exact I1.fpOk old (I1.hok.fresh old)
theorem walk_zs {K : PySem.W.Frag} {x : Str} {b : Addr} {ys : List V} {n : Nat} (h1 : x.cps.size = n) (h2 : ys.length = n) : Walk (Itzs K x b) n (fun H => SqL K H b ys)
    (fun i H v H' => ∃ T c y, v = .ref T ∧ H T = none ∧ H' = upd H T (.tup [.str ⟨#[c]⟩, y]) ∧ x.cps[i]? = some c ∧ ys[i]? = some y ∧ SqL K H b ys) where
  goes := fun i H hi q => ⟨by omega, ys, ys[i], q, List.getElem?_eq_getElem (by omega)⟩
  stops := fun H q => ⟨ys, q, by omega, by omega⟩
  yields := fun i H v H' hi q y => by
    obtain ⟨T, c, z, a1, a2, a3, a4, a5⟩ := y
    exact ⟨T, c, z, a1, a2, a3, a4, a5 ys q, q⟩
end Tl
end
section
/-! texts as lists of codes -/
namespace Mx
open PySem PySem.Spec PyProof.Rows L2 SX
theorem S_one (c : Nat) : (⟨#[c]⟩ : Str) = S [c] := rfl
theorem sub0 (l : List Nat) (c : Nat) : PySem.Builtin.Str.subAt (S l) (S [c]) 0 = decide (l.head? = some c) := by
  unfold PySem.Builtin.Str.subAt
  cases l with
  | nil => simp [S, Str.length]
  | cons a r =>
    simp [S, Str.length]
    by_cases h : a = c
    · subst h; simp
    · simp [h]
theorem starts (l : List Nat) (c : Nat) : Txt.startswith (S l) (S [c]) = decide (l.head? = some c) := by
  unfold Txt.startswith
  rw [sub0]
  cases l with
  | nil => simp [S, Str.length]
  | cons a r => simp [S, Str.length]
theorem ends (l : List Nat) (c : Nat) : Txt.endswith (S l) (S [c]) = decide (l.getLast? = some c) := by
  unfold Txt.endswith PySem.Builtin.Str.subAt
  rcases List.eq_nil_or_concat l with rfl | ⟨r, a, rfl⟩
  · simp [S, Str.length]
  · simp [S, Str.length]
    by_cases h : a = c
    · subst h; simp
    · simp [h]
theorem noPrefix (l : List Nat) (c : Nat) : Txt.removeprefix (S l) (S [c]) = S (if l.head? = some c then l.drop 1 else l) := by
  unfold Txt.removeprefix
  rw [sub0]
  by_cases h : l.head? = some c
  · rw [decide_eq_true h, if_pos rfl, if_pos h]
    cases l with
    | nil => cases h
    | cons a r =>
      unfold Txt.affix
      simp [S, Str.length, PySem.Builtin.Str.strSub]
  · rw [decide_eq_false h, if_neg Bool.false_ne_true, if_neg h]
    rfl
theorem cutMid (l : List Nat) : cutS (S l) (some 1) (some (-1)) = S (l.drop 1).dropLast := by
  unfold cutS
  have e : (S l).length = l.length := S_len l
  rw [e]
  show S _ = S _
  congr 1
  rw [show HT.sIx l.length 0 (some 1) = min 1 l.length from HT.sIx_nat l.length 0 1]
  have e2 : HT.sIx l.length l.length (some (-1)) = l.length - 1 := by
    show (if (-1 : Int) < 0 then ((-1 : Int) + (l.length : Int)).toNat else min (-1 : Int).toNat l.length) = _
    rw [if_pos (by decide)]
    omega
  rw [e2]
  cases l with
  | nil => rfl
  | cons a r =>
    rw [show min 1 (a :: r).length = 1 by rw [List.length_cons]; omega]
    rw [List.dropLast_eq_take]
    simp
theorem cutOne (l : List Nat) : cutS (S l) (some 1) none = S (l.drop 1) := by
  unfold cutS
  have e : (S l).length = l.length := S_len l
  rw [e]
  show S _ = S _
  congr 1
  rw [show HT.sIx l.length 0 (some 1) = min 1 l.length from HT.sIx_nat l.length 0 1, HT.sIx_none]
  cases l with
  | nil => rfl
  | cons a r =>
    rw [show min 1 (a :: r).length = 1 by rw [List.length_cons]; omega]
    exact List.take_of_length_le (by simp)
def isDig (c : Nat) : Bool := decide (48 ≤ c ∧ c ≤ 57)
theorem dig128 : ∀ c : Nat, c < 128 → PySem.Unicode.isDigit c = isDig c := by decide +kernel
theorem allDigits (l : List Nat) (h : ∀ c ∈ l, c < 128) : Txt.isdigit (S l) = (decide (l ≠ []) && l.all isDig) := by
  unfold Txt.isdigit
  rw [S_len]
  congr 1
  · cases l <;> simp
  · rw [← Array.all_toList]
    show l.all _ = _
    rw [Bool.eq_iff_iff, List.all_eq_true, List.all_eq_true]
    exact ⟨fun q c hc => by rw [← dig128 c (h c hc)]; exact q c hc, fun q c hc => by rw [dig128 c (h c hc)]; exact q c hc⟩
/-! ### numbers -/
def intS (n : Int) : List Nat := if n < 0 then 45 :: TL.numL n.natAbs else TL.numL n.natAbs
theorem str_int (n : Int) : Str.ofString (toString n) = S (intS n) := by
  unfold intS
  by_cases h : n < 0
  · rw [if_pos h, toString_neg h]
    have e : (0 : Int) - n = ((n.natAbs : Nat) : Int) := by omega
    rw [e]
    have a : ∀ x y : String, Str.ofString (x ++ y) = Str.ofString x ++ Str.ofString y := fun x y => by
      apply TL.ext_tl
      rw [TL.tl_append]
      show cpsOfBytes 0 0 (x ++ y).toByteArray.data.toList = cpsOfBytes 0 0 x.toByteArray.data.toList ++ cpsOfBytes 0 0 y.toByteArray.data.toList
      rw [cpsOfBytes_string, cpsOfBytes_string, cpsOfBytes_string, String.toList_append, List.map_append]
    rw [a, num_S]
    show S [45] ++ S _ = _
    rw [S_cat]; rfl
  · rw [if_neg h]
    have e : n = ((n.natAbs : Nat) : Int) := by omega
    conv => lhs; rw [e]
    exact num_S _
theorem intS_val {l : List Nat} (hl : l.length ≤ 4300) (hd : (if l.head? = some 45 then l.drop 1 else l).all isDig = true) (hne : (if l.head? = some 45 then l.drop 1 else l) ≠ []) :
    intText? (S l) = some (if l.head? = some 45 then -((NumText.digitsVal (l.drop 1) : Nat) : Int) else ((NumText.digitsVal l : Nat) : Int)) := by
  have all : ∀ {r : List Nat}, r.all isDig = true → NumText.AllDigits r := fun q c hc => of_decide_eq_true (List.all_eq_true.mp q c hc)
  by_cases h : l.head? = some 45
  · rw [if_pos h] at hd hne ⊢
    cases l with
    | nil => cases h
    | cons a r =>
      have ea : a = 45 := Option.some.inj h
      subst ea
      exact PySem.intText_neg (x := S (45 :: r)) (cs := r) rfl (all hd) hne (by rw [S_len]; exact hl)
  · rw [if_neg h] at hd hne ⊢
    exact PySem.intText_digits (x := S l) (all hd) hne (by rw [S_len]; exact hl)
theorem digits_lt : ∀ (l : List Nat) (a : Nat), l.all isDig = true → l.foldl (fun acc c => acc * 10 + (c - 48)) a < (a + 1) * 10 ^ l.length
  | [], a, _ => by simp
  | c :: r, a, h => by
    rw [List.all_cons, Bool.and_eq_true_iff] at h
    have hc : 48 ≤ c ∧ c ≤ 57 := of_decide_eq_true h.1
    have ih := digits_lt r (a * 10 + (c - 48)) h.2
    rw [List.foldl_cons, List.length_cons, Nat.pow_succ]
    have z : (a * 10 + (c - 48) + 1) * 10 ^ r.length ≤ ((a + 1) * 10) * 10 ^ r.length := Nat.mul_le_mul_right _ (by omega)
    rw [show (a + 1) * (10 ^ r.length * 10) = ((a + 1) * 10) * 10 ^ r.length by rw [Nat.mul_assoc, Nat.mul_comm 10 (10 ^ r.length)]]
    omega
theorem pow_200 {n k : Nat} (h : n < 10 ^ k) (hk : k ≤ 200) : n.log2 < 1920 := by
  by_cases z : n = 0
  · subst z; decide
  · rw [Nat.log2_lt z]
    have a : 10 ^ k ≤ 10 ^ 200 := Nat.pow_le_pow_right (by decide) hk
    have b : (10 : Nat) ^ 200 ≤ 2 ^ 1920 := by decide +kernel
    omega
theorem val_small {l : List Nat} (hl : l.length ≤ 200) (hd : (if l.head? = some 45 then l.drop 1 else l).all isDig = true) :
    (if l.head? = some 45 then -((NumText.digitsVal (l.drop 1) : Nat) : Int) else ((NumText.digitsVal l : Nat) : Int)).natAbs.log2 < 1920 := by
  by_cases h : l.head? = some 45
  · rw [if_pos h] at hd ⊢
    have z := digits_lt (l.drop 1) 0 hd
    rw [Nat.zero_add, Nat.one_mul] at z
    rw [Int.natAbs_neg, Int.natAbs_natCast]
    exact pow_200 z (by rw [List.length_drop]; omega)
  · rw [if_neg h] at hd ⊢
    have z := digits_lt l 0 hd
    rw [Nat.zero_add, Nat.one_mul] at z
    rw [Int.natAbs_natCast]
    exact pow_200 z hl
theorem intS_digits (n : Int) : (if (intS n).head? = some 45 then (intS n).drop 1 else intS n) = TL.numL n.natAbs := by
  unfold intS
  by_cases h : n < 0
  · rw [if_pos h]; rfl
  · rw [if_neg h, if_neg]
    intro z
    have m : (45 : Nat) ∈ TL.numL n.natAbs := List.mem_of_head? z
    exact TL.numL_free (Or.inl (by decide)) m
theorem intS_all (n : Int) : (if (intS n).head? = some 45 then (intS n).drop 1 else intS n).all isDig = true := by
  rw [intS_digits, List.all_eq_true]
  intro c hc
  exact decide_eq_true (TL.numL_digits _ c hc)
theorem intS_ne (n : Int) : (if (intS n).head? = some 45 then (intS n).drop 1 else intS n) ≠ [] := by
  rw [intS_digits]; exact TL.numL_ne _
theorem intS_back (n : Int) : (if (intS n).head? = some 45 then -((NumText.digitsVal ((intS n).drop 1) : Nat) : Int) else ((NumText.digitsVal (intS n) : Nat) : Int)) = n := by
  unfold intS
  by_cases h : n < 0
  · rw [if_pos h, if_pos (show (45 :: TL.numL n.natAbs).head? = some 45 from rfl)]
    show -((NumText.digitsVal (TL.numL n.natAbs) : Nat) : Int) = n
    rw [TL.numL_val]; omega
  · rw [if_neg h, if_neg, TL.numL_val]
    · omega
    · intro z
      have m : (45 : Nat) ∈ TL.numL n.natAbs := List.mem_of_head? z
      exact TL.numL_free (Or.inl (by decide)) m
theorem intS_codes (n : Int) : ∀ c ∈ intS n, c = 45 ∨ (48 ≤ c ∧ c ≤ 57) := by
  unfold intS
  intro c hc
  by_cases h : n < 0
  · rw [if_pos h] at hc
    rcases List.mem_cons.mp hc with e | hc
    · exact Or.inl e
    · exact Or.inr (TL.numL_digits _ c hc)
  · rw [if_neg h] at hc
    exact Or.inr (TL.numL_digits _ c hc)
end Mx
end
section
/-! statements: what the program finds, plainly -/
namespace Mx
open PySem PySem.Spec PyProof.Rows L2 SX
def sgn (c : Nat) : Bool := decide (32 ≤ c ∧ c ≤ 126 ∧ c ≠ 37)
def lettersC : List Nat := [97, 98, 99, 100, 101, 102, 103, 104, 105, 106, 107, 108, 109, 110, 111, 112, 113, 114, 115, 116, 117, 118, 119, 120, 121, 122]
def isLet (c : Nat) : Bool := decide (c ∈ lettersC)
def nameM (l : List Nat) : Bool := decide (1 ≤ l.length) && decide (l.length ≤ 8) && l.all isLet
def textM (l : List Nat) : Bool := decide (l.length ≤ 40) && (!decide (39 ∈ l) && l.all sgn)
def numM (n : Int) : Bool := decide (-2147483648 ≤ n) && decide (n ≤ 2147483647)
/-- a part of a statement; names and texts as codes -/
inductive Part where
  | name (l : List Nat) | num (n : Int) | text (l : List Nat) | par (n : Int)
  deriving DecidableEq
def numOf (l : List Nat) : Option Int :=
  let n : Int := if l.head? = some 45 then -((NumText.digitsVal (l.drop 1) : Nat) : Int) else ((NumText.digitsVal l : Nat) : Int)
  if intS n = l ∧ numM n = true then some n else none
def textOf (l : List Nat) : Option (List Nat) := if 2 ≤ l.length ∧ l.getLast? = some 39 ∧ textM (l.drop 1).dropLast = true then some (l.drop 1).dropLast else none
def parOf (l : List Nat) : Option Int := if l = [36, 49] then some 1 else if l = [36, 50] then some 2 else if l = [36, 51] then some 3 else if l = [36, 52] then some 4 else none
def termOf (l : List Nat) : Option Part :=
  if l.head? = some 39 then (textOf l).map .text else match parOf l with
    | some n => some (.par n)
    | none => (numOf l).map .num
def partOf (c : Nat) (l : List Nat) : Option Part := if c = 84 ∨ c = 78 then (if nameM l = true then some (.name l) else none) else termOf l
/-- one sign more: the pieces so far, whether within a text -/
def splitStep (st : List (List Nat) × Bool) (c : Nat) : List (List Nat) × Bool :=
  let q : Bool := if c = 39 then !st.2 else st.2
  if c = 32 ∧ q = false then (st.1 ++ [[]], q) else (st.1.dropLast ++ [st.1.getLastD [] ++ [c]], q)
def splitS (l : List Nat) : List (List Nat) × Bool := l.foldl splitStep ([[]], false)
def splitM (l : List Nat) : List (List Nat) := (splitS l).1
def formTable : List (Str × List Str) := [("create", ["T"]), ("drop", ["T"]), ("put", ["TXY"]), ("delete", ["TX"]), ("get", ["TX"]), ("scan", ["T", "TXY"]), ("total", ["T"]), ("begin", [""]), ("commit", [""]), ("rollback", [""]), ("save", ["N"]), ("undo", ["N"])]
def formsOf (w : Str) : Option (List Str) := formTable.lookup w
def formOf (w : Str) (n : Nat) : Option Str := ((formsOf w).getD []).find? fun f => f.length == n
def parNo : Part → Option Int
  | .par n => some n
  | _ => none
def parsOf (ps : List Part) : List Int := ps.filterMap parNo
def mostOf (ps : List Part) : Int := match parsOf ps with
  | [] => 0
  | m :: r => r.foldl (fun a b => if b > a then b else a) m
def partsOf : List Nat → List (List Nat) → Option (List Part)
  | c :: cs, l :: ls => match partOf c l with
    | none => none
    | some p => match partsOf cs ls with
      | none => none
      | some ps => some (p :: ps)
  | _, _ => some []
/-- every parameter up to the greatest one occurs -/
def full (ps : List Part) : Bool := (List.range (mostOf ps - 1).toNat).all fun i => decide (Part.par (1 + (i : Int)) ∈ ps)
def stmtM (l : List Nat) : Option (Str × List Part) :=
  if l.length ≤ 200 ∧ l.all sgn = true then match splitM l with
    | [] => none
    | w :: ls => match formOf (S w) ls.length with
      | none => none
      | some f => match partsOf f.cps.toList ls with
        | none => none
        | some ps => if full ps = true then some (S w, ps) else none
  else none
/-! ### how a part stands in the heap -/
def IsP (H : Hp) (v : V) : Part → Prop
  | .name l => v = .str (S l)
  | .num n => v = .int n
  | .text l => ∃ a, v = .ref a ∧ H a = some (.tup [.str "text", .str (S l)])
  | .par n => ∃ a, v = .ref a ∧ H a = some (.tup [.str "parameter", .int n])
theorem IsP.same {H H' : Hp} {v : V} {p : Part} (s : Same H H') (h : IsP H v p) : IsP H' v p := by
  cases p with
  | name l => exact h
  | num n => exact h
  | text l => obtain ⟨a, e, h⟩ := h; exact ⟨a, e, s _ _ h⟩
  | par n => obtain ⟨a, e, h⟩ := h; exact ⟨a, e, s _ _ h⟩
/-- only tuples count -/
theorem IsP.over {H H' : Hp} {v : V} {p : Part} (s : ∀ a t, H a = some (.tup t) → H' a = some (.tup t)) (h : IsP H v p) : IsP H' v p := by
  cases p with
  | name l => exact h
  | num n => exact h
  | text l => obtain ⟨a, e, h⟩ := h; exact ⟨a, e, s _ _ h⟩
  | par n => obtain ⟨a, e, h⟩ := h; exact ⟨a, e, s _ _ h⟩
theorem over_lst {H : Hp} {D : Addr} {xs : List V} {o : HO} (e : H D = some (.lst xs)) : ∀ a t, H a = some (.tup t) → (upd H D o) a = some (.tup t) := fun a t h => by
  rw [upd_ne (by intro z; rw [z, e] at h; cases h)]
  exact h
def ArePs (H : Hp) : List V → List Part → Prop := Paired (IsP H)
theorem ArePs.same {H H' : Hp} (s : Same H H') : ∀ {vs : List V} {ps : List Part}, ArePs H vs ps → ArePs H' vs ps
  | _, _, .nil => .nil
  | _, _, .cons h t => .cons (h.same s) (ArePs.same s t)
theorem ArePs.over {H H' : Hp} (s : ∀ a t, H a = some (.tup t) → H' a = some (.tup t)) : ∀ {vs : List V} {ps : List Part}, ArePs H vs ps → ArePs H' vs ps
  | _, _, .nil => .nil
  | _, _, .cons h t => .cons (h.over s) (ArePs.over s t)
theorem ArePs.snoc {H : Hp} {v : V} {p : Part} : ∀ {vs : List V} {ps : List Part}, ArePs H vs ps → IsP H v p → ArePs H (vs ++ [v]) (ps ++ [p])
  | _, _, .nil, h => .cons h .nil
  | _, _, .cons a t, h => .cons a (ArePs.snoc t h)
end Mx
end
section
namespace K01
open PySem PySem.Spec PyProof.Rows L2
def topS (i : Nat) : Stmt := PySem.Challenge.pw_batchends_k01_statements_read.main.body.getD i (.Pass ⟨0, 0, 0, 0⟩)
/-! is_sign: slots 0 character, 1 code -/
abbrev s_is_sign : Stmt := topS 11
theorem sc_is_sign : FnScope ["character", "code"] ["character"] (defScope s_is_sign) := ⟨rfl, rfl, rfl, by decide +kernel, rfl, by decide +kernel, by decide +kernel⟩
/-! has_only_signs: slots 0 string, 1 character -/
abbrev s_has_only_signs : Stmt := topS 12
theorem sc_has_only_signs : FnScope ["string", "character"] ["string"] (defScope s_has_only_signs) := ⟨rfl, rfl, rfl, by decide +kernel, rfl, by decide +kernel, by decide +kernel⟩
/-! may_be_prepared: slots 0 string -/
abbrev s_may_be_prepared : Stmt := topS 13
theorem sc_may_be_prepared : FnScope ["string"] ["string"] (defScope s_may_be_prepared) := ⟨rfl, rfl, rfl, by decide +kernel, rfl, by decide +kernel, by decide +kernel⟩
/-! is_name: slots 0 string, 1 letter -/
abbrev s_is_name : Stmt := topS 14
theorem sc_is_name : FnScope ["string", "letter"] ["string"] (defScope s_is_name) := ⟨rfl, rfl, rfl, by decide +kernel, rfl, by decide +kernel, by decide +kernel⟩
/-! is_text: slots 0 string -/
abbrev s_is_text : Stmt := topS 15
theorem sc_is_text : FnScope ["string"] ["string"] (defScope s_is_text) := ⟨rfl, rfl, rfl, by decide +kernel, rfl, by decide +kernel, by decide +kernel⟩
/-! is_number: slots 0 number -/
abbrev s_is_number : Stmt := topS 16
theorem sc_is_number : FnScope ["number"] ["number"] (defScope s_is_number) := ⟨rfl, rfl, rfl, by decide +kernel, rfl, by decide +kernel, by decide +kernel⟩
/-! parse_statement: slots 0 string, 1 word, 2 pieces, 3 form, 4 parts, 5 n, 6 letter, 7 piece -/
abbrev s_parse_statement : Stmt := topS 20
theorem sc_parse_statement : FnScope ["string", "word", "pieces", "form", "parts", "n", "letter", "piece"] ["string"] (defScope s_parse_statement) := ⟨rfl, rfl, rfl, by decide +kernel, rfl, by decide +kernel, by decide +kernel⟩
/-! parameters: slots 0 parts, 1 part -/
abbrev s_parameters : Stmt := topS 21
theorem sc_parameters : FnScope ["parts", "part"] ["parts"] (defScope s_parameters) := ⟨rfl, rfl, rfl, by decide +kernel, rfl, by decide +kernel, by decide +kernel⟩
/-! is_parameter: slots 0 part -/
abbrev s_is_parameter : Stmt := topS 22
theorem sc_is_parameter : FnScope ["part"] ["part"] (defScope s_is_parameter) := ⟨rfl, rfl, rfl, by decide +kernel, rfl, by decide +kernel, by decide +kernel⟩
/-! split_pieces: slots 0 string, 1 pieces, 2 in_text, 3 sign -/
abbrev s_split_pieces : Stmt := topS 23
theorem sc_split_pieces : FnScope ["string", "pieces", "in_text", "sign"] ["string"] (defScope s_split_pieces) := ⟨rfl, rfl, rfl, by decide +kernel, rfl, by decide +kernel, by decide +kernel⟩
/-! find_form: slots 0 word, 1 many, 2 form -/
abbrev s_find_form : Stmt := topS 24
theorem sc_find_form : FnScope ["word", "many", "form"] ["word", "many"] (defScope s_find_form) := ⟨rfl, rfl, rfl, by decide +kernel, rfl, by decide +kernel, by decide +kernel⟩
/-! parse_part: slots 0 letter, 1 piece -/
abbrev s_parse_part : Stmt := topS 25
theorem sc_parse_part : FnScope ["letter", "piece"] ["letter", "piece"] (defScope s_parse_part) := ⟨rfl, rfl, rfl, by decide +kernel, rfl, by decide +kernel, by decide +kernel⟩
/-! parse_name: slots 0 piece -/
abbrev s_parse_name : Stmt := topS 26
theorem sc_parse_name : FnScope ["piece"] ["piece"] (defScope s_parse_name) := ⟨rfl, rfl, rfl, by decide +kernel, rfl, by decide +kernel, by decide +kernel⟩
/-! parse_text: slots 0 piece, 1 text -/
abbrev s_parse_text : Stmt := topS 27
theorem sc_parse_text : FnScope ["piece", "text"] ["piece"] (defScope s_parse_text) := ⟨rfl, rfl, rfl, by decide +kernel, rfl, by decide +kernel, by decide +kernel⟩
/-! parse_number: slots 0 piece, 1 digits, 2 number -/
abbrev s_parse_number : Stmt := topS 28
theorem sc_parse_number : FnScope ["piece", "digits", "number"] ["piece"] (defScope s_parse_number) := ⟨rfl, rfl, rfl, by decide +kernel, rfl, by decide +kernel, by decide +kernel⟩
/-! _law_cell: slots 0 script, 1 k -/
abbrev s_law_cell : Stmt := topS 30
theorem sc_law_cell : FnScope ["script", "k"] ["script", "k"] (defScope s_law_cell) := ⟨rfl, rfl, rfl, by decide +kernel, rfl, by decide +kernel, by decide +kernel⟩
/-! _law_row: slots 0 cell, 1 count, 2 row, 3 rest, 4 seed, 5 k -/
abbrev s_law_row : Stmt := topS 31
theorem sc_law_row : FnScope ["cell", "count", "row", "rest", "seed", "k"] ["cell", "count"] (defScope s_law_row) := ⟨rfl, rfl, rfl, by decide +kernel, rfl, by decide +kernel, by decide +kernel⟩
/-! _law_name: slots 0 number, 1 letters, 2 k; cells number letters -/
abbrev s_law_name : Stmt := topS 32
theorem sc_law_name : FnScope ["number", "letters", "k"] ["number"] (defScope s_law_name) := ⟨rfl, rfl, rfl, by decide +kernel, rfl, by decide +kernel, by decide +kernel⟩
/-! _law_text: slots 0 number, 1 signs, 2 texts, 3 count, 4 k; cells number signs -/
abbrev s_law_text : Stmt := topS 33
theorem sc_law_text : FnScope ["number", "signs", "texts", "count", "k"] ["number"] (defScope s_law_text) := ⟨rfl, rfl, rfl, by decide +kernel, rfl, by decide +kernel, by decide +kernel⟩
/-! _law_value: slots 0 number -/
abbrev s_law_value : Stmt := topS 34
theorem sc_law_value : FnScope ["number"] ["number"] (defScope s_law_value) := ⟨rfl, rfl, rfl, by decide +kernel, rfl, by decide +kernel, by decide +kernel⟩
/-! _law_term: slots 0 number, 1 used, 2 value -/
abbrev s_law_term : Stmt := topS 35
theorem sc_law_term : FnScope ["number", "used", "value"] ["number", "used"] (defScope s_law_term) := ⟨rfl, rfl, rfl, by decide +kernel, rfl, by decide +kernel, by decide +kernel⟩
/-! _law_used: slots 0 parts, 1 numbers, 2 part -/
abbrev s_law_used : Stmt := topS 36
theorem sc_law_used : FnScope ["parts", "numbers", "part"] ["parts"] (defScope s_law_used) := ⟨rfl, rfl, rfl, by decide +kernel, rfl, by decide +kernel, by decide +kernel⟩
/-! _law_statement: slots 0 row, 1 names, 2 words, 3 word, 4 parts, 5 count, 6 k -/
abbrev s_law_statement : Stmt := topS 37
theorem sc_law_statement : FnScope ["row", "names", "words", "word", "parts", "count", "k"] ["row", "names"] (defScope s_law_statement) := ⟨rfl, rfl, rfl, by decide +kernel, rfl, by decide +kernel, by decide +kernel⟩
/-! _law_written: slots 0 parts, 1 words, 2 part -/
abbrev s_law_written : Stmt := topS 38
theorem sc_law_written : FnScope ["parts", "words", "part"] ["parts"] (defScope s_law_written) := ⟨rfl, rfl, rfl, by decide +kernel, rfl, by decide +kernel, by decide +kernel⟩
/-! _law_listed: slots 0 parts, 1 made, 2 part -/
abbrev s_law_listed : Stmt := topS 39
theorem sc_law_listed : FnScope ["parts", "made", "part"] ["parts"] (defScope s_law_listed) := ⟨rfl, rfl, rfl, by decide +kernel, rfl, by decide +kernel, by decide +kernel⟩
/-! law: slots 0 script, 1 cell, 2 row, 3 words, 4 parts, 5 told, 6 one -/
abbrev s_law : Stmt := topS 40
theorem sc_law : FnScope ["script", "cell", "row", "words", "parts", "told", "one"] ["script"] (defScope s_law) := ⟨rfl, rfl, rfl, by decide +kernel, rfl, by decide +kernel, by decide +kernel⟩
end K01
namespace K01
open PySem PySem.Spec PyProof.Rows L2 Tl Mx SX
/-- what the top has written -/
structure Txt (K : PySem.W.Frag) (mg : Str → Option Value) : Prop where
  d_is_sign : Dn K mg "is_sign" s_is_sign ["character"]
  d_has_only_signs : Dn K mg "has_only_signs" s_has_only_signs ["string"]
  d_may_be_prepared : Dn K mg "may_be_prepared" s_may_be_prepared ["string"]
  d_is_name : Dn K mg "is_name" s_is_name ["string"]
  d_is_text : Dn K mg "is_text" s_is_text ["string"]
  d_is_number : Dn K mg "is_number" s_is_number ["number"]
  d_parse_statement : Dn K mg "parse_statement" s_parse_statement ["string"]
  d_parameters : Dn K mg "parameters" s_parameters ["parts"]
  d_is_parameter : Dn K mg "is_parameter" s_is_parameter ["part"]
  d_split_pieces : Dn K mg "split_pieces" s_split_pieces ["string"]
  d_find_form : Dn K mg "find_form" s_find_form ["word", "many"]
  d_parse_part : Dn K mg "parse_part" s_parse_part ["letter", "piece"]
  d_parse_name : Dn K mg "parse_name" s_parse_name ["piece"]
  d_parse_text : Dn K mg "parse_text" s_parse_text ["piece"]
  d_parse_number : Dn K mg "parse_number" s_parse_number ["piece"]
  d_law_cell : Dn K mg "_law_cell" s_law_cell ["script", "k"]
  d_law_row : Dn K mg "_law_row" s_law_row ["cell", "count"]
  d_law_name : Dn K mg "_law_name" s_law_name ["number"]
  d_law_text : Dn K mg "_law_text" s_law_text ["number"]
  d_law_value : Dn K mg "_law_value" s_law_value ["number"]
  d_law_term : Dn K mg "_law_term" s_law_term ["number", "used"]
  d_law_used : Dn K mg "_law_used" s_law_used ["parts"]
  d_law_statement : Dn K mg "_law_statement" s_law_statement ["row", "names"]
  d_law_written : Dn K mg "_law_written" s_law_written ["parts"]
  d_law_listed : Dn K mg "_law_listed" s_law_listed ["parts"]
  d_law : Dn K mg "law" s_law ["script"]
  n_ord : mg "ord" = none
  n_all : mg "all" = none
  n_len : mg "len" = none
  n_max : mg "max" = none
  n_int : mg "int" = none
  n_str : mg "str" = none
  n_list : mg "list" = none
  n_tuple : mg "tuple" = none
  n_bool : mg "bool" = none
  n_zip : mg "zip" = none
  n_range : mg "range" = none
  n_isinstance : mg "isinstance" = none
  c_LETTERS : ∃ u, mg "LETTERS" = some u ∧ RelV (.str "abcdefghijklmnopqrstuvwxyz") u
  c_LONGEST_NAME : ∃ u, mg "LONGEST_NAME" = some u ∧ RelV (.int 8) u
  c_LONGEST_TEXT : ∃ u, mg "LONGEST_TEXT" = some u ∧ RelV (.int 40) u
  c_LEAST_NUMBER : ∃ u, mg "LEAST_NUMBER" = some u ∧ RelV (.int (-2147483648)) u
  c_GREATEST_NUMBER : ∃ u, mg "GREATEST_NUMBER" = some u ∧ RelV (.int 2147483647) u
  c_PERCENT : ∃ u, mg "PERCENT" = some u ∧ RelV (.int 37) u
  c_LONGEST_STRING : ∃ u, mg "LONGEST_STRING" = some u ∧ RelV (.int 200) u
/-! ### promises -/
/-- an own error class over ValueError's -/
structure ErrC (K : PySem.W.Frag) (mg : Str → Option Value) (x : Str) (C : Addr) : Prop where
  g : mg x = some (.ref C)
  ex : ∃ newId initId bm, PySem.ExcBaseFacts "ValueError" newId initId bm ∧ PySem.W.excIn K C bm newId = true
  kp : PySem.W.keepIn K (.ref C) = true
  sb : PySem.W.subIn K (.ref C) (.type "BaseException") = some true
  ty : PySem.W.typeIn K (.ref C) = some (.type "type")
def sp_is_sign : Sp := fun vs H Q _ => ∃ c : Nat, vs = [.str ⟨#[c]⟩] ∧ Q (.bl (sgn c)) H
def sp_has_only_signs : Sp := fun vs H Q _ => ∃ l : List Nat, vs = [.str (S l)] ∧ l.length ≤ sizeLine ∧ ∀ H', Same H H' → Q (.bl (l.all sgn)) H'
def sp_may_be_prepared : Sp := fun vs H Q _ => ∃ l : List Nat, vs = [.str (S l)] ∧ l.length ≤ sizeLine ∧ ∀ H', Same H H' → Q (.bl (decide (l.length ≤ 200) && l.all sgn)) H'
def sp_is_name : Sp := fun vs H Q _ => ∃ l : List Nat, vs = [.str (S l)] ∧ l.length ≤ sizeLine ∧ ∀ H', Same H H' → Q (.bl (nameM l)) H'
def sp_is_text : Sp := fun vs H Q _ => ∃ l : List Nat, vs = [.str (S l)] ∧ l.length ≤ sizeLine ∧ ∀ H', Same H H' → Q (.bl (textM l)) H'
def sp_is_number : Sp := fun vs H Q _ => ∃ n : Int, vs = [.int n] ∧ Q (.bl (numM n)) H
theorem vto {Q : VK} {v v' : V} {H : Hp} (q : Q v H) (e : v' = v) : Q v' H := e ▸ q
section
variable {P : Program} {w : World} {K : PySem.W.Frag} {mg : Str → Option Value} {base : Heap}
theorem ok_is_sign (T : Txt K mg) : Pr P w K mg base CX0 1 "is_sign" ["character"] sp_is_sign := by
  refine pr0 T.d_is_sign sc_is_sign (fun vs H Q E h => ?_) (fun f cdv A outer s H vs Q E hr h => ?_)
  · obtain ⟨c, rfl, _⟩ := h; rfl
  · obtain ⟨c, rfl, q⟩ := h
    refine ⟨_, pss_cons (ps_set (i := 1) sc_is_sign.nd rfl (.inl rfl) (pe_callB call_ord (by rfl) T.n_ord boot_ord (pa_cons (pv 0) pa_nil)))
      (pss_one (ps_ret (pe_and (pe_chain op_le op_le pe_int (pv 1) pe_int) (pe_one (pe_cmpR op_ne (pv 1) (C8.pe_gc (by rfl) T.c_PERCENT) (nomark _)))))), ?_⟩
    have hc : ((⟨#[c]⟩ : Str).cps.getD 0 0) = c := rfl
    refine ⟨_, rfl, _, rfl, rfl, ?_⟩
    rw [hc]
    refine ⟨_, rfl, _, _, rfl, rfl, _, rfl, ite2 (fun h1 => ?_) (fun h1 => ?_)⟩
    · refine ⟨_, _, rfl, rfl, _, rfl, ite2 (fun h2 => ?_) (fun h2 => ?_)⟩
      · refine ⟨_, rfl, rfl, vto q ?_⟩
        have h1 := of_decide_eq_true h1
        have h2 := of_decide_eq_true h2
        congr 1
        unfold sgn
        rw [Bool.eq_iff_iff]
        simp only [Bool.not_eq_true', decide_eq_false_iff_not, decide_eq_true_eq]
        constructor
        · intro h3; exact ⟨by omega, by omega, fun z => h3 (by subst z; rfl)⟩
        · intro h3 z; exact h3.2.2 (by have := V.int.inj z; omega)
      · refine vto q ?_
        congr 1
        have h2 : ¬ ((c : Int) ≤ 126) := fun z => h2 (decide_eq_true z)
        unfold sgn
        symm
        exact decide_eq_false (by omega)
    · refine ⟨_, rfl, iteF (vto q ?_)⟩
      congr 1
      have h1 : ¬ ((32 : Int) ≤ c) := fun z => h1 (decide_eq_true z)
      unfold sgn
      symm
      exact decide_eq_false (by omega)
theorem ok_is_number (T : Txt K mg) : Pr P w K mg base CX0 1 "is_number" ["number"] sp_is_number := by
  refine pr0 T.d_is_number sc_is_number (fun vs H Q E h => ?_) (fun f cdv A outer s H vs Q E hr h => ?_)
  · obtain ⟨c, rfl, _⟩ := h; rfl
  · obtain ⟨n, rfl, q⟩ := h
    refine ⟨_, (pss_one (ps_ret (pe_chain op_le op_le (C8.pe_gc (by rfl) T.c_LEAST_NUMBER) (pv 0) (C8.pe_gc (by rfl) T.c_GREATEST_NUMBER)))), ?_⟩
    refine ⟨_, rfl, _, _, rfl, rfl, _, rfl, ite2 (fun h1 => ?_) (fun h1 => ?_)⟩
    · refine ⟨_, _, rfl, rfl, vto q ?_⟩
      unfold numM
      rw [h1, Bool.true_and]
    · refine vto q ?_
      unfold numM
      rw [Bool.eq_false_iff.mpr h1, Bool.false_and]
theorem ok_has_only_signs (T : Txt K mg) : Pr P w K mg base CX0 2 "has_only_signs" ["string"] sp_has_only_signs := by
  refine pr0 T.d_has_only_signs sc_has_only_signs (fun vs H Q E h => ?_) (fun f cdv A outer s H vs Q E hr h => ?_)
  · obtain ⟨c, rfl, _⟩ := h; rfl
  · obtain ⟨l, rfl, hl, q⟩ := h
    have G1 := ok_is_sign (P := P) (w := w) (base := base) T
    refine ⟨_, (pss_one (ps_ret (pe_callB (cr_all rfl) (by rfl) T.n_all boot_all (pa_cons
      (pe_lc (own := [("character", 1)]) (g := gName 1) (tt := tYes) rfl sc_has_only_signs.nd (pi_str (pv 0)) (blkOk_by (N := ["string", "character"]) (sc := defScope s_has_only_signs) (by decide +kernel))
        (fun _ _ _ _ _ => pg_name (i := 1) sc_has_only_signs.nd rfl (.inl rfl)) (fun _ _ _ _ _ => pts_nil)
        (fun _ _ _ _ _ => pe_k G1 hr (by decide) pass0 (by rfl) (pa_cons (pv 1) pa_nil))) pa_nil)))), ?_⟩
    refine ⟨_, rfl, _, rfl, lc_pure walk_str ((l.map sgn).map V.bl) (by simp) (by simpa using hl) (fun _ _ => trivial) ?_ ?_⟩
    · rintro i x H1 H2 y R hi gy sm ⟨rfl, c, gc, rfl⟩ k
      refine ⟨rfl, _, rfl, c, rfl, ?_⟩
      have e : y = .bl (sgn c) := by
        rw [List.map_map, List.getElem?_map, show l[i]? = some c by simpa using gc] at gy
        exact (Option.some.inj gy).symm
      subst e
      exact k _ (Same.refl _)
    · intro H1 D sm f e
      refine ⟨D, l.map sgn, rfl, .inl (.inl e), vto (q _ sm) ?_⟩
      rw [List.all_map]; rfl
theorem ok_may_be_prepared (T : Txt K mg) : Pr P w K mg base CX0 3 "may_be_prepared" ["string"] sp_may_be_prepared := by
  refine pr0 T.d_may_be_prepared sc_may_be_prepared (fun vs H Q E h => ?_) (fun f cdv A outer s H vs Q E hr h => ?_)
  · obtain ⟨c, rfl, _⟩ := h; rfl
  · obtain ⟨l, rfl, hl, q⟩ := h
    have G1 := ok_has_only_signs (P := P) (w := w) (base := base) T
    refine ⟨_, (pss_one (ps_ret (pe_and (pe_cmpR op_le (pe_callB call_len_str (by rfl) T.n_len PySem.boot_len (pa_cons (pv 0) pa_nil)) (C8.pe_gc (by rfl) T.c_LONGEST_STRING) (nomark _))
      (pe_one (pe_k G1 hr (by decide) pass0 (by rfl) (pa_cons (pv 0) pa_nil)))))), ?_⟩
    refine ⟨_, rfl, S l, rfl, by rw [S_len]; exact hl, _, _, rfl, rfl, _, rfl, ite2 (fun h1 => ?_) (fun h1 => ?_)⟩
    · have h1 := of_decide_eq_true h1
      rw [S_len] at h1
      refine ⟨_, rfl, l, rfl, hl, fun H' sm => vto (q _ sm) ?_⟩
      rw [decide_eq_true (show l.length ≤ 200 by omega), Bool.true_and]
    · refine vto (q _ (Same.refl _)) ?_
      have h1 : ¬ ((S l).length : Int) ≤ 200 := fun z => h1 (decide_eq_true z)
      rw [S_len] at h1
      rw [decide_eq_false (show ¬ l.length ≤ 200 by omega), Bool.false_and]
theorem ok_is_name (T : Txt K mg) : Pr P w K mg base CX0 1 "is_name" ["string"] sp_is_name := by
  refine pr0 T.d_is_name sc_is_name (fun vs H Q E h => ?_) (fun f cdv A outer s H vs Q E hr h => ?_)
  · obtain ⟨c, rfl, _⟩ := h; rfl
  · obtain ⟨l, rfl, hl, q⟩ := h
    refine ⟨_, (pss_one (ps_ret (pe_and (pe_chain op_le op_le pe_int (pe_callB call_len_str (by rfl) T.n_len PySem.boot_len (pa_cons (pv 0) pa_nil)) (C8.pe_gc (by rfl) T.c_LONGEST_NAME)) (pe_one (pe_callB (cr_all rfl) (by rfl) T.n_all boot_all (pa_cons
      (pe_lc (own := [("letter", 1)]) (g := gName 1) (tt := tYes) rfl sc_is_name.nd (pi_str (pv 0)) (blkOk_by (N := ["string", "letter"]) (sc := defScope s_is_name) (by decide +kernel))
        (fun _ _ _ _ _ => pg_name (i := 1) sc_is_name.nd rfl (.inl rfl)) (fun _ _ _ _ _ => pts_nil)
        (fun _ _ _ _ _ => pe_cmpR op_in_sign (pv 1) (C8.pe_gc (by rfl) T.c_LETTERS) (by rfl))) pa_nil)))))), ?_⟩
    refine ⟨_, rfl, S l, rfl, by rw [S_len]; exact hl, _, _, rfl, rfl, _, rfl, ite2 (fun h1 => ?_) (fun h1 => ?_)⟩
    · refine ⟨_, _, rfl, rfl, _, rfl, ite2 (fun h2 => ?_) (fun h2 => ?_)⟩
      · have h1 := of_decide_eq_true h1
        have h2 := of_decide_eq_true h2
        rw [S_len] at h1 h2
        refine ⟨_, rfl, _, rfl, lc_pure walk_str ((l.map isLet).map V.bl) (by simp) (by simpa using hl) (fun _ _ => trivial) ?_ ?_⟩
        · rintro i x H1 H2 y R hi gy sm ⟨rfl, c, gc, rfl⟩ k
          refine ⟨rfl, _, rfl, c, _, rfl, rfl, ?_⟩
          have e : y = .bl (isLet c) := by
            rw [List.map_map, List.getElem?_map, show l[i]? = some c by simpa using gc] at gy
            exact (Option.some.inj gy).symm
          subst e
          exact k _ (Same.refl _)
        · intro H1 D sm f e
          refine ⟨D, l.map isLet, rfl, .inl (.inl e), vto (q _ sm) ?_⟩
          unfold nameM
          rw [List.all_map, decide_eq_true (show 1 ≤ l.length by omega), decide_eq_true (show l.length ≤ 8 by omega)]; rfl
      · refine vto (q _ (Same.refl _)) ?_
        have h2 : ¬ ((S l).length : Int) ≤ 8 := fun z => h2 (decide_eq_true z)
        rw [S_len] at h2
        unfold nameM
        rw [decide_eq_false (show ¬ l.length ≤ 8 by omega), Bool.and_false, Bool.false_and]
    · refine ⟨_, rfl, iteF (vto (q _ (Same.refl _)) ?_)⟩
      have h1 : ¬ (1 : Int) ≤ ((S l).length : Int) := fun z => h1 (decide_eq_true z)
      rw [S_len] at h1
      unfold nameM
      rw [decide_eq_false (show ¬ 1 ≤ l.length by omega), Bool.false_and, Bool.false_and]
theorem ok_is_text (T : Txt K mg) : Pr P w K mg base CX0 3 "is_text" ["string"] sp_is_text := by
  refine pr0 T.d_is_text sc_is_text (fun vs H Q E h => ?_) (fun f cdv A outer s H vs Q E hr h => ?_)
  · obtain ⟨c, rfl, _⟩ := h; rfl
  · obtain ⟨l, rfl, hl, q⟩ := h
    have G1 := ok_has_only_signs (P := P) (w := w) (base := base) T
    refine ⟨_, (pss_one (ps_ret (pe_and (pe_cmpR op_le (pe_callB call_len_str (by rfl) T.n_len PySem.boot_len (pa_cons (pv 0) pa_nil)) (C8.pe_gc (by rfl) T.c_LONGEST_TEXT) (nomark _))
      (pe_and (pe_cmpR op_notIn_sign pe_str (pv 0) (by rfl)) (pe_one (pe_k G1 hr (by decide) pass0 (by rfl) (pa_cons (pv 0) pa_nil))))))), ?_⟩
    refine ⟨_, rfl, S l, rfl, by rw [S_len]; exact hl, _, _, rfl, rfl, _, rfl, ite2 (fun h1 => ?_) (fun h1 => ?_)⟩
    · have h1 := of_decide_eq_true h1
      rw [S_len] at h1
      refine ⟨_, rfl, 39, S l, rfl, rfl, _, rfl, ite2 (fun h2 => ?_) (fun h2 => ?_)⟩
      · refine ⟨_, rfl, l, rfl, hl, fun H' sm => vto (q _ sm) ?_⟩
        unfold textM
        rw [show (!decide (39 ∈ l)) = true from h2, decide_eq_true (show l.length ≤ 40 by omega)]; rfl
      · refine vto (q _ (Same.refl _)) ?_
        unfold textM
        rw [show (!decide (39 ∈ l)) = false from Bool.eq_false_iff.mpr h2, Bool.false_and, Bool.and_false]
    · refine vto (q _ (Same.refl _)) ?_
      have h1 : ¬ ((S l).length : Int) ≤ 40 := fun z => h1 (decide_eq_true z)
      rw [S_len] at h1
      unfold textM
      rw [decide_eq_false (show ¬ l.length ≤ 40 by omega), Bool.false_and]
end
end K01
end
section
namespace K01
open PySem PySem.Spec PyProof.Rows L2 Tl Mx SX
theorem step_cases (st : List (List Nat) × Bool) (c : Nat) : (splitStep st c).1 = st.1 ++ [[]] ∨ (splitStep st c).1 = st.1.dropLast ++ [st.1.getLastD [] ++ [c]] := by
  unfold splitStep
  dsimp only
  by_cases h : c = 32 ∧ (if c = 39 then !st.2 else st.2) = false
  · rw [if_pos h]; exact Or.inl rfl
  · rw [if_neg h]; exact Or.inr rfl
theorem split_ne (l : List Nat) : ∀ st : List (List Nat) × Bool, st.1 ≠ [] → (l.foldl splitStep st).1 ≠ [] := by
  induction l with
  | nil => intro st h; exact h
  | cons c l ih =>
    intro st h
    rw [List.foldl_cons]
    refine ih _ ?_
    rcases step_cases st c with e | e <;> rw [e] <;> simp
theorem split_len (l : List Nat) : ∀ st : List (List Nat) × Bool, st.1 ≠ [] → (l.foldl splitStep st).1.length ≤ st.1.length + l.length := by
  induction l with
  | nil => intro st _; simp
  | cons c l ih =>
    intro st h
    rw [List.foldl_cons]
    have h2 : (splitStep st c).1 ≠ [] := by
      rcases step_cases st c with e | e <;> rw [e] <;> simp
    have q := ih _ h2
    have z : (splitStep st c).1.length ≤ st.1.length + 1 := by
      have : 0 < st.1.length := List.length_pos_iff.mpr h
      rcases step_cases st c with e | e <;> rw [e] <;> simp <;> omega
    rw [List.length_cons]
    omega
theorem split_sum (l : List Nat) : ∀ st : List (List Nat) × Bool, ∀ p ∈ (l.foldl splitStep st).1, p.length ≤ (st.1.map List.length).sum + l.length := by
  induction l with
  | nil =>
    intro st p hp
    have : ∀ (xs : List (List Nat)), p ∈ xs → p.length ≤ (xs.map List.length).sum := by
      intro xs
      induction xs with
      | nil => intro h; cases h
      | cons x xs ih =>
        intro h
        rw [List.map_cons, List.sum_cons]
        rcases List.mem_cons.mp h with rfl | h
        · omega
        · have := ih h; omega
    exact this _ hp
  | cons c l ih =>
    intro st p hp
    rw [List.foldl_cons] at hp
    have q := ih _ p hp
    have z : ((splitStep st c).1.map List.length).sum ≤ (st.1.map List.length).sum + 1 := by
      rcases step_cases st c with e | e <;> rw [e]
      · simp
      · rcases List.eq_nil_or_concat st.1 with e | ⟨r, a, e⟩
        · rw [e]; simp
        · rw [e]; simp; omega
    rw [List.length_cons]
    omega
def sp_split_pieces : Sp := fun vs H Q _ => ∃ l : List Nat, vs = [.str (S l)] ∧ l.length ≤ 200 ∧ ∀ H' p, Same H H' → H p = none → H' p = some (.lst ((splitM l).map fun z => V.str (S z))) → Q (.ref p) H'
section
variable {P : Program} {w : World} {K : PySem.W.Frag} {mg : Str → Option Value} {base : Heap}
theorem ok_split_pieces (T : Txt K mg) : Pr P w K mg base CX0 1 "split_pieces" ["string"] sp_split_pieces := by
  refine pr0 T.d_split_pieces sc_split_pieces (fun vs H Q E h => ?_) (fun f cdv A outer s H vs Q E hr h => ?_)
  · obtain ⟨c, rfl, _⟩ := h; rfl
  · obtain ⟨l, rfl, hl, q⟩ := h
    refine ⟨_, pss_cons (ps_set (i := 1) sc_split_pieces.nd rfl (.inl rfl) (pe_lst (pa_cons pe_str pa_nil)))
      (pss_cons (ps_set (i := 2) sc_split_pieces.nd rfl (.inl rfl) pe_bl)
      (pss_cons (ps_for PassesOwn.never rfl (pi_str (pv 0)) (pg_name (i := 3) sc_split_pieces.nd rfl (.inl rfl))
        (pss_cons (ps_if (pt_cmpR op_eq (pv 3) pe_str (nomark _)) (pss_one (ps_set (i := 2) sc_split_pieces.nd rfl (.inl rfl) (pe_not (pv 2)))) pss_nil)
        (pss_one (ps_if (PW.pt (pw_and (pt_cmpR op_eq (pv 3) pe_str (nomark _)) (pw_and1 (pt_not (pt_val (pv 2))))))
          (pss_one (ps_expr (pe_bm PySem.F.plainAttrs_list PySem.F.slot_list_append PySem.F.type_list_append mt_append (pv 1) (pa_cons pe_str pa_nil))))
          (pss_one (ps_augS (pv 1) (pe_un un_neg pe_int) get_last (pv 3) (ip_of iop_add_str) set_list))))))
      (pss_one (ps_ret (pv 1))))), ?_⟩
    refine ⟨(by show 1 ≤ sizeLine; decide), fun p np => ?_⟩
    have s1 : Same H (upd H p (.lst [.str (S [])])) := same_upd np
    refine ⟨_, rfl, _, rfl, for_it walk_str (fun i σ H' => ∃ y3, σ = [some (.str (S l)), some (.ref p), some (.bl ((l.take i).foldl splitStep ([[]], false)).2), y3] ∧ Same H H' ∧
      H' p = some (.lst ((((l.take i).foldl splitStep ([[]], false)).1).map fun z => V.str (S z)))) ⟨none, rfl, s1, upd_same⟩ (fun _ _ _ _ _ => trivial) ?_ ?_⟩
    · rintro i x σ H1 H2 hi ⟨y3, rfl, sm, ep⟩ ⟨rfl, c, gc, rfl⟩
      have gl : l[i]? = some c := by simpa using gc
      have hi' : i < l.length := by simpa using hi
      obtain ⟨st, est⟩ : ∃ st, st = (l.take i).foldl splitStep ([[]], false) := ⟨_, rfl⟩
      have nx : (l.take (i + 1)).foldl splitStep ([[]], false) = splitStep st c := by rw [take_next gl, List.foldl_append, ← est]; rfl
      have ne : st.1 ≠ [] := by rw [est]; exact split_ne _ _ (by simp)
      have ln : st.1.length ≤ 201 := by
        have := split_len (l.take i) ([[]], false) (by simp)
        rw [← est] at this
        simp only [List.length_singleton, List.length_take] at this
        omega
      have sz : ∀ z ∈ st.1, z.length ≤ 200 := fun z hz => by
        have := split_sum (l.take i) ([[]], false) z (by rw [← est]; exact hz)
        simp only [List.map_cons, List.map_nil, List.sum_cons, List.sum_nil, List.length_nil, List.length_take] at this
        omega
      rw [nx]
      rw [← est] at ep ⊢
      -- what the second if does, for whatever stands in in_text
      have app : ∀ (y : Option V) (b : Bool), splitStep st c = (st.1 ++ [[]], b) → ∃ y3, [some (.str (S l)), some (.ref p), some (V.bl b), y] = [some (.str (S l)), some (.ref p), some (.bl (splitStep st c).2), y3] ∧
          Same H (upd H2 p (.lst ((st.1.map fun z => V.str (S z)) ++ [.str (S [])]))) ∧ (upd H2 p (.lst ((st.1.map fun z => V.str (S z)) ++ [.str (S [])]))) p = some (.lst ((splitStep st c).1.map fun z => V.str (S z))) := fun y b e => by
        rw [e]
        exact ⟨y, rfl, same_put np sm, by rw [upd_same, List.map_append]; rfl⟩
      obtain ⟨r, a, er⟩ : ∃ r a, st.1 = r ++ [a] := ⟨st.1.dropLast, st.1.getLast ne, (List.dropLast_concat_getLast ne).symm⟩
      have la : a.length ≤ 200 := sz a (by rw [er]; simp)
      have grow : ∀ (y : Option V) (b : Bool), splitStep st c = (st.1.dropLast ++ [st.1.getLastD [] ++ [c]], b) → ∃ y3, [some (.str (S l)), some (.ref p), some (V.bl b), y] = [some (.str (S l)), some (.ref p), some (.bl (splitStep st c).2), y3] ∧
          Same H (upd H2 p (.lst ((st.1.map fun z => V.str (S z)).set r.length (.str (S a ++ S [c]))))) ∧ (upd H2 p (.lst ((st.1.map fun z => V.str (S z)).set r.length (.str (S a ++ S [c]))))) p = some (.lst ((splitStep st c).1.map fun z => V.str (S z))) := fun y b e => by
        rw [e]
        refine ⟨y, rfl, same_put np sm, ?_⟩
        rw [upd_same, S_cat, er]
        simp
      have eqs : decide (V.str ⟨#[c]⟩ = V.str " ") = decide (c = 32) := by
        by_cases z : c = 32
        · subst z; rw [decide_eq_true rfl]; exact decide_eq_true rfl
        · rw [decide_eq_false z]; exact decide_eq_false fun w => z (by have := S_inj (V.str.inj w); exact (List.cons.inj this).1)
      have eqq : decide (V.str ⟨#[c]⟩ = V.str "'") = decide (c = 39) := by
        by_cases z : c = 39
        · subst z; rw [decide_eq_true rfl]; exact decide_eq_true rfl
        · rw [decide_eq_false z]; exact decide_eq_false fun w => z (by have := S_inj (V.str.inj w); exact (List.cons.inj this).1)
      have gl1 : SqL K H2 p ((r.map fun z => V.str (S z)) ++ [.str (S a)]) := .inl (.inl (by rw [ep, er]; simp))
      refine ⟨_, rfl, rfl, _, rfl, ite2 (fun h1 => ?_) (fun h1 => ?_)⟩
      · have h1 : c = 39 := of_decide_eq_true (eqq ▸ h1)
        have h32 : ¬ c = 32 := by omega
        refine ⟨_, rfl, _, rfl, ?_⟩
        refine ⟨_, rfl, rfl, _, rfl, ite2 (fun h2 => absurd (of_decide_eq_true (eqs ▸ h2)) h32) (fun h2 => iteF ?_)⟩
        refine ⟨_, rfl, _, rfl, ⟨p, _, _, rfl, rfl, gl1, ⟨_, rfl, _, _, rfl, rfl, ?_, ?_⟩⟩⟩
        · rw [S_len]; show a.length + 1 ≤ sizeLine; rw [sizeLine_eq]; omega
        · refine ⟨p, _, _, r.length, rfl, rfl, ep, ?_, grow _ _ ?_⟩
          · rw [List.length_map, er, List.length_append]; exact ixN_last _
          · unfold splitStep; dsimp only; rw [if_neg (fun z => h32 z.1), if_pos h1]
      · have h1 : ¬ c = 39 := fun z => h1 (by rw [eqq]; exact decide_eq_true z)
        have h2q : ∀ b : Bool, st.2 = b → (c = 32 ∧ b = false → splitStep st c = (st.1 ++ [[]], b)) ∧ (¬ (c = 32 ∧ b = false) → splitStep st c = (st.1.dropLast ++ [st.1.getLastD [] ++ [c]], b)) := fun b eb => by
          unfold splitStep; dsimp only; rw [if_neg h1, eb]
          exact ⟨fun z => by rw [if_pos z], fun z => by rw [if_neg z]⟩
        have tail : ∀ D : Prop, True := fun _ => trivial
        refine ⟨_, rfl, rfl, _, rfl, ite2 (fun h2 => ?_) (fun h2 => iteF ?_)⟩
        · have h2 : c = 32 := of_decide_eq_true (eqs ▸ h2)
          cases eb : st.2 with
          | false =>
            refine ⟨_, rfl, _, rfl, iteT ?_⟩
            refine ⟨_, rfl, .inl ⟨rfl, _, .inl (.inl ep)⟩, p, _, _, rfl, rfl, ep, ?_, app _ _ ((h2q _ eb).1 ⟨h2, rfl⟩)⟩
            rw [List.length_map, sizeLine_eq]; omega
          | true =>
            refine ⟨_, rfl, _, rfl, iteF ?_⟩
            refine ⟨_, rfl, _, rfl, ⟨p, _, _, rfl, rfl, gl1, ⟨_, rfl, _, _, rfl, rfl, ?_, ?_⟩⟩⟩
            · rw [S_len]; show a.length + 1 ≤ sizeLine; rw [sizeLine_eq]; omega
            · refine ⟨p, _, _, r.length, rfl, rfl, ep, ?_, grow _ _ ((h2q _ eb).2 fun z => by cases z.2)⟩
              rw [List.length_map, er, List.length_append]; exact ixN_last _
        · have h2 : ¬ c = 32 := fun z => h2 (by rw [eqs]; exact decide_eq_true z)
          refine ⟨_, rfl, _, rfl, ⟨p, _, _, rfl, rfl, gl1, ⟨_, rfl, _, _, rfl, rfl, ?_, ?_⟩⟩⟩
          · rw [S_len]; show a.length + 1 ≤ sizeLine; rw [sizeLine_eq]; omega
          · refine ⟨p, _, _, r.length, rfl, rfl, ep, ?_, grow _ _ ((h2q _ rfl).2 fun z => h2 z.1)⟩
            rw [List.length_map, er, List.length_append]; exact ixN_last _
    · rintro σ H1 ⟨y3, rfl, sm, ep⟩
      rw [show l.take (S l).cps.size = l from List.take_of_length_le (by simp)] at ep
      exact ⟨_, rfl, q _ _ sm np ep⟩
end
end K01
end
section
namespace K01
open PySem PySem.Spec PyProof.Rows L2 Tl Mx SX
/-- a def of a text that gives a value or Unreadable -/
def sp_str1 (C : Addr) (R : List Nat → Hp → (V → Prop) → Prop) (fails : List Nat → Prop) : Sp := fun vs H Q E => ∃ l : List Nat, vs = [.str (S l)] ∧ l.length ≤ 200 ∧ l.all sgn = true ∧
  (∀ H' v, Same H H' → R l H' (fun u => u = v) → Q v H') ∧ (fails l → ∀ H', Same H H' → E (.ref C) none H')
def sp_parse_name (C : Addr) : Sp := fun vs H Q E => ∃ l : List Nat, vs = [.str (S l)] ∧ l.length ≤ 200 ∧ (nameM l = true → ∀ H', Same H H' → Q (.str (S l)) H') ∧ (nameM l = false → ∀ H', Same H H' → E (.ref C) none H')
def sp_parse_text (C : Addr) : Sp := fun vs H Q E => ∃ l : List Nat, vs = [.str (S l)] ∧ l.length ≤ 200 ∧ (∀ z, textOf l = some z → ∀ H' a, Same H H' → H a = none → H' a = some (.tup [.str "text", .str (S z)]) → Q (.ref a) H') ∧ (textOf l = none → ∀ H', Same H H' → E (.ref C) none H')
def sp_parse_number (C : Addr) : Sp := fun vs H Q E => ∃ l : List Nat, vs = [.str (S l)] ∧ l.length ≤ 200 ∧ (∀ c ∈ l, c < 128) ∧ (∀ n, Mx.numOf l = some n → ∀ H', Same H H' → Q (.int n) H') ∧ (Mx.numOf l = none → ∀ H', Same H H' → E (.ref C) none H')
section
variable {P : Program} {w : World} {K : PySem.W.Frag} {mg : Str → Option Value} {base : Heap} {C : Addr}
theorem small200 {n : Nat} (h : n ≤ 200) : n ≤ sizeLine := by rw [sizeLine_eq]; omega
theorem ok_parse_name (T : Txt K mg) (U : ErrC K mg "Unreadable" C) : Pr P w K mg base (L2.CX P w) 2 "parse_name" ["piece"] (sp_parse_name C) := by
  refine prX T.d_parse_name sc_parse_name (fun vs H Q E h => ?_) (fun f cdv A outer s H vs Q E hr h => ?_)
  · obtain ⟨c, rfl, _⟩ := h; rfl
  · obtain ⟨l, rfl, hl, q, e⟩ := h
    have G1 := ok_is_name (P := P) (w := w) (base := base) T
    obtain ⟨n1, n2, bm, xb, xi⟩ := U.ex
    refine ⟨_, pss_cons (ps_if (pt_not (pt_val (pe_k G1 hr (by decide) pass0 (by rfl) (pa_cons (pv 0) pa_nil))))
        (pss_one (ps_raise rfl (takes_of rfl rfl rfl rfl) (pmk_own xb xi U.g U.kp (raises_own U.sb U.ty) (by rfl)))) pss_nil)
      (pss_one (ps_ret (pv 0))), ?_⟩
    refine ⟨_, rfl, l, rfl, small200 hl, fun H' sm => ⟨_, rfl, ?_⟩⟩
    cases hn : nameM l with
    | true => exact iteF ⟨_, rfl, q hn _ sm⟩
    | false => exact iteT (e hn _ sm)
theorem ok_parse_text (T : Txt K mg) (U : ErrC K mg "Unreadable" C) : Pr P w K mg base (L2.CX P w) 4 "parse_text" ["piece"] (sp_parse_text C) := by
  refine prX T.d_parse_text sc_parse_text (fun vs H Q E h => ?_) (fun f cdv A outer s H vs Q E hr h => ?_)
  · obtain ⟨c, rfl, _⟩ := h; rfl
  · obtain ⟨l, rfl, hl, q, e⟩ := h
    have G1 := ok_is_text (P := P) (w := w) (base := base) T
    obtain ⟨n1, n2, bm, xb, xi⟩ := U.ex
    refine ⟨_, pss_cons (ps_set (i := 1) sc_parse_text.nd rfl (.inl rfl) (pe_slice sl_str (pv 0) (po_some pe_int) (po_some (pe_un un_neg pe_int))))
      (pss_cons (ps_if (PW.pt (pw_or (pt_cmpR op_lt (pe_callB call_len_str (by rfl) T.n_len PySem.boot_len (pa_cons (pv 0) pa_nil)) pe_int (nomark _)) (pw_or (pt_not (pt_val (pe_bm PySem.F.plainAttrs_str PySem.F.slot_str_endswith PySem.F.type_str_endswith mt_endswith (pv 0) (pa_cons pe_str pa_nil))))
            (pw_or1 (pt_not (pt_val (pe_k G1 hr (by decide) pass0 (by rfl) (pa_cons (pv 1) pa_nil))))))))
        (pss_one (ps_raise rfl (takes_of rfl rfl rfl rfl) (pmk_own xb xi U.g U.kp (raises_own U.sb U.ty) (by rfl)))) pss_nil)
      (pss_one (ps_ret (pe_tup (pa_cons pe_str (pa_cons (pv 1) pa_nil)))))), ?_⟩
    refine ⟨_, rfl, _, rfl, _, rfl, _, rfl, S l, rfl, by rw [S_len]; exact small200 hl, ?_⟩
    rw [cutMid]
    refine ⟨_, rfl, S l, rfl, by rw [S_len]; exact small200 hl, _, _, rfl, rfl, _, rfl, ?_⟩
    rw [S_len]
    have le : (l.drop 1).dropLast.length ≤ 200 := by rw [List.length_dropLast, List.length_drop]; omega
    refine ite2 (fun h1 => ?_) (fun h1 => ?_)
    · refine iteT (e ?_ _ (Same.refl _))
      unfold textOf
      have h1 : (l.length : Int) < 2 := of_decide_eq_true h1
      rw [if_neg (fun z => by have := z.1; omega)]
    · have h1 : ¬ (l.length : Int) < 2 := fun z => h1 (decide_eq_true z)
      refine ⟨_, rfl, rfl, _, S [39], rfl, rfl, ?_⟩
      rw [ends]
      refine ⟨_, rfl, ite2 (fun h2 => ?_) (fun h2 => ?_)⟩
      · refine iteT (e ?_ _ (Same.refl _))
        have h2 : ¬ l.getLast? = some 39 := of_decide_eq_false (by simpa using h2)
        unfold textOf
        rw [if_neg (fun z => h2 z.2.1)]
      · have h2 : l.getLast? = some 39 := of_decide_eq_true (by simpa using h2)
        refine ⟨_, rfl, (l.drop 1).dropLast, rfl, small200 le, fun H' sm => ⟨_, rfl, ?_⟩⟩
        cases hn : textM (l.drop 1).dropLast with
        | true =>
          refine iteF ⟨_, rfl, (by show 2 ≤ sizeLine; decide), fun p np => ?_⟩
          refine q _ (by unfold textOf; rw [if_pos ⟨by omega, h2, hn⟩]) _ p (same_put (sm.free np) sm) (sm.free np) upd_same
        | false =>
          refine iteT (e ?_ _ sm)
          unfold textOf
          rw [if_neg (fun z => by rw [hn] at z; cases z.2.2)]
theorem ok_parse_number (T : Txt K mg) (U : ErrC K mg "Unreadable" C) : Pr P w K mg base (L2.CX P w) 2 "parse_number" ["piece"] (sp_parse_number C) := by
  refine prX T.d_parse_number sc_parse_number (fun vs H Q E h => ?_) (fun f cdv A outer s H vs Q E hr h => ?_)
  · obtain ⟨c, rfl, _⟩ := h; rfl
  · obtain ⟨l, rfl, hl, hc, q, e⟩ := h
    have G1 := ok_is_number (P := P) (w := w) (base := base) T
    obtain ⟨n1, n2, bm, xb, xi⟩ := U.ex
    refine ⟨_, pss_cons (ps_set (i := 1) sc_parse_number.nd rfl (.inl rfl) (pe_bm PySem.F.plainAttrs_str PySem.F.slot_str_removeprefix PySem.F.type_str_removeprefix mt_removeprefix (pv 0) (pa_cons pe_str pa_nil)))
      (pss_cons (ps_if (pt_not (pt_val (pe_bm0 PySem.F.plainAttrs_str PySem.F.slot_str_isdigit PySem.F.type_str_isdigit mt_isdigit (pv 1))))
        (pss_one (ps_raise rfl (takes_of rfl rfl rfl rfl) (pmk_own xb xi U.g U.kp (raises_own U.sb U.ty) (by rfl)))) pss_nil)
      (pss_cons (ps_set (i := 2) sc_parse_number.nd rfl (.inl rfl) (pe_callTy call_int_str (by rfl) T.n_int boot_int (pa_cons (pv 0) pa_nil)))
      (pss_cons (ps_if (PW.pt (pw_or (pt_cmpR op_ne (pe_callTy call_str_int (by rfl) T.n_str boot_str (pa_cons (pv 2) pa_nil)) (pv 0) (nomark _)) (pw_or1 (pt_not (pt_val (pe_k G1 hr (by decide) pass0 (by rfl) (pa_cons (pv 2) pa_nil)))))))
        (pss_one (ps_raise rfl (takes_of rfl rfl rfl rfl) (pmk_own xb xi U.g U.kp (raises_own U.sb U.ty) (by rfl)))) pss_nil)
      (pss_one (ps_ret (pv 2)))))), ?_⟩
    refine ⟨_, rfl, rfl, _, S [45], rfl, rfl, by rw [S_len]; exact small200 hl, ?_⟩
    rw [noPrefix]
    obtain ⟨d, ed⟩ : ∃ d, d = (if l.head? = some 45 then l.drop 1 else l) := ⟨_, rfl⟩
    rw [← ed]
    refine ⟨_, rfl, rfl, _, rfl, rfl, trivial, ?_⟩
    have hd : ∀ c ∈ d, c < 128 := fun c m => hc c (by
      rw [ed] at m
      by_cases z : l.head? = some 45
      · rw [if_pos z] at m; exact List.mem_of_mem_drop m
      · rw [if_neg z] at m; exact m)
    rw [allDigits d hd]
    refine ⟨_, rfl, ?_⟩
    have numNone : (¬ ∃ n : Int, intS n = l) → Mx.numOf l = none := fun z => by
      unfold Mx.numOf; dsimp only
      rw [if_neg fun y => z ⟨_, y.1⟩]
    cases hdig : (decide (d ≠ []) && d.all isDig) with
    | false =>
      refine iteT (e (numNone fun ⟨n, en⟩ => ?_) _ (Same.refl _))
      have a1 := intS_all n
      have a2 := intS_ne n
      rw [en, ← ed] at a1 a2
      rw [a1, decide_eq_true a2] at hdig
      cases hdig
    | true =>
      have hne : d ≠ [] := of_decide_eq_true (Bool.and_eq_true_iff.mp hdig).1
      have hall : d.all isDig = true := (Bool.and_eq_true_iff.mp hdig).2
      obtain ⟨v, ev⟩ : ∃ v : Int, v = (if l.head? = some 45 then -((NumText.digitsVal (l.drop 1) : Nat) : Int) else ((NumText.digitsVal l : Nat) : Int)) := ⟨_, rfl⟩
      have hv : intText? (S l) = some v := by rw [ev]; exact intS_val (by omega) (by rw [← ed]; exact hall) (by rw [← ed]; exact hne)
      have hnum : Mx.numOf l = if intS v = l ∧ numM v = true then some v else none := by unfold Mx.numOf; dsimp only; rw [← ev]
      refine iteF ⟨_, rfl, S l, v, rfl, hv, by rw [S_len]; omega, ?_⟩
      refine ⟨_, rfl, v, rfl, ?_, _, rfl, rfl, _, rfl, ?_⟩
      · rw [ev]; exact val_small hl (by rw [← ed]; exact hall)
      · rw [show Str.ofString (toString v) = S (intS v) from str_int v]
        by_cases hs : intS v = l
        · rw [hs, decide_eq_true (show (V.str (S l) = V.str (S l)) from rfl)]
          refine iteF ⟨_, rfl, v, rfl, _, rfl, ?_⟩
          cases hn : numM v with
          | true => exact iteF ⟨_, rfl, q v (by rw [hnum, if_pos ⟨hs, hn⟩]) _ (Same.refl _)⟩
          | false => exact iteT (e (by rw [hnum, if_neg fun z => by rw [hn] at z; cases z.2]) _ (Same.refl _))
        · rw [decide_eq_false (show ¬ (V.str (S (intS v)) = V.str (S l)) from fun z => hs (S_inj (V.str.inj z)))]
          exact iteT (iteT (e (by rw [hnum, if_neg fun z => hs z.1]) _ (Same.refl _)))
end
end K01
end
section
namespace K01
open PySem PySem.Spec PyProof.Rows L2 Tl Mx SX
/-- a part of a statement, its pairs as tuples or as lists -/
def IsQ (H : Hp) (v : V) : Part → Prop
  | .name l => v = .str (S l)
  | .num n => v = .int n
  | .text l => ∃ a, v = .ref a ∧ (H a = some (.tup [.str "text", .str (S l)]) ∨ H a = some (.lst [.str "text", .str (S l)]))
  | .par n => ∃ a, v = .ref a ∧ (H a = some (.tup [.str "parameter", .int n]) ∨ H a = some (.lst [.str "parameter", .int n]))
theorem IsQ.of {H : Hp} {v : V} {p : Part} (h : IsP H v p) : IsQ H v p := by
  cases p with
  | name l => exact h
  | num n => exact h
  | text l => obtain ⟨a, e, h⟩ := h; exact ⟨a, e, .inl h⟩
  | par n => obtain ⟨a, e, h⟩ := h; exact ⟨a, e, .inl h⟩
theorem IsQ.same {H H' : Hp} {v : V} {p : Part} (s : Same H H') (h : IsQ H v p) : IsQ H' v p := by
  cases p with
  | name l => exact h
  | num n => exact h
  | text l => obtain ⟨a, e, h⟩ := h; exact ⟨a, e, h.imp (s _ _) (s _ _)⟩
  | par n => obtain ⟨a, e, h⟩ := h; exact ⟨a, e, h.imp (s _ _) (s _ _)⟩
def isPar : Part → Bool
  | .par _ => true
  | _ => false
def sp_is_parameter : Sp := fun vs H Q _ => ∃ x p, vs = [x] ∧ IsQ H x p ∧ ∀ H', Same H H' → Q (.bl (isPar p)) H'
theorem kTT {K : PySem.W.Frag} : PySem.W.kitAny K (.type "tuple") [.type "tuple", .type "list"] = some true := kitAny_cons (kit_ty (r := true) (by decide +kernel)) (fun z => by cases z) (fun _ => rfl)
theorem kTL {K : PySem.W.Frag} : PySem.W.kitAny K (.type "list") [.type "tuple", .type "list"] = some true := kitAny_cons (kit_ty (r := false) (by decide +kernel)) (fun _ => kitAny_cons (kit_ty (r := true) (by decide +kernel)) (fun z => by cases z) (fun _ => rfl)) (fun z => by cases z)
theorem kTS {K : PySem.W.Frag} : PySem.W.kitAny K (.type "str") [.type "tuple", .type "list"] = some false := kitAny_cons (kit_ty (r := false) (by decide +kernel)) (fun _ => kitAny_cons (kit_ty (r := false) (by decide +kernel)) (fun _ => kitAny_nil) (fun z => by cases z)) (fun z => by cases z)
theorem kTI {K : PySem.W.Frag} : PySem.W.kitAny K (.type "int") [.type "tuple", .type "list"] = some false := kitAny_cons (kit_ty (r := false) (by decide +kernel)) (fun _ => kitAny_cons (kit_ty (r := false) (by decide +kernel)) (fun _ => kitAny_nil) (fun z => by cases z)) (fun z => by cases z)
section
variable {P : Program} {w : World} {K : PySem.W.Frag} {mg : Str → Option Value} {base : Heap} {C : Addr}
theorem ok_is_parameter (T : Txt K mg) : Pr P w K mg base CX0 1 "is_parameter" ["part"] sp_is_parameter := by
  refine pr0 T.d_is_parameter sc_is_parameter (fun vs H Q E h => ?_) (fun f cdv A outer s H vs Q E hr h => ?_)
  · obtain ⟨x, p, rfl, _⟩ := h; rfl
  · obtain ⟨x, p, rfl, hp, q⟩ := h
    refine ⟨_, (pss_one (ps_ret (pe_and (pe_callB call_isiT (by rfl) T.n_isinstance boot_isinstance (pa_cons (pv 0) (pa_cons (pe_tup (pa_cons (pe_bltn (v := .ty "tuple") (by rfl) T.n_tuple boot_tuple rfl) (pa_cons (pe_bltn (v := .ty "list") (by rfl) T.n_list boot_list rfl) pa_nil))) pa_nil)))
      (pe_one (pe_cmpR op_eq (pe_ix ix_seq (pv 0) pe_int (fun _ _ => rfl)) pe_str (nomark _)))))), ?_⟩
    refine ⟨_, rfl, (by show 2 ≤ sizeLine; decide), fun t nt => ?_⟩
    have sm : Same H (upd H t (.tup [.ty "tuple", .ty "list"])) := same_upd nt
    have cls : Paired ClsV [.ty "tuple", .ty "list"] [.type "tuple", .type "list"] := .cons (.ty _) (.cons (.ty _) .nil)
    cases p with
    | name l => obtain rfl := hp; exact ⟨_, t, _, _, _, _, rfl, upd_same, cls, .base (.str _), kTS, _, rfl, iteF (q _ sm)⟩
    | num n => obtain rfl := hp; exact ⟨_, t, _, _, _, _, rfl, upd_same, cls, .base (.int _), kTI, _, rfl, iteF (q _ sm)⟩
    | text l =>
      obtain ⟨a, rfl, h⟩ := hp
      rcases h with h | h
      · refine ⟨_, t, _, _, _, _, rfl, upd_same, cls, .base (.tup (sm _ _ h)), kTT, _, rfl, iteT ⟨_, rfl, .inr (.inl ⟨a, _, 0, _, rfl, rfl, SqT.of (sm _ _ h), rfl, rfl, q _ sm⟩)⟩⟩
      · refine ⟨_, t, _, _, _, _, rfl, upd_same, cls, .base (.lst (sm _ _ h)), kTL, _, rfl, iteT ⟨_, rfl, .inl ⟨a, _, 0, _, rfl, rfl, SqL.of (sm _ _ h), rfl, rfl, q _ sm⟩⟩⟩
    | par n =>
      obtain ⟨a, rfl, h⟩ := hp
      rcases h with h | h
      · refine ⟨_, t, _, _, _, _, rfl, upd_same, cls, .base (.tup (sm _ _ h)), kTT, _, rfl, iteT ⟨_, rfl, .inr (.inl ⟨a, _, 0, _, rfl, rfl, SqT.of (sm _ _ h), rfl, rfl, q _ sm⟩)⟩⟩
      · refine ⟨_, t, _, _, _, _, rfl, upd_same, cls, .base (.lst (sm _ _ h)), kTL, _, rfl, iteT ⟨_, rfl, .inl ⟨a, _, 0, _, rfl, rfl, SqL.of (sm _ _ h), rfl, rfl, q _ sm⟩⟩⟩
end
end K01
end
section
namespace K01
open PySem PySem.Spec PyProof.Rows L2 Tl Mx SX
/-- the tables of the top -/
structure Tab (K : PySem.W.Frag) (w : World) (mg : Str → Option Value) : Prop where
  pars : ∃ a, (∃ u, mg "PARAMETERS" = some u ∧ RelV (.ref a) u) ∧ ∀ H, SqT K H a [.str "$1", .str "$2", .str "$3", .str "$4"]
  forms : ∃ d es n, (∃ u, mg "FORMS" = some u ∧ RelV (.ref d) u) ∧ KDict K w d es n ∧ ∀ k : Str, (formsOf k = none → findBy Value.isStrOf es k = none) ∧ (∀ fs, formsOf k = some fs → ∃ a, findBy Value.isStrOf es k = some (.ref a) ∧ ∀ H, SqT K H a (fs.map V.str))
def sp_parameters (K : PySem.W.Frag) : Sp := fun vs H Q _ => ∃ a xs ps, vs = [.ref a] ∧ (SqT K H a xs ∨ SqL K H a xs) ∧ xs.length ≤ 1000 ∧ Paired (IsQ H) xs ps ∧ ∀ H', Same H H' → Q (.int (mostOf ps)) H'
theorem Paired.at {α β : Type} {F : α → β → Prop} : ∀ {l₁ : List α} {l₂ : List β} {i : Nat} {a : α}, Paired F l₁ l₂ → l₁[i]? = some a → ∃ b, l₂[i]? = some b ∧ F a b
  | _, _, _, _, .nil, e => by simp at e
  | _, _, 0, _, .cons r _, e => by simp at e; subst e; exact ⟨_, rfl, r⟩
  | _, _, i + 1, a, .cons _ t, e => by
    obtain ⟨b, h1, h2⟩ := Paired.at (i := i) (a := a) t (by simpa using e)
    exact ⟨b, by simpa using h1, h2⟩
theorem Paired.len {α β : Type} {F : α → β → Prop} : ∀ {l₁ : List α} {l₂ : List β}, Paired F l₁ l₂ → l₁.length = l₂.length
  | _, _, .nil => rfl
  | _, _, .cons _ t => congrArg (· + 1) (Paired.len t)
theorem pars_next {ps : List Part} {i : Nat} {p : Part} (h : ps[i]? = some p) : parsOf (ps.take (i + 1)) = parsOf (ps.take i) ++ (parNo p).toList := by
  unfold parsOf
  rw [take_next h, List.filterMap_append]
  congr 1
section
variable {P : Program} {w : World} {K : PySem.W.Frag} {mg : Str → Option Value} {base : Heap} {C : Addr}
theorem ok_parameters (T : Txt K mg) : Pr P w K mg base CX0 2 "parameters" ["parts"] (sp_parameters K) := by
  refine pr0 T.d_parameters sc_parameters (fun vs H Q E h => ?_) (fun f cdv A outer s H vs Q E hr h => ?_)
  · obtain ⟨a, xs, ps, rfl, _⟩ := h; rfl
  · obtain ⟨a, xs, ps, rfl, sq, small, hp, q⟩ := h
    have G1 := ok_is_parameter (P := P) (w := w) (base := base) T
    have len := Paired.len hp
    -- one turn
    have turn : ∀ (i : Nat) (x : V) (H1 H' : Hp) (R : V → Hp → Prop) (Nn : Hp → Prop), i < xs.length → Same H H1 → YAt xs i H1 x H' → (∀ z H4, Same H1 H4 → (parsOf (ps.take (i + 1))).map V.int = (parsOf (ps.take i)).map V.int ++ [z] → R z H4) → (∀ H4, Same H1 H4 → (parsOf (ps.take (i + 1))).map V.int = (parsOf (ps.take i)).map V.int → Nn H4) →
        gName 1 x (wipe (L2.start ["parts", "part"] [V.ref a]) [1]) H' fun σ2 H2 => wipe σ2 [1] = wipe (L2.start ["parts", "part"] [V.ref a]) [1] ∧ (tB (tCall sp_is_parameter [] E0 (tCons (tVar 1) tNil))) σ2 H2 fun b H3 => if b = true then (tOp (rIx K) (tVar 1) (tC (.int 1))) σ2 H3 R else Nn H3 := by
      rintro i x H1 H' R Nn hi sm ⟨rfl, gx⟩ kR kN
      obtain ⟨p, gp, isp⟩ := Paired.at hp gx
      have isp1 := isp.same sm
      refine ⟨rfl, _, rfl, x, p, rfl, isp1, fun H4 s4 => ⟨_, rfl, ?_⟩⟩
      have nx := pars_next gp
      cases p with
      | name l => exact iteF (kN _ s4 (by rw [nx]; simp [parNo]))
      | num n => exact iteF (kN _ s4 (by rw [nx]; simp [parNo]))
      | text l => exact iteF (kN _ s4 (by rw [nx]; simp [parNo]))
      | par n =>
        obtain ⟨b, rfl, h⟩ := isp1
        have k := kR (.int n) _ s4 (by rw [nx]; simp [parNo])
        rcases h with h | h
        · exact iteT ⟨_, rfl, .inr (.inl ⟨b, _, 1, _, rfl, rfl, SqT.of (s4 _ _ h), rfl, k⟩)⟩
        · exact iteT ⟨_, rfl, .inl ⟨b, _, 1, _, rfl, rfl, SqL.of (s4 _ _ h), rfl, k⟩⟩
    have fin : ∀ (H1 : Hp) (D : Addr), Same H H1 → H D = none → H1 D = some (.lst ((parsOf (ps.take xs.length)).map V.int)) → rMaxD K [.ref D] [.int 0] H1 Q := fun H1 D sm _ e => by
      rw [List.take_of_length_le (by omega)] at e
      refine ⟨D, parsOf ps, 0, rfl, rfl, .inl (.inl e), vto (q _ sm) ?_⟩
      unfold mostOf
      cases parsOf ps <;> rfl
    have sizes : ∀ i, i < xs.length → ((parsOf (ps.take i)).map V.int).length < sizeLine := fun i hi => by
      have z : (parsOf (ps.take i)).length ≤ (ps.take i).length := List.length_filterMap_le _ _
      rw [List.length_take] at z
      rw [List.length_map, sizeLine_eq]; omega
    rcases sq with sq | sq
    · refine ⟨_, (pss_one (ps_ret (pe_callBK (cr_maxD rfl) (by rfl) T.n_max boot_max (pa_cons (pe_lc (own := [("part", 1)]) (g := gName 1) (te := tOp (rIx K) (tVar 1) (tC (.int 1))) rfl sc_parameters.nd (pi_tup (pv 0)) (blkOk_by (N := ["parts", "part"]) (sc := defScope s_parameters) (by decide +kernel))
          (fun _ _ _ _ _ => pg_name (i := 1) sc_parameters.nd rfl (.inl rfl)) (fun _ _ _ _ _ => pts_one (pt_val (pe_k G1 hr (by decide) pass0 (by rfl) (pa_cons (pv 1) pa_nil))))
          (fun _ _ _ _ _ => pe_ix ix_seq (pv 1) pe_int (fun _ _ => rfl))) pa_nil) (pk_cons pe_int pk_nil)))), ?_⟩
      exact ⟨_, rfl, a, rfl, ⟨_, sq⟩, lc_acc walk_tup (fun i => (parsOf (ps.take i)).map V.int) (by simp [parsOf]) sizes (fun H1 sm => Same.tup sm sq) turn fin⟩
    · refine ⟨_, (pss_one (ps_ret (pe_callBK (cr_maxD rfl) (by rfl) T.n_max boot_max (pa_cons (pe_lc (own := [("part", 1)]) (g := gName 1) (te := tOp (rIx K) (tVar 1) (tC (.int 1))) rfl sc_parameters.nd (pi_list (pv 0)) (blkOk_by (N := ["parts", "part"]) (sc := defScope s_parameters) (by decide +kernel))
          (fun _ _ _ _ _ => pg_name (i := 1) sc_parameters.nd rfl (.inl rfl)) (fun _ _ _ _ _ => pts_one (pt_val (pe_k G1 hr (by decide) pass0 (by rfl) (pa_cons (pv 1) pa_nil))))
          (fun _ _ _ _ _ => pe_ix ix_seq (pv 1) pe_int (fun _ _ => rfl))) pa_nil) (pk_cons pe_int pk_nil)))), ?_⟩
      exact ⟨_, rfl, a, rfl, ⟨_, sq⟩, lc_acc walk_list (fun i => (parsOf (ps.take i)).map V.int) (by simp [parsOf]) sizes (fun H1 sm => sm.seq sq) turn fin⟩
def sp_find_form (C : Addr) : Sp := fun vs H Q E => ∃ (wd : Str) (n : Nat), vs = [.str wd, .int (n : Int)] ∧ (∀ f, formOf wd n = some f → ∀ H', Same H H' → Q (.str f) H') ∧ (formOf wd n = none → ∀ H', Same H H' → E (.ref C) none H')
theorem forms_len : ∀ (k : Str) (fs : List Str), formsOf k = some fs → ∀ f ∈ fs, f.length ≤ 3 := by
  intro k fs h f hf
  have z : ∀ (t : List (Str × List Str)), (∀ p ∈ t, ∀ f ∈ p.2, f.length ≤ 3) → t.lookup k = some fs → f.length ≤ 3 := by
    intro t
    induction t with
    | nil => intro _ q; cases q
    | cons p t ih =>
      intro hp q
      rw [List.lookup_cons] at q
      cases c : k == p.1 with
      | true => rw [c] at q; obtain rfl := Option.some.inj q; exact hp p (List.mem_cons_self ..) f hf
      | false => rw [c] at q; exact ih (fun p' m => hp p' (List.mem_cons_of_mem _ m)) q
  exact z formTable (by decide +kernel) h
theorem ok_find_form (T : Txt K mg) (B : Tab K w mg) (U : ErrC K mg "Unreadable" C) : Pr P w K mg base (L2.CX P w) 1 "find_form" ["word", "many"] (sp_find_form C) := by
  refine prX T.d_find_form sc_find_form (fun vs H Q E h => ?_) (fun f cdv A outer s H vs Q E hr h => ?_)
  · obtain ⟨wd, n, rfl, _⟩ := h; rfl
  · obtain ⟨wd, n, rfl, q, e⟩ := h
    obtain ⟨n1, n2, bm, xb, xi⟩ := U.ex
    obtain ⟨d, es, nd, gF, D, tab⟩ := B.forms
    refine ⟨_, pss_cons (ps_for (passes_of rfl) rfl (pi_tup (pe_kget2 D (C8.pe_gc (by rfl) gF) (pv 0) (pe_tup pa_nil) ⟨rfl, rfl, rfl, rfl⟩)) (pg_name (i := 2) sc_find_form.nd rfl (.inl rfl))
        (pss_one (ps_if (pt_cmpR op_eq (pe_callB call_len_str (by rfl) T.n_len PySem.boot_len (pa_cons (pv 2) pa_nil)) (pv 1) (nomark _)) (pss_one (ps_ret (pv 2))) pss_nil)))
      (pss_one (ps_raise rfl (takes_of rfl rfl rfl rfl) (pmk_own xb xi U.g U.kp (raises_own U.sb U.ty) (by rfl)))), ?_⟩
    refine ⟨rfl, _, rfl, Nat.zero_le _, fun p np => ⟨wd, rfl, fun u0 h0 => ?_, fun h0 => ?_⟩⟩
    · cases hf : formsOf wd with
      | none => rw [(tab wd).1 hf] at h0; cases h0
      | some fs =>
        obtain ⟨a, ea, sq⟩ := (tab wd).2 fs hf
        have eu : u0 = .ref a := Option.some.inj (h0.symm.trans ea)
        subst eu
        have small := forms_len wd fs hf
        have efo : formOf wd n = fs.find? (fun f => f.length == n) := by unfold formOf; rw [hf]; rfl
        refine ⟨.ref a, rfl, a, rfl, ⟨_, sq _⟩, for_it walk_tup (fun i σ H' => ∃ y, σ = [some (.str wd), some (.int (n : Int)), y] ∧ Same H H' ∧ (fs.drop i).find? (fun f => f.length == n) = fs.find? (fun f => f.length == n))
          ⟨none, rfl, same_upd np, rfl⟩ (fun i σ H' _ z => sq _) ?_ ?_⟩
        · rintro i x σ H1 H2 hi ⟨y, rfl, sm, inv⟩ ⟨rfl, gx⟩
          rw [List.length_map] at hi
          have gf : fs[i]? = some fs[i] := List.getElem?_eq_getElem hi
          have ex : x = .str fs[i] := by rw [List.getElem?_map, gf] at gx; exact (Option.some.inj gx).symm
          subst ex
          have le3 := small _ (List.getElem_mem hi)
          rw [List.drop_eq_getElem_cons hi] at inv
          refine ⟨_, rfl, fs[i], rfl, by rw [sizeLine_eq]; omega, _, rfl, rfl, _, rfl, ite2 (fun h1 => ?_) (fun h1 => ?_)⟩
          · have h1 : (fs[i].length : Int) = (n : Int) := V.int.inj (of_decide_eq_true h1)
            refine ⟨_, rfl, q _ ?_ _ sm⟩
            rw [efo, ← inv, List.find?_cons_of_pos (by simp; omega)]
          · have h1 : ¬ (fs[i].length : Int) = (n : Int) := fun z => h1 (decide_eq_true (by rw [z]))
            refine ⟨_, rfl, sm, ?_⟩
            rw [← inv, List.find?_cons_of_neg (by simp; omega)]
        · rintro σ H1 ⟨y, rfl, sm, inv⟩
          refine e ?_ _ sm
          rw [efo, ← inv, List.drop_eq_nil_of_le (by simp)]; rfl
    · cases hf : formsOf wd with
      | some fs => obtain ⟨a, ea, sq⟩ := (tab wd).2 fs hf; rw [ea] at h0; cases h0
      | none =>
        refine ⟨p, rfl, ⟨[], SqT.of upd_same⟩, for_it walk_tup (fun i σ H' => i = 0 ∧ H' = upd H p (.tup [])) ⟨rfl, rfl⟩ (fun i σ H' _ z => SqT.of (by rw [z.2]; exact upd_same)) (fun i x σ H1 H2 hi _ _ => absurd hi (Nat.not_lt_zero _)) ?_⟩
        rintro σ H1 ⟨_, rfl⟩
        refine e ?_ _ (same_upd np)
        unfold formOf; rw [hf]; rfl
end
end K01
end
section
namespace K01
open PySem PySem.Spec PyProof.Rows L2 Tl Mx SX
def sp_parse_part (C : Addr) : Sp := fun vs H Q E => ∃ (c : Nat) (l : List Nat), vs = [.str ⟨#[c]⟩, .str (S l)] ∧ l.length ≤ 200 ∧ (∀ x ∈ l, x < 128) ∧ (∀ p, partOf c l = some p → ∀ H' v, Same H H' → IsP H' v p → Q v H') ∧ (partOf c l = none → ∀ H', Same H H' → E (.ref C) none H')
theorem sbeq (a b : List Nat) : (S a == S b) = decide (a = b) := S_beq_eq
section
variable {P : Program} {w : World} {K : PySem.W.Frag} {mg : Str → Option Value} {base : Heap} {C : Addr}
theorem ok_parse_part (T : Txt K mg) (B : Tab K w mg) (U : ErrC K mg "Unreadable" C) : Pr P w K mg base (L2.CX P w) 5 "parse_part" ["letter", "piece"] (sp_parse_part C) := by
  refine prX T.d_parse_part sc_parse_part (fun vs H Q E h => ?_) (fun f cdv A outer s H vs Q E hr h => ?_)
  · obtain ⟨c, l, rfl, _⟩ := h; rfl
  · obtain ⟨c, l, rfl, hl, h128, q, e⟩ := h
    have G1 := ok_parse_name (P := P) (w := w) (base := base) T U
    have G2 := ok_parse_text (P := P) (w := w) (base := base) T U
    have G3 := ok_parse_number (P := P) (w := w) (base := base) T U
    obtain ⟨aP, gP, sqP⟩ := B.pars
    refine ⟨_, pss_cons (ps_if (pt_cmpR op_in_sign (pv 0) pe_str (by rfl)) (pss_one (ps_ret (pe_k G1 hr (by decide) (passes_call (takes_of rfl rfl rfl rfl) (fun _ _ _ _ h => h)) (by rfl) (pa_cons (pv 1) pa_nil)))) pss_nil)
      (pss_cons (ps_if (pt_val (pe_bm PySem.F.plainAttrs_str PySem.F.slot_str_startswith PySem.F.type_str_startswith mt_startswith (pv 1) (pa_cons pe_str pa_nil))) (pss_one (ps_ret (pe_k G2 hr (by decide) (passes_call (takes_of rfl rfl rfl rfl) (fun _ _ _ _ h => h)) (by rfl) (pa_cons (pv 1) pa_nil)))) pss_nil)
      (pss_cons (ps_if (pt_cmpR op_in_seq (pv 1) (C8.pe_gc (by rfl) gP) (by rfl)) (pss_one (ps_ret (pe_tup (pa_cons pe_str (pa_cons (pe_callTy call_int_str (by rfl) T.n_int boot_int (pa_cons (pe_slice sl_str (pv 1) (po_some pe_int) po_none) pa_nil)) pa_nil))))) pss_nil)
      (pss_one (ps_ret (pe_k G3 hr (by decide) (passes_call (takes_of rfl rfl rfl rfl) (fun _ _ _ _ h => h)) (by rfl) (pa_cons (pv 1) pa_nil)))))), ?_⟩
    refine ⟨_, rfl, c, _, rfl, rfl, _, rfl, ite2 (fun h1 => ?_) (fun h1 => ?_)⟩
    · have h1 : c = 84 ∨ c = 78 := by
        have z : c ∈ [84, 78] := of_decide_eq_true h1
        simpa using z
      have ep : partOf c l = if nameM l = true then some (.name l) else none := by unfold partOf; rw [if_pos h1]
      refine ⟨_, rfl, l, rfl, hl, fun hn H' sm => q (.name l) (by rw [ep, if_pos hn]) H' _ sm rfl, fun hn H' sm => e (by rw [ep, if_neg (by rw [hn]; exact Bool.false_ne_true)]) H' sm⟩
    · have h1 : ¬ (c = 84 ∨ c = 78) := fun z => h1 (decide_eq_true (show c ∈ [84, 78] by simpa using z))
      have ep : partOf c l = termOf l := by unfold partOf; rw [if_neg h1]
      rw [ep] at q e
      refine ⟨_, rfl, rfl, _, S [39], rfl, rfl, ?_⟩
      rw [starts]
      refine ⟨_, rfl, ite2 (fun h2 => ?_) (fun h2 => ?_)⟩
      · have h2 : l.head? = some 39 := of_decide_eq_true h2
        have et : termOf l = (textOf l).map .text := by unfold termOf; rw [if_pos h2]
        refine ⟨_, rfl, l, rfl, hl, fun z hz H' a sm na ha => q (.text z) (by rw [et, hz]; rfl) H' _ sm ⟨a, rfl, ha⟩, fun hz H' sm => e (by rw [et, hz]; rfl) H' sm⟩
      · have h2 : ¬ l.head? = some 39 := fun z => h2 (decide_eq_true z)
        refine ⟨_, rfl, aP, _, rfl, .inr (sqP _), rfl, rfl, ?_⟩
        have ein : inV (.str (S l)) [.str "$1", .str "$2", .str "$3", .str "$4"] = (parOf l).isSome := by
          unfold inV parOf
          show ((S [36, 49] == S l) || ((S [36, 50] == S l) || ((S [36, 51] == S l) || ((S [36, 52] == S l) || false)))) = _
          rw [sbeq, sbeq, sbeq, sbeq]
          by_cases a1 : l = [36, 49]
          · subst a1; rfl
          · by_cases a2 : l = [36, 50]
            · subst a2; rfl
            · by_cases a3 : l = [36, 51]
              · subst a3; rfl
              · by_cases a4 : l = [36, 52]
                · subst a4; rfl
                · rw [if_neg a1, if_neg a2, if_neg a3, if_neg a4, decide_eq_false (Ne.symm a1), decide_eq_false (Ne.symm a2), decide_eq_false (Ne.symm a3), decide_eq_false (Ne.symm a4)]; rfl
        rw [show (if false then !inV (V.str (S l)) [.str "$1", .str "$2", .str "$3", .str "$4"] else inV (V.str (S l)) [.str "$1", .str "$2", .str "$3", .str "$4"]) = (parOf l).isSome from ein]
        cases hp : parOf l with
        | some n =>
          have et : termOf l = some (.par n) := by unfold termOf; rw [if_neg h2, hp]
          refine ⟨_, rfl, iteT ?_⟩
          refine ⟨_, rfl, _, rfl, S l, rfl, by rw [S_len]; exact small200 hl, ?_⟩
          rw [cutOne]
          have ei : intText? (S (l.drop 1)) = some n ∧ (S (l.drop 1)).length ≤ 640 := by
            unfold parOf at hp
            by_cases a1 : l = [36, 49]
            · subst a1; obtain rfl : (1 : Int) = n := Option.some.inj hp; decide +kernel
            · by_cases a2 : l = [36, 50]
              · subst a2; obtain rfl : (2 : Int) = n := Option.some.inj hp; decide +kernel
              · by_cases a3 : l = [36, 51]
                · subst a3; obtain rfl : (3 : Int) = n := Option.some.inj hp; decide +kernel
                · by_cases a4 : l = [36, 52]
                  · subst a4; obtain rfl : (4 : Int) = n := Option.some.inj hp; decide +kernel
                  · rw [if_neg a1, if_neg a2, if_neg a3, if_neg a4] at hp; cases hp
          refine ⟨_, n, rfl, ei.1, ei.2, (by show 2 ≤ sizeLine; decide), fun p np => q (.par n) et _ _ (same_upd np) ⟨p, rfl, upd_same⟩⟩
        | none =>
          have et : termOf l = (Mx.numOf l).map .num := by unfold termOf; rw [if_neg h2, hp]
          refine ⟨_, rfl, iteF ⟨_, rfl, l, rfl, hl, h128, fun n hn H' sm => q (.num n) (by rw [et, hn]; rfl) H' _ sm rfl, fun hn H' sm => e (by rw [et, hn]; rfl) H' sm⟩⟩
end
end K01
end
section
namespace Mx
open PySem PySem.Spec PyProof.Rows L2 SX
def okP : Part → Bool
  | .name l => nameM l
  | .num n => numM n
  | .text l => textM l
  | .par n => decide (1 ≤ n) && decide (n ≤ 4)
theorem parOf_ok {l : List Nat} {n : Int} (h : parOf l = some n) : 1 ≤ n ∧ n ≤ 4 := by
  unfold parOf at h
  by_cases a1 : l = [36, 49]
  · rw [if_pos a1] at h; have := Option.some.inj h; omega
  · rw [if_neg a1] at h
    by_cases a2 : l = [36, 50]
    · rw [if_pos a2] at h; have := Option.some.inj h; omega
    · rw [if_neg a2] at h
      by_cases a3 : l = [36, 51]
      · rw [if_pos a3] at h; have := Option.some.inj h; omega
      · rw [if_neg a3] at h
        by_cases a4 : l = [36, 52]
        · rw [if_pos a4] at h; have := Option.some.inj h; omega
        · rw [if_neg a4] at h; cases h
theorem numOf_ok {l : List Nat} {n : Int} (h : Mx.numOf l = some n) : intS n = l ∧ numM n = true := by
  unfold Mx.numOf at h
  generalize (if l.head? = some 45 then -((NumText.digitsVal (l.drop 1) : Nat) : Int) else ((NumText.digitsVal l : Nat) : Int)) = n0 at h
  dsimp only at h
  by_cases d : intS n0 = l ∧ numM n0 = true
  · rw [if_pos d] at h; obtain rfl := Option.some.inj h; exact d
  · rw [if_neg d] at h; cases h
theorem partOf_ok {c : Nat} {l : List Nat} {p : Part} (h : partOf c l = some p) : okP p = true := by
  unfold partOf at h
  by_cases a : c = 84 ∨ c = 78
  · rw [if_pos a] at h
    by_cases b : nameM l = true
    · rw [if_pos b] at h; obtain rfl := Option.some.inj h; exact b
    · rw [if_neg b] at h; cases h
  · rw [if_neg a] at h
    unfold termOf at h
    by_cases b : l.head? = some 39
    · rw [if_pos b] at h
      unfold textOf at h
      by_cases d : 2 ≤ l.length ∧ l.getLast? = some 39 ∧ textM (l.drop 1).dropLast = true
      · rw [if_pos d] at h; obtain rfl := Option.some.inj h; exact d.2.2
      · rw [if_neg d] at h; cases h
    · rw [if_neg b] at h
      cases e : parOf l with
      | some n =>
        rw [e] at h
        obtain rfl := Option.some.inj h
        have := parOf_ok e
        show (decide (1 ≤ n) && decide (n ≤ 4)) = true
        rw [decide_eq_true this.1, decide_eq_true this.2]; rfl
      | none =>
        rw [e] at h
        change (Mx.numOf l).map Part.num = some p at h
        obtain ⟨n, e2, rfl⟩ := Option.map_eq_some_iff.mp h
        exact (numOf_ok e2).2
theorem partsOf_at : ∀ {cs : List Nat} {ls : List (List Nat)} {ps : List Part}, partsOf cs ls = some ps → cs.length = ls.length → ps.length = ls.length ∧ ∀ (i c : Nat) (l : List Nat), cs[i]? = some c → ls[i]? = some l → ∃ p, ps[i]? = some p ∧ partOf c l = some p
  | [], [], ps, h, _ => by
    obtain rfl := Option.some.inj h
    exact ⟨rfl, fun i c l h _ => by simp at h⟩
  | [], _ :: _, _, _, e => by simp at e
  | _ :: _, [], _, _, e => by simp at e
  | c :: cs, l :: ls, ps, h, e => by
    unfold partsOf at h
    cases e1 : partOf c l with
    | none => rw [e1] at h; cases h
    | some p =>
      cases e2 : partsOf cs ls with
      | none => rw [e1, e2] at h; cases h
      | some qs =>
        rw [e1, e2] at h
        obtain rfl := Option.some.inj h
        obtain ⟨z1, z2⟩ := partsOf_at e2 (by simpa using e)
        refine ⟨by simp [z1], fun i c' l' h1 h2 => ?_⟩
        cases i with
        | zero => simp at h1 h2; subst h1 h2; exact ⟨p, rfl, e1⟩
        | succ i => simp at h1 h2; obtain ⟨q, g1, g2⟩ := z2 i c' l' h1 h2; exact ⟨q, by simpa using g1, g2⟩
theorem partsOf_ok : ∀ {cs : List Nat} {ls : List (List Nat)} {ps : List Part}, partsOf cs ls = some ps → ∀ p ∈ ps, okP p = true
  | [], ls, ps, h, p, hp => by unfold partsOf at h; obtain rfl := Option.some.inj h; cases hp
  | c :: cs, [], ps, h, p, hp => by unfold partsOf at h; obtain rfl := Option.some.inj h; cases hp
  | c :: cs, l :: ls, ps, h, p, hp => by
    unfold partsOf at h
    cases e1 : partOf c l with
    | none => rw [e1] at h; cases h
    | some q =>
      cases e2 : partsOf cs ls with
      | none => rw [e1, e2] at h; cases h
      | some qs =>
        rw [e1, e2] at h
        obtain rfl := Option.some.inj h
        rcases List.mem_cons.mp hp with rfl | hp
        · exact partOf_ok e1
        · exact partsOf_ok e2 p hp
theorem formOf_len {w : Str} {n : Nat} {f : Str} (h : formOf w n = some f) : f.length = n := by
  unfold formOf at h
  have := List.find?_some h
  simpa using this
/-- the greatest parameter is among those there are -/
theorem fold_most : ∀ (r : List Int) (m : Int), (∀ x ∈ r, 1 ≤ x ∧ x ≤ 4) → (1 ≤ m ∧ m ≤ 4) → 1 ≤ r.foldl (fun a b => if b > a then b else a) m ∧ r.foldl (fun a b => if b > a then b else a) m ≤ 4
  | [], m, _, h => h
  | x :: r, m, h, hm => by
    rw [List.foldl_cons]
    have hx := h x (List.mem_cons_self ..)
    refine fold_most r _ (fun y hy => h y (List.mem_cons_of_mem _ hy)) ?_
    split
    · exact hx
    · exact hm
theorem most_le {ps : List Part} (h : ∀ p ∈ ps, okP p = true) : 0 ≤ mostOf ps ∧ mostOf ps ≤ 4 := by
  have all : ∀ n ∈ parsOf ps, 1 ≤ n ∧ n ≤ 4 := fun n hn => by
    unfold parsOf at hn
    obtain ⟨p, hp, e⟩ := List.mem_filterMap.mp hn
    have := h p hp
    cases p with
    | par m =>
      obtain rfl := Option.some.inj e
      have z : (decide (1 ≤ m) && decide (m ≤ 4)) = true := this
      rw [Bool.and_eq_true_iff] at z
      exact ⟨of_decide_eq_true z.1, of_decide_eq_true z.2⟩
    | name l => cases e
    | num m => cases e
    | text l => cases e
  unfold mostOf
  cases e : parsOf ps with
  | nil => simp
  | cons m r =>
    rw [e] at all
    have z := fold_most r m (fun x hx => all x (List.mem_cons_of_mem _ hx)) (all m (List.mem_cons_self ..))
    exact ⟨Int.le_trans (by decide) z.1, z.2⟩
/-! ### what a part is, as data -/
def dataP : Part → PyData
  | .name l => .str (S l)
  | .num n => .int n
  | .text l => .tuple [.str "text", .str (S l)]
  | .par n => .tuple [.str "parameter", .int n]
theorem data_dp {K : PySem.W.Frag} {H : Hp} {v : V} {p : Part} (h : IsP H v p) : Dp K H v (dataP p) := by
  cases p with
  | name l => obtain rfl := h; exact .str _
  | num n => obtain rfl := h; exact .int _
  | text l => obtain ⟨a, rfl, h⟩ := h; exact .tup (SqT.of h) (.cons (.str _) (.cons (.str _) .nil))
  | par n => obtain ⟨a, rfl, h⟩ := h; exact .tup (SqT.of h) (.cons (.str _) (.cons (.int _) .nil))
theorem all_lt {l : List Nat} (h : ∀ c ∈ l, c < 128) : PyData.strOk (S l) = true := by
  unfold PyData.strOk
  rw [← Array.all_toList, List.all_eq_true]
  intro c hc
  have := h c hc
  exact decide_eq_true (by omega)
theorem sgn_lt {l : List Nat} (h : l.all sgn = true) : ∀ c ∈ l, c < 128 := fun c hc => by
  have : 32 ≤ c ∧ c ≤ 126 ∧ c ≠ 37 := of_decide_eq_true (List.all_eq_true.mp h c hc)
  omega
theorem let_lt {l : List Nat} (h : l.all isLet = true) : ∀ c ∈ l, c < 128 := fun c hc => by
  have z : c ∈ lettersC := of_decide_eq_true (List.all_eq_true.mp h c hc)
  have : ∀ x ∈ lettersC, x < 128 := by decide
  exact this c z
theorem lay_P {p : Part} (h : okP p = true) : (dataP p).canLay0 = true ∧ (dataP p).depth ≤ 1 := by
  have t1 : PyData.strOk "text" = true := by decide +kernel
  have t2 : PyData.strOk "parameter" = true := by decide +kernel
  cases p with
  | name l =>
    have h : (decide (1 ≤ l.length) && decide (l.length ≤ 8) && l.all isLet) = true := h
    rw [Bool.and_eq_true_iff] at h
    exact ⟨by show PyData.canLay0 (.str (S l)) = true; rw [PyData.canLay0]; exact all_lt (let_lt h.2), Nat.zero_le _⟩
  | num n => exact ⟨by show PyData.canLay0 (.int n) = true; rw [PyData.canLay0], Nat.zero_le _⟩
  | text l =>
    have h : (decide (l.length ≤ 40) && (!decide (39 ∈ l) && l.all sgn)) = true := h
    rw [Bool.and_eq_true_iff, Bool.and_eq_true_iff] at h
    refine ⟨?_, Nat.le_refl _⟩
    show PyData.canLay0 (.tuple [.str "text", .str (S l)]) = true
    rw [PyData.canLay0, PyData.canLayAll0, PyData.canLayAll0, PyData.canLayAll0, PyData.canLay0, PyData.canLay0, t1, all_lt (sgn_lt h.2.2)]; rfl
  | par n =>
    refine ⟨?_, Nat.le_refl _⟩
    show PyData.canLay0 (.tuple [.str "parameter", .int n]) = true
    rw [PyData.canLay0, PyData.canLayAll0, PyData.canLayAll0, PyData.canLayAll0, PyData.canLay0, PyData.canLay0, t2]; rfl
theorem lay_all : ∀ {ps : List Part}, (∀ p ∈ ps, okP p = true) → PyData.canLayAll0 (ps.map dataP) = true ∧ PyData.depthAll (ps.map dataP) ≤ 1
  | [], _ => ⟨by rw [List.map_nil, PyData.canLayAll0], by rw [List.map_nil, PyData.depthAll]; omega⟩
  | p :: ps, h => by
    have a := lay_P (h p (List.mem_cons_self ..))
    have b := lay_all (fun q hq => h q (List.mem_cons_of_mem _ hq))
    rw [List.map_cons, PyData.canLayAll0, PyData.depthAll, a.1, b.1]
    exact ⟨rfl, by have := a.2; have := b.2; omega⟩
theorem shaped_all {ps : List Part} (h : ∀ p ∈ ps, okP p = true) : SeqAt.shaped (.tuple (ps.map dataP)) = true := by
  have a := lay_all h
  unfold SeqAt.shaped
  rw [PyData.canLay0, a.1, PyData.depth, decide_eq_true (by have := a.2; omega)]; rfl
theorem shaped_P {p : Part} (h : okP p = true) : SeqAt.shaped (dataP p) = true := by
  have a := lay_P h
  unfold SeqAt.shaped
  rw [a.1, decide_eq_true (by have := a.2; omega)]; rfl
theorem shaped_word {w : List Nat} {ps : List Part} (hw : ∀ c ∈ w, c < 128) (h : ∀ p ∈ ps, okP p = true) : SeqAt.shaped (.tuple ((Part.name w :: ps).map dataP)) = true := by
  have a := lay_all h
  unfold SeqAt.shaped
  rw [List.map_cons, PyData.canLay0, PyData.canLayAll0, a.1, PyData.depth, PyData.depthAll]
  show (PyData.canLay0 (.str (S w)) && true && decide (max (PyData.depth (.str (S w))) _ + 1 ≤ 64)) = true
  rw [PyData.canLay0, all_lt hw, PyData.depth, decide_eq_true (by have := a.2; omega)]; rfl
theorem eqv_par (n : Int) : PyData.eqv (dataP (.par n)) (dataP (.par n)) = true := by
  show PyData.eqv (.tuple [.str "parameter", .int n]) (.tuple [.str "parameter", .int n]) = true
  simp [PyData.eqv, PyData.eqvAll]
theorem any_par {w : List Nat} {ps : List Part} {n : Int} (h : Part.par n ∈ ps) : (((Part.name w :: ps).map dataP).any fun z => PyData.eqv z (dataP (.par n))) = true := by
  rw [List.any_eq_true]
  exact ⟨dataP (.par n), List.mem_map.mpr ⟨_, List.mem_cons_of_mem _ h, rfl⟩, eqv_par n⟩
theorem data_all {K : PySem.W.Frag} {H : Hp} : ∀ {vs : List V} {ps : List Part}, ArePs H vs ps → DpAll K H vs (ps.map dataP)
  | _, _, .nil => .nil
  | _, _, .cons h t => .cons (data_dp h) (data_all t)
end Mx
end
section
namespace K01
open PySem PySem.Spec PyProof.Rows L2 Tl Mx SX
theorem hu65 {k : Nat} {A : Around} (hr : Room k A) : A.units + 65 < cLine := by have := hr.un; omega
theorem split_sgn (l : List Nat) (hl : ∀ c ∈ l, c < 128) : ∀ st : List (List Nat) × Bool, (∀ p ∈ st.1, ∀ c ∈ p, c < 128) → ∀ p ∈ (l.foldl splitStep st).1, ∀ c ∈ p, c < 128 := by
  induction l with
  | nil => intro st h; exact h
  | cons c l ih =>
    intro st h
    rw [List.foldl_cons]
    refine ih (fun x hx => hl x (List.mem_cons_of_mem _ hx)) _ ?_
    intro p hp x hx
    rcases step_cases st c with e | e
    · rw [e] at hp
      rcases List.mem_append.mp hp with hp | hp
      · exact h p hp x hx
      · rw [List.mem_singleton.mp hp] at hx; cases hx
    · rw [e] at hp
      rcases List.mem_append.mp hp with hp | hp
      · exact h p (List.dropLast_subset _ hp) x hx
      · rw [List.mem_singleton.mp hp] at hx
        rcases List.mem_append.mp hx with hx | hx
        · cases e3 : st.1.getLast? with
          | none => rw [List.getLastD_eq_getLast?, e3] at hx; cases hx
          | some z => rw [List.getLastD_eq_getLast?, e3] at hx; exact h z (List.mem_of_getLast? e3) x hx
        · rw [List.mem_singleton.mp hx]; exact hl c (List.mem_cons_self ..)
theorem areQ {H : Hp} : ∀ {vs : List V} {ps : List Part}, ArePs H vs ps → Paired (IsQ H) vs ps
  | _, _, .nil => .nil
  | _, _, .cons h t => .cons (IsQ.of h) (areQ t)
/-- a statement that is read -/
def sp_parse_ok : Sp := fun vs H Q _ => ∃ (l : List Nat) (wd : Str) (ps : List Part), vs = [.str (S l)] ∧ stmtM l = some (wd, ps) ∧ ∀ H' a xs, Same H H' → H a = none → H' a = some (.tup (.str wd :: xs)) → ArePs H' xs ps → xs.length ≤ 300 → Q (.ref a) H'
section
variable {P : Program} {w : World} {K : PySem.W.Frag} {mg : Str → Option Value} {base : Heap} {C : Addr}
theorem ok_parse_statement (T : Txt K mg) (B : Tab K w mg) (U : ErrC K mg "Unreadable" C) : Pr P w K mg base CX0 6 "parse_statement" ["string"] sp_parse_ok := by
  refine pr0 T.d_parse_statement sc_parse_statement (fun vs H Q E h => ?_) (fun f cdv A outer s H vs Q E hr h => ?_)
  · obtain ⟨l, wd, ps, rfl, _⟩ := h; rfl
  · obtain ⟨l, wd, ps, rfl, hst, q⟩ := h
    have G1 := ok_may_be_prepared (P := P) (w := w) (base := base) T
    have G2 := ok_split_pieces (P := P) (w := w) (base := base) T
    have G3 := ok_find_form (P := P) (w := w) (base := base) T B U
    have G4 := ok_parse_part (P := P) (w := w) (base := base) T B U
    have G5 := ok_parameters (P := P) (w := w) (base := base) T
    -- what is known of the statement
    unfold stmtM at hst
    by_cases hok : l.length ≤ 200 ∧ l.all sgn = true
    case neg => rw [if_neg hok] at hst; cases hst
    rw [if_pos hok] at hst
    obtain ⟨hl, hs⟩ := hok
    cases esp : splitM l with
    | nil => rw [esp] at hst; cases hst
    | cons w0 ls =>
    rw [esp] at hst
    dsimp only at hst
    cases efo : formOf (S w0) ls.length with
    | none => rw [efo] at hst; cases hst
    | some fo =>
    rw [efo] at hst
    dsimp only at hst
    cases epa : partsOf fo.cps.toList ls with
    | none => rw [epa] at hst; cases hst
    | some ps' =>
    rw [epa] at hst
    dsimp only at hst
    by_cases hfull : full ps' = true
    case neg => rw [if_neg hfull] at hst; cases hst
    rw [if_pos hfull] at hst
    have e1 := Option.some.inj hst
    obtain ⟨rfl, rfl⟩ := Prod.mk.inj e1
    have flen : fo.cps.toList.length = ls.length := by have := formOf_len efo; simpa [Str.length] using this
    obtain ⟨plen, pat⟩ := partsOf_at epa flen
    have pok := partsOf_ok epa
    have lslen : ls.length ≤ 200 := by
      have := split_len l ([[]], false) (by simp)
      have e : (l.foldl splitStep ([[]], false)).1 = w0 :: ls := esp
      rw [e] at this
      simp at this
      omega
    have lsmall : ∀ p ∈ w0 :: ls, p.length ≤ 200 := fun p hp => by
      have := split_sum l ([[]], false) p (by rw [show (l.foldl splitStep ([[]], false)).1 = w0 :: ls from esp]; exact hp)
      simp at this
      omega
    have l128 : ∀ p ∈ w0 :: ls, ∀ c ∈ p, c < 128 := split_sgn l (sgn_lt hs) ([[]], false) (by simp) |> fun z => by
      rw [show (l.foldl splitStep ([[]], false)).1 = w0 :: ls from esp] at z; exact z
    refine ⟨_, pss_cons (ps_if (PW.pt (pw_or (pt_not (pt_val (pe_callB call_isi (by rfl) T.n_isinstance boot_isinstance (pa_cons (pv 0) (pa_cons (pe_bltn (v := .ty "str") (by rfl) T.n_str boot_str rfl) pa_nil)))))
          (pw_or1 (pt_not (pt_val (pe_k G1 hr (by decide) pass0 (by rfl) (pa_cons (pv 0) pa_nil)))))))
        pss_never pss_nil)
      (pss_cons (ps_asg (pe_k G2 hr (by decide) pass0 (by rfl) (pa_cons (pv 0) pa_nil)) (pg_starOne rfl (pgs_cons (pg_name (i := 1) sc_parse_statement.nd rfl (.inl rfl)) (pgs_star (pg_name (i := 2) sc_parse_statement.nd rfl (.inl rfl)) pgs_nil))))
      (pss_cons (ps_set (i := 3) sc_parse_statement.nd rfl (.inl rfl) (pe_k G3 hr (by decide) passL (by rfl) (pa_cons (pv 1) (pa_cons (pe_callB call_len_seq (by rfl) T.n_len PySem.boot_len (pa_cons (pv 2) pa_nil)) pa_nil))))
      (pss_cons (ps_set (i := 4) sc_parse_statement.nd rfl (.inl rfl) (pe_tup (pa_cons (pv 1) (StX.pa_star
          (pe_lc (own := [("letter", 6), ("piece", 7)]) (g := gTup K 2 (gCons (gName 6) (gCons (gName 7) gNil))) (tt := tYes) (te := tCall (sp_parse_part C) [] E0 (tCons (tVar 6) (tCons (tVar 7) tNil))) rfl sc_parse_statement.nd
            (pi_zipS (by rfl) T.n_zip (pa_cons (pv 3) (pa_cons (pv 2) pa_nil))) (blkOk_by (N := ["string", "word", "pieces", "form", "parts", "n", "letter", "piece"]) (sc := defScope s_parse_statement) (by decide +kernel))
            (fun _ _ _ _ _ => pg_tup rfl (pgs_cons (pg_name (i := 6) sc_parse_statement.nd rfl (.inl rfl)) (pgs_cons (pg_name (i := 7) sc_parse_statement.nd rfl (.inl rfl)) pgs_nil))) (fun _ _ _ _ _ => pts_nil)
            (fun _ _ _ _ _ => pe_k G4 hr (by decide) passL (by rfl) (pa_cons (pv 6) (pa_cons (pv 7) pa_nil)))) pa_nil))))
      (pss_cons (ps_for PassesOwn.never rfl (pi_range2 (by rfl) T.n_range (pa_cons pe_int (pa_cons (pe_k G5 hr (by decide) pass0 (by rfl) (pa_cons (pv 4) pa_nil)) pa_nil))) (pg_name (i := 5) sc_parse_statement.nd rfl (.inl rfl))
          (pss_one (ps_if (pt_cmpR (op_notInT (hu65 hr)) (pe_tup (pa_cons pe_str (pa_cons (pv 5) pa_nil))) (pv 4) (by rfl)) pss_never pss_nil)))
      (pss_one (ps_ret (pv 4))))))), ?_⟩
    -- the first test
    refine ⟨_, rfl, _, _, _, _, _, rfl, .ty _, .base (.str _), kit_ty (r := true) (by decide +kernel), _, rfl, iteF ?_⟩
    refine ⟨_, rfl, l, rfl, small200 hl, fun H1 sm1 => ⟨_, rfl, ?_⟩⟩
    rw [hs, decide_eq_true (show l.length ≤ 200 by omega)]
    refine iteF ?_
    -- word, *pieces = split_pieces(string)
    refine ⟨_, rfl, l, rfl, hl, fun H2 p2 sm2 np2 ep2 => ?_⟩
    rw [esp, List.map_cons] at ep2
    refine ⟨p2, _, _, rfl, SqL.of ep2, by rw [List.length_map]; omega, fun p3 np3 => ?_⟩
    have sm3 : Same H (upd H2 p3 (.lst (ls.map fun z => V.str (S z)))) := same_put (sm1.free (sm2.free np3)) (sm1.trans sm2)
    refine ⟨_, _, rfl, _, _, rfl, rfl, ?_⟩
    -- form = find_form(word, len(pieces))
    refine ⟨_, rfl, _, rfl, p3, _, rfl, .inl (SqL.of upd_same), S w0, (ls.map fun z => V.str (S z)).length, rfl, fun fo' efo' H4 sm4 => ?_, fun en => absurd en (by rw [List.length_map, efo]; exact fun z => nomatch z)⟩
    rw [List.length_map, efo] at efo'
    obtain rfl := Option.some.inj efo'
    have sq4 : SqL K H4 p3 (ls.map fun z => V.str (S z)) := SqL.of (sm4 _ _ upd_same)
    have sm04 : Same H H4 := sm3.trans sm4
    -- parts = (word, *[...])
    refine ⟨_, rfl, _, rfl, _, rfl, fo, p3, _, rfl, sq4, fun D nD => ?_⟩
    refine lc_it (Qd := fun H' => _) (walk_zs (n := ls.length) (ys := ls.map fun z => V.str (S z)) (by simpa using flen) (by rw [List.length_map])) (fun i H' => ∃ vs, Same H4 H' ∧ H' D = some (.lst vs) ∧ vs.length = i ∧ ArePs H' vs (ps'.take i))
      ⟨[], same_upd nD, upd_same, rfl, .nil⟩ (fun i H' _ z => by obtain ⟨_, s, _⟩ := z; exact s.seq sq4) ?_ ?_
    · rintro i x H5 H6 hi ⟨vs, sm5, eD, lv, pv5⟩ ⟨t, c, y, rfl, nt, rfl, gc, gy, sq5⟩
      have gl : ls[i]? = some ls[i] := List.getElem?_eq_getElem hi
      have ey : y = .str (S ls[i]) := by rw [List.getElem?_map, gl] at gy; exact (Option.some.inj gy).symm
      subst ey
      obtain ⟨p, gp, hp⟩ := pat i c ls[i] (by simpa using gc) gl
      have mem : ls[i] ∈ w0 :: ls := List.mem_cons_of_mem _ (List.getElem_mem hi)
      refine ⟨t, _, rfl, SqT.of upd_same, rfl, _, _, rfl, _, _, rfl, rfl, rfl, ?_⟩
      unfold tYes
      refine iteT (A := tCall (sp_parse_part C) [] E0 (tCons (tVar 6) (tCons (tVar 7) tNil)) _ _ _) ?_
      refine ⟨_, rfl, _, rfl, c, ls[i], rfl, lsmall _ mem, l128 _ mem, fun p' hp' H7 v sm7 isv => ?_, fun z => by rw [hp] at z; cases z⟩
      rw [hp] at hp'
      obtain rfl := Option.some.inj hp'
      have sm57 : Same H5 H7 := (same_upd nt).trans sm7
      have eD7 := sm57 _ _ eD
      have nD7 : ∀ b o, H4 b = some o → b ≠ D := fun b o e => ne_of_none e nD
      refine ⟨vs, eD7, by rw [lv, sizeLine_eq]; omega, vs ++ [v], same_put nD (sm5.trans sm57), upd_same, by rw [List.length_append, lv]; rfl, ?_⟩
      rw [take_next gp]
      exact ((pv5.same sm57).snoc isv).over (over_lst eD7)
    · rintro H5 ⟨vs, sm5, eD, lv, pv5⟩
      rw [List.take_of_length_le (by omega)] at pv5
      have sm05 : Same H H5 := sm04.trans sm5
      refine ⟨D, _, rfl, .inr (SqL.of eD), ?_⟩
      refine ⟨by show (_ :: (vs ++ [])).length ≤ sizeLine; rw [List.append_nil, List.length_cons, sizeLine_eq]; omega, fun p6 np6 => ?_⟩
      rw [List.append_nil]
      have n6 : H p6 = none := sm05.free np6
      obtain ⟨H6, e6⟩ : ∃ H6, H6 = upd H5 p6 (.tup (.str (S w0) :: vs)) := ⟨_, rfl⟩
      rw [← e6]
      have at6 : H6 p6 = some (.tup (.str (S w0) :: vs)) := by rw [e6]; exact upd_same
      have sm6 : Same H H6 := by rw [e6]; exact same_put n6 sm05
      have pv6 : ArePs H6 vs ps' := pv5.same (by rw [e6]; exact same_upd np6)
      have q6 : Paired (IsQ H6) (.str (S w0) :: vs) (.name w0 :: ps') := .cons rfl (areQ pv6)
      -- the parameters up to the greatest one
      refine ⟨_, rfl, p6, _, _, rfl, .inl (SqT.of at6), by rw [List.length_cons]; omega, q6, fun H7 sm7 => ?_⟩
      have em : mostOf (.name w0 :: ps') = mostOf ps' := rfl
      rw [em]
      obtain ⟨m1, m2⟩ := most_le pok
      refine ⟨1, mostOf ps', rfl, ⟨by decide, by decide, by omega, by omega⟩, ?_⟩
      have at7 : H7 p6 = some (.tup (.str (S w0) :: vs)) := sm7 _ _ at6
      refine for_it walk_range (fun i σ H' => ∃ y5, σ = [some (.str (S l)), some (.str (S w0)), some (.ref p3), some (.str fo), some (.ref p6), y5, none, none] ∧ Same H7 H') ⟨none, rfl, Same.refl _⟩ (fun _ _ _ _ _ => trivial) ?_ ?_
      · rintro i x σ H8 H9 hi ⟨y5, rfl, sm8⟩ ⟨rfl, rfl⟩
        refine ⟨_, rfl, (by show 2 ≤ sizeLine; decide), fun t nt => ⟨_, rfl, ?_⟩⟩
        have sm9 : Same H7 (upd H9 t (.tup [.str "parameter", .int (1 + (i : Int))])) := same_put (sm8.free nt) sm8
        have isn : IsP (upd H9 t (.tup [.str "parameter", .int (1 + (i : Int))])) (.ref t) (.par (1 + (i : Int))) := ⟨t, rfl, upd_same⟩
        have inn : Part.par (1 + (i : Int)) ∈ ps' := by
          unfold full at hfull
          exact of_decide_eq_true (List.all_eq_true.mp hfull i (List.mem_range.mpr hi))
        have isw : IsP (upd H9 t (.tup [.str "parameter", .int (1 + (i : Int))])) (.str (S w0)) (.name w0) := rfl
        refine ⟨dataP (.par (1 + (i : Int))), (Part.name w0 :: ps').map dataP, data_dp isn, .tup (SqT.of (sm9 _ _ at7)) (.cons (data_dp isw) (data_all (pv6.same (sm7.trans sm9)))), ?_, ?_, ?_⟩
        · exact shaped_P (pok _ inn)
        · exact shaped_word (l128 w0 (List.mem_cons_self ..)) pok
        · rw [any_par inn]
          exact ⟨_, rfl, iteF ⟨_, rfl, sm9⟩⟩
      · rintro σ H8 ⟨y5, rfl, sm8⟩
        have s8 := sm7.trans sm8
        exact ⟨_, rfl, q H8 p6 vs (sm6.trans s8) n6 (s8 _ _ at6) (pv6.same s8) (by omega)⟩
end
end K01
end
section
namespace K01
open PySem PySem.Spec PyProof.Rows L2 Tl Mx SX
def sp_cell (K : PySem.W.Frag) : Sp := fun vs H Q _ => ∃ (a : Addr) (ns : List Int) (k : Nat), vs = [.ref a, .int (k : Int)] ∧ SqL K H a (ns.map V.int) ∧ ∀ n, Q (.int n) H
def sp_row : Sp := fun vs H Q _ => ∃ (n : Int), vs = [.int n, .int 10] ∧ ∀ H' p (xs : List Int), Same H H' → H p = none → H' p = some (.lst (xs.map V.int)) → xs.length = 10 → (∀ x ∈ xs, (0 : Int) ≤ x ∧ x < 840) → Q (.ref p) H'
section
variable {P : Program} {w : World} {K : PySem.W.Frag} {mg : Str → Option Value} {base : Heap} {C : Addr}
theorem ok_cell (T : Txt K mg) : Pr P w K mg base CX0 1 "_law_cell" ["script", "k"] (sp_cell K) := by
  refine pr0 T.d_law_cell sc_law_cell (fun vs H Q E h => ?_) (fun f cdv A outer s H vs Q E hr h => ?_)
  · obtain ⟨a, ns, k, rfl, _⟩ := h; rfl
  · obtain ⟨a, ns, k, rfl, sq, q⟩ := h
    refine ⟨_, pss_cons (ps_if (pt_cmpR op_lt (pv 1) (pe_callB call_len_seq (by rfl) T.n_len PySem.boot_len (pa_cons (pv 0) pa_nil)) (nomark _)) (pss_one (ps_ret (pe_ix ix_list (pv 0) (pv 1) (fun _ _ => rfl)))) pss_nil)
      (pss_one (ps_ret pe_int)), ?_⟩
    refine ⟨_, rfl, _, rfl, a, _, rfl, .inl sq, _, _, rfl, rfl, _, rfl, ite2 (fun h1 => ?_) (fun h1 => ?_)⟩
    · have h1 : (k : Int) < ((ns.map V.int).length : Int) := of_decide_eq_true h1
      rw [List.length_map] at h1
      have lt : k < ns.length := by omega
      exact ⟨_, rfl, _, rfl, a, _, _, .int ns[k], rfl, rfl, sq, atI_nat (by rw [List.getElem?_map, List.getElem?_eq_getElem lt]; rfl), q _⟩
    · exact q 0
theorem ok_row (T : Txt K mg) : Pr P w K mg base CX0 1 "_law_row" ["cell", "count"] sp_row := by
  refine pr0 T.d_law_row sc_law_row (fun vs H Q E h => ?_) (fun f cdv A outer s H vs Q E hr h => ?_)
  · obtain ⟨n, rfl, _⟩ := h; rfl
  · obtain ⟨n, rfl, q⟩ := h
    refine ⟨_, pss_cons (ps_set (i := 2) sc_law_row.nd rfl (.inl rfl) (pe_lst pa_nil))
      (pss_cons (ps_set (i := 3) sc_law_row.nd rfl (.inl rfl) (pv 0))
      (pss_cons (ps_set (i := 4) sc_law_row.nd rfl (.inl rfl) (pe_op op_add (pe_op op_mod (pe_callTy call_int1 (by rfl) T.n_int boot_int (pa_cons (pv 0) pa_nil)) pe_int) pe_int))
      (pss_cons (ps_for PassesOwn.never rfl (pi_range1 (by rfl) T.n_range (pa_cons (pv 1) pa_nil)) (pg_name (i := 5) sc_law_row.nd rfl (.inl rfl))
        (pss_one (ps_if (pt_cmpR op_ge (pv 0) (pe_op op_pow pe_int pe_int) (nomark _))
          (pss_cons (ps_expr (pe_bm PySem.F.plainAttrs_list PySem.F.slot_list_append PySem.F.type_list_append mt_append (pv 2) (pa_cons (pe_op op_mod (pe_callTy call_int1 (by rfl) T.n_int boot_int (pa_cons (pv 3) pa_nil)) pe_int) pa_nil)))
          (pss_one (ps_set (i := 3) sc_law_row.nd rfl (.inl rfl) (pe_op op_fdiv (pv 3) pe_int))))
          (pss_cons (ps_set (i := 4) sc_law_row.nd rfl (.inl rfl) (pe_op op_mod (pe_callTy call_int1 (by rfl) T.n_int boot_int (pa_cons (pe_op op_add (pe_op op_mul (pv 4) pe_int) (pv 5)) pa_nil)) pe_int))
          (pss_one (ps_expr (pe_bm PySem.F.plainAttrs_list PySem.F.slot_list_append PySem.F.type_list_append mt_append (pv 2) (pa_cons (pe_op op_mod (pe_op op_fdiv (pe_op op_mod (pe_callTy call_int1 (by rfl) T.n_int boot_int (pa_cons (pe_op op_mul (pv 4) pe_int) pa_nil)) pe_int) pe_int) pe_int) pa_nil))))))))
      (pss_one (ps_ret (pv 2)))))), ?_⟩
    refine ⟨Nat.zero_le _, fun p np => ?_⟩
    refine ⟨_, rfl, ?_⟩
    refine ⟨_, rfl, .inl ⟨_, rfl, _, _, rfl, rfl, (by show (0 : Int) < _; decide), _, _, rfl, rfl, ?_⟩⟩
    refine ⟨_, rfl, 10, rfl, by decide, by decide, for_it walk_range (fun i σ H' => ∃ (r sd : Int) (y : Option V) (xs : List Int), σ = [some (.int n), some (.int 10), some (.ref p), some (.int r), some (.int sd), y] ∧ Same H H' ∧ H' p = some (.lst (xs.map V.int)) ∧ xs.length = i ∧ (∀ x ∈ xs, (0 : Int) ≤ x ∧ x < 840) ∧ i ≤ 10)
      ⟨n, _, none, [], rfl, same_upd np, upd_same, rfl, (fun _ h => nomatch h), by decide⟩ (fun _ _ _ _ _ => trivial) ?_ ?_⟩
    · rintro i x σ H1 H2 hi ⟨r, sd, y, xs, rfl, sm, ep, lx, bx, le⟩ ⟨rfl, rfl⟩
      have md : ∀ z : Int, (0 : Int) ≤ z % 840 ∧ z % 840 < 840 := fun z => ⟨Int.emod_nonneg _ (by decide), Int.emod_lt_of_pos _ (by decide)⟩
      have step : ∀ (z r' sd' : Int) (y' : Option V), ∃ (r sd : Int) (y : Option V) (xs' : List Int), [some (.int n), some (.int 10), some (.ref p), some (V.int r'), some (V.int sd'), y'] = [some (.int n), some (.int 10), some (.ref p), some (.int r), some (.int sd), y] ∧ Same H (upd H2 p (.lst (xs.map V.int ++ [.int (z % 840)]))) ∧
          (upd H2 p (.lst (xs.map V.int ++ [.int (z % 840)]))) p = some (.lst (xs'.map V.int)) ∧ xs'.length = i + 1 ∧ (∀ x ∈ xs', (0 : Int) ≤ x ∧ x < 840) ∧ i + 1 ≤ 10 := fun z r' sd' y' =>
        ⟨r', sd', y', xs ++ [z % 840], rfl, same_put np sm, by rw [upd_same, List.map_append]; rfl, by rw [List.length_append, lx]; rfl, fun x hx => by
          rcases List.mem_append.mp hx with hx | hx
          · exact bx x hx
          · rw [List.mem_singleton.mp hx]; exact md z, by have : i < 10 := hi; omega⟩
      have small : (xs.map V.int).length < sizeLine := by rw [List.length_map, lx, sizeLine_eq]; omega
      refine ⟨_, rfl, _, _, rfl, rfl, ⟨by decide, by decide, by decide⟩, _, _, rfl, rfl, _, rfl, ite2 (fun h1 => ?_) (fun h1 => ?_)⟩
      · refine ⟨_, rfl, .inl ⟨rfl, _, .inl (.inl ep)⟩, _, rfl, .inl ⟨_, rfl, _, _, rfl, rfl, (by show (0 : Int) < _; decide), ?_⟩⟩
        refine ⟨p, _, _, rfl, rfl, ep, small, ?_⟩
        refine ⟨_, rfl, _, _, rfl, rfl, ⟨by decide, by decide⟩, step _ _ _ _⟩
      · refine ⟨_, rfl, _, _, rfl, rfl, .inr ⟨by decide, by decide⟩, _, rfl, _, _, rfl, rfl, .inl ⟨_, rfl, _, _, rfl, rfl, (by show (0 : Int) < _; decide), ?_⟩⟩
        refine ⟨_, rfl, .inl ⟨rfl, _, .inl (.inl ep)⟩, _, rfl, _, _, rfl, rfl, .inr ⟨by decide, by decide⟩, .inl ⟨_, rfl, _, _, rfl, rfl, (by show (0 : Int) < _; decide), _, _, rfl, rfl, ⟨by decide, by decide⟩, _, _, rfl, rfl, (by show (0 : Int) < _; decide), ?_⟩⟩
        exact ⟨p, _, _, rfl, rfl, ep, small, step _ _ _ _⟩
    · rintro σ H1 ⟨r, sd, y, xs, rfl, sm, ep, lx, bx, _⟩
      exact ⟨_, rfl, q _ p xs sm np ep lx bx⟩
end
end K01
end
section
namespace K01
open PySem PySem.Spec PyProof.Rows L2 Tl Mx SX
def nameL (n : Int) : List Nat := (List.range (1 + n % 8).toNat).map fun (k : Nat) => lettersC.getD (n / (1 + 3 * (k : Int)) % 26).toNat 0
theorem join_ones : ∀ l : List Nat, TL.joinL [] (l.map fun c => [c]) = l
  | [] => rfl
  | [c] => rfl
  | c :: d :: l => by
    have := join_ones (d :: l)
    simp only [List.map_cons] at this ⊢
    rw [TL.joinL, this]
    rfl
theorem sum_ones : ∀ l : List Nat, ((((l.map fun c => [c]).map S)).map (·.length)).sum = l.length
  | [] => rfl
  | c :: l => by
    have := sum_ones l
    simp only [List.map_cons, List.sum_cons, List.length_cons] at this ⊢
    rw [this, S_len]
    simp; omega
theorem let_at {i : Nat} (h : i < 26) : ∃ c, lettersC[i]? = some c ∧ isLet c = true := by
  have : ∀ i : Nat, i < 26 → ∃ c, lettersC[i]? = some c ∧ isLet c = true := by decide
  exact this i h
theorem name_ok {n : Int} (h : 0 ≤ n) : nameM (nameL n) = true := by
  unfold nameM nameL
  have a : (n % 8) < 8 := Int.emod_lt_of_pos _ (by decide)
  have b : 0 ≤ n % 8 := Int.emod_nonneg _ (by decide)
  rw [List.length_map, List.length_range, decide_eq_true (show 1 ≤ (1 + n % 8).toNat by omega), decide_eq_true (show (1 + n % 8).toNat ≤ 8 by omega)]
  show List.all _ isLet = true
  rw [List.all_map, List.all_eq_true]
  intro k hk
  have c : 0 ≤ n / (1 + 3 * (k : Int)) % 26 := Int.emod_nonneg _ (by decide)
  have d : n / (1 + 3 * (k : Int)) % 26 < 26 := Int.emod_lt_of_pos _ (by decide)
  obtain ⟨z, e1, e2⟩ := let_at (i := (n / (1 + 3 * (k : Int)) % 26).toNat) (by omega)
  show isLet (lettersC.getD _ 0) = true
  rw [List.getD_eq_getElem?_getD, e1]
  exact e2
def sp_name : Sp := fun vs H Q _ => ∃ n : Int, vs = [.int n] ∧ 0 ≤ n ∧ ∀ H', Same H H' → Q (.str (S (nameL n))) H'
section
variable {P : Program} {w : World} {K : PySem.W.Frag} {mg : Str → Option Value} {base : Heap} {C : Addr}
theorem ok_name (T : Txt K mg) : Pr P w K mg base CX0 1 "_law_name" ["number"] sp_name := by
  refine pr0 T.d_law_name sc_law_name (fun vs H Q E h => ?_) (fun f cdv A outer s H vs Q E hr h => ?_)
  · obtain ⟨n, rfl, _⟩ := h; rfl
  · obtain ⟨n, rfl, h0, q⟩ := h
    have r0 : 0 ≤ n % 8 := Int.emod_nonneg _ (by decide)
    have r1 : n % 8 < 8 := Int.emod_lt_of_pos _ (by decide)
    refine ⟨_, pss_cons (ps_set (i := 1) sc_law_name.nd rfl (.inr rfl) pe_str)
      (pss_one (ps_ret (pe_join pe_str (pe_lc (own := [("k", 2)]) (g := gName 2) (tt := tYes) (te := tOp rIxS (tVar 1) (tOp (rI (fun _ j => 0 < j) fun i j => .int (i % j)) (tOp (rI CDiv fun i j => .int (i / j)) (tVar 0) (tOp (rI0 fun i j => .int (i + j)) (tC (.int 1)) (tOp (rI CMul fun i j => .int (i * j)) (tC (.int 3)) (tVar 2)))) (tC (.int 26)))) rfl sc_law_name.nd
        (pi_range1 (by rfl) T.n_range (pa_cons (pe_op op_add pe_int (pe_op op_mod (pv 0) pe_int)) pa_nil)) (blkOk_by (N := ["number", "letters", "k"]) (sc := defScope s_law_name) (by decide +kernel))
        (fun _ _ _ _ _ => pg_name (i := 2) sc_law_name.nd rfl (.inl rfl)) (fun _ _ _ _ _ => pts_nil)
        (fun _ _ _ _ _ => pe_ix ix_str (pv 1) (pe_op op_mod (pe_op op_fdiv (pv 0) (pe_op op_add pe_int (pe_op op_mul pe_int (pv 2)))) pe_int) (fun _ _ => rfl)))))), ?_⟩
    refine ⟨⟨_, rfl⟩, _, rfl, _, _, rfl, rfl, (by show (0 : Int) < _; decide), _, _, rfl, rfl, _, rfl, by omega, by omega, ?_⟩
    refine lc_pure walk_range ((nameL n).map fun c => V.str (S [c])) (by unfold nameL; rw [List.length_map, List.length_map, List.length_range]) (by rw [sizeLine_eq]; omega) (fun _ _ => trivial) ?_ ?_
    · rintro i x H1 H2 y R hi gy sm ⟨rfl, rfl⟩ k
      have c0 : 0 ≤ n / (1 + 3 * (0 + (i : Int))) % 26 := Int.emod_nonneg _ (by decide)
      have c1 : n / (1 + 3 * (0 + (i : Int))) % 26 < 26 := Int.emod_lt_of_pos _ (by decide)
      obtain ⟨z, e1, e2⟩ := let_at (i := (n / (1 + 3 * (0 + (i : Int))) % 26).toNat) (by omega)
      have ey : y = .str (S [z]) := by
        unfold nameL at gy
        rw [List.map_map, List.getElem?_map, List.getElem?_range hi] at gy
        rw [← Option.some.inj gy]
        show V.str (S [lettersC.getD (n / (1 + 3 * (i : Int)) % 26).toNat 0]) = _
        rw [Int.zero_add] at e1
        rw [List.getD_eq_getElem?_getD, e1]; rfl
      subst ey
      refine ⟨rfl, _, rfl, _, rfl, _, rfl, _, _, rfl, rfl, .inl ⟨by decide, by decide⟩, _, _, rfl, rfl, _, _, rfl, rfl, ⟨by omega, by omega⟩, _, _, rfl, rfl, (by show (0 : Int) < _; decide), ?_⟩
      refine ⟨_, _, z, rfl, rfl, (by rw [sizeLine_eq]; decide), ?_, k _ (Same.refl _)⟩
      rw [show n / (1 + 3 * (0 + (i : Int))) % 26 = ((n / (1 + 3 * (0 + (i : Int))) % 26).toNat : Int) from (Int.toNat_of_nonneg c0).symm]
      exact atI_nat e1
    · intro H1 D sm f e
      refine ⟨_, D, ((nameL n).map fun c => [c]).map S, rfl, rfl, .inl (.inl (.inl (by rw [e, List.map_map, List.map_map]; rfl))), ?_, vto (q _ sm) ?_⟩
      · rw [sum_ones, List.length_map, List.length_map]
        have z : (nameL n).length ≤ 8 := by unfold nameL; rw [List.length_map, List.length_range]; omega
        show (nameL n).length + (nameL n).length * 0 ≤ _
        omega
      · show V.str (Txt.join (S []) _) = _
        rw [join_S, join_ones]
end
end K01
end
section
namespace Tl
open PySem PySem.Spec PyProof.Rows L2
theorem op_mulS {X : Cx} : OpR X (binaryOp .Mult) (fun x y H Q => ∃ z n, x = .str z ∧ y = .int n ∧ MulOk z n ∧ Q (.str (Txt.mul z n)) H) := by
  intro pins s σ H x y v u Q I rx ry h
  obtain ⟨z, n, rfl, rfl, ok, q⟩ := h
  obtain ⟨t, rfl⟩ := rx
  obtain ⟨t2, rfl⟩ := ry
  exact SB.mul ok fun t' k => ⟨.str _, H, I.tok _, ⟨_, rfl⟩, q⟩
end Tl
namespace K01
open PySem PySem.Spec PyProof.Rows L2 Tl Mx SX
def signsC : List Nat := [32, 33, 35, 36, 38, 40, 41, 42, 43, 44, 45, 46, 47, 48, 49, 50, 51, 52, 53, 54, 55, 56, 57, 58, 59, 60, 61, 62, 63, 64, 65, 66, 67, 68, 69, 70, 71, 72, 73, 74, 75, 76, 77, 78, 79, 80, 81, 82, 83, 84, 85, 86, 87, 88, 89, 90, 91, 92, 93, 94, 95, 96, 97, 98, 99, 100, 101, 102, 103, 104, 105, 106, 107, 108, 109, 110, 111, 112, 113, 114, 115, 116, 117, 118, 119, 120, 121, 122, 123, 124, 125, 126, 34]
def textL (n : Int) : List Nat := (List.range (1 + n / 3 % 40).toNat).map fun (k : Nat) => signsC.getD ((7 * (n / 3) + (k : Int) * (1 + n % 5)) % 93).toNat 0
theorem sign_at {i : Nat} (h : i < 93) : ∃ c, signsC[i]? = some c ∧ sgn c = true ∧ c ≠ 39 := by
  have : ∀ i : Nat, i < 93 → ∃ c, signsC[i]? = some c ∧ sgn c = true ∧ c ≠ 39 := by decide +kernel
  exact this i h
theorem text_ok {n : Int} : textM (textL n) = true := by
  have a : (n / 3 % 40) < 40 := Int.emod_lt_of_pos _ (by decide)
  have b : 0 ≤ n / 3 % 40 := Int.emod_nonneg _ (by decide)
  have all : ∀ c ∈ textL n, sgn c = true ∧ c ≠ 39 := fun c hc => by
    unfold textL at hc
    obtain ⟨k, hk, e⟩ := List.mem_map.mp hc
    have c0 : 0 ≤ (7 * (n / 3) + (k : Int) * (1 + n % 5)) % 93 := Int.emod_nonneg _ (by decide)
    have c1 : (7 * (n / 3) + (k : Int) * (1 + n % 5)) % 93 < 93 := Int.emod_lt_of_pos _ (by decide)
    obtain ⟨z, e1, e2⟩ := sign_at (i := ((7 * (n / 3) + (k : Int) * (1 + n % 5)) % 93).toNat) (by omega)
    rw [List.getD_eq_getElem?_getD, e1] at e
    obtain rfl : z = c := e
    exact e2
  unfold textM
  rw [decide_eq_true (show (textL n).length ≤ 40 by unfold textL; rw [List.length_map, List.length_range]; omega), decide_eq_false (fun z => (all 39 z).2 rfl), show (textL n).all sgn = true from List.all_eq_true.mpr fun c hc => (all c hc).1]; rfl
def sp_text : Sp := fun vs H Q _ => ∃ n : Int, vs = [.int n] ∧ 0 ≤ n ∧ ∀ H' l, Same H H' → textM l = true → Q (.str (S l)) H'
theorem mul_ok : MulOk "x" 40 := by unfold MulOk; decide +kernel
def textsV : List V := [.str "", .str " ", .str "a b", .str "it", .str "$1", .str "-5", .str "~!#", .str (Txt.mul "x" 40), .str "Ab 9", .str "  ", .str "7", .str "put"]
theorem texts_at {i : Nat} (h : i < 12) : ∃ l, textsV[i]? = some (.str (S l)) ∧ textM l = true := by
  have : ∀ i : Nat, i < 12 → ∃ z : Str, textsV[i]? = some (.str z) ∧ textM z.cps.toList = true := by
    intro i hi
    have : i = 0 ∨ i = 1 ∨ i = 2 ∨ i = 3 ∨ i = 4 ∨ i = 5 ∨ i = 6 ∨ i = 7 ∨ i = 8 ∨ i = 9 ∨ i = 10 ∨ i = 11 := by omega
    rcases this with rfl | rfl | rfl | rfl | rfl | rfl | rfl | rfl | rfl | rfl | rfl | rfl <;> exact ⟨_, rfl, by decide +kernel⟩
  obtain ⟨z, e1, e2⟩ := this i h
  exact ⟨z.cps.toList, by rw [e1], e2⟩
theorem name_text {l : List Nat} (h : nameM l = true) : textM l = true := by
  unfold nameM at h
  rw [Bool.and_eq_true_iff, Bool.and_eq_true_iff] at h
  have h8 := of_decide_eq_true h.1.2
  have all : ∀ c ∈ l, sgn c = true ∧ c ≠ 39 := fun c hc => by
    have z : c ∈ lettersC := of_decide_eq_true (List.all_eq_true.mp h.2 c hc)
    have : ∀ x ∈ lettersC, sgn x = true ∧ x ≠ 39 := by decide
    exact this c z
  unfold textM
  rw [decide_eq_true (show l.length ≤ 40 by omega), decide_eq_false (fun z => (all 39 z).2 rfl), show l.all sgn = true from List.all_eq_true.mpr fun c hc => (all c hc).1]; rfl
section
variable {P : Program} {w : World} {K : PySem.W.Frag} {mg : Str → Option Value} {base : Heap} {C : Addr}
theorem ok_text (T : Txt K mg) : Pr P w K mg base CX0 2 "_law_text" ["number"] sp_text := by
  refine pr0 T.d_law_text sc_law_text (fun vs H Q E h => ?_) (fun f cdv A outer s H vs Q E hr h => ?_)
  · obtain ⟨n, rfl, _⟩ := h; rfl
  · obtain ⟨n, rfl, h0, q⟩ := h
    have G1 := ok_name (P := P) (w := w) (base := base) T
    refine ⟨_, pss_cons (ps_set (i := 1) sc_law_text.nd rfl (.inr rfl) (pe_op op_add_str pe_str pe_str))
      (pss_cons (ps_set (i := 2) sc_law_text.nd rfl (.inl rfl) (pe_lst (pa_cons pe_str (pa_cons pe_str (pa_cons pe_str (pa_cons pe_str (pa_cons pe_str (pa_cons pe_str (pa_cons pe_str (pa_cons (pe_op op_mulS pe_str pe_int) (pa_cons pe_str (pa_cons pe_str (pa_cons pe_str (pa_cons pe_str pa_nil))))))))))))))
      (pss_cons (ps_if (pt_cmpR op_eq (pe_op op_mod (pv 0) pe_int) pe_int (nomark _))
        (pss_cons (ps_set (i := 3) sc_law_text.nd rfl (.inl rfl) (pe_op op_add pe_int (pe_op op_mod (pe_op op_fdiv (pv 0) pe_int) pe_int)))
        (pss_one (ps_ret (pe_join pe_str (pe_lc (own := [("k", 4)]) (g := gName 4) (tt := tYes) (te := tOp rIxS (tVar 1) (tOp (rI (fun _ j => 0 < j) fun i j => .int (i % j)) (tOp (rI0 fun i j => .int (i + j)) (tOp (rI CMul fun i j => .int (i * j)) (tC (.int 7)) (tOp (rI CDiv fun i j => .int (i / j)) (tVar 0) (tC (.int 3))))
              (tOp (rI CMul fun i j => .int (i * j)) (tVar 4) (tOp (rI0 fun i j => .int (i + j)) (tC (.int 1)) (tOp (rI (fun _ j => 0 < j) fun i j => .int (i % j)) (tVar 0) (tC (.int 5)))))) (tC (.int 93)))) rfl sc_law_text.nd
            (pi_range1 (by rfl) T.n_range (pa_cons (pv 3) pa_nil)) (blkOk_by (N := ["number", "signs", "texts", "count", "k"]) (sc := defScope s_law_text) (by decide +kernel))
            (fun _ _ _ _ _ => pg_name (i := 4) sc_law_text.nd rfl (.inl rfl)) (fun _ _ _ _ _ => pts_nil)
            (fun _ _ _ _ _ => pe_ix ix_str (pv 1) (pe_op op_mod (pe_op op_add (pe_op op_mul pe_int (pe_op op_fdiv (pv 0) pe_int)) (pe_op op_mul (pv 4) (pe_op op_add pe_int (pe_op op_mod (pv 0) pe_int)))) pe_int) (fun _ _ => rfl))))))) pss_nil)
      (pss_cons (ps_if (pt_cmpR op_eq (pe_op op_mod (pv 0) pe_int) pe_int (nomark _)) (pss_one (ps_ret (pe_k G1 hr (by decide) pass0 (by rfl) (pa_cons (pe_op op_fdiv (pv 0) pe_int) pa_nil)))) pss_nil)
      (pss_one (ps_ret (pe_ix ix_list (pv 2) (pe_op op_mod (pe_op op_mod (pv 0) pe_int) pe_int) (fun _ _ => rfl))))))), ?_⟩
    refine ⟨_, _, rfl, rfl, by decide +kernel, ?_⟩
    refine ⟨_, _, rfl, rfl, mul_ok, (by show 12 ≤ sizeLine; decide), fun p np => ?_⟩
    have s1 : Same H (upd H p (.lst textsV)) := same_upd np
    refine ⟨_, rfl, _, _, rfl, rfl, (by show (0 : Int) < _; decide), rfl, _, rfl, ite2 (fun h1 => ?_) (fun h1 => ?_)⟩
    · have h3 : n % 3 = 0 := V.int.inj (of_decide_eq_true h1)
      have b0 : 0 ≤ n / 3 % 40 := Int.emod_nonneg _ (by decide)
      have b1 : n / 3 % 40 < 40 := Int.emod_lt_of_pos _ (by decide)
      refine ⟨_, rfl, _, _, rfl, rfl, ⟨by decide, by decide⟩, _, _, rfl, rfl, (by show (0 : Int) < _; decide), _, _, rfl, rfl, ?_⟩
      refine ⟨⟨_, rfl⟩, _, rfl, _, rfl, by omega, by omega, ?_⟩
      refine lc_pure walk_range ((textL n).map fun c => V.str (S [c])) (by unfold textL; rw [List.length_map, List.length_map, List.length_range]) (by rw [sizeLine_eq]; omega) (fun _ _ => trivial) ?_ ?_
      · rintro i x H1 H2 y R hi gy sm ⟨rfl, rfl⟩ k
        have c0 : 0 ≤ (7 * (n / 3) + (0 + (i : Int)) * (1 + n % 5)) % 93 := Int.emod_nonneg _ (by decide)
        have c1 : (7 * (n / 3) + (0 + (i : Int)) * (1 + n % 5)) % 93 < 93 := Int.emod_lt_of_pos _ (by decide)
        obtain ⟨z, e1, e2⟩ := sign_at (i := ((7 * (n / 3) + (0 + (i : Int)) * (1 + n % 5)) % 93).toNat) (by omega)
        have ey : y = .str (S [z]) := by
          unfold textL at gy
          rw [List.map_map, List.getElem?_map, List.getElem?_range hi] at gy
          rw [← Option.some.inj gy]
          show V.str (S [signsC.getD ((7 * (n / 3) + (i : Int) * (1 + n % 5)) % 93).toNat 0]) = _
          rw [Int.zero_add] at e1
          rw [List.getD_eq_getElem?_getD, e1]; rfl
        subst ey
        refine ⟨rfl, _, rfl, _, rfl, _, _, rfl, rfl, ⟨by decide, by decide⟩, _, _, rfl, rfl, .inl ⟨by decide, by decide⟩, ?_⟩
        refine ⟨_, rfl, _, rfl, _, _, rfl, rfl, (by show (0 : Int) < _; decide), _, _, rfl, rfl, _, _, rfl, rfl, .inl ⟨by omega, by omega⟩, _, _, rfl, rfl, _, _, rfl, rfl, (by show (0 : Int) < _; decide), ?_⟩
        refine ⟨_, _, z, rfl, rfl, (by rw [sizeLine_eq]; decide +kernel), ?_, k _ (Same.refl _)⟩
        rw [show (7 * (n / 3) + (0 + (i : Int)) * (1 + n % 5)) % 93 = (((7 * (n / 3) + (0 + (i : Int)) * (1 + n % 5)) % 93).toNat : Int) from (Int.toNat_of_nonneg c0).symm]
        exact atI_nat e1
      · intro H1 D sm f e
        refine ⟨_, D, ((textL n).map fun c => [c]).map S, rfl, rfl, .inl (.inl (.inl (by rw [e, List.map_map, List.map_map]; rfl))), ?_, vto (q _ (textL n) (s1.trans sm) text_ok) ?_⟩
        · rw [sum_ones, List.length_map, List.length_map]
          have z : (textL n).length ≤ 40 := by unfold textL; rw [List.length_map, List.length_range]; omega
          show (textL n).length + (textL n).length * 0 ≤ _
          omega
        · show V.str (Txt.join (S []) _) = _
          rw [join_S, join_ones]
    · refine ⟨_, rfl, _, _, rfl, rfl, (by show (0 : Int) < _; decide), rfl, _, rfl, ite2 (fun h2 => ?_) (fun h2 => ?_)⟩
      · exact ⟨_, rfl, _, _, rfl, rfl, ⟨by decide, by decide⟩, _, rfl, Int.ediv_nonneg h0 (by decide), fun H1 sm => q H1 _ (s1.trans sm) (name_text (name_ok (Int.ediv_nonneg h0 (by decide))))⟩
      · have c0 : 0 ≤ n % 13 % 12 := Int.emod_nonneg _ (by decide)
        have c1 : n % 13 % 12 < 12 := Int.emod_lt_of_pos _ (by decide)
        obtain ⟨l, e1, e2⟩ := texts_at (i := (n % 13 % 12).toNat) (by omega)
        refine ⟨_, rfl, _, rfl, _, _, rfl, rfl, (by show (0 : Int) < _; decide), _, _, rfl, rfl, (by show (0 : Int) < _; decide), p, textsV, _, _, rfl, rfl, SqL.of upd_same, ?_, q _ l s1 e2⟩
        rw [show n % 13 % 12 = ((n % 13 % 12).toNat : Int) from (Int.toNat_of_nonneg c0).symm]
        exact atI_nat e1
end
end K01
end
section
namespace K01
open PySem PySem.Spec PyProof.Rows L2 Tl Mx SX
def sp_value : Sp := fun vs H Q _ => ∃ n : Int, vs = [.int n] ∧ 0 ≤ n ∧ ∀ H' v, Same H H' → ((∃ i, v = .int i ∧ numM i = true) ∨ (∃ l, v = .str (S l) ∧ textM l = true)) → Q v H'
/-- a term with used parameters ahead of it -/
def okT (u : Int) (p : Part) : Prop := okP p = true ∧ (∀ l, p ≠ .name l) ∧ ∀ m, p = .par m → m ≤ u + 1
def sp_term : Sp := fun vs H Q _ => ∃ n u : Int, vs = [.int n, .int u] ∧ 0 ≤ n ∧ 0 ≤ u ∧ u ≤ 4 ∧ ∀ H' v p, Same H H' → IsP H' v p → okT u p → Q v H'
def numsV : List V := [.int 2147483647, .int (-2147483648), .int 1000000, .int 0, .int 255, .int 256, .int (-1)]
theorem nums_at {i : Nat} (h : i < 7) : ∃ n, numsV[i]? = some (.int n) ∧ numM n = true := by
  have : i = 0 ∨ i = 1 ∨ i = 2 ∨ i = 3 ∨ i = 4 ∨ i = 5 ∨ i = 6 := by omega
  rcases this with rfl | rfl | rfl | rfl | rfl | rfl | rfl <;> exact ⟨_, rfl, by decide⟩
theorem num_in {n : Int} (h1 : -2147483648 ≤ n) (h2 : n ≤ 2147483647) : numM n = true := by
  unfold numM
  rw [decide_eq_true h1, decide_eq_true h2]; rfl
section
variable {P : Program} {w : World} {K : PySem.W.Frag} {mg : Str → Option Value} {base : Heap} {C : Addr}
theorem ok_value (T : Txt K mg) : Pr P w K mg base CX0 3 "_law_value" ["number"] sp_value := by
  refine pr0 T.d_law_value sc_law_value (fun vs H Q E h => ?_) (fun f cdv A outer s H vs Q E hr h => ?_)
  · obtain ⟨n, rfl, _⟩ := h; rfl
  · obtain ⟨n, rfl, h0, q⟩ := h
    have G1 := ok_text (P := P) (w := w) (base := base) T
    refine ⟨_, pss_cons (ps_if (pt_cmpR op_lt (pe_op op_mod (pv 0) pe_int) pe_int (nomark _)) (pss_one (ps_ret (pe_op op_sub (pe_op op_mod (pe_op op_fdiv (pv 0) pe_int) pe_int) pe_int))) pss_nil)
      (pss_cons (ps_if (pt_cmpR op_eq (pe_op op_mod (pv 0) pe_int) pe_int (nomark _)) (pss_one (ps_ret (pe_op op_sub (pe_op op_mod (pe_op op_add (pe_op op_mul (pe_op op_mul (pv 0) pe_int) pe_int) pe_int) pe_int) pe_int))) pss_nil)
      (pss_cons (ps_if (pt_cmpR op_eq (pe_op op_mod (pv 0) pe_int) pe_int (nomark _)) (pss_one (ps_ret (pe_ix ix_list (pe_lst (pa_cons pe_int (pa_cons (pe_un un_neg pe_int) (pa_cons pe_int (pa_cons pe_int (pa_cons pe_int (pa_cons pe_int (pa_cons (pe_un un_neg pe_int) pa_nil)))))))) (pe_op op_mod (pe_op op_fdiv (pv 0) pe_int) pe_int) (fun _ _ => rfl)))) pss_nil)
      (pss_one (ps_ret (pe_k G1 hr (by decide) pass0 (by rfl) (pa_cons (pe_op op_fdiv (pv 0) pe_int) pa_nil)))))), ?_⟩
    have c0 : 0 ≤ n / 5 % 7 := Int.emod_nonneg _ (by decide)
    have c1 : n / 5 % 7 < 7 := Int.emod_lt_of_pos _ (by decide)
    refine ⟨_, rfl, _, _, rfl, rfl, (by show (0 : Int) < _; decide), _, _, rfl, rfl, _, rfl, ite2 (fun h1 => ?_) (fun h1 => ?_)⟩
    · exact ⟨_, rfl, _, _, rfl, rfl, ⟨by decide, by decide⟩, _, _, rfl, rfl, (by show (0 : Int) < _; decide), _, _, rfl, rfl, q _ _ (Same.refl _) (.inl ⟨_, rfl, num_in (by omega) (by omega)⟩)⟩
    · refine ⟨_, rfl, _, _, rfl, rfl, (by show (0 : Int) < _; decide), rfl, _, rfl, ite2 (fun h2 => ?_) (fun h2 => ?_)⟩
      · have d0 : 0 ≤ (n * 5113 * 40503 + 12345) % 4294967296 := Int.emod_nonneg _ (by decide)
        have d1 : (n * 5113 * 40503 + 12345) % 4294967296 < 4294967296 := Int.emod_lt_of_pos _ (by decide)
        exact ⟨_, rfl, _, _, rfl, rfl, .inr ⟨by decide, by decide⟩, _, _, rfl, rfl, .inr ⟨by decide, by decide⟩, _, _, rfl, rfl, _, _, rfl, rfl, (by show (0 : Int) < _; decide), _, _, rfl, rfl, q _ _ (Same.refl _) (.inl ⟨_, rfl, num_in (by omega) (by omega)⟩)⟩
      · refine ⟨_, rfl, _, _, rfl, rfl, (by show (0 : Int) < _; decide), rfl, _, rfl, ite2 (fun h3 => ?_) (fun h3 => ?_)⟩
        · obtain ⟨z, e1, e2⟩ := nums_at (i := (n / 5 % 7).toNat) (by omega)
          refine ⟨_, rfl, _, rfl, (by show 7 ≤ sizeLine; decide), fun p np => ⟨_, rfl, _, _, rfl, rfl, ⟨by decide, by decide⟩, _, _, rfl, rfl, (by show (0 : Int) < _; decide), p, numsV, _, _, rfl, rfl, SqL.of upd_same, ?_, q _ _ (same_upd np) (.inl ⟨z, rfl, e2⟩)⟩⟩
          rw [show n / 5 % 7 = ((n / 5 % 7).toNat : Int) from (Int.toNat_of_nonneg c0).symm]
          exact atI_nat e1
        · exact ⟨_, rfl, _, _, rfl, rfl, ⟨by decide, by decide⟩, _, rfl, Int.ediv_nonneg h0 (by decide), fun H1 l sm tl => q H1 _ sm (.inr ⟨l, rfl, tl⟩)⟩
theorem ok_term (T : Txt K mg) : Pr P w K mg base CX0 4 "_law_term" ["number", "used"] sp_term := by
  refine pr0 T.d_law_term sc_law_term (fun vs H Q E h => ?_) (fun f cdv A outer s H vs Q E hr h => ?_)
  · obtain ⟨n, u, rfl, _⟩ := h; rfl
  · obtain ⟨n, u, rfl, h0, u0, u4, q⟩ := h
    have G1 := ok_value (P := P) (w := w) (base := base) T
    have par : ∀ (H' : Hp) (p : Addr) (m : Int), H' p = none → Same H H' → 1 ≤ m → m ≤ u + 1 → m ≤ 4 → Q (.ref p) (upd H' p (.tup [.str "parameter", .int m])) := fun H' p m np sm m1 m2 m4 =>
      q _ _ (.par m) (same_put (sm.free np) sm) ⟨p, rfl, upd_same⟩ ⟨by show (decide (1 ≤ m) && decide (m ≤ 4)) = true; rw [decide_eq_true m1, decide_eq_true m4]; rfl, fun l z => (nomatch z), fun m' z => by have := Part.par.inj z; omega⟩
    refine ⟨_, pss_cons (ps_if (PW.pt (pw_and (pt_cmpR op_eq (pe_op op_mod (pv 0) pe_int) pe_int (nomark _)) (pw_and1 (pt_cmpR op_lt (pv 1) pe_int (nomark _))))) (pss_one (ps_ret (pe_tup (pa_cons pe_str (pa_cons (pe_op op_add (pv 1) pe_int) pa_nil))))) pss_nil)
      (pss_cons (ps_if (PW.pt (pw_and (pt_cmpR op_eq (pe_op op_mod (pv 0) pe_int) pe_int (nomark _)) (pw_and1 (pt_cmpR op_gt (pv 1) pe_int (nomark _))))) (pss_one (ps_ret (pe_tup (pa_cons pe_str (pa_cons (pe_op op_add pe_int (pe_op op_mod (pe_op op_fdiv (pv 0) pe_int) (pv 1))) pa_nil))))) pss_nil)
      (pss_cons (ps_set (i := 2) sc_law_term.nd rfl (.inl rfl) (pe_k G1 hr (by decide) pass0 (by rfl) (pa_cons (pe_op op_fdiv (pv 0) pe_int) pa_nil)))
      (pss_cons (ps_if (pt_val (pe_callB call_isi (by rfl) T.n_isinstance boot_isinstance (pa_cons (pv 2) (pa_cons (pe_bltn (v := .ty "str") (by rfl) T.n_str boot_str rfl) pa_nil)))) (pss_one (ps_ret (pe_tup (pa_cons pe_str (pa_cons (pv 2) pa_nil))))) pss_nil)
      (pss_one (ps_ret (pv 2)))))), ?_⟩
    -- the value
    have rest : ∀ H1 : Hp, Same H H1 → (tSeq (tAsg (tCall sp_value [] E0 (tCons (tOp (rI CDiv fun i j => .int (i / j)) (tVar 0) (tC (.int 7))) tNil)) (gName 2)) (tSeq (tIfS (tB (tCB (rIsi K) (tCons (tVar 2) (tCons (tC (.ty "str")) tNil)))) (tRet (tTup (tCons (tC (.str "text")) (tCons (tVar 2) tNil)))) tNext) (tRet (tVar 2)))) { nx := fun _ H' => Q .non H', rt := Q } [some (.int n), some (.int u), none] H1 := fun H1 sm => by
      refine ⟨_, rfl, _, _, rfl, rfl, ⟨by decide, by decide⟩, _, rfl, Int.ediv_nonneg h0 (by decide), fun H2 v s2 hv => ?_⟩
      rcases hv with ⟨i, rfl, hi⟩ | ⟨l, rfl, hl⟩
      · refine ⟨_, rfl, _, _, _, _, _, rfl, .ty _, .base (.int _), kit_ty (r := false) (by decide +kernel), _, rfl, iteF ⟨_, rfl, q _ _ (.num i) (sm.trans s2) rfl ⟨hi, fun l z => (nomatch z), fun m z => (nomatch z)⟩⟩⟩
      · refine ⟨_, rfl, _, _, _, _, _, rfl, .ty _, .base (.str _), kit_ty (r := true) (by decide +kernel), _, rfl, iteT ⟨_, rfl, (by show 2 ≤ sizeLine; decide), fun p np => ?_⟩⟩
        have s3 := sm.trans s2
        exact q _ _ (.text l) (same_put (s3.free np) s3) ⟨p, rfl, upd_same⟩ ⟨hl, fun l z => (nomatch z), fun m z => (nomatch z)⟩
    have snd : (tSeq (tIfS (tAnd (tTest (tOp rEq (tOp (rI (fun _ j => 0 < j) fun i j => .int (i % j)) (tVar 0) (tC (.int 7))) (tC (.int 1)))) (tTest (tOp (rI0 fun i j => .bl (decide (j < i))) (tVar 1) (tC (.int 0))))) (tRet (tTup (tCons (tC (.str "parameter")) (tCons (tOp (rI0 fun i j => .int (i + j)) (tC (.int 1)) (tOp (rI (fun _ j => 0 < j) fun i j => .int (i % j)) (tOp (rI CDiv fun i j => .int (i / j)) (tVar 0) (tC (.int 7))) (tVar 1))) tNil)))) tNext)
        (tSeq (tAsg (tCall sp_value [] E0 (tCons (tOp (rI CDiv fun i j => .int (i / j)) (tVar 0) (tC (.int 7))) tNil)) (gName 2)) (tSeq (tIfS (tB (tCB (rIsi K) (tCons (tVar 2) (tCons (tC (.ty "str")) tNil)))) (tRet (tTup (tCons (tC (.str "text")) (tCons (tVar 2) tNil)))) tNext) (tRet (tVar 2))))) { nx := fun _ H' => Q .non H', rt := Q } [some (.int n), some (.int u), none] H := by
      refine ⟨_, rfl, _, _, rfl, rfl, (by show (0 : Int) < _; decide), rfl, _, rfl, ite2 (fun h1 => ?_) (fun h1 => iteF (rest H (Same.refl _)))⟩
      refine ⟨_, rfl, _, _, rfl, rfl, _, rfl, ite2 (fun h2 => ?_) (fun h2 => rest H (Same.refl _))⟩
      have h2 : 0 < u := of_decide_eq_true h2
      refine ⟨_, rfl, _, _, rfl, rfl, ⟨by decide, by decide⟩, _, rfl, _, _, rfl, rfl, h2, _, _, rfl, rfl, (by show 2 ≤ sizeLine; decide), fun p np => ?_⟩
      have c0 : 0 ≤ n / 7 % u := Int.emod_nonneg _ (by omega)
      have c1 : n / 7 % u < u := Int.emod_lt_of_pos _ h2
      exact par H p _ np (Same.refl _) (by omega) (by omega) (by omega)
    refine ⟨_, rfl, _, _, rfl, rfl, (by show (0 : Int) < _; decide), rfl, _, rfl, ite2 (fun h1 => ?_) (fun h1 => iteF snd)⟩
    refine ⟨_, rfl, _, _, rfl, rfl, _, rfl, ite2 (fun h2 => ?_) (fun h2 => snd)⟩
    have h2 : u < 4 := of_decide_eq_true h2
    refine ⟨_, rfl, _, _, rfl, rfl, (by show 2 ≤ sizeLine; decide), fun p np => par H p _ np (Same.refl _) (by omega) (by omega) (by omega)⟩
end
end K01
end
section
namespace Mx
open PySem PySem.Spec PyProof.Rows L2 SX
/-- every parameter up to the greatest one is there -/
def good (ps : List Part) : Prop := ∀ m : Int, 1 ≤ m → m ≤ mostOf ps → Part.par m ∈ ps
theorem good_full {ps : List Part} (h : good ps) : full ps = true := by
  unfold full
  rw [List.all_eq_true]
  intro i hi
  rw [List.mem_range] at hi
  exact decide_eq_true (h _ (by omega) (by omega))
def upto (m : Int) : List Int → Int := fun r => r.foldl (fun a b => if b > a then b else a) m
theorem most_eq (ps : List Part) (h : ∀ n ∈ parsOf ps, 1 ≤ n) : mostOf ps = upto 0 (parsOf ps) := by
  unfold mostOf upto
  cases e : parsOf ps with
  | nil => rfl
  | cons m r =>
    have : 1 ≤ m := h m (by rw [e]; exact List.mem_cons_self ..)
    show _ = List.foldl _ (if m > 0 then m else 0) r
    rw [if_pos (by omega)]
theorem pars_pos {ps : List Part} (h : ∀ p ∈ ps, okP p = true) : ∀ n ∈ parsOf ps, 1 ≤ n := fun n hn => by
  unfold parsOf at hn
  obtain ⟨p, hp, e⟩ := List.mem_filterMap.mp hn
  have := h p hp
  cases p with
  | par m =>
    obtain rfl := Option.some.inj e
    have z : (decide (1 ≤ m) && decide (m ≤ 4)) = true := this
    rw [Bool.and_eq_true_iff] at z
    exact of_decide_eq_true z.1
  | name l => cases e
  | num m => cases e
  | text l => cases e
theorem pars_app (a b : List Part) : parsOf (a ++ b) = parsOf a ++ parsOf b := List.filterMap_append
theorem most_snoc {ps : List Part} {p : Part} (h : ∀ q ∈ ps ++ [p], okP q = true) : mostOf (ps ++ [p]) = match parNo p with
    | none => mostOf ps
    | some m => if m > mostOf ps then m else mostOf ps := by
  rw [most_eq _ (pars_pos h), most_eq ps (pars_pos fun q hq => h q (List.mem_append_left _ hq)), pars_app]
  unfold upto
  rw [List.foldl_append]
  cases p with
  | par m => rfl
  | name l => rfl
  | num m => rfl
  | text l => rfl
theorem good_snoc {ps : List Part} {p : Part} (h : ∀ q ∈ ps ++ [p], okP q = true) (g : good ps) (hp : ∀ m, p = .par m → m ≤ mostOf ps + 1) : good (ps ++ [p]) := by
  intro m m1 m2
  rw [most_snoc h] at m2
  cases e : parNo p with
  | none => rw [e] at m2; exact List.mem_append_left _ (g m m1 m2)
  | some k =>
    have ep : p = .par k := by
      cases p with
      | par m => rw [Option.some.inj e]
      | name l => cases e
      | num m => cases e
      | text l => cases e
    rw [e] at m2
    have := hp k ep
    by_cases c : m ≤ mostOf ps
    · exact List.mem_append_left _ (g m m1 c)
    · have : m = k := by
        dsimp only at m2
        split at m2 <;> omega
      rw [this, ep]
      exact List.mem_append_right _ (List.mem_singleton.mpr rfl)
/-- the greatest of 0 and the parameters -/
theorem most_max {ps : List Part} (h : ∀ p ∈ ps, okP p = true) {m : Int} (hm : m ∈ 0 :: parsOf ps) (hx : ∀ y ∈ 0 :: parsOf ps, y ≤ m) : m = mostOf ps := by
  have key : ∀ (r : List Int) (a : Int), (upto a r = a ∨ upto a r ∈ r) ∧ a ≤ upto a r ∧ ∀ x ∈ r, x ≤ upto a r := by
    intro r
    induction r with
    | nil => intro a; exact ⟨Or.inl rfl, Int.le_refl _, fun x hx => nomatch hx⟩
    | cons b r ih =>
      intro a
      have e : upto a (b :: r) = upto (if b > a then b else a) r := rfl
      obtain ⟨i1, i2, i3⟩ := ih (if b > a then b else a)
      rw [e]
      refine ⟨?_, ?_, ?_⟩
      · rcases i1 with i1 | i1
        · by_cases c : b > a
          · rw [if_pos c] at i1 ⊢; rw [i1]; exact Or.inr (List.mem_cons_self ..)
          · rw [if_neg c] at i1 ⊢; exact Or.inl i1
        · exact Or.inr (List.mem_cons_of_mem _ i1)
      · refine Int.le_trans ?_ i2
        split <;> omega
      · intro x hx
        rcases List.mem_cons.mp hx with rfl | hx
        · refine Int.le_trans ?_ i2
          split <;> omega
        · exact i3 x hx
  rw [most_eq ps (pars_pos h)]
  obtain ⟨k1, k2, k3⟩ := key (parsOf ps) 0
  have a : upto 0 (parsOf ps) ≤ m := by
    rcases k1 with k1 | k1
    · rw [k1]; exact hx 0 (List.mem_cons_self ..)
    · exact hx _ (List.mem_cons_of_mem _ k1)
  have b : m ≤ upto 0 (parsOf ps) := by
    rcases List.mem_cons.mp hm with rfl | hm
    · exact k2
    · exact k3 m hm
  omega
/-! ### statements as the law makes them -/
/-- what a letter of a form asks of a part -/
def fits (c : Nat) : Part → Prop := fun p => if c = 84 ∨ c = 78 then ∃ l, p = .name l ∧ nameM l = true else okP p = true ∧ ∀ l, p ≠ .name l
structure okS (wl : List Nat) (ps : List Part) : Prop where
  nm : nameM wl = true
  ex : ∃ f, formOf (S wl) ps.length = some f ∧ Paired fits f.cps.toList ps
  gd : good ps
def wordsV : List V := [.str "create", .str "put", .str "put", .str "scan", .str "begin", .str "commit", .str "put", .str "get", .str "delete", .str "total", .str "scan", .str "save", .str "undo", .str "rollback", .str "drop", .str "create", .str "put", .str "begin", .str "save", .str "undo", .str "scan"]
def aloneV : List V := [.str "begin", .str "commit", .str "rollback"]
def cntK (b : Int) : List (Key × V) := [(.inr "put", .int 2), (.inr "get", .int 1), (.inr "delete", .int 1), (.inr "scan", .int (2 * b))]
/-- a word of the list: alone, or with a name and some terms -/
def wordKind (wl : List Nat) : Prop := nameM wl = true ∧ ((inV (.str (S wl)) aloneV = true ∧ formOf (S wl) 0 = some "") ∨
  (inV (.str (S wl)) aloneV = false ∧ ∀ b : Int, (b = 0 ∨ b = 1) → ∃ cnt : Nat, cnt ≤ 2 ∧ (valV (mergeK [] (cntK b)) (.inr (S wl))).getD (.int 0) = .int (cnt : Int) ∧ ∃ f c0, formOf (S wl) (1 + cnt) = some f ∧ (c0 = 84 ∨ c0 = 78) ∧ f.cps.toList = c0 :: [88, 89].take cnt))
theorem kind_of : ∀ v ∈ wordsV, ∃ wl, v = .str (S wl) ∧ wordKind wl := by
  intro v hv
  unfold wordsV at hv
  simp only [List.mem_cons, List.not_mem_nil, or_false] at hv
  rcases hv with rfl | rfl | rfl | rfl | rfl | rfl | rfl | rfl | rfl | rfl | rfl | rfl | rfl | rfl | rfl | rfl | rfl | rfl | rfl | rfl | rfl
  · exact ⟨_, rfl, by decide +kernel, Or.inr ⟨by decide +kernel, fun b hb => ⟨0, by decide, by rcases hb with rfl | rfl <;> decide +kernel, _, 84, rfl, Or.inl rfl, by decide +kernel⟩⟩⟩
  · exact ⟨_, rfl, by decide +kernel, Or.inr ⟨by decide +kernel, fun b hb => ⟨2, by decide, by rcases hb with rfl | rfl <;> decide +kernel, _, 84, rfl, Or.inl rfl, by decide +kernel⟩⟩⟩
  · exact ⟨_, rfl, by decide +kernel, Or.inr ⟨by decide +kernel, fun b hb => ⟨2, by decide, by rcases hb with rfl | rfl <;> decide +kernel, _, 84, rfl, Or.inl rfl, by decide +kernel⟩⟩⟩
  · exact ⟨_, rfl, by decide +kernel, Or.inr ⟨by decide +kernel, fun b hb => by
      rcases hb with rfl | rfl
      · exact ⟨0, by decide, by decide +kernel, _, 84, rfl, Or.inl rfl, by decide +kernel⟩
      · exact ⟨2, by decide, by decide +kernel, _, 84, rfl, Or.inl rfl, by decide +kernel⟩⟩⟩
  · exact ⟨_, rfl, by decide +kernel, Or.inl ⟨by decide +kernel, by decide +kernel⟩⟩
  · exact ⟨_, rfl, by decide +kernel, Or.inl ⟨by decide +kernel, by decide +kernel⟩⟩
  · exact ⟨_, rfl, by decide +kernel, Or.inr ⟨by decide +kernel, fun b hb => ⟨2, by decide, by rcases hb with rfl | rfl <;> decide +kernel, _, 84, rfl, Or.inl rfl, by decide +kernel⟩⟩⟩
  · exact ⟨_, rfl, by decide +kernel, Or.inr ⟨by decide +kernel, fun b hb => ⟨1, by decide, by rcases hb with rfl | rfl <;> decide +kernel, _, 84, rfl, Or.inl rfl, by decide +kernel⟩⟩⟩
  · exact ⟨_, rfl, by decide +kernel, Or.inr ⟨by decide +kernel, fun b hb => ⟨1, by decide, by rcases hb with rfl | rfl <;> decide +kernel, _, 84, rfl, Or.inl rfl, by decide +kernel⟩⟩⟩
  · exact ⟨_, rfl, by decide +kernel, Or.inr ⟨by decide +kernel, fun b hb => ⟨0, by decide, by rcases hb with rfl | rfl <;> decide +kernel, _, 84, rfl, Or.inl rfl, by decide +kernel⟩⟩⟩
  · exact ⟨_, rfl, by decide +kernel, Or.inr ⟨by decide +kernel, fun b hb => by
      rcases hb with rfl | rfl
      · exact ⟨0, by decide, by decide +kernel, _, 84, rfl, Or.inl rfl, by decide +kernel⟩
      · exact ⟨2, by decide, by decide +kernel, _, 84, rfl, Or.inl rfl, by decide +kernel⟩⟩⟩
  · exact ⟨_, rfl, by decide +kernel, Or.inr ⟨by decide +kernel, fun b hb => ⟨0, by decide, by rcases hb with rfl | rfl <;> decide +kernel, _, 78, rfl, Or.inr rfl, by decide +kernel⟩⟩⟩
  · exact ⟨_, rfl, by decide +kernel, Or.inr ⟨by decide +kernel, fun b hb => ⟨0, by decide, by rcases hb with rfl | rfl <;> decide +kernel, _, 78, rfl, Or.inr rfl, by decide +kernel⟩⟩⟩
  · exact ⟨_, rfl, by decide +kernel, Or.inl ⟨by decide +kernel, by decide +kernel⟩⟩
  · exact ⟨_, rfl, by decide +kernel, Or.inr ⟨by decide +kernel, fun b hb => ⟨0, by decide, by rcases hb with rfl | rfl <;> decide +kernel, _, 84, rfl, Or.inl rfl, by decide +kernel⟩⟩⟩
  · exact ⟨_, rfl, by decide +kernel, Or.inr ⟨by decide +kernel, fun b hb => ⟨0, by decide, by rcases hb with rfl | rfl <;> decide +kernel, _, 84, rfl, Or.inl rfl, by decide +kernel⟩⟩⟩
  · exact ⟨_, rfl, by decide +kernel, Or.inr ⟨by decide +kernel, fun b hb => ⟨2, by decide, by rcases hb with rfl | rfl <;> decide +kernel, _, 84, rfl, Or.inl rfl, by decide +kernel⟩⟩⟩
  · exact ⟨_, rfl, by decide +kernel, Or.inl ⟨by decide +kernel, by decide +kernel⟩⟩
  · exact ⟨_, rfl, by decide +kernel, Or.inr ⟨by decide +kernel, fun b hb => ⟨0, by decide, by rcases hb with rfl | rfl <;> decide +kernel, _, 78, rfl, Or.inr rfl, by decide +kernel⟩⟩⟩
  · exact ⟨_, rfl, by decide +kernel, Or.inr ⟨by decide +kernel, fun b hb => ⟨0, by decide, by rcases hb with rfl | rfl <;> decide +kernel, _, 78, rfl, Or.inr rfl, by decide +kernel⟩⟩⟩
  · exact ⟨_, rfl, by decide +kernel, Or.inr ⟨by decide +kernel, fun b hb => by
      rcases hb with rfl | rfl
      · exact ⟨0, by decide, by decide +kernel, _, 84, rfl, Or.inl rfl, by decide +kernel⟩
      · exact ⟨2, by decide, by decide +kernel, _, 84, rfl, Or.inl rfl, by decide +kernel⟩⟩⟩
end Mx
end
section
namespace K01
open PySem PySem.Spec PyProof.Rows L2 Tl Mx SX
def sp_used (K : PySem.W.Frag) : Sp := fun vs H Q _ => ∃ a xs ps, vs = [.ref a] ∧ (SqT K H a xs ∨ SqL K H a xs) ∧ xs.length ≤ 1000 ∧ ArePs H xs ps ∧ (∀ p ∈ ps, okP p = true) ∧ ∀ H', Same H H' → Q (.int (mostOf ps)) H'
section
variable {P : Program} {w : World} {K : PySem.W.Frag} {mg : Str → Option Value} {base : Heap} {C : Addr}
theorem ok_used (T : Txt K mg) : Pr P w K mg base CX0 1 "_law_used" ["parts"] (sp_used K) := by
  refine pr0 T.d_law_used sc_law_used (fun vs H Q E h => ?_) (fun f cdv A outer s H vs Q E hr h => ?_)
  · obtain ⟨a, xs, ps, rfl, _⟩ := h; rfl
  · obtain ⟨a, xs, ps, rfl, sq, small, hp, ok, q⟩ := h
    have len := Paired.len hp
    have turn : ∀ (i : Nat) (x : V) (H1 H' : Hp) (R : V → Hp → Prop) (Nn : Hp → Prop), i < xs.length → Same H H1 → YAt xs i H1 x H' → (∀ z H4, Same H1 H4 → (parsOf (ps.take (i + 1))).map V.int = (parsOf (ps.take i)).map V.int ++ [z] → R z H4) → (∀ H4, Same H1 H4 → (parsOf (ps.take (i + 1))).map V.int = (parsOf (ps.take i)).map V.int → Nn H4) →
        gName 2 x (wipe (L2.start ["parts", "numbers", "part"] [V.ref a]) [2]) H' fun σ2 H2 => wipe σ2 [2] = wipe (L2.start ["parts", "numbers", "part"] [V.ref a]) [2] ∧ (tAnd (tB (tCB (rIsi K) (tCons (tVar 2) (tCons (tC (.ty "tuple")) tNil)))) (tTest (tOp rEq (tOp (rIxT K) (tVar 2) (tC (.int 0))) (tC (.str "parameter"))))) σ2 H2 fun b H3 => if b = true then (tOp (rIxT K) (tVar 2) (tC (.int 1))) σ2 H3 R else Nn H3 := by
      rintro i x H1 H' R Nn hi sm ⟨rfl, gx⟩ kR kN
      obtain ⟨p, gp, isp⟩ := Paired.at hp gx
      have isp1 := isp.same sm
      have nx := pars_next gp
      refine ⟨rfl, _, rfl, ?_⟩
      cases p with
      | name l => obtain rfl := isp1; exact ⟨_, _, _, _, _, rfl, .ty _, .base (.str _), kit_ty (r := false) (by decide +kernel), _, rfl, iteF (kN _ (Same.refl _) (by rw [nx]; simp [parNo]))⟩
      | num n => obtain rfl := isp1; exact ⟨_, _, _, _, _, rfl, .ty _, .base (.int _), kit_ty (r := false) (by decide +kernel), _, rfl, iteF (kN _ (Same.refl _) (by rw [nx]; simp [parNo]))⟩
      | text l =>
        obtain ⟨b, rfl, h⟩ := isp1
        exact ⟨_, _, _, _, _, rfl, .ty _, .base (.tup h), kit_ty (r := true) (by decide +kernel), _, rfl, iteT ⟨_, rfl, b, _, 0, _, rfl, rfl, SqT.of h, rfl, rfl, _, rfl, iteF (kN _ (Same.refl _) (by rw [nx]; simp [parNo]))⟩⟩
      | par n =>
        obtain ⟨b, rfl, h⟩ := isp1
        exact ⟨_, _, _, _, _, rfl, .ty _, .base (.tup h), kit_ty (r := true) (by decide +kernel), _, rfl, iteT ⟨_, rfl, b, _, 0, _, rfl, rfl, SqT.of h, rfl, rfl, _, rfl, iteT ⟨_, rfl, b, _, 1, _, rfl, rfl, SqT.of h, rfl, kR (.int n) _ (Same.refl _) (by rw [nx]; simp [parNo])⟩⟩⟩
    have sizes : ∀ i, i < xs.length → ((parsOf (ps.take i)).map V.int).length < sizeLine := fun i hi => by
      have z : (parsOf (ps.take i)).length ≤ (ps.take i).length := List.length_filterMap_le _ _
      rw [List.length_take] at z
      rw [List.length_map, sizeLine_eq]; omega
    have plen : (parsOf ps).length ≤ 1000 := by
      have z : (parsOf ps).length ≤ ps.length := List.length_filterMap_le _ _
      omega
    have fin : ∀ (H1 : Hp) (D : Addr), Same H H1 → H D = none → H1 D = some (.lst ((parsOf (ps.take xs.length)).map V.int)) → (gName 1) (.ref D) (L2.start ["parts", "numbers", "part"] [V.ref a]) H1 (fun σ H => tRet (tCB (rMax K) (tCons (tOp rCat (tLst (tCons (tC (.int 0)) tNil)) (tVar 1)) tNil)) { nx := fun _ H' => Q .non H', rt := Q } σ H) := fun H1 D sm nD e => by
      rw [List.take_of_length_le (by omega)] at e
      refine ⟨(by show 1 ≤ sizeLine; decide), fun p np => ⟨_, rfl, p, D, _, _, rfl, rfl, upd_same, by rw [upd_ne (ne_of_none e np)]; exact e, by rw [List.length_map, sizeLine_eq]; show 1 + _ ≤ _; omega, fun p2 np2 => ?_⟩⟩
      have n0 : H p = none := sm.free np
      have s2 : Same H (upd H1 p (.lst [.int 0])) := same_put n0 sm
      refine ⟨p2, 0 :: parsOf ps, rfl, SqL.of (by rw [upd_same]; rfl), Nat.succ_pos _, fun m h1 h2 => vto (q _ (same_put (s2.free np2) s2)) ?_⟩
      rw [most_max ok h1 h2]
    rcases sq with sq | sq
    · refine ⟨_, pss_cons (ps_setLc (i := 1) (own := [("part", 2)]) (g := gName 2) (tt := tAnd (tB (tCB (rIsi K) (tCons (tVar 2) (tCons (tC (.ty "tuple")) tNil)))) (tTest (tOp rEq (tOp (rIxT K) (tVar 2) (tC (.int 0))) (tC (.str "parameter"))))) (te := tOp (rIxT K) (tVar 2) (tC (.int 1))) rfl sc_law_used.nd rfl rfl (sw_true rfl rfl rfl (by decide +kernel)) (pi_tup (pv 0)) (blkOk_by (N := ["parts", "numbers", "part"]) (sc := defScope s_law_used) (by decide +kernel))
          (fun _ _ _ _ _ => pg_name (i := 2) sc_law_used.nd rfl (.inl rfl)) (fun _ _ _ _ _ => pts_one (PW.pt (pw_and (pt_val (pe_callB call_isi (by rfl) T.n_isinstance boot_isinstance (pa_cons (pv 2) (pa_cons (pe_bltn (v := .ty "tuple") (by rfl) T.n_tuple boot_tuple rfl) pa_nil)))) (pw_and1 (pt_cmpR op_eq (pe_ix ix_tup (pv 2) pe_int (fun _ _ => rfl)) pe_str (nomark _))))))
          (fun _ _ _ _ _ => pe_ix ix_tup (pv 2) pe_int (fun _ _ => rfl)))
        (pss_one (ps_ret (pe_callB (cr_max rfl) (by rfl) T.n_max boot_max (pa_cons (pe_op op_cat (pe_lst (pa_cons pe_int pa_nil)) (pv 1)) pa_nil)))), ?_⟩
      exact ⟨_, rfl, a, rfl, ⟨_, sq⟩, lc_acc walk_tup (fun i => (parsOf (ps.take i)).map V.int) (by simp [parsOf]) sizes (fun H1 sm => Same.tup sm sq) turn fin⟩
    · refine ⟨_, pss_cons (ps_setLc (i := 1) (own := [("part", 2)]) (g := gName 2) (tt := tAnd (tB (tCB (rIsi K) (tCons (tVar 2) (tCons (tC (.ty "tuple")) tNil)))) (tTest (tOp rEq (tOp (rIxT K) (tVar 2) (tC (.int 0))) (tC (.str "parameter"))))) (te := tOp (rIxT K) (tVar 2) (tC (.int 1))) rfl sc_law_used.nd rfl rfl (sw_true rfl rfl rfl (by decide +kernel)) (pi_list (pv 0)) (blkOk_by (N := ["parts", "numbers", "part"]) (sc := defScope s_law_used) (by decide +kernel))
          (fun _ _ _ _ _ => pg_name (i := 2) sc_law_used.nd rfl (.inl rfl)) (fun _ _ _ _ _ => pts_one (PW.pt (pw_and (pt_val (pe_callB call_isi (by rfl) T.n_isinstance boot_isinstance (pa_cons (pv 2) (pa_cons (pe_bltn (v := .ty "tuple") (by rfl) T.n_tuple boot_tuple rfl) pa_nil)))) (pw_and1 (pt_cmpR op_eq (pe_ix ix_tup (pv 2) pe_int (fun _ _ => rfl)) pe_str (nomark _))))))
          (fun _ _ _ _ _ => pe_ix ix_tup (pv 2) pe_int (fun _ _ => rfl)))
        (pss_one (ps_ret (pe_callB (cr_max rfl) (by rfl) T.n_max boot_max (pa_cons (pe_op op_cat (pe_lst (pa_cons pe_int pa_nil)) (pv 1)) pa_nil)))), ?_⟩
      exact ⟨_, rfl, a, rfl, ⟨_, sq⟩, lc_acc walk_list (fun i => (parsOf (ps.take i)).map V.int) (by simp [parsOf]) sizes (fun H1 sm => sm.seq sq) turn fin⟩
end
end K01
end
section
namespace K01
open PySem PySem.Spec PyProof.Rows L2 Tl Mx SX
theorem fits_terms : ∀ (cnt : Nat) (ts : List Part), cnt ≤ 2 → ts.length = cnt → (∀ p ∈ ts, okP p = true ∧ ∀ l, p ≠ .name l) → Paired fits ([88, 89].take cnt) ts
  | 0, [], _, _, _ => .nil
  | 1, [a], _, _, h => .cons (by unfold fits; rw [if_neg (by decide)]; exact h a (by simp)) .nil
  | 2, [a, b], _, _, h => .cons (by unfold fits; rw [if_neg (by decide)]; exact h a (by simp)) (.cons (by unfold fits; rw [if_neg (by decide)]; exact h b (by simp)) .nil)
  | n + 3, _, h, _, _ => by omega
  | 0, _ :: _, _, h, _ => by simp at h
  | 1, [], _, h, _ => by simp at h
  | 1, _ :: _ :: _, _, h, _ => by simp at h
  | 2, [], _, h, _ => by simp at h
  | 2, [_], _, h, _ => by simp at h
  | 2, _ :: _ :: _ :: _, _, h, _ => by simp at h
theorem okS_mk {wl nl : List Nat} {ts : List Part} {cnt : Nat} {f : Str} {c0 : Nat} (hw : nameM wl = true) (hn : nameM nl = true) (hc : cnt ≤ 2) (ef : formOf (S wl) (1 + cnt) = some f) (h0 : c0 = 84 ∨ c0 = 78) (fc : f.cps.toList = c0 :: [88, 89].take cnt)
    (len : ts.length = cnt) (ok : ∀ p ∈ ts, okP p = true ∧ ∀ l, p ≠ .name l) (g : good ts) : okS wl (.name nl :: ts) where
  nm := hw
  ex := ⟨f, by rw [List.length_cons, len, Nat.add_comm]; exact ef, by rw [fc]; exact .cons (by unfold fits; rw [if_pos h0]; exact ⟨nl, rfl, hn⟩) (fits_terms cnt ts hc len ok)⟩
  gd := fun m m1 m2 => List.mem_cons_of_mem _ (g m m1 m2)
theorem okS_alone {wl : List Nat} (hw : nameM wl = true) (ef : formOf (S wl) 0 = some "") : okS wl [] where
  nm := hw
  ex := ⟨"", ef, .nil⟩
  gd := fun m m1 m2 => absurd (show m ≤ 0 from m2) (by omega)
def sp_statement (K : PySem.W.Frag) : Sp := fun vs H Q _ => ∃ (a b : Addr) (rs : List Int) (ns : List (List Nat)), vs = [.ref a, .ref b] ∧ SqL K H a (rs.map V.int) ∧ rs.length = 6 ∧ (∀ x ∈ rs, (0 : Int) ≤ x) ∧ SqL K H b (ns.map fun l => V.str (S l)) ∧ ns ≠ [] ∧ (∀ l ∈ ns, nameM l = true) ∧
  ∀ H' p wl ps xs, Same H H' → H p = none → H' p = some (.tup (.str (S wl) :: xs)) → ArePs H' xs ps → okS wl ps → ps.length ≤ 3 → Q (.ref p) H'
section
variable {P : Program} {w : World} {K : PySem.W.Frag} {mg : Str → Option Value} {base : Heap} {C : Addr}
theorem ok_statement (T : Txt K mg) : Pr P w K mg base CX0 5 "_law_statement" ["row", "names"] (sp_statement K) := by
  refine pr0 T.d_law_statement sc_law_statement (fun vs H Q E h => ?_) (fun f cdv A outer s H vs Q E hr h => ?_)
  · obtain ⟨a, b, rs, ns, rfl, _⟩ := h; rfl
  · obtain ⟨a, b, rs, ns, rfl, sqr, lr, rpos, sqn, nne, nok, q⟩ := h
    have G1 := ok_term (P := P) (w := w) (base := base) T
    have G2 := ok_used (P := P) (w := w) (base := base) T
    refine ⟨_, pss_cons (ps_set (i := 2) sc_law_statement.nd rfl (.inl rfl) (pe_lst (pa_cons pe_str (pa_cons pe_str (pa_cons pe_str (pa_cons pe_str (pa_cons pe_str (pa_cons pe_str (pa_cons pe_str (pa_cons pe_str (pa_cons pe_str (pa_cons pe_str (pa_cons pe_str (pa_cons pe_str (pa_cons pe_str pa_nil)))))))))))))))
      (pss_cons (ps_set (i := 2) sc_law_statement.nd rfl (.inl rfl) (pe_op op_cat (pv 2) (pe_lst (pa_cons pe_str (pa_cons pe_str (pa_cons pe_str (pa_cons pe_str (pa_cons pe_str (pa_cons pe_str (pa_cons pe_str (pa_cons pe_str pa_nil)))))))))))
      (pss_cons (ps_set (i := 3) sc_law_statement.nd rfl (.inl rfl) (pe_ix ix_list (pv 2) (pe_op op_mod (pe_ix ix_list (pv 0) pe_int (fun _ _ => rfl)) (pe_callB call_len_seq (by rfl) T.n_len PySem.boot_len (pa_cons (pv 2) pa_nil))) (fun _ _ => rfl)))
      (pss_cons (ps_if (pt_cmpR op_in_seq (pv 3) (pe_lst (pa_cons pe_str (pa_cons pe_str (pa_cons pe_str pa_nil)))) (by rfl)) (pss_one (ps_ret (pe_tup (pa_cons (pv 3) pa_nil)))) pss_nil)
      (pss_cons (ps_set (i := 4) sc_law_statement.nd rfl (.inl rfl) (pe_lst (pa_cons (pv 3) (pa_cons (pe_ix ix_list (pv 1) (pe_op op_mod (pe_ix ix_list (pv 0) pe_int (fun _ _ => rfl)) (pe_callB call_len_seq (by rfl) T.n_len PySem.boot_len (pa_cons (pv 1) pa_nil))) (fun _ _ => rfl)) pa_nil))))
      (pss_cons (ps_set (i := 5) sc_law_statement.nd rfl (.inl rfl) (pe_dget2 (hu_of hr) (pe_disp (pps_cons pe_str pe_int (pps_cons pe_str pe_int (pps_cons pe_str pe_int (pps_cons pe_str (pe_op op_mul pe_int (pe_op op_mod (pe_ix ix_list (pv 0) pe_int (fun _ _ => rfl)) pe_int)) pps_nil)))) rfl rfl (by simp) (by decide)) (pv 3) pe_int ⟨rfl, rfl, rfl, rfl⟩))
      (C8.pss_cut (ps_if (PW.pt (pw_and (pt_cmpR op_eq (pv 5) pe_int (nomark _)) (pw_and1 (pt_cmpR op_eq (pe_op op_mod (pe_ix ix_list (pv 0) pe_int (fun _ _ => rfl)) pe_int) pe_int (nomark _)))))
          (pss_one (ps_ret (pe_tup (pa_cons (pv 3) (pa_cons (pe_ix ix_list (pv 4) pe_int (fun _ _ => rfl)) (pa_cons (pe_tup (pa_cons pe_str (pa_cons pe_int pa_nil))) (pa_cons (pe_tup (pa_cons pe_str (pa_cons pe_int pa_nil))) pa_nil))))))) pss_nil)
      (pss_cons (ps_for PassesOwn.never rfl (pi_range1 (by rfl) T.n_range (pa_cons (pv 5) pa_nil)) (pg_name (i := 6) sc_law_statement.nd rfl (.inl rfl))
          (pss_one (ps_expr (pe_bm PySem.F.plainAttrs_list PySem.F.slot_list_append PySem.F.type_list_append mt_append (pv 4) (pa_cons (pe_k G1 hr (by decide) pass0 (by rfl) (pa_cons
            (pe_op op_add (pe_ix ix_list (pv 0) (pe_op op_add pe_int (pv 6)) (fun _ _ => rfl)) (pe_op op_mul pe_int (pe_ix ix_list (pv 0) (pe_op op_sub pe_int (pe_op op_mul pe_int (pv 6))) (fun _ _ => rfl))))
            (pa_cons (pe_k G2 hr (by decide) pass0 (by rfl) (pa_cons (pv 4) pa_nil)) pa_nil))) pa_nil)))))
      (pss_one (ps_ret (pe_callTy call_tuple_of (by rfl) T.n_tuple boot_tuple (pa_cons (pv 4) pa_nil))))))))))), ?_⟩
    obtain ⟨r0, r1, r2, r3, r4, r5, rfl⟩ : ∃ r0 r1 r2 r3 r4 r5, rs = [r0, r1, r2, r3, r4, r5] := by
      match rs, lr with
      | [r0, r1, r2, r3, r4, r5], _ => exact ⟨r0, r1, r2, r3, r4, r5, rfl⟩
    have p0 : 0 ≤ r0 := rpos r0 (by simp)
    have p1' : 0 ≤ r1 := rpos r1 (by simp)
    have p2' : 0 ≤ r2 := rpos r2 (by simp)
    have p3' : 0 ≤ r3 := rpos r3 (by simp)
    have p4' : 0 ≤ r4 := rpos r4 (by simp)
    have p5' : 0 ≤ r5 := rpos r5 (by simp)
    -- words
    refine ⟨(by show 13 ≤ sizeLine; decide), fun p1 n1 => ?_⟩
    refine ⟨_, rfl, (by show 8 ≤ sizeLine; decide), fun p2 n2 => ⟨p1, p2, _, _, rfl, rfl, by rw [upd_ne (ne_of_none upd_same n2)]; exact upd_same, upd_same, (by show 21 ≤ sizeLine; decide), fun p3 n3 => ?_⟩⟩
    obtain ⟨H3, e3⟩ : ∃ H3, H3 = upd (upd (upd H p1 (.lst [.str "create", .str "put", .str "put", .str "scan", .str "begin", .str "commit", .str "put", .str "get", .str "delete", .str "total", .str "scan", .str "save", .str "undo"])) p2 (.lst [.str "rollback", .str "drop", .str "create", .str "put", .str "begin", .str "save", .str "undo", .str "scan"])) p3 (.lst wordsV) := ⟨_, rfl⟩
    have sm2 : Same H (upd (upd H p1 (.lst [.str "create", .str "put", .str "put", .str "scan", .str "begin", .str "commit", .str "put", .str "get", .str "delete", .str "total", .str "scan", .str "save", .str "undo"])) p2 (.lst [.str "rollback", .str "drop", .str "create", .str "put", .str "begin", .str "save", .str "undo", .str "scan"])) := (same_upd n1).trans (same_upd n2)
    have sm3 : Same H H3 := by rw [e3]; exact same_put (sm2.free n3) sm2
    have at3 : H3 p3 = some (.lst wordsV) := by rw [e3]; exact upd_same
    change tSeq _ _ _ _ (upd (upd (upd H p1 _) p2 _) p3 (.lst wordsV))
    rw [← e3]
    -- word
    have w0 : 0 ≤ r0 % 21 := Int.emod_nonneg _ (by decide)
    have w1 : r0 % 21 < 21 := Int.emod_lt_of_pos _ (by decide)
    obtain ⟨v, gv⟩ : ∃ v, wordsV[(r0 % 21).toNat]? = some v := ⟨_, List.getElem?_eq_getElem (by show _ < 21; omega)⟩
    obtain ⟨wl, rfl, wok, kind⟩ := kind_of v (List.mem_of_getElem? gv)
    refine ⟨_, rfl, _, rfl, a, _, 0, _, rfl, rfl, sm3.seq sqr, rfl, _, rfl, p3, wordsV, rfl, .inl (SqL.of at3), r0, 21, rfl, rfl, (by show (0 : Int) < _; decide), p3, wordsV, _, _, rfl, rfl, SqL.of at3, by rw [show r0 % 21 = ((r0 % 21).toNat : Int) from (Int.toNat_of_nonneg w0).symm]; exact atI_nat gv, ?_⟩
    -- alone
    refine ⟨_, rfl, (by show 3 ≤ sizeLine; decide), fun p4 n4 => ⟨p4, aloneV, rfl, .inl (SqL.of upd_same), rfl, rfl, ?_⟩⟩
    have sm4 : Same H (upd H3 p4 (.lst aloneV)) := same_put (sm3.free n4) sm3
    rw [show (if false then !inV (V.str (S wl)) aloneV else inV (V.str (S wl)) aloneV) = inV (V.str (S wl)) aloneV from rfl]
    rcases kind with ⟨ka, kf⟩ | ⟨ka, kf⟩
    · rw [ka]
      refine ⟨_, rfl, iteT ⟨_, rfl, (by show 1 ≤ sizeLine; decide), fun p5 n5 => ?_⟩⟩
      exact q _ p5 wl [] [] (same_put (sm4.free n5) sm4) (sm4.free n5) upd_same .nil (okS_alone wok kf) (by simp)
    · rw [ka]
      refine ⟨_, rfl, iteF ?_⟩
      -- parts
      have npos : 0 < ns.length := List.length_pos_iff.mpr nne
      have m0 : 0 ≤ r1 % (ns.length : Int) := Int.emod_nonneg _ (by omega)
      have m1 : r1 % (ns.length : Int) < (ns.length : Int) := Int.emod_lt_of_pos _ (by omega)
      obtain ⟨nl, gn⟩ : ∃ nl, ns[(r1 % (ns.length : Int)).toNat]? = some nl := ⟨_, List.getElem?_eq_getElem (by omega)⟩
      have nok' := nok nl (List.mem_of_getElem? gn)
      refine ⟨_, rfl, _, rfl, _, rfl, a, _, 1, _, rfl, rfl, sm4.seq sqr, rfl, _, rfl, b, _, rfl, .inl (sm4.seq sqn), r1, (ns.length : Int), rfl, by rw [List.length_map], (by show (0 : Int) < _; omega), b, _, _, .str (S nl), rfl, rfl, sm4.seq sqn, ?_, (by show 2 ≤ sizeLine; decide), fun p6 n6 => ?_⟩
      · rw [show r1 % (ns.length : Int) = ((r1 % (ns.length : Int)).toNat : Int) from (Int.toNat_of_nonneg m0).symm]
        exact atI_nat (by rw [List.getElem?_map, gn]; rfl)
      obtain ⟨H6, e6⟩ : ∃ H6, H6 = upd (upd H3 p4 (.lst aloneV)) p6 (.lst [.str (S wl), .str (S nl)]) := ⟨_, rfl⟩
      have n6' : H p6 = none := sm4.free n6
      have sm6 : Same H H6 := by rw [e6]; exact same_put n6' sm4
      have at6 : H6 p6 = some (.lst [.str (S wl), .str (S nl)]) := by rw [e6]; exact upd_same
      change gName _ _ _ (upd (upd H3 p4 (.lst aloneV)) p6 (.lst [.str (S wl), .str (S nl)])) _
      rw [← e6]
      -- count
      have b0 : r2 % 2 = 0 ∨ r2 % 2 = 1 := by omega
      obtain ⟨cnt, c2, ecnt, fo, c0, efo, hc0, fc⟩ := kf (r2 % 2) b0
      refine fun p7 n7 => ?_
      have sm7 : Same H6 (upd H6 p7 (.dK [])) := same_upd n7
      refine ⟨_, rfl, a, _, 2, _, rfl, rfl, (sm6.trans sm7).seq sqr, rfl, _, _, rfl, rfl, (by show (0 : Int) < _; decide), _, _, rfl, rfl, .inl ⟨by decide, by decide⟩, upd_same, cntK (r2 % 2), rfl, (by show 4 ≤ 15; decide), ?_⟩
      obtain ⟨H7, e7⟩ : ∃ H7, H7 = upd (upd H6 p7 (.dK [])) p7 (.dK (mergeK [] (cntK (r2 % 2)))) := ⟨_, rfl⟩
      have n7' : H p7 = none := sm6.free n7
      have sm67 : Same H6 H7 := by rw [e7]; exact same_put n7 sm7
      have sm07 : Same H H7 := sm6.trans sm67
      have at7 : H7 p7 = some (.dK (mergeK [] (cntK (r2 % 2)))) := by rw [e7]; exact upd_same
      change ∃ z, V.ref p7 = .ref z ∧ IsD (upd (upd H6 p7 (.dK [])) p7 (.dK (mergeK [] (cntK (r2 % 2))))) z ∧ _
      rw [← e7]
      refine ⟨p7, rfl, .inl ⟨_, .inl at7⟩, _, rfl, _, DGet.k (k := .inr (S wl)) at7, ?_⟩
      rw [ecnt]
      have at67 : H7 p6 = some (.lst [.str (S wl), .str (S nl)]) := sm67 _ _ at6
      have sqr7 := sm07.seq sqr
      -- the form with both parameters
      refine ⟨fun σ' H' => σ' = [some (.ref a), some (.ref b), some (.ref p3), some (.str (S wl)), some (.ref p6), some (.int (cnt : Int)), none] ∧ H' = H7, ?_, ?_⟩
      · refine ⟨_, rfl, rfl, _, rfl, ite2 (fun h1 => ?_) (fun h1 => iteF ⟨rfl, rfl⟩)⟩
        have hcnt : (cnt : Int) = 2 := V.int.inj (of_decide_eq_true h1)
        refine ⟨_, rfl, a, _, 5, _, rfl, rfl, sqr7, rfl, _, _, rfl, rfl, (by show (0 : Int) < _; decide), rfl, _, rfl, ite2 (fun h2 => ?_) (fun h2 => ⟨rfl, rfl⟩)⟩
        refine ⟨_, rfl, _, rfl, p6, _, 1, _, rfl, rfl, SqL.of at67, rfl, (by show 2 ≤ sizeLine; decide), fun t1 nt1 => ⟨(by show 2 ≤ sizeLine; decide), fun t2 nt2 => ⟨(by show 4 ≤ sizeLine; decide), fun t3 nt3 => ?_⟩⟩⟩
        have k1 : Same H7 (upd H7 t1 (.tup [.str "parameter", .int 2])) := same_upd nt1
        have k2 : Same (upd H7 t1 (.tup [.str "parameter", .int 2])) (upd (upd H7 t1 (.tup [.str "parameter", .int 2])) t2 (.tup [.str "parameter", .int 1])) := same_upd nt2
        have k3 := same_upd (o := .tup [.str (S wl), .str (S nl), .ref t1, .ref t2]) nt3
        have k13 := (sm07.trans k1).trans k2
        have hc2 : cnt = 2 := by omega
        refine q _ t3 wl [.name nl, .par 2, .par 1] [.str (S nl), .ref t1, .ref t2] (same_put (k13.free nt3) k13) (k13.free nt3) upd_same (.cons rfl (.cons ⟨t1, rfl, k3 _ _ (k2 _ _ upd_same)⟩ (.cons ⟨t2, rfl, k3 _ _ upd_same⟩ .nil))) ?_ (by simp)
        refine okS_mk wok nok' c2 efo hc0 fc (by rw [hc2]; rfl) (fun p hp => ?_) (fun m m1 m2 => ?_)
        · simp only [List.mem_cons, List.not_mem_nil, or_false] at hp
          rcases hp with rfl | rfl <;> exact ⟨by decide, fun l z => nomatch z⟩
        · have m2 : m ≤ 2 := m2
          have : m = 1 ∨ m = 2 := by omega
          rcases this with rfl | rfl <;> simp
      · rintro σ' H' ⟨rfl, rfl⟩
        refine ⟨_, rfl, (cnt : Int), rfl, by omega, by omega, ?_⟩
        refine for_it walk_range (fun i σ H' => ∃ y ts xs, σ = [some (.ref a), some (.ref b), some (.ref p3), some (.str (S wl)), some (.ref p6), some (.int (cnt : Int)), y] ∧ Same H H' ∧ H' p6 = some (.lst (.str (S wl) :: .str (S nl) :: xs)) ∧ ArePs H' xs ts ∧ ts.length = i ∧ (∀ p ∈ ts, okP p = true ∧ ∀ l, p ≠ .name l) ∧ good ts)
          ⟨none, [], [], rfl, sm07, at67, .nil, rfl, (fun p hp => nomatch hp), fun m m1 m2 => absurd (show m ≤ 0 from m2) (by omega)⟩ (fun _ _ _ _ _ => trivial) ?_ ?_
        · rintro i x σ H8 H9 hi ⟨y, ts, xs, rfl, sm8, at8, pv8, lt8, ok8, gd8⟩ ⟨rfl, rfl⟩
          have hi : i < cnt := hi
          have hA : ∃ r, 0 ≤ r ∧ atI ([r0, r1, r2, r3, r4, r5].map V.int) (3 + (0 + (i : Int))) = some (.int r) := by
            have : i = 0 ∨ i = 1 := by omega
            rcases this with rfl | rfl
            · exact ⟨r3, p3', rfl⟩
            · exact ⟨r4, p4', rfl⟩
          have hB : ∃ r, 0 ≤ r ∧ atI ([r0, r1, r2, r3, r4, r5].map V.int) (5 - 3 * (0 + (i : Int))) = some (.int r) := by
            have : i = 0 ∨ i = 1 := by omega
            rcases this with rfl | rfl
            · exact ⟨r5, p5', rfl⟩
            · exact ⟨r2, p2', rfl⟩
          obtain ⟨rA, pA, gA⟩ := hA
          obtain ⟨rB, pB, gB⟩ := hB
          have sqr8 := sm8.seq sqr
          have xl := Paired.len pv8
          have pv8' : ArePs H9 (.str (S wl) :: .str (S nl) :: xs) (.name wl :: .name nl :: ts) := .cons rfl (.cons rfl pv8)
          have ok8' : ∀ p ∈ Part.name wl :: Part.name nl :: ts, okP p = true := fun p hp => by
            rcases List.mem_cons.mp hp with rfl | hp
            · exact wok
            · rcases List.mem_cons.mp hp with rfl | hp
              · exact nok'
              · exact (ok8 p hp).1
          obtain ⟨u0, u4⟩ := most_le (fun p hp => (ok8 p hp).1)
          refine ⟨_, rfl, .inl ⟨rfl, _, SqL.of at8⟩, ?_⟩
          refine ⟨_, rfl, _, rfl, _, _, rfl, rfl, a, _, _, .int rA, rfl, rfl, sqr8, gA, ?_⟩
          refine ⟨_, rfl, _, rfl, _, _, rfl, rfl, .inl ⟨by decide, by decide⟩, _, _, rfl, rfl, a, _, _, .int rB, rfl, rfl, sqr8, gB, _, _, rfl, rfl, .inl ⟨by decide, by decide⟩, _, _, rfl, rfl, ?_⟩
          refine ⟨_, rfl, p6, _, _, rfl, .inr (SqL.of at8), by rw [List.length_cons, List.length_cons]; omega, pv8', ok8', fun H10 s10 => ?_⟩
          refine ⟨rA + 840 * rB, mostOf ts, rfl, by omega, u0, u4, fun H11 v p s11 isv okt => ?_⟩
          have s911 := s10.trans s11
          have at11 := s911 _ _ at8
          refine ⟨p6, _, v, rfl, rfl, at11, by rw [List.length_cons, List.length_cons, sizeLine_eq]; omega, ?_⟩
          refine ⟨_, ts ++ [p], xs ++ [v], rfl, same_put n6' (sm8.trans s911), upd_same, ((pv8.same s911).snoc isv).over (over_lst at11), by rw [List.length_append, lt8]; rfl, fun z hz => ?_, good_snoc (fun z hz => ?_) gd8 okt.2.2⟩
          · rcases List.mem_append.mp hz with hz | hz
            · exact ok8 z hz
            · rw [List.mem_singleton.mp hz]; exact ⟨okt.1, okt.2.1⟩
          · rcases List.mem_append.mp hz with hz | hz
            · exact (ok8 z hz).1
            · rw [List.mem_singleton.mp hz]; exact okt.1
        · rintro σ H8 ⟨y, ts, xs, rfl, sm8, at8, pv8, lt8, ok8, gd8⟩
          have lt8 : ts.length = cnt := lt8
          refine ⟨_, rfl, p6, _, rfl, .inl ⟨SqL.of at8, fun p9 n9 => ?_⟩⟩
          have n9' := sm8.free n9
          exact q _ p9 wl (.name nl :: ts) (.str (S nl) :: xs) (same_put n9' sm8) n9' upd_same (.cons rfl (pv8.same (same_upd n9))) (okS_mk wok nok' c2 efo hc0 fc lt8 ok8 gd8) (by rw [List.length_cons]; omega)
end
end K01
end
section
namespace K01
open PySem PySem.Spec PyProof.Rows L2 Tl Mx SX
def writP : Part → List Nat
  | .name l => l
  | .num n => intS n
  | .text l => 39 :: (l ++ [39])
  | .par n => 36 :: intS n
def writS (ps : List Part) : List Nat := TL.joinL [32] (ps.map writP)
theorem num_log {n : Int} (h1 : -2147483648 ≤ n) (h2 : n ≤ 2147483647) : n.natAbs.log2 < 1920 := by
  by_cases z : n.natAbs = 0
  · rw [z]; decide
  · rw [Nat.log2_lt z]
    have b : 2147483649 ≤ 2 ^ 1920 := by decide +kernel
    omega
theorem numL_11 {n : Nat} (h : n ≤ 2147483648) : (TL.numL n).length ≤ 10 := TL.numL_len (by decide) (by omega)
theorem intS_11 {n : Int} (h1 : -2147483648 ≤ n) (h2 : n ≤ 2147483647) : (intS n).length ≤ 11 := by
  have := numL_11 (n := n.natAbs) (by omega)
  unfold intS
  split <;> simp <;> omega
theorem ok_num {n : Int} (h : okP (.num n) = true) : -2147483648 ≤ n ∧ n ≤ 2147483647 := by
  have z : (decide (-2147483648 ≤ n) && decide (n ≤ 2147483647)) = true := h
  rw [Bool.and_eq_true_iff] at z
  exact ⟨of_decide_eq_true z.1, of_decide_eq_true z.2⟩
theorem ok_par {n : Int} (h : okP (.par n) = true) : 1 ≤ n ∧ n ≤ 4 := by
  have z : (decide (1 ≤ n) && decide (n ≤ 4)) = true := h
  rw [Bool.and_eq_true_iff] at z
  exact ⟨of_decide_eq_true z.1, of_decide_eq_true z.2⟩
theorem ok_textP {l : List Nat} (h : okP (.text l) = true) : l.length ≤ 40 ∧ 39 ∉ l ∧ l.all sgn = true := by
  have z : (decide (l.length ≤ 40) && (!decide (39 ∈ l) && l.all sgn)) = true := h
  rw [Bool.and_eq_true_iff, Bool.and_eq_true_iff] at z
  exact ⟨of_decide_eq_true z.1, by simpa using z.2.1, z.2.2⟩
theorem ok_nameP {l : List Nat} (h : okP (.name l) = true) : 1 ≤ l.length ∧ l.length ≤ 8 ∧ l.all isLet = true := by
  have z : (decide (1 ≤ l.length) && decide (l.length ≤ 8) && l.all isLet) = true := h
  rw [Bool.and_eq_true_iff, Bool.and_eq_true_iff] at z
  exact ⟨of_decide_eq_true z.1.1, of_decide_eq_true z.1.2, z.2⟩
theorem writ_len {p : Part} (h : okP p = true) : (writP p).length ≤ 42 := by
  cases p with
  | name l => have := ok_nameP h; show l.length ≤ 42; omega
  | num n => have a := ok_num h; have := intS_11 a.1 a.2; show (intS n).length ≤ 42; omega
  | text l => have := ok_textP h; show (39 :: (l ++ [39])).length ≤ 42; simp; omega
  | par n => have a := ok_par h; have := intS_11 (n := n) (by omega) (by omega); show (36 :: intS n).length ≤ 42; simp; omega
def sp_written (K : PySem.W.Frag) : Sp := fun vs H Q _ => ∃ a xs ps, vs = [.ref a] ∧ SqT K H a xs ∧ ArePs H xs ps ∧ ps.length ≤ 10 ∧ (∀ p ∈ ps, okP p = true) ∧ ∀ H', Same H H' → Q (.str (S (writS ps))) H'
/-- a part, its pairs as tuples or as lists, none of them at b -/
def IsR (b : Addr) (H : Hp) (v : V) : Part → Prop
  | .name l => v = .str (S l)
  | .num n => v = .int n
  | .text l => ∃ a, a ≠ b ∧ v = .ref a ∧ (H a = some (.tup [.str "text", .str (S l)]) ∨ H a = some (.lst [.str "text", .str (S l)]))
  | .par n => ∃ a, a ≠ b ∧ v = .ref a ∧ (H a = some (.tup [.str "parameter", .int n]) ∨ H a = some (.lst [.str "parameter", .int n]))
theorem IsR.to {b : Addr} {H : Hp} {v : V} {p : Part} (h : IsR b H v p) : IsQ H v p := by
  cases p with
  | name l => exact h
  | num n => exact h
  | text l => obtain ⟨a, _, e, h⟩ := h; exact ⟨a, e, h⟩
  | par n => obtain ⟨a, _, e, h⟩ := h; exact ⟨a, e, h⟩
theorem IsR.over {b : Addr} {H H' : Hp} {v : V} {p : Part} (s : ∀ a o, a ≠ b → H a = some o → H' a = some o) (h : IsR b H v p) : IsR b H' v p := by
  cases p with
  | name l => exact h
  | num n => exact h
  | text l => obtain ⟨a, n, e, h⟩ := h; exact ⟨a, n, e, h.imp (s _ _ n) (s _ _ n)⟩
  | par n => obtain ⟨a, n, e, h⟩ := h; exact ⟨a, n, e, h.imp (s _ _ n) (s _ _ n)⟩
def AreRs (b : Addr) (H : Hp) : List V → List Part → Prop := Paired (IsR b H)
theorem AreRs.over {b : Addr} {H H' : Hp} (s : ∀ a o, a ≠ b → H a = some o → H' a = some o) : ∀ {vs : List V} {ps : List Part}, AreRs b H vs ps → AreRs b H' vs ps
  | _, _, .nil => .nil
  | _, _, .cons h t => .cons (h.over s) (AreRs.over s t)
theorem AreRs.snoc {b : Addr} {H : Hp} {v : V} {p : Part} : ∀ {vs : List V} {ps : List Part}, AreRs b H vs ps → IsR b H v p → AreRs b H (vs ++ [v]) (ps ++ [p])
  | _, _, .nil, h => .cons h .nil
  | _, _, .cons a t, h => .cons a (AreRs.snoc t h)
theorem AreRs.to {b : Addr} {H : Hp} : ∀ {vs : List V} {ps : List Part}, AreRs b H vs ps → Paired (IsQ H) vs ps
  | _, _, .nil => .nil
  | _, _, .cons h t => .cons h.to (AreRs.to t)
def sp_listed (K : PySem.W.Frag) : Sp := fun vs H Q _ => ∃ a xs ps, vs = [.ref a] ∧ SqT K H a xs ∧ ArePs H xs ps ∧ ps.length ≤ 10 ∧ ∀ H' p ys, Same H H' → H' p = some (.lst ys) → Paired (IsQ H') ys ps → Q (.ref p) H'
section
variable {P : Program} {w : World} {K : PySem.W.Frag} {mg : Str → Option Value} {base : Heap} {C : Addr}
theorem ok_written (T : Txt K mg) : Pr P w K mg base CX0 1 "_law_written" ["parts"] (sp_written K) := by
  refine pr0 T.d_law_written sc_law_written (fun vs H Q E h => ?_) (fun f cdv A outer s H vs Q E hr h => ?_)
  · obtain ⟨a, xs, ps, rfl, _⟩ := h; rfl
  · obtain ⟨a, xs, ps, rfl, sq, hp, l10, ok, q⟩ := h
    have len := Paired.len hp
    refine ⟨_, pss_cons (ps_set (i := 1) sc_law_written.nd rfl (.inl rfl) (pe_lst pa_nil))
      (pss_cons (ps_for PassesOwn.never rfl (pi_tup (pv 0)) (pg_name (i := 2) sc_law_written.nd rfl (.inl rfl))
        (pss_one (ps_if (pt_val (pe_callB call_isi (by rfl) T.n_isinstance boot_isinstance (pa_cons (pv 2) (pa_cons (pe_bltn (v := .ty "str") (by rfl) T.n_str boot_str rfl) pa_nil))))
          (pss_one (ps_expr (pe_bm PySem.F.plainAttrs_list PySem.F.slot_list_append PySem.F.type_list_append mt_append (pv 1) (pa_cons (pv 2) pa_nil))))
          (pss_one (ps_if (pt_val (pe_callB call_isi (by rfl) T.n_isinstance boot_isinstance (pa_cons (pv 2) (pa_cons (pe_bltn (v := .ty "int") (by rfl) T.n_int boot_int rfl) pa_nil))))
            (pss_one (ps_expr (pe_bm PySem.F.plainAttrs_list PySem.F.slot_list_append PySem.F.type_list_append mt_append (pv 1) (pa_cons (pe_callTy call_str_int (by rfl) T.n_str boot_str (pa_cons (pv 2) pa_nil)) pa_nil))))
            (pss_one (ps_if (pt_cmpR op_eq (pe_ix ix_tup (pv 2) pe_int (fun _ _ => rfl)) pe_str (nomark _))
              (pss_one (ps_expr (pe_bm PySem.F.plainAttrs_list PySem.F.slot_list_append PySem.F.type_list_append mt_append (pv 1) (pa_cons (pe_op op_add_str (pe_op op_add_str pe_str (pe_ix ix_tup (pv 2) pe_int (fun _ _ => rfl))) pe_str) pa_nil))))
              (pss_one (ps_expr (pe_bm PySem.F.plainAttrs_list PySem.F.slot_list_append PySem.F.type_list_append mt_append (pv 1) (pa_cons (pe_op op_add_str pe_str (pe_callTy call_str_int (by rfl) T.n_str boot_str (pa_cons (pe_ix ix_tup (pv 2) pe_int (fun _ _ => rfl)) pa_nil))) pa_nil)))))))))))
      (pss_one (ps_ret (pe_join pe_str (pv 1))))), ?_⟩
    refine ⟨Nat.zero_le _, fun p np => ?_⟩
    refine ⟨_, rfl, a, rfl, ⟨_, Same.tup (same_upd np) sq⟩, for_it walk_tup (fun i σ H' => ∃ y, σ = [some (.ref a), some (.ref p), y] ∧ Same H H' ∧ H' p = some (.lst ((ps.take i).map fun z => V.str (S (writP z))))) ⟨none, rfl, same_upd np, upd_same⟩ (fun i σ H' _ z => by obtain ⟨_, _, s, _⟩ := z; exact Same.tup s sq) ?_ ?_⟩
    · rintro i x σ H1 H2 hi ⟨y, rfl, sm, ep⟩ ⟨rfl, gx⟩
      obtain ⟨pt, gp, isp⟩ := Paired.at hp gx
      have isp := isp.same sm
      have okp := ok pt (List.mem_of_getElem? gp)
      have small : ((ps.take i).map fun z => V.str (S (writP z))).length < sizeLine := by rw [List.length_map, List.length_take, sizeLine_eq]; omega
      have step : ∀ (y' : Option V), ∃ y, [some (V.ref a), some (.ref p), y'] = [some (.ref a), some (.ref p), y] ∧ Same H (upd H2 p (.lst ((ps.take i).map (fun z => V.str (S (writP z))) ++ [.str (S (writP pt))]))) ∧ (upd H2 p (.lst ((ps.take i).map (fun z => V.str (S (writP z))) ++ [.str (S (writP pt))]))) p = some (.lst ((ps.take (i + 1)).map fun z => V.str (S (writP z)))) := fun y' =>
        ⟨y', rfl, same_put np sm, by rw [upd_same, take_next gp, List.map_append]; rfl⟩
      refine ⟨_, rfl, ?_⟩
      cases pt with
      | name l =>
        obtain rfl := isp
        exact ⟨_, _, _, _, _, rfl, .ty _, .base (.str _), kit_ty (r := true) (by decide +kernel), _, rfl, iteT ⟨_, rfl, .inl ⟨rfl, _, SqL.of ep⟩, _, rfl, p, _, _, rfl, rfl, ep, small, step _⟩⟩
      | num n =>
        obtain rfl := isp
        have nb := ok_num okp
        refine ⟨_, _, _, _, _, rfl, .ty _, .base (.int _), kit_ty (r := false) (by decide +kernel), _, rfl, iteF ⟨_, rfl, _, _, _, _, _, rfl, .ty _, .base (.int _), kit_ty (r := true) (by decide +kernel), _, rfl, iteT ?_⟩⟩
        refine ⟨_, rfl, .inl ⟨rfl, _, SqL.of ep⟩, _, rfl, n, rfl, num_log nb.1 nb.2, p, _, _, rfl, rfl, ep, small, ?_⟩
        rw [show Str.ofString (toString n) = S (intS n) from str_int n]
        exact step _
      | text l =>
        obtain ⟨b, rfl, h⟩ := isp
        have tl := ok_textP okp
        refine ⟨_, _, _, _, _, rfl, .ty _, .base (.tup h), kit_ty (r := false) (by decide +kernel), _, rfl, iteF ⟨_, rfl, _, _, _, _, _, rfl, .ty _, .base (.tup h), kit_ty (r := false) (by decide +kernel), _, rfl, iteF ?_⟩⟩
        refine ⟨_, rfl, b, _, 0, _, rfl, rfl, SqT.of h, rfl, rfl, _, rfl, iteT ?_⟩
        refine ⟨_, rfl, .inl ⟨rfl, _, SqL.of ep⟩, _, rfl, b, _, 1, _, rfl, rfl, SqT.of h, rfl, _, _, rfl, rfl, ?_, _, _, rfl, rfl, ?_, p, _, _, rfl, rfl, ep, small, ?_⟩
        · show 1 + (S l).length ≤ sizeLine; rw [S_len, sizeLine_eq]; omega
        · show (S [39] ++ S l).length + 1 ≤ sizeLine; rw [S_cat, S_len, sizeLine_eq]; simp; omega
        · have e : (S [39] ++ S l) ++ S [39] = S (39 :: (l ++ [39])) := by rw [S_cat, S_cat]; rfl
          change ∃ y, _ ∧ Same H (upd H2 p (.lst (_ ++ [.str ((S [39] ++ S l) ++ S [39])]))) ∧ (upd H2 p (.lst (_ ++ [.str ((S [39] ++ S l) ++ S [39])]))) p = _
          rw [e]
          exact step _
      | par n =>
        obtain ⟨b, rfl, h⟩ := isp
        have pb := ok_par okp
        refine ⟨_, _, _, _, _, rfl, .ty _, .base (.tup h), kit_ty (r := false) (by decide +kernel), _, rfl, iteF ⟨_, rfl, _, _, _, _, _, rfl, .ty _, .base (.tup h), kit_ty (r := false) (by decide +kernel), _, rfl, iteF ?_⟩⟩
        refine ⟨_, rfl, b, _, 0, _, rfl, rfl, SqT.of h, rfl, rfl, _, rfl, iteF ?_⟩
        refine ⟨_, rfl, .inl ⟨rfl, _, SqL.of ep⟩, _, rfl, b, _, 1, _, rfl, rfl, SqT.of h, rfl, n, rfl, num_log (by omega) (by omega), _, _, rfl, rfl, ?_, p, _, _, rfl, rfl, ep, small, ?_⟩
        · rw [show Str.ofString (toString n) = S (intS n) from str_int n]
          have := intS_11 (n := n) (by omega) (by omega)
          show 1 + (S (intS n)).length ≤ sizeLine; rw [S_len, sizeLine_eq]; omega
        · rw [show Str.ofString (toString n) = S (intS n) from str_int n]
          change ∃ y, _ ∧ Same H (upd H2 p (.lst (_ ++ [.str (S [36] ++ S (intS n))]))) ∧ (upd H2 p (.lst (_ ++ [.str (S [36] ++ S (intS n))]))) p = _
          rw [S_cat]
          exact step _
    · rintro σ H1 ⟨y, rfl, sm, ep⟩
      rw [List.take_of_length_le (by omega)] at ep
      refine ⟨⟨_, rfl⟩, _, rfl, S [32], p, (ps.map writP).map S, rfl, rfl, .inl (SqL.of (by rw [ep, List.map_map, List.map_map]; rfl)), ?_, vto (q _ sm) ?_⟩
      · rw [SX.lens, List.length_map, List.length_map, S_len]
        have : ∀ qs : List Part, (∀ p ∈ qs, okP p = true) → ((qs.map writP).map (·.length)).sum ≤ 42 * qs.length := by
          intro qs
          induction qs with
          | nil => intro _; simp
          | cons p qs ih =>
            intro h
            have a := writ_len (h p (List.mem_cons_self ..))
            have b := ih fun z hz => h z (List.mem_cons_of_mem _ hz)
            simp only [List.map_cons, List.sum_cons, List.length_cons] at b ⊢
            omega
        have := this ps ok
        simp only [List.length_singleton]
        omega
      · rw [join_S]; rfl
theorem ok_listed (T : Txt K mg) : Pr P w K mg base CX0 1 "_law_listed" ["parts"] (sp_listed K) := by
  refine pr0 T.d_law_listed sc_law_listed (fun vs H Q E h => ?_) (fun f cdv A outer s H vs Q E hr h => ?_)
  · obtain ⟨a, xs, ps, rfl, _⟩ := h; rfl
  · obtain ⟨a, xs, ps, rfl, sq, hp, l10, q⟩ := h
    have len := Paired.len hp
    refine ⟨_, pss_cons (ps_set (i := 1) sc_law_listed.nd rfl (.inl rfl) (pe_lst pa_nil))
      (pss_cons (ps_for PassesOwn.never rfl (pi_tup (pv 0)) (pg_name (i := 2) sc_law_listed.nd rfl (.inl rfl))
        (pss_cons (ps_expr (pe_bm PySem.F.plainAttrs_list PySem.F.slot_list_append PySem.F.type_list_append mt_append (pv 1) (pa_cons (pv 2) pa_nil)))
        (pss_one (ps_if (pt_val (pe_callB call_isi (by rfl) T.n_isinstance boot_isinstance (pa_cons (pv 2) (pa_cons (pe_bltn (v := .ty "tuple") (by rfl) T.n_tuple boot_tuple rfl) pa_nil))))
          (pss_one (ps_asg (pe_callTy call_list_of (by rfl) T.n_list boot_list (pa_cons (pv 2) pa_nil)) (pg_sub (pv 1) (pe_un un_neg pe_int) set_list))) pss_nil))))
      (pss_one (ps_ret (pv 1)))), ?_⟩
    refine ⟨Nat.zero_le _, fun p np => ?_⟩
    refine ⟨_, rfl, a, rfl, ⟨_, Same.tup (same_upd np) sq⟩, for_it walk_tup (fun i σ H' => ∃ y ys, σ = [some (.ref a), some (.ref p), y] ∧ Same H H' ∧ H' p = some (.lst ys) ∧ AreRs p H' ys (ps.take i)) ⟨none, [], rfl, same_upd np, upd_same, .nil⟩ (fun i σ H' _ z => by obtain ⟨_, _, _, s, _⟩ := z; exact Same.tup s sq) ?_ ?_⟩
    · rintro i x σ H1 H2 hi ⟨y, ys, rfl, sm, ep, pr⟩ ⟨rfl, gx⟩
      obtain ⟨pt, gp, isp⟩ := Paired.at hp gx
      have isp0 := isp
      have isp := isp.same sm
      have yl := Paired.len pr
      have yl' : ys.length ≤ 10 := by rw [yl, List.length_take]; omega
      have keep : ∀ (o : HO) (b : Addr) (z : HO), b ≠ p → H2 b = some z → (upd H2 p o) b = some z := fun o b z n e => by rw [upd_ne n]; exact e
      refine ⟨_, rfl, .inl ⟨rfl, _, SqL.of ep⟩, _, rfl, p, _, _, rfl, rfl, ep, by rw [sizeLine_eq]; omega, ?_⟩
      have sm3 : Same H (upd H2 p (.lst (ys ++ [x]))) := same_put np sm
      have at3 : (upd H2 p (.lst (ys ++ [x]))) p = some (.lst (ys ++ [x])) := upd_same
      refine ⟨_, rfl, ?_⟩
      have pair : ∀ (b : Addr) (z : List V), x = .ref b → H2 b = some (.tup z) → (∀ (l : Addr) (Hx : Hp), l ≠ p → Hx l = some (.lst z) → IsR p Hx (.ref l) pt) → b ≠ p ∧ ∀ l, (upd H2 p (.lst (ys ++ [x]))) l = none → ∃ y ys', [some (V.ref a), some (V.ref p), some x] = [some (.ref a), some (.ref p), y] ∧
          Same H (upd (upd (upd H2 p (.lst (ys ++ [x]))) l (.lst z)) p (.lst ((ys ++ [x]).set ys.length (.ref l)))) ∧ (upd (upd (upd H2 p (.lst (ys ++ [x]))) l (.lst z)) p (.lst ((ys ++ [x]).set ys.length (.ref l)))) p = some (.lst ys') ∧ AreRs p (upd (upd (upd H2 p (.lst (ys ++ [x]))) l (.lst z)) p (.lst ((ys ++ [x]).set ys.length (.ref l)))) ys' (ps.take (i + 1)) := fun b z ex hb mk => by
        refine ⟨fun e => (by rw [e, ep] at hb; cases hb), fun l nl => ?_⟩
        have lp : l ≠ p := fun e => by rw [e, at3] at nl; cases nl
        have s4 : Same H (upd (upd H2 p (.lst (ys ++ [x]))) l (.lst z)) := same_put (sm3.free nl) sm3
        refine ⟨_, _, rfl, same_put np s4, upd_same, ?_⟩
        rw [show (ys ++ [x]).set ys.length (V.ref l) = ys ++ [.ref l] by simp, take_next gp]
        refine AreRs.snoc (pr.over fun c o nc e => ?_) (mk l _ lp ?_)
        · rw [upd_ne nc, upd_ne (fun ee => by rw [upd_ne lp] at nl; rw [ee, nl] at e; cases e), upd_ne nc]; exact e
        · rw [upd_ne lp]; exact upd_same
      cases pt with
      | name l =>
        obtain rfl := isp
        refine ⟨_, _, _, _, _, rfl, .ty _, .base (.str _), kit_ty (r := false) (by decide +kernel), _, rfl, iteF ⟨_, _, rfl, sm3, at3, ?_⟩⟩
        rw [take_next gp]
        exact AreRs.snoc (pr.over (keep _)) rfl
      | num n =>
        obtain rfl := isp
        refine ⟨_, _, _, _, _, rfl, .ty _, .base (.int _), kit_ty (r := false) (by decide +kernel), _, rfl, iteF ⟨_, _, rfl, sm3, at3, ?_⟩⟩
        rw [take_next gp]
        exact AreRs.snoc (pr.over (keep _)) rfl
      | text l =>
        obtain ⟨b, rfl, h⟩ := isp
        obtain ⟨bp, fin⟩ := pair b _ rfl h (fun l' Hx n e => ⟨l', n, rfl, .inr e⟩)
        have h3 : (upd H2 p (.lst (ys ++ [.ref b]))) b = some (.tup [.str "text", .str (S l)]) := keep _ b _ bp h
        refine ⟨_, _, _, _, _, rfl, .ty _, .base (.tup h3), kit_ty (r := true) (by decide +kernel), _, rfl, iteT ?_⟩
        refine ⟨_, rfl, b, _, rfl, .inr (SqT.of h3), fun l' nl' => ⟨_, rfl, _, rfl, p, _, _, ys.length, rfl, rfl, by rw [upd_ne (fun e => by rw [← e, at3] at nl'; cases nl')]; exact at3, by rw [List.length_append]; exact ixN_last _, fin l' nl'⟩⟩
      | par n =>
        obtain ⟨b, rfl, h⟩ := isp
        obtain ⟨bp, fin⟩ := pair b _ rfl h (fun l' Hx n e => ⟨l', n, rfl, .inr e⟩)
        have h3 : (upd H2 p (.lst (ys ++ [.ref b]))) b = some (.tup [.str "parameter", .int n]) := keep _ b _ bp h
        refine ⟨_, _, _, _, _, rfl, .ty _, .base (.tup h3), kit_ty (r := true) (by decide +kernel), _, rfl, iteT ?_⟩
        refine ⟨_, rfl, b, _, rfl, .inr (SqT.of h3), fun l' nl' => ⟨_, rfl, _, rfl, p, _, _, ys.length, rfl, rfl, by rw [upd_ne (fun e => by rw [← e, at3] at nl'; cases nl')]; exact at3, by rw [List.length_append]; exact ixN_last _, fin l' nl'⟩⟩
    · rintro σ H1 ⟨y, ys, rfl, sm, ep, pr⟩
      rw [List.take_of_length_le (by omega)] at pr
      exact ⟨_, rfl, q _ p ys sm ep pr.to⟩
end
end K01
end
section
namespace Mx
open PySem PySem.Spec PyProof.Rows L2 SX
open K01 (writP writS ok_num ok_par ok_textP ok_nameP intS_11 writ_len)
theorem step_plain {d : List (List Nat)} {q : List Nat} {b : Bool} {c : Nat} (h1 : c ≠ 39) (h2 : c ≠ 32 ∨ b = true) : splitStep (d ++ [q], b) c = (d ++ [q ++ [c]], b) := by
  unfold splitStep
  dsimp only
  rw [if_neg h1, if_neg (fun z => by rcases h2 with h2 | h2; exact h2 z.1; rw [h2] at z; cases z.2), List.dropLast_concat, List.getLastD_concat]
theorem step_quote {d : List (List Nat)} {q : List Nat} {b : Bool} : splitStep (d ++ [q], b) 39 = (d ++ [q ++ [39]], !b) := by
  unfold splitStep
  dsimp only
  rw [if_pos rfl, if_neg (by omega), List.dropLast_concat, List.getLastD_concat]
theorem step_space {d : List (List Nat)} : splitStep (d, false) 32 = (d ++ [[]], false) := by
  unfold splitStep
  dsimp only
  rw [if_neg (show ¬ (32 : Nat) = 39 by decide), if_pos ⟨rfl, rfl⟩]
theorem run_plain : ∀ (l : List Nat) (d : List (List Nat)) (q : List Nat) (b : Bool), (∀ c ∈ l, c ≠ 39 ∧ (c ≠ 32 ∨ b = true)) → l.foldl splitStep (d ++ [q], b) = (d ++ [q ++ l], b)
  | [], d, q, b, _ => by rw [List.foldl_nil, List.append_nil]
  | c :: l, d, q, b, h => by
    have hc := h c (List.mem_cons_self ..)
    rw [List.foldl_cons, step_plain hc.1 hc.2, run_plain l d (q ++ [c]) b (fun x hx => h x (List.mem_cons_of_mem _ hx)), List.append_assoc]
    rfl
/-- read from the beginning of a piece, p is this piece and no text is open -/
def closed (p : List Nat) : Prop := ∀ d : List (List Nat), p.foldl splitStep (d ++ [[]], false) = (d ++ [p], false)
theorem closed_plain {p : List Nat} (h : ∀ c ∈ p, c ≠ 39 ∧ c ≠ 32) : closed p := fun d => by
  rw [run_plain p d [] false fun c hc => ⟨(h c hc).1, Or.inl (h c hc).2⟩]
  rfl
theorem closed_text {l : List Nat} (h : 39 ∉ l) : closed (39 :: (l ++ [39])) := fun d => by
  rw [List.foldl_cons, step_quote, List.foldl_append, show (!false) = true from rfl, run_plain l d ([] ++ [39]) true fun c hc => ⟨fun z => h (z ▸ hc), Or.inr rfl⟩, List.foldl_cons, step_quote, List.foldl_nil]
  simp
theorem split_join : ∀ (ps : List (List Nat)) (d : List (List Nat)), ps ≠ [] → (∀ p ∈ ps, closed p) → (TL.joinL [32] ps).foldl splitStep (d ++ [[]], false) = (d ++ ps, false)
  | [], _, h, _ => absurd rfl h
  | [p], d, _, h => h p (List.mem_cons_self ..) d
  | p :: q :: r, d, _, h => by
    rw [TL.joinL, List.foldl_append, h p (List.mem_cons_self ..) d, List.foldl_append, List.foldl_cons, step_space, List.foldl_nil,
      split_join (q :: r) (d ++ [p]) (by simp) (fun x hx => h x (List.mem_cons_of_mem _ hx)), List.append_assoc]
    rfl
theorem let_plain {l : List Nat} (h : l.all isLet = true) : ∀ c ∈ l, c ≠ 39 ∧ c ≠ 32 := fun c hc => by
  have z : c ∈ lettersC := of_decide_eq_true (List.all_eq_true.mp h c hc)
  have : ∀ x ∈ lettersC, x ≠ 39 ∧ x ≠ 32 := by decide
  exact this c z
theorem let_sgn {l : List Nat} (h : l.all isLet = true) : l.all sgn = true := List.all_eq_true.mpr fun c hc => by
  have z : c ∈ lettersC := of_decide_eq_true (List.all_eq_true.mp h c hc)
  have : ∀ x ∈ lettersC, sgn x = true := by decide
  exact this c z
theorem int_sgn (n : Int) : (intS n).all sgn = true := List.all_eq_true.mpr fun c hc => by
  have := intS_codes n c hc
  exact decide_eq_true (by omega)
theorem closed_P {p : Part} (h : okP p = true) : closed (writP p) := by
  cases p with
  | name l => exact closed_plain (let_plain (ok_nameP h).2.2)
  | num n => exact closed_plain fun c hc => by have := intS_codes n c hc; omega
  | text l => exact closed_text (ok_textP h).2.1
  | par n =>
    refine closed_plain fun c hc => ?_
    rcases List.mem_cons.mp hc with rfl | hc
    · omega
    · have := intS_codes n c hc
      omega
theorem sgn_P {p : Part} (h : okP p = true) : (writP p).all sgn = true := by
  cases p with
  | name l => exact let_sgn (ok_nameP h).2.2
  | num n => exact int_sgn n
  | text l =>
    show (39 :: (l ++ [39])).all sgn = true
    rw [List.all_cons, List.all_append, (ok_textP h).2.2]
    decide
  | par n =>
    show (36 :: intS n).all sgn = true
    rw [List.all_cons, int_sgn]
    decide
theorem term_back {p : Part} (h : okP p = true) (hn : ∀ l, p ≠ .name l) : termOf (writP p) = some p := by
  cases p with
  | name l => exact absurd rfl (hn l)
  | num n =>
    have nb : numM n = true := h
    show termOf (intS n) = _
    unfold termOf
    have h39 : ¬ (intS n).head? = some 39 := fun z => by
      have := intS_codes n 39 (List.mem_of_head? z); omega
    have hp : parOf (intS n) = none := by
      have ne : ∀ x : Nat, intS n ≠ [36, x] := fun x z => by
        have := intS_codes n 36 (by rw [z]; exact List.mem_cons_self ..); omega
      unfold parOf
      rw [if_neg (ne 49), if_neg (ne 50), if_neg (ne 51), if_neg (ne 52)]
    rw [if_neg h39, hp]
    show (Mx.numOf (intS n)).map Part.num = _
    have : Mx.numOf (intS n) = some n := by
      unfold Mx.numOf
      dsimp only
      rw [intS_back n, if_pos ⟨rfl, nb⟩]
    rw [this]; rfl
  | text l =>
    have tm : textM l = true := h
    show termOf (39 :: (l ++ [39])) = _
    unfold termOf
    rw [if_pos (show (39 :: (l ++ [39])).head? = some 39 from rfl)]
    have e : ((39 :: (l ++ [39])).drop 1).dropLast = l := by
      show (l ++ [39]).dropLast = l
      rw [List.dropLast_concat]
    have : textOf (39 :: (l ++ [39])) = some l := by
      unfold textOf
      rw [e, if_pos ⟨by simp, by rw [← List.cons_append, List.getLast?_concat], tm⟩]
    rw [this]; rfl
  | par n =>
    have pb := ok_par h
    have : n = 1 ∨ n = 2 ∨ n = 3 ∨ n = 4 := by omega
    rcases this with rfl | rfl | rfl | rfl <;> decide +kernel
theorem parts_back : ∀ {cs : List Nat} {ps : List Part}, Paired fits cs ps → partsOf cs (ps.map writP) = some ps
  | _, _, .nil => rfl
  | c :: cs, p :: ps, .cons h t => by
    have e : partOf c (writP p) = some p := by
      unfold fits at h
      unfold partOf
      by_cases z : c = 84 ∨ c = 78
      · rw [if_pos z] at h ⊢
        obtain ⟨l, rfl, hl⟩ := h
        show (if nameM l = true then some (Part.name l) else none) = _
        rw [if_pos hl]
      · rw [if_neg z] at h ⊢
        exact term_back h.1 h.2
    rw [List.map_cons, partsOf, e, parts_back t]
theorem fits_ok : ∀ {cs : List Nat} {ps : List Part}, Paired fits cs ps → ∀ p ∈ ps, okP p = true
  | _, _, .nil, _, hp => by cases hp
  | c :: cs, q :: ps, .cons h t, p, hp => by
    rcases List.mem_cons.mp hp with rfl | hp
    · unfold fits at h
      by_cases z : c = 84 ∨ c = 78
      · rw [if_pos z] at h
        obtain ⟨l, rfl, hl⟩ := h
        exact hl
      · rw [if_neg z] at h; exact h.1
    · exact fits_ok t p hp
theorem join_len : ∀ (ps : List (List Nat)), (∀ p ∈ ps, p.length ≤ 42) → (TL.joinL [32] ps).length ≤ 43 * ps.length
  | [], _ => by simp [TL.joinL]
  | [p], h => by have := h p (List.mem_cons_self ..); show p.length ≤ 43 * 1; omega
  | p :: q :: r, h => by
    have a := h p (List.mem_cons_self ..)
    have b := join_len (q :: r) fun x hx => h x (List.mem_cons_of_mem _ hx)
    rw [TL.joinL, List.length_append, List.length_append, List.length_cons, List.length_nil]
    simp only [List.length_cons] at b ⊢
    omega
theorem join_sgn : ∀ (ps : List (List Nat)), (∀ p ∈ ps, p.all sgn = true) → (TL.joinL [32] ps).all sgn = true
  | [], _ => rfl
  | [p], h => h p (List.mem_cons_self ..)
  | p :: q :: r, h => by
    rw [TL.joinL, List.all_append, h p (List.mem_cons_self ..), List.all_append, join_sgn (q :: r) fun x hx => h x (List.mem_cons_of_mem _ hx)]
    decide
theorem okS.all {wl : List Nat} {ps : List Part} (h : okS wl ps) : ∀ p ∈ Part.name wl :: ps, okP p = true := fun p hp => by
  rcases List.mem_cons.mp hp with rfl | hp
  · exact h.nm
  · obtain ⟨f, _, pf⟩ := h.ex
    exact fits_ok pf p hp
/-- what is written is read back -/
theorem stmt_back {wl : List Nat} {ps : List Part} (h : okS wl ps) (hl : ps.length ≤ 3) : stmtM (writS (.name wl :: ps)) = some (S wl, ps) := by
  obtain ⟨f, ef, pf⟩ := h.ex
  have ok := h.all
  unfold stmtM writS
  have c1 : (TL.joinL [32] ((Part.name wl :: ps).map writP)).length ≤ 200 := by
    have := join_len ((Part.name wl :: ps).map writP) fun p hp => by
      obtain ⟨q, hq, rfl⟩ := List.mem_map.mp hp
      exact writ_len (ok q hq)
    rw [List.length_map, List.length_cons] at this
    omega
  have c2 : (TL.joinL [32] ((Part.name wl :: ps).map writP)).all sgn = true := join_sgn _ fun p hp => by
    obtain ⟨q, hq, rfl⟩ := List.mem_map.mp hp
    exact sgn_P (ok q hq)
  have c3 : splitM (TL.joinL [32] ((Part.name wl :: ps).map writP)) = wl :: ps.map writP := by
    unfold splitM splitS
    have := split_join ((Part.name wl :: ps).map writP) [] (by simp) fun p hp => by
      obtain ⟨q, hq, rfl⟩ := List.mem_map.mp hp
      exact closed_P (ok q hq)
    rw [List.nil_append, List.nil_append] at this
    rw [this]; rfl
  rw [if_pos ⟨c1, c2⟩, c3]
  show (match formOf (S wl) (ps.map writP).length with | none => none | some f => match partsOf f.cps.toList (ps.map writP) with | none => none | some ps => if full ps = true then some (S wl, ps) else none) = _
  rw [List.length_map, ef]
  show (match partsOf f.cps.toList (ps.map writP) with | none => none | some ps => if full ps = true then some (S wl, ps) else none) = _
  rw [parts_back pf]
  show (if full ps = true then some (S wl, ps) else none) = _
  rw [if_pos (good_full h.gd)]
end Mx
end
section
namespace K01
open PySem PySem.Spec PyProof.Rows L2 Tl Mx SX
theorem eqv_P (p : Part) : PyData.eqv (dataP p) (dataP p) = true := by
  cases p with
  | name l => show PyData.eqv (.str (S l)) (.str (S l)) = true; simp [PyData.eqv]
  | num n => show PyData.eqv (.int n) (.int n) = true; simp [PyData.eqv]
  | text l => show PyData.eqv (.tuple [.str "text", .str (S l)]) (.tuple [.str "text", .str (S l)]) = true; simp [PyData.eqv, PyData.eqvAll]
  | par n => exact eqv_par n
theorem eqv_Ps : ∀ ps : List Part, PyData.eqvAll (ps.map dataP) (ps.map dataP) = true
  | [] => by rw [List.map_nil, PyData.eqvAll]
  | p :: ps => by rw [List.map_cons, PyData.eqvAll, eqv_P, eqv_Ps ps]; rfl
theorem eqv_all (ps : List Part) : PyData.eqv (.tuple (ps.map dataP)) (.tuple (ps.map dataP)) = true := by rw [PyData.eqv, eqv_Ps]
def wordsW : List V := [.str "create", .str "drop", .str "put", .str "delete", .str "get", .str "scan", .str "total", .str "begin", .str "commit", .str "rollback", .str "save", .str "undo"]
theorem words_nm {i : Nat} (h : i < 12) : ∃ l, wordsW[i]? = some (.str (S l)) ∧ nameM l = true := by
  have : i = 0 ∨ i = 1 ∨ i = 2 ∨ i = 3 ∨ i = 4 ∨ i = 5 ∨ i = 6 ∨ i = 7 ∨ i = 8 ∨ i = 9 ∨ i = 10 ∨ i = 11 := by omega
  rcases this with rfl | rfl | rfl | rfl | rfl | rfl | rfl | rfl | rfl | rfl | rfl | rfl <;> exact ⟨_, rfl, by decide +kernel⟩
def sp_law (K : PySem.W.Frag) : Sp := fun vs H Q _ => ∃ (a : Addr) (ns : List Int), vs = [.ref a] ∧ SqL K H a (ns.map V.int) ∧ ns.length ≤ 63 ∧ ∀ H', Q (.bl true) H'
section
variable {P : Program} {w : World} {K : PySem.W.Frag} {mg : Str → Option Value} {base : Heap} {C : Addr}
theorem ok_law {f : Addr} {fd : FuncData} (F : Fun K "law" "law" s_law f fd) (T : Txt K mg) (B : Tab K w mg) (U : ErrC K mg "Unreadable" C) : FnOk P w K mg base CX0 7 f fd ["script"] (sp_law K) := by
  refine F.ok sc_law (fun vs H Q E h => ?_) (fun cdv A outer s H vs Q E hr h => ?_)
  · obtain ⟨a, ns, rfl, _⟩ := h; rfl
  · obtain ⟨a, ns, rfl, sq, l63, q⟩ := h
    have Gc := ok_cell (P := P) (w := w) (base := base) T
    have Gr := ok_row (P := P) (w := w) (base := base) T
    have Gn := ok_name (P := P) (w := w) (base := base) T
    have Gs := ok_statement (P := P) (w := w) (base := base) T
    have Gw := ok_written (P := P) (w := w) (base := base) T
    have Gp := ok_parse_statement (P := P) (w := w) (base := base) T B U
    have Gq := ok_parameters (P := P) (w := w) (base := base) T
    have Gu := ok_used (P := P) (w := w) (base := base) T
    have Gl := ok_listed (P := P) (w := w) (base := base) T
    refine ⟨_, pss_cons (ps_for PassesOwn.never rfl (pi_list (pe_op op_cat (pe_lst (pa_cons (pe_k Gc hr (by decide) pass0 (by rfl) (pa_cons (pv 0) (pa_cons pe_int pa_nil))) (pa_cons (pe_k Gc hr (by decide) pass0 (by rfl) (pa_cons (pv 0) (pa_cons pe_int pa_nil))) pa_nil))) (pe_slice sl_list (pv 0) (po_some pe_int) (po_some pe_int)))) (pg_name (i := 1) sc_law.nd rfl (.inl rfl))
        (pss_cons (ps_set (i := 2) sc_law.nd rfl (.inl rfl) (pe_k Gr hr (by decide) pass0 (by rfl) (pa_cons (pv 1) (pa_cons pe_int pa_nil))))
        (pss_cons (ps_set (i := 3) sc_law.nd rfl (.inl rfl) (pe_lst (pa_cons pe_str (pa_cons pe_str (pa_cons pe_str (pa_cons pe_str (pa_cons pe_str (pa_cons pe_str (pa_cons pe_str (pa_cons pe_str (pa_cons pe_str (pa_cons pe_str (pa_cons pe_str (pa_cons pe_str pa_nil))))))))))))))
        (pss_cons (ps_set (i := 4) sc_law.nd rfl (.inl rfl) (pe_k Gs hr (by decide) pass0 (by rfl) (pa_cons (pe_slice sl_list (pv 2) po_none (po_some pe_int)) (pa_cons (pe_lst
            (pa_cons (pe_k Gn hr (by decide) pass0 (by rfl) (pa_cons (pe_ix ix_list (pv 2) pe_int (fun _ _ => rfl)) pa_nil))
            (pa_cons (pe_k Gn hr (by decide) pass0 (by rfl) (pa_cons (pe_op op_add (pe_ix ix_list (pv 2) pe_int (fun _ _ => rfl)) (pe_op op_mul pe_int (pe_op op_mod (pe_ix ix_list (pv 2) pe_int (fun _ _ => rfl)) pe_int))) pa_nil))
            (pa_cons (pe_ix ix_list (pv 3) (pe_op op_mod (pe_ix ix_list (pv 2) pe_int (fun _ _ => rfl)) pe_int) (fun _ _ => rfl)) pa_nil)))) pa_nil))))
        (pss_cons (ps_set (i := 5) sc_law.nd rfl (.inl rfl) (pe_k Gp hr (by decide) pass0 (by rfl) (pa_cons (pe_k Gw hr (by decide) pass0 (by rfl) (pa_cons (pv 4) pa_nil)) pa_nil)))
        (pss_cons (ps_if (PW.pt (pw_or (pt_not (pt_val (pe_callB call_isi (by rfl) T.n_isinstance boot_isinstance (pa_cons (pv 5) (pa_cons (pe_bltn (v := .ty "tuple") (by rfl) T.n_tuple boot_tuple rfl) pa_nil)))))
            (pw_or (pt_cmpR (op_neD (by have := hu65 hr; exact Nat.lt_of_succ_lt this)) (pv 5) (pv 4) (nomark _))
            (pw_or1 (pt_cmpR op_gt (pe_callB call_len_seq (by rfl) T.n_len PySem.boot_len (pa_cons (pe_lc (own := [("one", 6)]) (g := gName 6) (tt := tB (tCB (rIsi K) (tCons (tVar 6) (tCons (tC (.ty "bool")) tNil)))) (te := tVar 6) rfl sc_law.nd (pi_tup (pv 5)) (blkOk_by (N := ["script", "cell", "row", "words", "parts", "told", "one"]) (sc := defScope s_law) (by decide +kernel))
                (fun _ _ _ _ _ => pg_name (i := 6) sc_law.nd rfl (.inl rfl)) (fun _ _ _ _ _ => pts_one (pt_val (pe_callB call_isi (by rfl) T.n_isinstance boot_isinstance (pa_cons (pv 6) (pa_cons (pe_bltn (v := .ty "bool") (by rfl) T.n_bool boot_bool rfl) pa_nil)))))
                (fun _ _ _ _ _ => pv 6)) pa_nil)) pe_int (nomark _)))))) (pss_one (ps_ret pe_bl)) pss_nil)
        (pss_cons (ps_if (PW.pt (pw_or (pt_cmpR op_ne (pe_k Gq hr (by decide) pass0 (by rfl) (pa_cons (pv 5) pa_nil)) (pe_k Gu hr (by decide) pass0 (by rfl) (pa_cons (pv 4) pa_nil)) (nomark _))
            (pw_or1 (pt_val (pe_callB call_isi (by rfl) T.n_isinstance boot_isinstance (pa_cons (pe_k Gq hr (by decide) pass0 (by rfl) (pa_cons (pv 5) pa_nil)) (pa_cons (pe_bltn (v := .ty "bool") (by rfl) T.n_bool boot_bool rfl) pa_nil))))))) (pss_one (ps_ret pe_bl)) pss_nil)
        (pss_one (ps_if (pt_cmpR op_ne (pe_k Gq hr (by decide) pass0 (by rfl) (pa_cons (pe_k Gl hr (by decide) pass0 (by rfl) (pa_cons (pv 5) pa_nil)) pa_nil)) (pe_k Gu hr (by decide) pass0 (by rfl) (pa_cons (pv 4) pa_nil)) (nomark _)) (pss_one (ps_ret pe_bl)) pss_nil)))))))))
      (pss_one (ps_ret pe_bl)), ?_⟩
    -- the cells
    refine ⟨_, rfl, a, ns, 0, rfl, sq, fun c0 => ⟨_, rfl, a, ns, 1, rfl, sq, fun c1 => ⟨(by show 2 ≤ sizeLine; decide), fun p1 n1 => ?_⟩⟩⟩
    have s1 : Same H (upd H p1 (.lst [.int c0, .int c1])) := same_upd n1
    refine ⟨_, rfl, _, rfl, _, rfl, a, _, rfl, s1.seq sq, fun p2 n2 => ?_⟩
    have cl : (cutV (ns.map V.int) (some 2) (some 20)).length ≤ 63 := by unfold cutV; rw [List.length_take, List.length_drop, List.length_map]; omega
    have ci : ∀ x ∈ cutV (ns.map V.int) (some 2) (some 20), ∃ n, x = V.int n := fun x hx => by
      unfold cutV at hx
      obtain ⟨n, _, e⟩ := List.mem_map.mp (List.mem_of_mem_drop (List.mem_of_mem_take hx))
      exact ⟨n, e.symm⟩
    obtain ⟨cs, ecs⟩ : ∃ cs, cs = cutV (ns.map V.int) (some 2) (some 20) := ⟨_, rfl⟩
    rw [← ecs] at cl ci ⊢
    have s2 : Same (upd H p1 (.lst [.int c0, .int c1])) (upd (upd H p1 (.lst [.int c0, .int c1])) p2 (.lst cs)) := same_upd n2
    refine ⟨p1, p2, _, _, rfl, rfl, s2 _ _ upd_same, upd_same, by rw [sizeLine_eq]; show 2 + _ ≤ _; omega, fun p3 n3 => ?_⟩
    obtain ⟨Hx, ex⟩ : ∃ Hx, Hx = upd (upd (upd H p1 (.lst [.int c0, .int c1])) p2 (.lst cs)) p3 (.lst ([.int c0, .int c1] ++ cs)) := ⟨_, rfl⟩
    have atx : Hx p3 = some (.lst ([.int c0, .int c1] ++ cs)) := by rw [ex]; exact upd_same
    have allI : ∀ x ∈ [V.int c0, .int c1] ++ cs, ∃ n, x = V.int n := fun x hx => by
      rcases List.mem_append.mp hx with hx | hx
      · simp only [List.mem_cons, List.not_mem_nil, or_false] at hx
        rcases hx with rfl | rfl <;> exact ⟨_, rfl⟩
      · exact ci x hx
    rw [← ex]
    refine ⟨p3, rfl, ⟨_, SqL.of atx⟩, for_it walk_list (fun i σ H' => ∃ y1 y2 y3 y4 y5, σ = [some (.ref a), y1, y2, y3, y4, y5, none] ∧ Same Hx H') ⟨none, none, none, none, none, rfl, Same.refl _⟩ (fun i σ H' _ z => by obtain ⟨_, _, _, _, _, _, s⟩ := z; exact SqL.of (s _ _ atx)) ?_ ?_⟩
    · rintro i x σ H2 H3 hi ⟨y1, y2, y3, y4, y5, rfl, sm⟩ ⟨rfl, gx⟩
      obtain ⟨n, rfl⟩ := allI x (List.mem_of_getElem? gx)
      -- row
      refine ⟨_, rfl, n, rfl, fun H4 p4 xs s4 np4 at4 lx bx => ?_⟩
      obtain ⟨x0, x1, x2, x3, x4, x5, x6, x7, x8, x9, rfl⟩ : ∃ x0 x1 x2 x3 x4 x5 x6 x7 x8 x9, xs = [x0, x1, x2, x3, x4, x5, x6, x7, x8, x9] := by
        match xs, lx with
        | [x0, x1, x2, x3, x4, x5, x6, x7, x8, x9], _ => exact ⟨x0, x1, x2, x3, x4, x5, x6, x7, x8, x9, rfl⟩
      have b6 := (bx x6 (by simp)).1
      have b7 := (bx x7 (by simp)).1
      have b8 := (bx x8 (by simp)).1
      have b9 := (bx x9 (by simp)).1
      -- words
      refine ⟨(by show 12 ≤ sizeLine; decide), fun p5 n5 => ?_⟩
      obtain ⟨H5, e5⟩ : ∃ H5, H5 = upd H4 p5 (.lst wordsW) := ⟨_, rfl⟩
      have s5 : Same H4 H5 := by rw [e5]; exact same_upd n5
      have at5 : H5 p5 = some (.lst wordsW) := by rw [e5]; exact upd_same
      change gName _ _ _ (upd H4 p5 (.lst wordsW)) _
      rw [← e5]
      have sq5 := SqL.of (K := K) (s5 _ _ at4)
      -- parts
      refine ⟨_, rfl, _, rfl, p4, _, rfl, sq5, fun p6 n6 => ?_⟩
      obtain ⟨H6, e6⟩ : ∃ H6, H6 = upd H5 p6 (.lst ([x0, x1, x2, x3, x4, x5].map V.int)) := ⟨_, rfl⟩
      have s6 : Same H5 H6 := by rw [e6]; exact same_upd n6
      have at6 : H6 p6 = some (.lst ([x0, x1, x2, x3, x4, x5].map V.int)) := by rw [e6]; exact upd_same
      change tCons _ _ _ (upd H5 p6 (.lst ([x0, x1, x2, x3, x4, x5].map V.int))) _
      rw [← e6]
      have sq6 := s6.seq sq5
      refine ⟨_, rfl, p4, _, 6, _, rfl, rfl, sq6, rfl, x6, rfl, b6, fun H7 s7 => ?_⟩
      have sq7 := s7.seq sq6
      have m8 : 0 ≤ x8 % 5 := Int.emod_nonneg _ (by decide)
      refine ⟨_, rfl, p4, _, 7, _, rfl, rfl, sq7, rfl, _, rfl, p4, _, 8, _, rfl, rfl, sq7, rfl, _, _, rfl, rfl, (by show (0 : Int) < _; decide), _, _, rfl, rfl, .inl ⟨by decide, by decide⟩, _, _, rfl, rfl, x7 + 840 * (x8 % 5), rfl, by omega, fun H8 s8 => ?_⟩
      have sq8 := s8.seq sq7
      have w0 : 0 ≤ x9 % 12 := Int.emod_nonneg _ (by decide)
      have w1 : x9 % 12 < 12 := Int.emod_lt_of_pos _ (by decide)
      obtain ⟨nl, gn, nn⟩ := words_nm (i := (x9 % 12).toNat) (by omega)
      have s58 : Same H5 H8 := (s6.trans s7).trans s8
      refine ⟨_, rfl, _, rfl, p4, _, 9, _, rfl, rfl, sq8, rfl, _, _, rfl, rfl, (by show (0 : Int) < _; decide), p5, wordsW, _, .str (S nl), rfl, rfl, SqL.of (s58 _ _ at5), by rw [show x9 % 12 = ((x9 % 12).toNat : Int) from (Int.toNat_of_nonneg w0).symm]; exact atI_nat gn, (by show 3 ≤ sizeLine; decide), fun p9 n9 => ?_⟩
      have s9 := same_upd (o := HO.lst [.str (S (nameL x6)), .str (S (nameL (x7 + 840 * (x8 % 5)))), .str (S nl)]) n9
      refine ⟨p6, p9, [x0, x1, x2, x3, x4, x5], [nameL x6, nameL (x7 + 840 * (x8 % 5)), nl], rfl, s9.seq (SqL.of (s8 _ _ (s7 _ _ at6))), rfl, fun z hz => (bx z (by simp only [List.mem_cons, List.not_mem_nil, or_false] at hz ⊢; rcases hz with h | h | h | h | h | h <;> simp [h])).1, SqL.of upd_same, by simp, fun z hz => ?_, fun H10 pp wl ps vs s10 npp atp app okp l3 => ?_⟩
      · simp only [List.mem_cons, List.not_mem_nil, or_false] at hz
        rcases hz with rfl | rfl | rfl
        · exact name_ok b6
        · exact name_ok (by omega)
        · exact nn
      have okall := okp.all
      have app' : ArePs H10 (.str (S wl) :: vs) (.name wl :: ps) := .cons rfl app
      have sx10 : Same Hx H10 := ((((sm.trans s4).trans s5).trans s58).trans s9).trans s10
      -- told
      refine ⟨_, rfl, pp, _, _, rfl, SqT.of atp, app', by rw [List.length_cons]; omega, okall, fun H11 s11 => ?_⟩
      refine ⟨writS (.name wl :: ps), S wl, ps, rfl, stmt_back okp l3, fun H12 t us s12 nt att apt lt => ?_⟩
      have sx12 : Same Hx H12 := (sx10.trans s11).trans s12
      have atp12 : H12 pp = some (.tup (.str (S wl) :: vs)) := (s11.trans s12) _ _ atp
      have app12 : ArePs H12 (.str (S wl) :: vs) (.name wl :: ps) := app'.same (s11.trans s12)
      have apt' : ArePs H12 (.str (S wl) :: us) (.name wl :: ps) := .cons rfl apt
      have ulen := Paired.len apt
      have shp := shaped_all okall
      -- isinstance(told, tuple), told != parts
      refine ⟨_, rfl, _, _, _, _, _, rfl, .ty _, .base (.tup att), kit_ty (r := true) (by decide +kernel), _, rfl, iteF ?_⟩
      refine ⟨_, rfl, _, rfl, _, _, .tup (SqT.of att) (data_all apt'), .tup (SqT.of atp12) (data_all app12), shp, shp, ?_⟩
      rw [eqv_all]
      refine ⟨_, rfl, iteF ?_⟩
      -- none of them is a bool
      refine ⟨_, rfl, t, rfl, ⟨_, SqT.of att⟩, lc_acc walk_tup (fun _ => []) rfl (fun _ _ => by rw [sizeLine_eq]; exact Nat.zero_lt_succ _) (fun H1 s => Same.tup s (SqT.of att)) ?_ ?_⟩
      · rintro j z H13 H14 R Nn hj s13 ⟨rfl, gz⟩ kR kN
        obtain ⟨pt, gp, isp⟩ := Paired.at apt' gz
        have isp := isp.same s13
        refine ⟨rfl, _, rfl, ?_⟩
        cases pt with
        | name l => obtain rfl := isp; exact ⟨_, _, _, _, _, rfl, .ty _, .base (.str _), kit_ty (r := false) (by decide +kernel), _, rfl, iteF (kN _ (Same.refl _) rfl)⟩
        | num m => obtain rfl := isp; exact ⟨_, _, _, _, _, rfl, .ty _, .base (.int _), kit_ty (r := false) (by decide +kernel), _, rfl, iteF (kN _ (Same.refl _) rfl)⟩
        | text l => obtain ⟨b, rfl, h⟩ := isp; exact ⟨_, _, _, _, _, rfl, .ty _, .base (.tup h), kit_ty (r := false) (by decide +kernel), _, rfl, iteF (kN _ (Same.refl _) rfl)⟩
        | par m => obtain ⟨b, rfl, h⟩ := isp; exact ⟨_, _, _, _, _, rfl, .ty _, .base (.tup h), kit_ty (r := false) (by decide +kernel), _, rfl, iteF (kN _ (Same.refl _) rfl)⟩
      · intro H13 D s13 nD e13
        refine ⟨D, [], rfl, .inl (SqL.of e13), _, _, rfl, rfl, _, rfl, iteF ?_⟩
        have sx13 := sx12.trans s13
        have att13 := s13 _ _ att
        have atp13 := s13 _ _ atp12
        have q13 : ∀ {Hz : Hp}, Same H13 Hz → Paired (IsQ Hz) (.str (S wl) :: us) (.name wl :: ps) := fun sz => .cons rfl (areQ (apt.same (s13.trans sz)))
        -- parameters(told) != _law_used(parts)
        refine ⟨_, rfl, t, _, _, rfl, .inl (SqT.of att13), by rw [List.length_cons]; omega, q13 (Same.refl _), fun H14 s14 => ?_⟩
        refine ⟨_, rfl, pp, _, _, rfl, .inl (SqT.of (s14 _ _ atp13)), by have := Paired.len app; rw [List.length_cons]; omega, app12.same (s13.trans s14), okall, fun H15 s15 => ?_⟩
        have sz15 := s14.trans s15
        refine ⟨rfl, _, rfl, ?_⟩
        rw [decide_eq_true rfl]
        refine iteF ?_
        refine ⟨_, rfl, t, _, _, rfl, .inl (SqT.of (sz15 _ _ att13)), by rw [List.length_cons]; omega, q13 sz15, fun H16 s16 => ?_⟩
        have sz16 := sz15.trans s16
        refine ⟨_, _, _, _, _, rfl, .ty _, .base (.int _), kit_ty (r := false) (by decide +kernel), _, rfl, iteF ?_⟩
        -- parameters(_law_listed(told)) != _law_used(parts)
        refine ⟨_, rfl, t, _, _, rfl, SqT.of (sz16 _ _ att13), apt'.same (s13.trans sz16), by rw [List.length_cons]; omega, fun H17 pl ys s17 atl pql => ?_⟩
        have sz17 := sz16.trans s17
        refine ⟨pl, ys, _, rfl, .inr (SqL.of atl), by have := Paired.len pql; rw [this, List.length_cons]; omega, pql, fun H18 s18 => ?_⟩
        have sz18 := sz17.trans s18
        refine ⟨_, rfl, pp, _, _, rfl, .inl (SqT.of (sz18 _ _ atp13)), by have := Paired.len app; rw [List.length_cons]; omega, app12.same (s13.trans sz18), okall, fun H19 s19 => ?_⟩
        refine ⟨rfl, _, rfl, ?_⟩
        rw [decide_eq_true rfl]
        exact iteF ⟨_, _, _, _, _, rfl, (sx13.trans sz18).trans s19⟩
    · rintro σ H2 ⟨y1, y2, y3, y4, y5, rfl, sm⟩
      exact q H2
end
end K01
end
section
namespace K01
open PySem PySem.Spec PyProof.Rows L2 Tl Mx SX
theorem tupK {K : PySem.W.Frag} {a : Addr} {od : Option Addr} {its : Array Value} {n : Nat} {sl : Array (Option Value)} {xs : List V} (l : K.lookup a = some ⟨.type "tuple", od, .seq its n, sl⟩) (hv : Vals xs its.toList) (hz : its.size ≤ sizeLine) : ∀ H, SqT K H a xs :=
  fun H => .inr ⟨_, its, n, l, rfl, rfl, hz, hv⟩
def RowOk (K : PySem.W.Frag) (e : DictEntry) (p : Str × List Str) : Prop := (∃ t, e.key = .str p.1 t) ∧ ∃ a, e.val = .ref a ∧ ∀ H, SqT K H a (p.2.map V.str)
theorem row_find {K : PySem.W.Frag} (k : Str) : ∀ {es : List DictEntry} {ps : List (Str × List Str)}, Paired (RowOk K) es ps →
    (ps.lookup k = none → (es.find? fun e => Value.isStrOf k e.key).map (·.val) = none) ∧ ∀ fs, ps.lookup k = some fs → ∃ a, (es.find? fun e => Value.isStrOf k e.key).map (·.val) = some (.ref a) ∧ ∀ H, SqT K H a (fs.map V.str)
  | _, _, .nil => ⟨fun _ => rfl, fun _ h => by cases h⟩
  | e :: es, p :: ps, .cons h t => by
    obtain ⟨⟨tk, hk⟩, a, hv, sq⟩ := h
    obtain ⟨r1, r2⟩ := row_find k t
    have eb : Value.isStrOf k e.key = (k == p.1) := by
      rw [hk]
      by_cases z : p.1 = k
      · rw [z]; simp [Value.isStrOf]
      · have z2 : ¬ k = p.1 := fun w => z w.symm
        show (p.1 == k) = (k == p.1)
        rw [beq_eq_false_iff_ne.mpr z, beq_eq_false_iff_ne.mpr z2]
    rw [List.lookup_cons, List.find?_cons, eb]
    cases c : k == p.1 with
    | true => exact ⟨fun h => (by cases h), fun fs h => (by obtain rfl := Option.some.inj h; exact ⟨a, (by rw [← hv]; rfl), sq⟩)⟩
    | false => exact ⟨r1, r2⟩
theorem end_mk {P : Program} {w : World} {K : PySem.W.Frag} {mg : Str → Option Value} {fa C : Addr} (T : Txt K mg) (B : Tab K w mg) (U : ErrC K mg "Unreadable" C) (hfa : mg "law" = some (.ref fa)) :
    ∃ fd : FuncData, (∀ (s : Shared) (v : Value), BindsTo s fd ⟨[v], []⟩ [("script", v)]) ∧ ∀ base : Heap, K.In base → base.Ns mainGlobals mg → FnOk P w K mg base CX0 7 fa fd ["script"] (sp_law K) := by
  obtain ⟨f, fd, hm, F, b⟩ := T.d_law.ex
  have e : f = fa := by have z := hm.symm.trans hfa; cases z; rfl
  subst e
  refine ⟨fd, fun s v => ?_, fun base _ _ => ok_law F T B U⟩
  obtain ⟨oc, od, kV, doc, pm, an, cdv, ct, osl, rfl, lk, hcd⟩ := F.ex
  exact .of_eq rfl
theorem tab_mk {w : World} {K : PySem.W.Frag} {h : Heap} {mg : Str → Option Value} (X : K.In h) (G : h.Ns mainGlobals mg) {d aP : Addr} {n nP : Nat} {odP : Option Addr} {slP : Array (Option Value)} {v1 v2 v3 v4 : Tok} {t0 t1 t2 t3 t4 t5 t6 t7 t8 t9 t10 t11 u0 u1 u2 u3 u4 u5 u6 u7 u8 u9 u10 u11 u5b : Tok} {a0 a1 a2 a3 a4 a5 a6 a7 a8 a9 a10 a11 : Addr} {od0 od1 od2 od3 od4 od5 od6 od7 od8 od9 od10 od11 : Option Addr} {n0 n1 n2 n3 n4 n5 n6 n7 n8 n9 n10 n11 : Nat} {sl0 sl1 sl2 sl3 sl4 sl5 sl6 sl7 sl8 sl9 sl10 sl11 : Array (Option Value)}
    (gF : PySem.W.nsIn K mainGlobals "FORMS" = some (some (.ref d))) (low : (d == sysModules) = false) (gP : PySem.W.nsIn K mainGlobals "PARAMETERS" = some (some (.ref aP)))
    (lP : K.lookup aP = some ⟨.type "tuple", odP, .seq #[.str "$1" v1, .str "$2" v2, .str "$3" v3, .str "$4" v4] nP, slP⟩)
    (l : K.lookup d = some ⟨.type "dict", none, .dict #[⟨PyData.keyHash w.params "create", .str "create" t0, .ref a0⟩, ⟨PyData.keyHash w.params "drop", .str "drop" t1, .ref a1⟩, ⟨PyData.keyHash w.params "put", .str "put" t2, .ref a2⟩, ⟨PyData.keyHash w.params "delete", .str "delete" t3, .ref a3⟩, ⟨PyData.keyHash w.params "get", .str "get" t4, .ref a4⟩, ⟨PyData.keyHash w.params "scan", .str "scan" t5, .ref a5⟩, ⟨PyData.keyHash w.params "total", .str "total" t6, .ref a6⟩, ⟨PyData.keyHash w.params "begin", .str "begin" t7, .ref a7⟩, ⟨PyData.keyHash w.params "commit", .str "commit" t8, .ref a8⟩, ⟨PyData.keyHash w.params "rollback", .str "rollback" t9, .ref a9⟩, ⟨PyData.keyHash w.params "save", .str "save" t10, .ref a10⟩, ⟨PyData.keyHash w.params "undo", .str "undo" t11, .ref a11⟩] n, #[]⟩)
    (l0 : K.lookup a0 = some ⟨.type "tuple", od0, .seq #[.str "T" u0] n0, sl0⟩)
    (l1 : K.lookup a1 = some ⟨.type "tuple", od1, .seq #[.str "T" u1] n1, sl1⟩)
    (l2 : K.lookup a2 = some ⟨.type "tuple", od2, .seq #[.str "TXY" u2] n2, sl2⟩)
    (l3 : K.lookup a3 = some ⟨.type "tuple", od3, .seq #[.str "TX" u3] n3, sl3⟩)
    (l4 : K.lookup a4 = some ⟨.type "tuple", od4, .seq #[.str "TX" u4] n4, sl4⟩)
    (l5 : K.lookup a5 = some ⟨.type "tuple", od5, .seq #[.str "T" u5, .str "TXY" u5b] n5, sl5⟩)
    (l6 : K.lookup a6 = some ⟨.type "tuple", od6, .seq #[.str "T" u6] n6, sl6⟩)
    (l7 : K.lookup a7 = some ⟨.type "tuple", od7, .seq #[.str "" u7] n7, sl7⟩)
    (l8 : K.lookup a8 = some ⟨.type "tuple", od8, .seq #[.str "" u8] n8, sl8⟩)
    (l9 : K.lookup a9 = some ⟨.type "tuple", od9, .seq #[.str "" u9] n9, sl9⟩)
    (l10 : K.lookup a10 = some ⟨.type "tuple", od10, .seq #[.str "N" u10] n10, sl10⟩)
    (l11 : K.lookup a11 = some ⟨.type "tuple", od11, .seq #[.str "N" u11] n11, sl11⟩) : Tab K w mg where
  pars := ⟨aP, ⟨_, PySem.W.mg_of X G gP, rfl⟩, tupK lP (.cons ⟨_, rfl⟩ (.cons ⟨_, rfl⟩ (.cons ⟨_, rfl⟩ (.cons ⟨_, rfl⟩ .nil)))) (by rw [sizeLine_eq]; simp)⟩
  forms := ⟨d, _, n, ⟨_, PySem.W.mg_of X G gF, rfl⟩, ⟨l, ⟨⟨_, _, rfl, rfl⟩, ⟨⟨_, _, rfl, rfl⟩, ⟨⟨_, _, rfl, rfl⟩, ⟨⟨_, _, rfl, rfl⟩, ⟨⟨_, _, rfl, rfl⟩, ⟨⟨_, _, rfl, rfl⟩, ⟨⟨_, _, rfl, rfl⟩, ⟨⟨_, _, rfl, rfl⟩, ⟨⟨_, _, rfl, rfl⟩, ⟨⟨_, _, rfl, rfl⟩, ⟨⟨_, _, rfl, rfl⟩, ⟨⟨_, _, rfl, rfl⟩, trivial⟩⟩⟩⟩⟩⟩⟩⟩⟩⟩⟩⟩, low⟩, fun k => by
    have rows : Paired (RowOk K) [⟨PyData.keyHash w.params "create", .str "create" t0, .ref a0⟩, ⟨PyData.keyHash w.params "drop", .str "drop" t1, .ref a1⟩, ⟨PyData.keyHash w.params "put", .str "put" t2, .ref a2⟩, ⟨PyData.keyHash w.params "delete", .str "delete" t3, .ref a3⟩, ⟨PyData.keyHash w.params "get", .str "get" t4, .ref a4⟩, ⟨PyData.keyHash w.params "scan", .str "scan" t5, .ref a5⟩, ⟨PyData.keyHash w.params "total", .str "total" t6, .ref a6⟩, ⟨PyData.keyHash w.params "begin", .str "begin" t7, .ref a7⟩, ⟨PyData.keyHash w.params "commit", .str "commit" t8, .ref a8⟩, ⟨PyData.keyHash w.params "rollback", .str "rollback" t9, .ref a9⟩, ⟨PyData.keyHash w.params "save", .str "save" t10, .ref a10⟩, ⟨PyData.keyHash w.params "undo", .str "undo" t11, .ref a11⟩] formTable := (.cons ⟨⟨_, rfl⟩, _, rfl, tupK l0 (.cons ⟨_, rfl⟩ .nil) (by rw [sizeLine_eq]; simp)⟩ (.cons ⟨⟨_, rfl⟩, _, rfl, tupK l1 (.cons ⟨_, rfl⟩ .nil) (by rw [sizeLine_eq]; simp)⟩ (.cons ⟨⟨_, rfl⟩, _, rfl, tupK l2 (.cons ⟨_, rfl⟩ .nil) (by rw [sizeLine_eq]; simp)⟩ (.cons ⟨⟨_, rfl⟩, _, rfl, tupK l3 (.cons ⟨_, rfl⟩ .nil) (by rw [sizeLine_eq]; simp)⟩ (.cons ⟨⟨_, rfl⟩, _, rfl, tupK l4 (.cons ⟨_, rfl⟩ .nil) (by rw [sizeLine_eq]; simp)⟩ (.cons ⟨⟨_, rfl⟩, _, rfl, tupK l5 (.cons ⟨_, rfl⟩ (.cons ⟨_, rfl⟩ .nil)) (by rw [sizeLine_eq]; simp)⟩ (.cons ⟨⟨_, rfl⟩, _, rfl, tupK l6 (.cons ⟨_, rfl⟩ .nil) (by rw [sizeLine_eq]; simp)⟩ (.cons ⟨⟨_, rfl⟩, _, rfl, tupK l7 (.cons ⟨_, rfl⟩ .nil) (by rw [sizeLine_eq]; simp)⟩ (.cons ⟨⟨_, rfl⟩, _, rfl, tupK l8 (.cons ⟨_, rfl⟩ .nil) (by rw [sizeLine_eq]; simp)⟩ (.cons ⟨⟨_, rfl⟩, _, rfl, tupK l9 (.cons ⟨_, rfl⟩ .nil) (by rw [sizeLine_eq]; simp)⟩ (.cons ⟨⟨_, rfl⟩, _, rfl, tupK l10 (.cons ⟨_, rfl⟩ .nil) (by rw [sizeLine_eq]; simp)⟩ (.cons ⟨⟨_, rfl⟩, _, rfl, tupK l11 (.cons ⟨_, rfl⟩ .nil) (by rw [sizeLine_eq]; simp)⟩ .nil))))))))))))
    have z := row_find (K := K) k rows
    unfold findBy
    rw [List.find?_toArray]
    exact z⟩
end K01
end
open PySem PySem.W PyProof.Rows
set_option maxHeartbeats 0 in
theorem PySem.Challenge.cw_batchends_k01_statements_read_holds : PySem.Challenge.rw_batchends_k01_statements_read.Holds := by
  w_on; o_law; k_head; (case hw => w_witness2)
  k_fill
  refine L2.walk_of (l := PySem.Challenge.rw_batchends_k01_statements_read) (n := 63) (k := 7) (x := "script") (CX := fun _ => L2.CX0) (sp := fun w => K01.sp_law _) rfl (by decide) rfl ⟨rfl, by decide, by decide⟩ (fun w h Y => PySem.W.kIn_of Y) ?F (fun _ _ a ns hl _ hS => ⟨a, ns, rfl, hS, hl, fun _ => rfl⟩) (fun _ _ _ _ _ h => h)
  case F =>
    intro w mg fa h KX G hmg
    have d_is_sign : Tl.Dn (PySem.Challenge.cw_batchends_k01_statements_read_holds.heap_39 w.params) mg "is_sign" K01.s_is_sign ["character"] := by
      refine' Tl.dn_mk KX G ?a ?l ?c ?k ?b; (case a => k_is); (case l => k_is); (case c => k_is); (case k => k_is)
      case b => intro _ _ _ _ _ _ us hl; exact match us, hl with | [_], _ => rfl
    have d_has_only_signs : Tl.Dn (PySem.Challenge.cw_batchends_k01_statements_read_holds.heap_39 w.params) mg "has_only_signs" K01.s_has_only_signs ["string"] := by
      refine' Tl.dn_mk KX G ?a ?l ?c ?k ?b; (case a => k_is); (case l => k_is); (case c => k_is); (case k => k_is)
      case b => intro _ _ _ _ _ _ us hl; exact match us, hl with | [_], _ => rfl
    have d_may_be_prepared : Tl.Dn (PySem.Challenge.cw_batchends_k01_statements_read_holds.heap_39 w.params) mg "may_be_prepared" K01.s_may_be_prepared ["string"] := by
      refine' Tl.dn_mk KX G ?a ?l ?c ?k ?b; (case a => k_is); (case l => k_is); (case c => k_is); (case k => k_is)
      case b => intro _ _ _ _ _ _ us hl; exact match us, hl with | [_], _ => rfl
    have d_is_name : Tl.Dn (PySem.Challenge.cw_batchends_k01_statements_read_holds.heap_39 w.params) mg "is_name" K01.s_is_name ["string"] := by
      refine' Tl.dn_mk KX G ?a ?l ?c ?k ?b; (case a => k_is); (case l => k_is); (case c => k_is); (case k => k_is)
      case b => intro _ _ _ _ _ _ us hl; exact match us, hl with | [_], _ => rfl
    have d_is_text : Tl.Dn (PySem.Challenge.cw_batchends_k01_statements_read_holds.heap_39 w.params) mg "is_text" K01.s_is_text ["string"] := by
      refine' Tl.dn_mk KX G ?a ?l ?c ?k ?b; (case a => k_is); (case l => k_is); (case c => k_is); (case k => k_is)
      case b => intro _ _ _ _ _ _ us hl; exact match us, hl with | [_], _ => rfl
    have d_is_number : Tl.Dn (PySem.Challenge.cw_batchends_k01_statements_read_holds.heap_39 w.params) mg "is_number" K01.s_is_number ["number"] := by
      refine' Tl.dn_mk KX G ?a ?l ?c ?k ?b; (case a => k_is); (case l => k_is); (case c => k_is); (case k => k_is)
      case b => intro _ _ _ _ _ _ us hl; exact match us, hl with | [_], _ => rfl
    have d_parse_statement : Tl.Dn (PySem.Challenge.cw_batchends_k01_statements_read_holds.heap_39 w.params) mg "parse_statement" K01.s_parse_statement ["string"] := by
      refine' Tl.dn_mk KX G ?a ?l ?c ?k ?b; (case a => k_is); (case l => k_is); (case c => k_is); (case k => k_is)
      case b => intro _ _ _ _ _ _ us hl; exact match us, hl with | [_], _ => rfl
    have d_parameters : Tl.Dn (PySem.Challenge.cw_batchends_k01_statements_read_holds.heap_39 w.params) mg "parameters" K01.s_parameters ["parts"] := by
      refine' Tl.dn_mk KX G ?a ?l ?c ?k ?b; (case a => k_is); (case l => k_is); (case c => k_is); (case k => k_is)
      case b => intro _ _ _ _ _ _ us hl; exact match us, hl with | [_], _ => rfl
    have d_is_parameter : Tl.Dn (PySem.Challenge.cw_batchends_k01_statements_read_holds.heap_39 w.params) mg "is_parameter" K01.s_is_parameter ["part"] := by
      refine' Tl.dn_mk KX G ?a ?l ?c ?k ?b; (case a => k_is); (case l => k_is); (case c => k_is); (case k => k_is)
      case b => intro _ _ _ _ _ _ us hl; exact match us, hl with | [_], _ => rfl
    have d_split_pieces : Tl.Dn (PySem.Challenge.cw_batchends_k01_statements_read_holds.heap_39 w.params) mg "split_pieces" K01.s_split_pieces ["string"] := by
      refine' Tl.dn_mk KX G ?a ?l ?c ?k ?b; (case a => k_is); (case l => k_is); (case c => k_is); (case k => k_is)
      case b => intro _ _ _ _ _ _ us hl; exact match us, hl with | [_], _ => rfl
    have d_find_form : Tl.Dn (PySem.Challenge.cw_batchends_k01_statements_read_holds.heap_39 w.params) mg "find_form" K01.s_find_form ["word", "many"] := by
      refine' Tl.dn_mk KX G ?a ?l ?c ?k ?b; (case a => k_is); (case l => k_is); (case c => k_is); (case k => k_is)
      case b => intro _ _ _ _ _ _ us hl; exact match us, hl with | [_, _], _ => rfl
    have d_parse_part : Tl.Dn (PySem.Challenge.cw_batchends_k01_statements_read_holds.heap_39 w.params) mg "parse_part" K01.s_parse_part ["letter", "piece"] := by
      refine' Tl.dn_mk KX G ?a ?l ?c ?k ?b; (case a => k_is); (case l => k_is); (case c => k_is); (case k => k_is)
      case b => intro _ _ _ _ _ _ us hl; exact match us, hl with | [_, _], _ => rfl
    have d_parse_name : Tl.Dn (PySem.Challenge.cw_batchends_k01_statements_read_holds.heap_39 w.params) mg "parse_name" K01.s_parse_name ["piece"] := by
      refine' Tl.dn_mk KX G ?a ?l ?c ?k ?b; (case a => k_is); (case l => k_is); (case c => k_is); (case k => k_is)
      case b => intro _ _ _ _ _ _ us hl; exact match us, hl with | [_], _ => rfl
    have d_parse_text : Tl.Dn (PySem.Challenge.cw_batchends_k01_statements_read_holds.heap_39 w.params) mg "parse_text" K01.s_parse_text ["piece"] := by
      refine' Tl.dn_mk KX G ?a ?l ?c ?k ?b; (case a => k_is); (case l => k_is); (case c => k_is); (case k => k_is)
      case b => intro _ _ _ _ _ _ us hl; exact match us, hl with | [_], _ => rfl
    have d_parse_number : Tl.Dn (PySem.Challenge.cw_batchends_k01_statements_read_holds.heap_39 w.params) mg "parse_number" K01.s_parse_number ["piece"] := by
      refine' Tl.dn_mk KX G ?a ?l ?c ?k ?b; (case a => k_is); (case l => k_is); (case c => k_is); (case k => k_is)
      case b => intro _ _ _ _ _ _ us hl; exact match us, hl with | [_], _ => rfl
    have d_law_cell : Tl.Dn (PySem.Challenge.cw_batchends_k01_statements_read_holds.heap_39 w.params) mg "_law_cell" K01.s_law_cell ["script", "k"] := by
      refine' Tl.dn_mk KX G ?a ?l ?c ?k ?b; (case a => k_is); (case l => k_is); (case c => k_is); (case k => k_is)
      case b => intro _ _ _ _ _ _ us hl; exact match us, hl with | [_, _], _ => rfl
    have d_law_row : Tl.Dn (PySem.Challenge.cw_batchends_k01_statements_read_holds.heap_39 w.params) mg "_law_row" K01.s_law_row ["cell", "count"] := by
      refine' Tl.dn_mk KX G ?a ?l ?c ?k ?b; (case a => k_is); (case l => k_is); (case c => k_is); (case k => k_is)
      case b => intro _ _ _ _ _ _ us hl; exact match us, hl with | [_, _], _ => rfl
    have d_law_name : Tl.Dn (PySem.Challenge.cw_batchends_k01_statements_read_holds.heap_39 w.params) mg "_law_name" K01.s_law_name ["number"] := by
      refine' Tl.dn_mk KX G ?a ?l ?c ?k ?b; (case a => k_is); (case l => k_is); (case c => k_is); (case k => k_is)
      case b => intro _ _ _ _ _ _ us hl; exact match us, hl with | [_], _ => rfl
    have d_law_text : Tl.Dn (PySem.Challenge.cw_batchends_k01_statements_read_holds.heap_39 w.params) mg "_law_text" K01.s_law_text ["number"] := by
      refine' Tl.dn_mk KX G ?a ?l ?c ?k ?b; (case a => k_is); (case l => k_is); (case c => k_is); (case k => k_is)
      case b => intro _ _ _ _ _ _ us hl; exact match us, hl with | [_], _ => rfl
    have d_law_value : Tl.Dn (PySem.Challenge.cw_batchends_k01_statements_read_holds.heap_39 w.params) mg "_law_value" K01.s_law_value ["number"] := by
      refine' Tl.dn_mk KX G ?a ?l ?c ?k ?b; (case a => k_is); (case l => k_is); (case c => k_is); (case k => k_is)
      case b => intro _ _ _ _ _ _ us hl; exact match us, hl with | [_], _ => rfl
    have d_law_term : Tl.Dn (PySem.Challenge.cw_batchends_k01_statements_read_holds.heap_39 w.params) mg "_law_term" K01.s_law_term ["number", "used"] := by
      refine' Tl.dn_mk KX G ?a ?l ?c ?k ?b; (case a => k_is); (case l => k_is); (case c => k_is); (case k => k_is)
      case b => intro _ _ _ _ _ _ us hl; exact match us, hl with | [_, _], _ => rfl
    have d_law_used : Tl.Dn (PySem.Challenge.cw_batchends_k01_statements_read_holds.heap_39 w.params) mg "_law_used" K01.s_law_used ["parts"] := by
      refine' Tl.dn_mk KX G ?a ?l ?c ?k ?b; (case a => k_is); (case l => k_is); (case c => k_is); (case k => k_is)
      case b => intro _ _ _ _ _ _ us hl; exact match us, hl with | [_], _ => rfl
    have d_law_statement : Tl.Dn (PySem.Challenge.cw_batchends_k01_statements_read_holds.heap_39 w.params) mg "_law_statement" K01.s_law_statement ["row", "names"] := by
      refine' Tl.dn_mk KX G ?a ?l ?c ?k ?b; (case a => k_is); (case l => k_is); (case c => k_is); (case k => k_is)
      case b => intro _ _ _ _ _ _ us hl; exact match us, hl with | [_, _], _ => rfl
    have d_law_written : Tl.Dn (PySem.Challenge.cw_batchends_k01_statements_read_holds.heap_39 w.params) mg "_law_written" K01.s_law_written ["parts"] := by
      refine' Tl.dn_mk KX G ?a ?l ?c ?k ?b; (case a => k_is); (case l => k_is); (case c => k_is); (case k => k_is)
      case b => intro _ _ _ _ _ _ us hl; exact match us, hl with | [_], _ => rfl
    have d_law_listed : Tl.Dn (PySem.Challenge.cw_batchends_k01_statements_read_holds.heap_39 w.params) mg "_law_listed" K01.s_law_listed ["parts"] := by
      refine' Tl.dn_mk KX G ?a ?l ?c ?k ?b; (case a => k_is); (case l => k_is); (case c => k_is); (case k => k_is)
      case b => intro _ _ _ _ _ _ us hl; exact match us, hl with | [_], _ => rfl
    have d_law : Tl.Dn (PySem.Challenge.cw_batchends_k01_statements_read_holds.heap_39 w.params) mg "law" K01.s_law ["script"] := by
      refine' Tl.dn_mk KX G ?a ?l ?c ?k ?b; (case a => k_is); (case l => k_is); (case c => k_is); (case k => k_is)
      case b => intro _ _ _ _ _ _ us hl; exact match us, hl with | [_], _ => rfl
    have n_ord : mg "ord" = none := by
      refine' PySem.W.mg_none_of KX G ?z; (case z => k_is)
    have n_all : mg "all" = none := by
      refine' PySem.W.mg_none_of KX G ?z; (case z => k_is)
    have n_len : mg "len" = none := by
      refine' PySem.W.mg_none_of KX G ?z; (case z => k_is)
    have n_max : mg "max" = none := by
      refine' PySem.W.mg_none_of KX G ?z; (case z => k_is)
    have n_int : mg "int" = none := by
      refine' PySem.W.mg_none_of KX G ?z; (case z => k_is)
    have n_str : mg "str" = none := by
      refine' PySem.W.mg_none_of KX G ?z; (case z => k_is)
    have n_list : mg "list" = none := by
      refine' PySem.W.mg_none_of KX G ?z; (case z => k_is)
    have n_tuple : mg "tuple" = none := by
      refine' PySem.W.mg_none_of KX G ?z; (case z => k_is)
    have n_bool : mg "bool" = none := by
      refine' PySem.W.mg_none_of KX G ?z; (case z => k_is)
    have n_zip : mg "zip" = none := by
      refine' PySem.W.mg_none_of KX G ?z; (case z => k_is)
    have n_range : mg "range" = none := by
      refine' PySem.W.mg_none_of KX G ?z; (case z => k_is)
    have n_isinstance : mg "isinstance" = none := by
      refine' PySem.W.mg_none_of KX G ?z; (case z => k_is)
    have c_LETTERS : ∃ u, mg "LETTERS" = some u ∧ L2.RelV (.str "abcdefghijklmnopqrstuvwxyz") u := by
      refine' ⟨_, PySem.W.mg_of KX G ?z, ?r⟩; (case z => k_is); (case r => exact ⟨_, rfl⟩)
    have c_LONGEST_NAME : ∃ u, mg "LONGEST_NAME" = some u ∧ L2.RelV (.int 8) u := by
      refine' ⟨_, PySem.W.mg_of KX G ?z, ?r⟩; (case z => k_is); (case r => exact ⟨_, rfl⟩)
    have c_LONGEST_TEXT : ∃ u, mg "LONGEST_TEXT" = some u ∧ L2.RelV (.int 40) u := by
      refine' ⟨_, PySem.W.mg_of KX G ?z, ?r⟩; (case z => k_is); (case r => exact ⟨_, rfl⟩)
    have c_LEAST_NUMBER : ∃ u, mg "LEAST_NUMBER" = some u ∧ L2.RelV (.int (-2147483648)) u := by
      refine' ⟨_, PySem.W.mg_of KX G ?z, ?r⟩; (case z => k_is); (case r => exact ⟨_, rfl⟩)
    have c_GREATEST_NUMBER : ∃ u, mg "GREATEST_NUMBER" = some u ∧ L2.RelV (.int 2147483647) u := by
      refine' ⟨_, PySem.W.mg_of KX G ?z, ?r⟩; (case z => k_is); (case r => exact ⟨_, rfl⟩)
    have c_PERCENT : ∃ u, mg "PERCENT" = some u ∧ L2.RelV (.int 37) u := by
      refine' ⟨_, PySem.W.mg_of KX G ?z, ?r⟩; (case z => k_is); (case r => exact ⟨_, rfl⟩)
    have c_LONGEST_STRING : ∃ u, mg "LONGEST_STRING" = some u ∧ L2.RelV (.int 200) u := by
      refine' ⟨_, PySem.W.mg_of KX G ?z, ?r⟩; (case z => k_is); (case r => exact ⟨_, rfl⟩)
    have T := K01.Txt.mk d_is_sign d_has_only_signs d_may_be_prepared d_is_name d_is_text d_is_number d_parse_statement d_parameters d_is_parameter d_split_pieces d_find_form d_parse_part d_parse_name d_parse_text d_parse_number d_law_cell d_law_row d_law_name d_law_text d_law_value d_law_term d_law_used d_law_statement d_law_written d_law_listed d_law n_ord n_all n_len n_max n_int n_str n_list n_tuple n_bool n_zip n_range n_isinstance c_LETTERS c_LONGEST_NAME c_LONGEST_TEXT c_LEAST_NUMBER c_GREATEST_NUMBER c_PERCENT c_LONGEST_STRING
    have B : K01.Tab (PySem.Challenge.cw_batchends_k01_statements_read_holds.heap_39 w.params) w mg := by
      refine' K01.tab_mk KX G ?gF ?low ?gP ?lP ?l ?l0 ?l1 ?l2 ?l3 ?l4 ?l5 ?l6 ?l7 ?l8 ?l9 ?l10 ?l11; (case gF => k_is); (case low => rfl); (case gP => k_is); (case lP => k_is); (case l => k_is); (case l0 => k_is); (case l1 => k_is); (case l2 => k_is); (case l3 => k_is); (case l4 => k_is); (case l5 => k_is); (case l6 => k_is); (case l7 => k_is); (case l8 => k_is); (case l9 => k_is); (case l10 => k_is); (case l11 => k_is)
    have U : ∃ C, K01.ErrC (PySem.Challenge.cw_batchends_k01_statements_read_holds.heap_39 w.params) mg "Unreadable" C := by
      refine' ⟨_, PySem.W.mg_of KX G ?g, ⟨_, _, _, PySem.F.excBase_ValueError, ?ex⟩, ?kp, ?sb, ?ty⟩; (case g => k_is); (case ex => k_exc); (case kp => k_is); (case sb => k_is); (case ty => k_is)
    obtain ⟨C, U⟩ := U
    exact K01.end_mk T B U hmg
