import PyProof.Rows.All
import Wide.All
import OpenK.AllK
import Wide.FinOn
import HandS.ForMost
import HandS.ForExc
import HandS.Walk
import HandS.Codes
import HandS.IsInst
import HandS.Star
import HandS.StrMore
import HandS.RaiseMore
import HandS.FStr
import HandS.Small
import HandS.Deep
import KE.KUnpackStar
import HandS.TupAny
import HandS.Text
import HandS.ExcCtx
import HandS.RevRange
import HandS.Strs
import HandS.Defaults
import PyProof.ReprRoads
import KE.GoesZip
import KE.GoesMore
import HandS.Style
import HandS.SortKw
import KE.SortUse
import HandS.NoneIn
import KE.DataCmp
import KE.BitLaws
import HandS.Ends
import PySem.Challenge.RW_batchends_k09_bounds_of_sessions
set_option Elab.async false
set_option linter.all false
set_option maxRecDepth 100000
section
/-! tools of mine over the layer: a def by its name, pure comprehensions -/
namespace Tl
open PySem PySem.Spec PyProof.Rows L2
/-- the def x stands in the text as st -/
structure Dn (K : PySem.W.Frag) (mg : Str → Option Value) (x : Str) (st : Stmt) (ps : List Str) : Prop where
  ex : ∃ f fd, mg x = some (.ref f) ∧ Fun K x x st f fd ∧ Binds K fd ps []
theorem dn_mk {K : PySem.W.Frag} {h : Heap} {mg : Str → Option Value} {x : Str} {st : Stmt} {ps : List Str} {f : Addr} {oc : Value} {od an : Option Addr} {osl : Array (Option Value)} {kV doc pm cdv ct : Value} (X : K.In h) (G : h.Ns mainGlobals mg)
    (a : PySem.W.nsIn K mainGlobals x = some (some (.ref f))) (l : K.lookup f = some ⟨oc, od, .func (PySem.W.fnOf x x (defArgs st) (defBody st) (defScope st) .none kV doc pm an cdv ct), osl⟩)
    (c : PySem.W.codeIn K cdv x = true) (k : PySem.W.keepIn K (.ref f) = true)
    (b : ∀ (kV doc pm : Value) (an : Option Addr) (cdv ct : Value) (us : List Value), us.length = ps.length → bindArgs (PySem.W.fnOf x x (defArgs st) (defBody st) (defScope st) .none kV doc pm an cdv ct) ⟨us, []⟩ = pure (ps.zip us)) : Dn K mg x st ps := by
  have F := fun_mk l c k
  exact ⟨⟨_, _, PySem.W.mg_of X G a, F, F.binds b⟩⟩
/-- the promise of the def named x -/
structure Pr (P : Program) (w : World) (K : PySem.W.Frag) (mg : Str → Option Value) (base : Heap) (CX : CXT) (k : Nat) (x : Str) (ps : List Str) (sp : Sp) : Prop where
  ex : ∃ f fd, mg x = some (.ref f) ∧ PySem.W.keepIn K (.ref f) = true ∧ Binds K fd ps [] ∧ FnOk P w K mg base CX k f fd ps sp
section
variable {P : Program} {w : World} {K : PySem.W.Frag} {mg : Str → Option Value} {base : Heap}
/-- a def that lets no exception out -/
theorem pr0 {x : Str} {st : Stmt} {N ps : List Str} {k : Nat} {sp : Sp} (D : Dn K mg x st ps) (S : FnScope N ps (defScope st)) (len : ∀ vs H Q E, sp vs H Q E → vs.length = ps.length)
    (hbody : ∀ (f : Addr) (cdv : Value) (A : Around) (outer : List Env) (s : Shared) (H : Hp) (vs : List V) (Q : VK) (E : XK), Room k (A.deeper (envOfC x (defScope st) s.heap.objs.size f cdv)) → sp vs H Q E →
      ∃ t, PSs (cxOf CX0 P w K mg base N x (defScope st) f cdv A outer s H E).nox (defBody st) t ∧ t { nx := fun _ H' => Q .non H', rt := Q } (start N vs) H) : Pr P w K mg base CX0 (k + 1) x ps sp := by
  obtain ⟨f, fd, hm, F, b⟩ := D.ex
  exact ⟨f, fd, hm, F.kp, b, F.ok S len (hbody f)⟩
/-- a def that may raise -/
theorem prX {x : Str} {st : Stmt} {N ps : List Str} {k : Nat} {sp : Sp} (D : Dn K mg x st ps) (S : FnScope N ps (defScope st)) (len : ∀ vs H Q E, sp vs H Q E → vs.length = ps.length)
    (hbody : ∀ (f : Addr) (cdv : Value) (A : Around) (outer : List Env) (s : Shared) (H : Hp) (vs : List V) (Q : VK) (E : XK), Room k (A.deeper (envOfC x (defScope st) s.heap.objs.size f cdv)) → sp vs H Q E →
      ∃ t, PSs (cxOf (L2.CX P w) P w K mg base N x (defScope st) f cdv A outer s H E) (defBody st) t ∧ t { nx := fun _ H' => Q .non H', rt := Q } (start N vs) H) : Pr P w K mg base (L2.CX P w) (k + 1) x ps sp := by
  obtain ⟨f, fd, hm, F, b⟩ := D.ex
  exact ⟨f, fd, hm, F.kp, b, F.okX S len (hbody f)⟩
end
section
variable {X : Cx} {k j : Nat} {x : Str} {ps : List Str} {sp : Sp} {p pos : Pos} {e : Expr} {es : List Expr} {t : TA} {CX : CXT} {E : XK}
theorem pe_k (c : Pr X.prog X.w X.K X.mg X.base CX k x ps sp) (hr : Room j X.A) (hk : k ≤ j) (hx : Passes CX X E) (hg : Gl X x) (ha : PA X (e :: es) t)
    (hdb : (x == ("__debug__" : Str)) = false := by decide) (he : starEach (e :: es) X.env = (false, eval e X.env) :: starEach es X.env := by rfl) (hpl : (backTo pos (starEach es X.env)).any (·.1) = false := by rfl) :
    PE X (.Call (.Name x p) (e :: es) [] pos) (tCall sp [] E t) := by
  obtain ⟨f, fd, hm, kp, b, F⟩ := c.ex
  exact pe_call F (hr.mono hk) hg hm kp b .nil hx ha hdb he hpl
end
/-! ### heaps -/
theorem same_upd {H : Hp} {p : Addr} {o : HO} (h : H p = none) : Same H (upd H p o) := fun b x e => by
  rw [upd_ne (ne_of_none e h)]
  exact e
/-- what is new behind H1 may change: a store at an address that was free -/
theorem same_put {H H' : Hp} {p : Addr} {o : HO} (h : H p = none) (s : Same H H') : Same H (upd H' p o) := fun b x e => by
  rw [upd_ne (ne_of_none e h)]
  exact s b x e
theorem Same.tup {K : PySem.W.Frag} {H H' : Hp} {a : Addr} {xs : List V} (e : Same H H') (h : SqT K H a xs) : SqT K H' a xs := by
  rcases h with (h | ⟨o, h⟩) | h
  · exact .inl (.inl (e _ _ h))
  · exact .inl (.inr ⟨o, e _ _ h⟩)
  · exact .inr h
/-! ### a comprehension whose elements are flat values known before -/
theorem lc_acc {J : It} {n : Nat} {G : Hp → Prop} {Y : Nat → Hp → V → Hp → Prop} (w : Walk J n G Y) {g : TG} {tt : TT} {te : TE} {vs : List Nat} {σ : L2.St} {H1 : Hp} {Qd : Addr → Hp → Prop} (acc : Nat → List V) (h0 : acc 0 = [])
    (hz : ∀ i, i < n → (acc i).length < sizeLine) (hG : ∀ H, Same H1 H → G H)
    (hs : ∀ (i : Nat) (x : V) (H H' : Hp) (R : V → Hp → Prop) (Nn : Hp → Prop), i < n → Same H1 H → Y i H x H' → (∀ z H4, Same H H4 → acc (i + 1) = acc i ++ [z] → R z H4) → (∀ H4, Same H H4 → acc (i + 1) = acc i → Nn H4) →
      g x (wipe σ vs) H' fun σ2 H2 => wipe σ2 vs = wipe σ vs ∧ tt σ2 H2 fun b H3 => if b = true then te σ2 H3 R else Nn H3)
    (hd : ∀ H D, Same H1 H → H1 D = none → H D = some (.lst (acc n)) → Qd D H) :
    ∀ D, H1 D = none → ∃ W : Nat → Nat → Hp → Prop, (∃ m, W 0 m (upd H1 D (.lst []))) ∧ ∀ i m H, W i m H →
      (J.stop i H ∧ Qd D H) ∨ (J.go i H ∧ ∃ Nx : Hp → Prop, (∀ H', Nx H' → ∃ m', m' < m ∧ W (i + 1) m' H') ∧ ∀ x H', J.yld i H x H' → g x (wipe σ vs) H' fun σ2 H2 => wipe σ2 vs = wipe σ vs ∧ tt σ2 H2 fun b H3 =>
        if b = true then te σ2 H3 fun y H4 => ∃ acc, H4 D = some (.lst acc) ∧ acc.length < sizeLine ∧ Nx (upd H4 D (.lst (acc ++ [y]))) else Nx H3) := by
  intro D hD
  refine lc_it (Qd := fun H => Qd D H) w (fun i H => Same H1 H ∧ H D = some (.lst (acc i))) ⟨same_upd hD, by rw [h0]; exact upd_same⟩ (fun i H _ h => hG H h.1) ?_ (fun H h => hd H D h.1 hD h.2)
  intro i x H H' hi hP hY
  obtain ⟨sm, eD⟩ := hP
  refine hs i x H H' _ _ hi sm hY (fun z H4 s4 e => ?_) (fun H4 s4 e => ?_)
  · exact ⟨acc i, s4 _ _ eD, hz i hi, same_put hD (sm.trans s4), by rw [upd_same, e]⟩
  · exact ⟨sm.trans s4, by rw [e]; exact s4 _ _ eD⟩
theorem take_next {α : Type} {l : List α} {i : Nat} {x : α} (h : l[i]? = some x) : l.take (i + 1) = l.take i ++ [x] := by
  rw [List.take_add_one, h]; rfl
/-- .. without a condition, the elements known before -/
theorem lc_pure {J : It} {n : Nat} {G : Hp → Prop} {Y : Nat → Hp → V → Hp → Prop} (w : Walk J n G Y) {g : TG} {te : TE} {vs : List Nat} {σ : L2.St} {H1 : Hp} {Qd : Addr → Hp → Prop} (ys : List V) (hn : ys.length = n)
    (hz : n ≤ sizeLine) (hG : ∀ H, Same H1 H → G H)
    (hs : ∀ (i : Nat) (x : V) (H H' : Hp) (y : V) (R : V → Hp → Prop), i < n → ys[i]? = some y → Same H1 H → Y i H x H' → (∀ H4, Same H H4 → R y H4) →
      g x (wipe σ vs) H' fun σ2 H2 => wipe σ2 vs = wipe σ vs ∧ te σ2 H2 R)
    (hd : ∀ H D, Same H1 H → H1 D = none → H D = some (.lst ys) → Qd D H) :
    ∀ D, H1 D = none → ∃ W : Nat → Nat → Hp → Prop, (∃ m, W 0 m (upd H1 D (.lst []))) ∧ ∀ i m H, W i m H →
      (J.stop i H ∧ Qd D H) ∨ (J.go i H ∧ ∃ Nx : Hp → Prop, (∀ H', Nx H' → ∃ m', m' < m ∧ W (i + 1) m' H') ∧ ∀ x H', J.yld i H x H' → g x (wipe σ vs) H' fun σ2 H2 => wipe σ2 vs = wipe σ vs ∧ tYes σ2 H2 fun b H3 =>
        if b = true then te σ2 H3 fun y H4 => ∃ acc, H4 D = some (.lst acc) ∧ acc.length < sizeLine ∧ Nx (upd H4 D (.lst (acc ++ [y]))) else Nx H3) := by
  refine lc_acc w (fun i => ys.take i) (by simp) (fun i hi => ?_) hG ?_ (fun H D sm f h => hd H D sm f (by rw [h, List.take_of_length_le (by omega)]))
  · rw [List.length_take]; omega
  · intro i x H H' R Nn hi sm hY kR kN
    have g1 : ys[i]? = some ys[i] := List.getElem?_eq_getElem (by omega)
    exact hs i x H H' ys[i] R hi g1 sm hY fun H4 s4 => kR _ H4 s4 (take_next g1)
end Tl
end
section
/-! what a program does, as a function over trees of values: the trees, how they stand in the heap -/
namespace XM
open PySem PySem.Spec PyProof.Rows L2 Tl
abbrev D := PyData
/-- which addresses belong to whom (0 or 1 times) -/
abbrev Ft := Addr → Nat
def zer : Ft := fun _ => 0
def one (a : Addr) : Ft := fun b => if b = a then 1 else 0
def add (F G : Ft) : Ft := fun a => F a + G a
theorem one_self {a : Addr} : one a a = 1 := if_pos rfl
theorem one_ne {a b : Addr} (h : b ≠ a) : one a b = 0 := if_neg h
/-- the heap without what belongs to somebody -/
def hid (P : Ft) (H : Hp) : Hp := fun a => if P a = 0 then H a else none
theorem hid_some {P : Ft} {H : Hp} {a : Addr} {o : HO} (h : hid P H a = some o) : P a = 0 ∧ H a = some o := by
  unfold hid at h
  split at h
  · exact ⟨by assumption, h⟩
  · cases h
theorem hid_at {P : Ft} {H : Hp} {a : Addr} {o : HO} (p : P a = 0) (h : H a = some o) : hid P H a = some o := by
  unfold hid; rw [if_pos p]; exact h
theorem hid_sub {P : Ft} {H : Hp} : Same (hid P H) H := fun _ _ h => (hid_some h).2
theorem hid_mono {P P' : Ft} {H : Hp} (h : ∀ a, P a = 0 → P' a = 0) : Same (hid P H) (hid P' H) := fun a o e => by
  obtain ⟨p, e⟩ := hid_some e
  exact hid_at (h a p) e
mutual
/-- data that all may read: tracked lists, tuples -/
inductive Dq (K : PySem.W.Frag) (H : Hp) : V → D → Prop
  | non : Dq K H .non .none
  | bl (b : Bool) : Dq K H (.bl b) (.bool b)
  | int (i : Int) : Dq K H (.int i) (.int i)
  | str (x : Str) : Dq K H (.str x) (.str x)
  | lst {a : Addr} {xs : List V} {ds : List D} : H a = some (.lst xs) → DqAll K H xs ds → Dq K H (.ref a) (.list ds)
  | tup {a : Addr} {xs : List V} {ds : List D} : SqT K H a xs → DqAll K H xs ds → Dq K H (.ref a) (.tuple ds)
inductive DqAll (K : PySem.W.Frag) (H : Hp) : List V → List D → Prop
  | nil : DqAll K H [] []
  | cons {v : V} {vs : List V} {d : D} {ds : List D} : Dq K H v d → DqAll K H vs ds → DqAll K H (v :: vs) (d :: ds)
end
mutual
theorem Dq_p {K : PySem.W.Frag} {H : Hp} : ∀ {v : V} {d : D}, Dq K H v d → Dp K H v d
  | _, _, .non => .non
  | _, _, .bl b => .bl b
  | _, _, .int i => .int i
  | _, _, .str x => .str x
  | _, _, .lst h r => .lst (.of h) (DqAll_p r)
  | _, _, .tup h r => .tup h (DqAll_p r)
theorem DqAll_p {K : PySem.W.Frag} {H : Hp} : ∀ {vs : List V} {ds : List D}, DqAll K H vs ds → DpAll K H vs ds
  | _, _, .nil => .nil
  | _, _, .cons h r => .cons (Dq_p h) (DqAll_p r)
end
/-- a tree: what belongs to somebody, and the data in it -/
inductive T where
  | dat (d : D)
  | fn (x : Str)
  | dl (l : List D)
  | ol (l : List T)
  | ot (l : List T)
  | dd (l : List (Key × D))
  | od (l : List (Key × T))
  | ins (c : Str) (fs : List (Str × T))
  | gone
  | frz (ns : List Int)
  | hole (i : Nat)
mutual
theorem Dq_same {K : PySem.W.Frag} {H H' : Hp} (s : Same H H') : ∀ {v : V} {d : D}, Dq K H v d → Dq K H' v d
  | _, _, .non => .non
  | _, _, .bl b => .bl b
  | _, _, .int i => .int i
  | _, _, .str x => .str x
  | _, _, .lst h r => .lst (s _ _ h) (DqAll_same s r)
  | _, _, .tup h r => .tup (Tl.Same.tup s h) (DqAll_same s r)
theorem DqAll_same {K : PySem.W.Frag} {H H' : Hp} (s : Same H H') : ∀ {vs : List V} {ds : List D}, DqAll K H vs ds → DqAll K H' vs ds
  | _, _, .nil => .nil
  | _, _, .cons h r => .cons (Dq_same s h) (DqAll_same s r)
end
theorem DqAll_len {K : PySem.W.Frag} {H : Hp} : ∀ {vs : List V} {ds : List D}, DqAll K H vs ds → vs.length = ds.length
  | _, _, .nil => rfl
  | _, _, .cons _ r => by rw [List.length_cons, List.length_cons, DqAll_len r]
theorem DqAll_at {K : PySem.W.Frag} {H : Hp} : ∀ {vs : List V} {ds : List D} {i : Nat} {d : D}, DqAll K H vs ds → ds[i]? = some d → ∃ v, vs[i]? = some v ∧ Dq K H v d
  | _, _, _, _, .nil, h => by simp at h
  | _, _, 0, _, .cons a _, h => by simp at h; subst h; exact ⟨_, rfl, a⟩
  | _, _, i + 1, _, .cons _ r, h => by
    obtain ⟨v, e, q⟩ := DqAll_at (i := i) r (by simpa using h)
    exact ⟨v, by simpa using e, q⟩
theorem DqAll_app {K : PySem.W.Frag} {H : Hp} : ∀ {vs ws : List V} {ds es : List D}, DqAll K H vs ds → DqAll K H ws es → DqAll K H (vs ++ ws) (ds ++ es)
  | _, _, _, _, .nil, s => s
  | _, _, _, _, .cons a r, s => .cons a (DqAll_app r s)
theorem DqAll_take {K : PySem.W.Frag} {H : Hp} : ∀ {vs : List V} {ds : List D} (n : Nat), DqAll K H vs ds → DqAll K H (vs.take n) (ds.take n)
  | _, _, 0, _ => .nil
  | _, _, _ + 1, .nil => .nil
  | _, _, n + 1, .cons a r => .cons a (DqAll_take n r)
theorem DqAll_drop {K : PySem.W.Frag} {H : Hp} : ∀ {vs : List V} {ds : List D} (n : Nat), DqAll K H vs ds → DqAll K H (vs.drop n) (ds.drop n)
  | _, _, 0, r => r
  | _, _, _ + 1, .nil => .nil
  | _, _, n + 1, .cons _ r => DqAll_drop n r
theorem DqAll_rev {K : PySem.W.Frag} {H : Hp} : ∀ {vs : List V} {ds : List D}, DqAll K H vs ds → DqAll K H vs.reverse ds.reverse
  | _, _, .nil => .nil
  | _, _, .cons a r => by rw [List.reverse_cons, List.reverse_cons]; exact DqAll_app (DqAll_rev r) (.cons a .nil)
theorem DqAll_set {K : PySem.W.Frag} {H : Hp} {v : V} {d : D} (h : Dq K H v d) : ∀ {vs : List V} {ds : List D} (i : Nat), DqAll K H vs ds → DqAll K H (vs.set i v) (ds.set i d)
  | _, _, _, .nil => .nil
  | _, _, 0, .cons _ r => .cons h r
  | _, _, i + 1, .cons a r => .cons a (DqAll_set h i r)
/-- the module's names, and the values at holes -/
structure Mg where
  g : Str → Option Value
  η : Nat → V
mutual
/-- how a tree stands: G is what all may read -/
inductive TR (K : PySem.W.Frag) (mg : Mg) (G H : Hp) : T → V → Ft → Prop
  | dat {d : D} {v : V} : Dq K G v d → TR K mg G H (.dat d) v zer
  | fn {x : Str} {f : Addr} : mg.g x = some (.ref f) → TR K mg G H (.fn x) (.ref f) zer
  | dl {a : Addr} {vs : List V} {l : List D} : H a = some (.lst vs) → DqAll K G vs l → TR K mg G H (.dl l) (.ref a) (one a)
  | ol {a : Addr} {vs : List V} {l : List T} {F : Ft} : H a = some (.lst vs) → TRs K mg G H l vs F → TR K mg G H (.ol l) (.ref a) (add (one a) F)
  | ot {a : Addr} {vs : List V} {l : List T} {F : Ft} : G a = some (.tup vs) → TRs K mg G H l vs F → TR K mg G H (.ot l) (.ref a) F
  | dd {a : Addr} {kvs : List (Key × V)} {l : List (Key × D)} : H a = some (.dK kvs) → kvs.map (·.1) = l.map (·.1) → DqAll K G (kvs.map (·.2)) (l.map (·.2)) → TR K mg G H (.dd l) (.ref a) (one a)
  | od {a : Addr} {kvs : List (Key × V)} {l : List (Key × T)} {F : Ft} : H a = some (.dK kvs) → kvs.map (·.1) = l.map (·.1) → TRs K mg G H (l.map (·.2)) (kvs.map (·.2)) F → TR K mg G H (.od l) (.ref a) (add (one a) F)
  | ins {a C dx : Addr} {fvs : List (Str × V)} {c : Str} {fs : List (Str × T)} {F : Ft} : mg.g c = some (.ref C) → H a = some (.ins C dx fvs) → fvs.map (·.1) = fs.map (·.1) → TRs K mg G H (fs.map (·.2)) (fvs.map (·.2)) F → TR K mg G H (.ins c fs) (.ref a) (add (one a) F)
  | gone {v : V} : TR K mg G H .gone v zer
  | hole {i : Nat} : TR K mg G H (.hole i) (mg.η i) zer
  | frz {a : Addr} {ns : List Int} : SqL K G a (ns.map V.int) → TR K mg G H (.frz ns) (.ref a) zer
inductive TRs (K : PySem.W.Frag) (mg : Mg) (G H : Hp) : List T → List V → Ft → Prop
  | nil : TRs K mg G H [] [] zer
  | cons {t : T} {v : V} {F : Ft} {ts : List T} {vs : List V} {F' : Ft} : TR K mg G H t v F → TRs K mg G H ts vs F' → TRs K mg G H (t :: ts) (v :: vs) (add F F')
end
section
variable {K : PySem.W.Frag} {mm : Mg} {G G' H H' : Hp}
theorem add_l {F F' : Ft} {a : Addr} (h : F a ≠ 0) : add F F' a ≠ 0 := by unfold add; omega
theorem add_r {F F' : Ft} {a : Addr} (h : F' a ≠ 0) : add F F' a ≠ 0 := by unfold add; omega
theorem one_at {a : Addr} : one a a ≠ 0 := by rw [one_self]; decide
mutual
theorem TR.step (s : Same G G') : ∀ {t : T} {v : V} {F : Ft}, TR K mm G H t v F → (∀ a, F a ≠ 0 → H' a = H a) → TR K mm G' H' t v F
  | _, _, _, .dat h, _ => .dat (Dq_same s h)
  | _, _, _, .fn h, _ => .fn h
  | _, _, _, .dl h r, q => .dl (by rw [q _ one_at]; exact h) (DqAll_same s r)
  | _, _, _, .ol h r, q => .ol (by rw [q _ (add_l one_at)]; exact h) (TRs.step s r fun a z => q a (add_r z))
  | _, _, _, .ot h r, q => .ot (s _ _ h) (TRs.step s r q)
  | _, _, _, .dd h k r, q => .dd (by rw [q _ one_at]; exact h) k (DqAll_same s r)
  | _, _, _, .od h k r, q => .od (by rw [q _ (add_l one_at)]; exact h) k (TRs.step s r fun a z => q a (add_r z))
  | _, _, _, .ins c h k r, q => .ins c (by rw [q _ (add_l one_at)]; exact h) k (TRs.step s r fun a z => q a (add_r z))
  | _, _, _, .gone, _ => .gone
  | _, _, _, .hole, _ => .hole
  | _, _, _, .frz h, _ => .frz (s.seq h)
theorem TRs.step (s : Same G G') : ∀ {ts : List T} {vs : List V} {F : Ft}, TRs K mm G H ts vs F → (∀ a, F a ≠ 0 → H' a = H a) → TRs K mm G' H' ts vs F
  | _, _, _, .nil, _ => .nil
  | _, _, _, .cons h r, q => .cons (TR.step s h fun a z => q a (add_l z)) (TRs.step s r fun a z => q a (add_r z))
end
theorem TRs.len : ∀ {ts : List T} {vs : List V} {F : Ft}, TRs K mm G H ts vs F → ts.length = vs.length
  | _, _, _, .nil => rfl
  | _, _, _, .cons _ r => by rw [List.length_cons, List.length_cons, TRs.len r]
mutual
/-- a tree as data: what is read, what is given away for good -/
def T.view : T → Option D
  | .dat d => some d
  | .dl l => some (.list l)
  | .ol l => (viewAll l).map .list
  | .ot l => (viewAll l).map .tuple
  | _ => none
def viewAll : List T → Option (List D)
  | [] => some []
  | t :: ts => match t.view, viewAll ts with
    | some d, some ds => some (d :: ds)
    | _, _ => none
end
mutual
theorem TR.view (s : Same G G') : ∀ {t : T} {v : V} {F : Ft} {d : D}, TR K mm G H t v F → (∀ a o, F a ≠ 0 → H a = some o → G' a = some o) → t.view = some d → Dq K G' v d
  | _, _, _, _, .dat h, _, e => by unfold T.view at e; cases e; exact Dq_same s h
  | _, _, _, _, .dl h r, q, e => by unfold T.view at e; cases e; exact .lst (q _ _ one_at h) (DqAll_same s r)
  | _, _, _, _, .ol (l := l) h r, q, e => by
    unfold T.view at e
    cases e1 : viewAll l with
    | none => rw [e1] at e; cases e
    | some ds => rw [e1] at e; cases e; exact .lst (q _ _ (add_l one_at) h) (TRs.view s r (fun a o z => q a o (add_r z)) e1)
  | _, _, _, _, .ot (l := l) h r, q, e => by
    unfold T.view at e
    cases e1 : viewAll l with
    | none => rw [e1] at e; cases e
    | some ds => rw [e1] at e; cases e; exact .tup (.of (s _ _ h)) (TRs.view s r q e1)
  | _, _, _, _, .fn _, _, e => by unfold T.view at e; cases e
  | _, _, _, _, .dd _ _ _, _, e => by unfold T.view at e; cases e
  | _, _, _, _, .od _ _ _, _, e => by unfold T.view at e; cases e
  | _, _, _, _, .ins _ _ _ _, _, e => by unfold T.view at e; cases e
  | _, _, _, _, .gone, _, e => by unfold T.view at e; cases e
  | _, _, _, _, .frz _, _, e => by unfold T.view at e; cases e
theorem TRs.view (s : Same G G') : ∀ {ts : List T} {vs : List V} {F : Ft} {ds : List D}, TRs K mm G H ts vs F → (∀ a o, F a ≠ 0 → H a = some o → G' a = some o) → viewAll ts = some ds → DqAll K G' vs ds
  | _, _, _, _, .nil, _, e => by unfold viewAll at e; cases e; exact .nil
  | _, _, _, _, .cons (t := t) (ts := ts) h r, q, e => by
    unfold viewAll at e
    cases e1 : t.view with
    | none => rw [e1] at e; cases e
    | some d =>
      cases e2 : viewAll ts with
      | none => rw [e1, e2] at e; cases e
      | some ds => rw [e1, e2] at e; cases e; exact .cons (TR.view s h (fun a o z => q a o (add_l z)) e1) (TRs.view s r (fun a o z => q a o (add_r z)) e2)
end
/-! ### children -/
inductive Pl where
  | fld (f : Str) | idx (n : Nat) | key (k : Key)
  deriving DecidableEq
/-- the first pair with this key gets another value -/
def putA {κ β : Type} [DecidableEq κ] (k : κ) (x : β) : List (κ × β) → List (κ × β)
  | [] => []
  | p :: r => if p.1 = k then (p.1, x) :: r else p :: putA k x r
def getA {κ β : Type} [DecidableEq κ] (k : κ) : List (κ × β) → Option β
  | [] => none
  | p :: r => if p.1 = k then some p.2 else getA k r
def getc : Pl → T → Option T
  | .fld f, .ins _ fs => getA f fs
  | .idx n, .ol l => l[n]?
  | .idx n, .ot l => l[n]?
  | .key k, .od l => getA k l
  | _, _ => none
def setc (s : T) : Pl → T → T
  | .fld f, .ins c fs => .ins c (putA f s fs)
  | .idx n, .ol l => .ol (l.set n s)
  | .idx n, .ot l => .ot (l.set n s)
  | .key k, .od l => .od (putA k s l)
  | _, t => t
def chO : Pl → HO → Option V
  | .fld f, .ins _ _ fvs => getA f fvs
  | .idx n, .lst vs => vs[n]?
  | .idx n, .tup vs => vs[n]?
  | .key k, .dK kvs => getA k kvs
  | _, _ => none
def chAt (H : Hp) (v : V) (p : Pl) : Option V := match v with
  | .ref a => (H a).bind (chO p)
  | _ => none
theorem TRs.nth : ∀ {ts : List T} {vs : List V} {F : Ft} {n : Nat} {c : T}, TRs K mm G H ts vs F → ts[n]? = some c → ∃ vc Fc Fr, vs[n]? = some vc ∧ TR K mm G H c vc Fc ∧ F = add Fr Fc ∧ ∀ s Fs, TR K mm G H s vc Fs → TRs K mm G H (ts.set n s) vs (add Fr Fs)
  | _, _, _, _, _, .nil, h => by simp at h
  | _, _, _, 0, c, .cons (F := F1) (F' := F2) a r, h => by
    simp at h; subst h
    refine ⟨_, F1, F2, rfl, a, by funext x; show F1 x + F2 x = F2 x + F1 x; omega, fun s Fs hs => ?_⟩
    have e : add F2 Fs = add Fs F2 := by funext x; show F2 x + Fs x = Fs x + F2 x; omega
    rw [e]
    exact .cons hs r
  | _, _, _, n + 1, c, .cons (F := F1) (F' := F2) a r, h => by
    obtain ⟨vc, Fc, Fr, e1, e2, e3, k⟩ := TRs.nth (n := n) r (by simpa using h)
    refine ⟨vc, Fc, add F1 Fr, by simpa using e1, e2, by subst e3; funext x; show F1 x + (Fr x + Fc x) = (F1 x + Fr x) + Fc x; omega, fun s Fs hs => ?_⟩
    have e : add (add F1 Fr) Fs = add F1 (add Fr Fs) := by funext x; show F1 x + Fr x + Fs x = F1 x + (Fr x + Fs x); omega
    rw [e]
    exact .cons a (k s Fs hs)
theorem TRs.byKey {κ : Type} [DecidableEq κ] : ∀ {fs : List (κ × T)} {fvs : List (κ × V)} {F : Ft} {f : κ} {c : T}, fvs.map (·.1) = fs.map (·.1) → TRs K mm G H (fs.map (·.2)) (fvs.map (·.2)) F → getA f fs = some c →
    ∃ vc Fc Fr, getA f fvs = some vc ∧ TR K mm G H c vc Fc ∧ F = add Fr Fc ∧ ∀ s Fs, TR K mm G H s vc Fs → fvs.map (·.1) = (putA f s fs).map (·.1) ∧ TRs K mm G H ((putA f s fs).map (·.2)) (fvs.map (·.2)) (add Fr Fs)
  | [], _, _, _, _, _, _, h => by cases h
  | p :: fs, [], _, _, _, e, _, _ => by simp at e
  | p :: fs, q :: fvs, F, f, c, e, r, h => by
    obtain ⟨e1, e2⟩ : q.1 = p.1 ∧ fvs.map (·.1) = fs.map (·.1) := by simpa using e
    cases r with
    | cons a r =>
      rename_i F1 F2
      unfold getA at h ⊢
      by_cases z : p.1 = f
      · rw [if_pos z] at h
        rw [if_pos (e1.trans z)]
        cases h
        refine ⟨_, F1, F2, rfl, a, by funext x; show F1 x + F2 x = F2 x + F1 x; omega, fun s Fs hs => ?_⟩
        have e : add F2 Fs = add Fs F2 := by funext x; show F2 x + Fs x = Fs x + F2 x; omega
        rw [e]
        unfold putA
        rw [if_pos z]
        exact ⟨by simp [e1, e2], .cons hs r⟩
      · rw [if_neg z] at h
        rw [if_neg (by rw [e1]; exact z)]
        obtain ⟨vc, Fc, Fr, g1, g2, g3, k⟩ := TRs.byKey e2 r h
        refine ⟨vc, Fc, add F1 Fr, g1, g2, by subst g3; funext x; show F1 x + (Fr x + Fc x) = (F1 x + Fr x) + Fc x; omega, fun s Fs hs => ?_⟩
        have e : add (add F1 Fr) Fs = add F1 (add Fr Fs) := by funext x; show F1 x + Fr x + Fs x = F1 x + (Fr x + Fs x); omega
        rw [e]
        unfold putA
        rw [if_neg z]
        obtain ⟨k1, k2⟩ := k s Fs hs
        exact ⟨by simp [e1, k1], .cons a k2⟩
/-- a child of a tree, and another one in its place -/
theorem TR.child (sG : Same G H) {t : T} {v : V} {F : Ft} {p : Pl} {c : T} (h : TR K mm G H t v F) (g : getc p t = some c) : ∃ vc Fc Fr, chAt H v p = some vc ∧ TR K mm G H c vc Fc ∧ F = add Fr Fc ∧ ∀ s Fs, TR K mm G H s vc Fs → TR K mm G H (setc s p t) v (add Fr Fs) := by
  have as : ∀ {F1 F2 F3 : Ft}, add (add F1 F2) F3 = add F1 (add F2 F3) := by intro F1 F2 F3; funext x; show F1 x + F2 x + F3 x = F1 x + (F2 x + F3 x); omega
  cases h with
  | dat _ => cases p <;> cases g
  | fn _ => cases p <;> cases g
  | dl _ _ => cases p <;> cases g
  | dd _ _ _ => cases p <;> cases g
  | gone => cases p <;> cases g
  | hole => cases p <;> cases g
  | frz _ => cases p <;> cases g
  | ol ha r =>
    cases p with
    | idx n =>
      obtain ⟨vc, Fc, Fr, e1, e2, e3, k⟩ := TRs.nth r g
      exact ⟨vc, Fc, add (one _) Fr, by simp [chAt, ha, chO, e1], e2, by rw [e3, as], fun s Fs hs => by rw [as]; exact .ol ha (k s Fs hs)⟩
    | fld _ => cases g
    | key _ => cases g
  | ot ha r =>
    cases p with
    | idx n =>
      obtain ⟨vc, Fc, Fr, e1, e2, e3, k⟩ := TRs.nth r g
      exact ⟨vc, Fc, Fr, by simp [chAt, sG _ _ ha, chO, e1], e2, e3, fun s Fs hs => .ot ha (k s Fs hs)⟩
    | fld _ => cases g
    | key _ => cases g
  | od ha hk r =>
    cases p with
    | key n =>
      obtain ⟨vc, Fc, Fr, e1, e2, e3, k⟩ := TRs.byKey hk r g
      exact ⟨vc, Fc, add (one _) Fr, by simp [chAt, ha, chO, e1], e2, by rw [e3, as], fun s Fs hs => by rw [as]; exact .od ha (k s Fs hs).1 (k s Fs hs).2⟩
    | fld _ => cases g
    | idx _ => cases g
  | ins hc ha hk r =>
    cases p with
    | fld n =>
      obtain ⟨vc, Fc, Fr, e1, e2, e3, k⟩ := TRs.byKey hk r g
      exact ⟨vc, Fc, add (one _) Fr, by simp [chAt, ha, chO, e1], e2, by rw [e3, as], fun s Fs hs => by rw [as]; exact .ins hc ha (k s Fs hs).1 (k s Fs hs).2⟩
    | key _ => cases g
    | idx _ => cases g
/-- trees with places -/
def T.cont : T → Bool
  | .ol _ | .ot _ | .od _ | .ins _ _ => true
  | _ => false
theorem chAt_keep (s : Same G G') (sG : Same G H) (sG' : Same G' H') {t : T} {v : V} {F : Ft} (h : TR K mm G H t v F) (c : t.cont = true) (q : ∀ a, F a ≠ 0 → H' a = H a) (p : Pl) : chAt H' v p = chAt H v p := by
  cases h with
  | dat _ => cases c
  | fn _ => cases c
  | dl _ _ => cases c
  | dd _ _ _ => cases c
  | gone => cases c
  | hole => cases c
  | frz _ => cases c
  | ol ha r => simp only [chAt]; rw [q _ (add_l one_at)]
  | ot ha r => simp only [chAt]; rw [sG _ _ ha, sG' _ _ (s _ _ ha)]
  | od ha hk r => simp only [chAt]; rw [q _ (add_l one_at)]
  | ins hc ha hk r => simp only [chAt]; rw [q _ (add_l one_at)]
end
end XM
end
section
namespace XM
open PySem PySem.Spec PyProof.Rows L2 Tl
/-! states of a body, what stands for them, runs -/
structure Rt where
  t : T
  par : Option (Nat × Pl)
inductive Sl where
  | un | dat (d : D) | fn (x : Str) | ref (r : Nat)
structure Fr where
  sl : List Sl
  rt : List Rt
  np : Nat := 0
inductive R where
  | dat (d : D) | fn (x : Str) | own (t : T) | ref (r : Nat)
inductive Out (β : Type) where
  | ok (r : β) (ρ : Fr) | ex (c : Str) (ρ : Fr)
abbrev M (β : Type) := Fr → Option (Out β)
def bnd {β γ : Type} (m : M β) (k : β → M γ) : M γ := fun ρ => match m ρ with
  | none => none
  | some (.ex c ρ1) => some (.ex c ρ1)
  | some (.ok r ρ1) => k r ρ1
abbrev Al := List (V × Ft)
def al (A : Al) : Nat → Option V := fun r => (A[r]?).map (·.1)
def sumF : Al → Ft
  | [] => zer
  | x :: xs => add x.2 (sumF xs)
def tot (O : Ft) (A : Al) : Ft := add O (sumF A)
section
variable (K : PySem.W.Frag) (mg : Str → Option Value)
def SlOk (α : Nat → Option V) (G : Hp) (o : Option V) : Sl → Prop
  | .un => True
  | .dat d => ∃ v, o = some v ∧ Dq K G v d
  | .fn x => ∃ f, o = some (.ref f) ∧ mg x = some (.ref f)
  | .ref r => ∃ v, α r = some v ∧ o = some v
/-- the values of the parameters, those at holes -/
structure Bs where
  l : List V
  η : Nat → V
structure StC (B : Bs) (O : Ft) (A : Al) (ρ : Fr) (σ : L2.St) (H : Hp) : Prop where
  le1 : ∀ a, tot O A a ≤ 1
  al : ∀ a, tot O A a ≠ 0 → H a ≠ none
  len : A.length = ρ.rt.length
  rts : ∀ (r : Nat) (x : V × Ft) (t : Rt), A[r]? = some x → ρ.rt[r]? = some t → TR K ⟨mg, B.η⟩ (hid (tot O A) H) H t.t x.1 x.2
  par : ∀ (k j : Nat) (p : Pl) (x xj : Rt) (y z : V × Ft), ρ.rt[k]? = some x → x.par = some (j, p) → ρ.rt[j]? = some xj → xj.t.cont = true → A[k]? = some y → A[j]? = some z → chAt H z.1 p = some y.1
  parL : ∀ (m j : Nat) (p : Pl) (x : Rt), ρ.rt[m]? = some x → x.par = some (j, p) → j < ρ.rt.length
  bas : ∀ r v, B.l[r]? = some v → XM.al A r = some v
  bnp : B.l.length = ρ.np
  slen : σ.length = ρ.sl.length
  sls : ∀ (i : Nat) (s : Sl) (o : Option V), ρ.sl[i]? = some s → σ[i]? = some o → SlOk K mg (XM.al A) (hid (tot O A) H) o s
end
def RR (K : PySem.W.Frag) (mm : Mg) (α : Nat → Option V) (G H : Hp) (v : V) (F : Ft) : R → Prop
  | .dat d => F = zer ∧ Dq K G v d
  | .fn x => F = zer ∧ ∃ f, v = .ref f ∧ mm.g x = some (.ref f)
  | .own t => TR K mm G H t v F
  | .ref r => F = zer ∧ α r = some v
structure Sto (O : Ft) (A : Al) (H : Hp) (O' : Ft) (A' : Al) (H' : Hp) : Prop where
  out : ∀ a, O a ≠ 0 → H' a = H a
  sh : Same (hid (tot O A) H) (hid (tot O' A') H')
structure Stp (O : Ft) (A : Al) (H : Hp) (O' : Ft) (A' : Al) (H' : Hp) : Prop extends Sto O A H O' A' H' where
  al : ∀ r v, al A r = some v → XM.al A' r = some v
theorem Sto.refl {O : Ft} {A : Al} {H : Hp} : Sto O A H O A H := ⟨fun _ _ => rfl, Same.refl _⟩
theorem Sto.trans {O O1 O2 : Ft} {A A1 A2 : Al} {H H1 H2 : Hp} (a : Sto O A H O1 A1 H1) (b : Sto O1 A1 H1 O2 A2 H2) (h : ∀ a, O a ≠ 0 → O1 a ≠ 0) : Sto O A H O2 A2 H2 :=
  ⟨fun c n => (b.out c (h c n)).trans (a.out c n), a.sh.trans b.sh⟩
theorem Stp.refl {O : Ft} {A : Al} {H : Hp} : Stp O A H O A H := ⟨Sto.refl, fun _ _ h => h⟩
theorem Stp.trans {O O1 O2 : Ft} {A A1 A2 : Al} {H H1 H2 : Hp} (a : Stp O A H O1 A1 H1) (b : Stp O1 A1 H1 O2 A2 H2) (h : ∀ a, O a ≠ 0 → O1 a ≠ 0) : Stp O A H O2 A2 H2 :=
  ⟨a.toSto.trans b.toSto h, fun r v e => b.al r v (a.al r v e)⟩
section
variable {K : PySem.W.Frag} {mg : Str → Option Value} {mm : Mg}
/-- what must hold behind a run -/
def Aft {β : Type} (K : PySem.W.Frag) (mg : Str → Option Value) (B : Bs) (O : Ft) (A : Al) (σ : L2.St) (H : Hp) (E : XK) (ok : β → Fr → Prop) : Out β → Prop
  | .ok r ρ' => ok r ρ'
  | .ex c ρ' => ∀ C H' A', mg c = some (.ref C) → StC K mg B O A' ρ' σ H' → Sto O A H O A' H' → E (.ref C) none H'
def okE (K : PySem.W.Frag) (mg : Str → Option Value) (B : Bs) (O : Ft) (A : Al) (σ : L2.St) (H : Hp) (Q : VK) (r : R) (ρ' : Fr) : Prop :=
  ∀ v H' A' F, StC K mg B (add O F) A' ρ' σ H' → RR K ⟨mg, B.η⟩ (al A') (hid (tot (add O F) A') H') H' v F r → Stp O A H (add O F) A' H' → Q v H'
def okT (K : PySem.W.Frag) (mg : Str → Option Value) (B : Bs) (O : Ft) (A : Al) (σ : L2.St) (H : Hp) (Q : Bool → Hp → Prop) (r : Bool) (ρ' : Fr) : Prop :=
  ∀ H' A', StC K mg B O A' ρ' σ H' → Stp O A H O A' H' → Q r H'
/-- the reading of an expression whose run is m -/
def ERun (K : PySem.W.Frag) (mg : Str → Option Value) (m : M R) (E : XK) : TE := fun σ H Q => ∃ B O A ρ out, StC K mg B O A ρ σ H ∧ m ρ = some out ∧ Aft K mg B O A σ H E (okE K mg B O A σ H Q) out
structure DE (X : Cx) (E : XK) (e : Expr) (m : M R) : Prop where
  pe : PE X e (ERun X.K X.mg m E)
/-- a test -/
def TRun (K : PySem.W.Frag) (mg : Str → Option Value) (m : M Bool) (E : XK) : TT := fun σ H Q => ∃ B O A ρ out, StC K mg B O A ρ σ H ∧ m ρ = some out ∧ Aft K mg B O A σ H E (okT K mg B O A σ H Q) out
structure DT (X : Cx) (E : XK) (e : Expr) (m : M Bool) : Prop where
  pt : PT X e (TRun X.K X.mg m E)
structure DW (X : Cx) (E : XK) (e : Expr) (m : M Bool) : Prop where
  pw : PW X e (TRun X.K X.mg m E)
/-- arguments -/
inductive RRs (K : PySem.W.Frag) (mm : Mg) (α : Nat → Option V) (G H : Hp) : List V → Ft → List R → Prop
  | nil : RRs K mm α G H [] zer []
  | cons {v : V} {F : Ft} {r : R} {vs : List V} {F' : Ft} {rs : List R} : RR K mm α G H v F r → RRs K mm α G H vs F' rs → RRs K mm α G H (v :: vs) (add F F') (r :: rs)
def okA (K : PySem.W.Frag) (mg : Str → Option Value) (B : Bs) (O : Ft) (A : Al) (σ : L2.St) (H : Hp) (Q : List V → Hp → Prop) (rs : List R) (ρ' : Fr) : Prop :=
  ∀ vs H' A' F, StC K mg B (add O F) A' ρ' σ H' → RRs K ⟨mg, B.η⟩ (al A') (hid (tot (add O F) A') H') H' vs F rs → Stp O A H (add O F) A' H' → Q vs H'
def ARun (K : PySem.W.Frag) (mg : Str → Option Value) (m : M (List R)) (E : XK) : TA := fun σ H Q => ∃ B O A ρ out, StC K mg B O A ρ σ H ∧ m ρ = some out ∧ Aft K mg B O A σ H E (okA K mg B O A σ H Q) out
structure DA (X : Cx) (E : XK) (es : List Expr) (m : M (List R)) : Prop where
  pa : PA X es (ARun X.K X.mg m E)
end
/-! ### readings may be weakened -/
theorem pe_imp {X : Cx} {e : Expr} {t t' : TE} (h : PE X e t) (i : ∀ σ H Q, t' σ H Q → t σ H Q) : PE X e t' := ⟨fun pins s σ H Q I q => h.run pins s σ H Q I (i _ _ _ q)⟩
theorem pt_imp {X : Cx} {e : Expr} {t t' : TT} (h : PT X e t) (i : ∀ σ H Q, t' σ H Q → t σ H Q) : PT X e t' := ⟨fun pins s σ H Q I q => h.run pins s σ H Q I (i _ _ _ q)⟩
theorem pw_imp {X : Cx} {e : Expr} {t t' : TT} (h : PW X e t) (i : ∀ σ H Q, t' σ H Q → t σ H Q) : PW X e t' := ⟨fun wh pins s σ H Q I q => h.run wh pins s σ H Q I (i _ _ _ q)⟩
theorem pa_imp {X : Cx} {es : List Expr} {t t' : TA} (h : PA X es t) (i : ∀ σ H Q, t' σ H Q → t σ H Q) : PA X es t' := ⟨fun pos pins s σ H Q I q => h.run pos pins s σ H Q I (i _ _ _ q)⟩
/-! ### the state -/
section
variable {K : PySem.W.Frag} {mg : Str → Option Value} {mm : Mg} {B : Bs} {O O' : Ft} {A A' : Al} {ρ : Fr} {σ : L2.St} {H H' : Hp} {E : XK}
theorem tot_zero {a : Addr} (h : tot O A a = 0) : O a = 0 ∧ sumF A a = 0 := by unfold tot add at h; omega
theorem sumF_at : ∀ {A : Al} {r : Nat} {x : V × Ft} (a : Addr), A[r]? = some x → x.2 a ≤ sumF A a
  | [], _, _, _, h => by simp at h
  | y :: ys, 0, x, a, h => by simp at h; subst h; show y.2 a ≤ y.2 a + sumF ys a; omega
  | y :: ys, r + 1, x, a, h => by
    have := sumF_at (A := ys) (r := r) a (by simpa using h)
    show x.2 a ≤ y.2 a + sumF ys a
    omega
/-- the same roots, elsewhere -/
theorem StC.move (S : StC K mg B O A ρ σ H) (s : Same (hid (tot O A) H) (hid (tot O' A) H')) (k : ∀ a, sumF A a ≠ 0 → H' a = H a) (l : ∀ a, tot O' A a ≤ 1) (n : ∀ a, tot O' A a ≠ 0 → H' a ≠ none) : StC K mg B O' A ρ σ H' where
  le1 := l
  al := n
  len := S.len
  rts := fun r x t hx ht => (S.rts r x t hx ht).step s fun a z => k a (by have := sumF_at a hx; omega)
  par := fun k' j p x xj y z h1 h2 h3 h4 h5 h6 => by
    rw [chAt_keep s hid_sub hid_sub (S.rts j z xj h6 h3) h4 (fun a n => k a (by have := sumF_at a h6; omega)) p]
    exact S.par k' j p x xj y z h1 h2 h3 h4 h5 h6
  parL := S.parL
  bas := S.bas
  bnp := S.bnp
  slen := S.slen
  sls := fun i sl o h1 h2 => by
    have := S.sls i sl o h1 h2
    cases sl with
    | un => exact trivial
    | dat d => obtain ⟨v, e, h⟩ := this; exact ⟨v, e, Dq_same s h⟩
    | fn x => exact this
    | ref r => exact this
theorem hid_weak (h : ∀ a, O' a ≤ O a) : Same (hid (tot O A) H) (hid (tot O' A) H) := hid_mono fun a z => by unfold tot add at *; have := h a; omega
theorem StC.weak (S : StC K mg B O A ρ σ H) (h : ∀ a, O' a ≤ O a) : StC K mg B O' A ρ σ H :=
  S.move (hid_weak h) (fun _ _ => rfl) (fun a => by have := S.le1 a; have := h a; unfold tot add at *; omega) (fun a z => S.al a (by have := h a; unfold tot add at *; omega))
theorem StC.free (S : StC K mg B O A ρ σ H) {p : Addr} (np : H p = none) : tot O A p = 0 := by
  cases e : tot O A p with
  | zero => rfl
  | succ n => exact absurd np (S.al p (by rw [e]; simp))
/-- a new object that all may read -/
theorem StC.newS (S : StC K mg B O A ρ σ H) {p : Addr} {o : HO} (np : H p = none) : StC K mg B O A ρ σ (upd H p o) ∧ Stp O A H O A (upd H p o) ∧ (hid (tot O A) (upd H p o)) p = some o := by
  have z := S.free np
  have sh : Same (hid (tot O A) H) (hid (tot O A) (upd H p o)) := fun a u h => by
    obtain ⟨q, h⟩ := hid_some h
    exact hid_at q (by rw [upd_ne (ne_of_none h np)]; exact h)
  have k : ∀ a, tot O A a ≠ 0 → upd H p o a = H a := fun a n => upd_ne (fun e => n (by rw [e]; exact z))
  refine ⟨S.move sh (fun a n => k a (by unfold tot add; omega)) S.le1 (fun a n => by rw [k a n]; exact S.al a n), ⟨⟨fun a n => k a (by unfold tot add; omega), sh⟩, fun _ _ h => h⟩, hid_at z upd_same⟩
/-- a new object that belongs to its maker -/
theorem StC.newO (S : StC K mg B O A ρ σ H) {p : Addr} {o : HO} (np : H p = none) : StC K mg B (add O (one p)) A ρ σ (upd H p o) ∧ Stp O A H (add O (one p)) A (upd H p o) := by
  have z := S.free np
  have sh : Same (hid (tot O A) H) (hid (tot (add O (one p)) A) (upd H p o)) := fun a u h => by
    obtain ⟨q, h⟩ := hid_some h
    have ne := ne_of_none h np
    refine hid_at ?_ (by rw [upd_ne ne]; exact h)
    unfold tot add at *
    rw [one_ne ne]; omega
  have k : ∀ a, tot O A a ≠ 0 → upd H p o a = H a := fun a n => upd_ne (fun e => n (by rw [e]; exact z))
  refine ⟨S.move sh (fun a n => k a (by unfold tot add; omega)) (fun a => ?_) (fun a n => ?_), ⟨⟨fun a n => k a (by unfold tot add; omega), sh⟩, fun _ _ h => h⟩⟩
  · by_cases e : a = p
    · subst e
      unfold tot add at *
      rw [one_self]; omega
    · have := S.le1 a
      unfold tot add at *
      rw [one_ne e]; omega
  · by_cases e : a = p
    · subst e; rw [upd_same]; simp
    · rw [upd_ne e]
      refine S.al a ?_
      unfold tot add at *
      rw [one_ne e] at n; omega
theorem RR.step {F : Ft} {r : R} {v : V} {O1 O2 : Ft} (h : RR K mm (al A) (hid (tot O1 A) H) H v F r) (s : Stp O1 A H O2 A' H') (hf : ∀ a, F a ≠ 0 → O1 a ≠ 0) : RR K mm (al A') (hid (tot O2 A') H') H' v F r := by
  cases r with
  | dat d => exact ⟨h.1, Dq_same s.sh h.2⟩
  | fn x => exact h
  | own t => exact TR.step s.sh h fun a n => s.out a (hf a n)
  | ref r => exact ⟨h.1, s.al _ _ h.2⟩
theorem RRs.step {O1 O2 : Ft} (s : Stp O1 A H O2 A' H') : ∀ {vs : List V} {F : Ft} {rs : List R}, RRs K mm (al A) (hid (tot O1 A) H) H vs F rs → (∀ a, F a ≠ 0 → O1 a ≠ 0) → RRs K mm (al A') (hid (tot O2 A') H') H' vs F rs
  | _, _, _, .nil, _ => .nil
  | _, _, _, .cons h r, q => .cons (h.step s fun a z => q a (add_l z)) (RRs.step s r fun a z => q a (add_r z))
/-- what is pending may be forgotten -/
theorem Stp.weak {O1 : Ft} (s : Stp O A H O1 A' H') (h : ∀ a, O' a ≤ O1 a) : Stp O A H O' A' H' := ⟨⟨s.out, s.sh.trans (hid_weak h)⟩, s.al⟩
theorem Sto.weak {O1 : Ft} (s : Sto O A H O1 A' H') (h : ∀ a, O' a ≤ O1 a) : Sto O A H O' A' H' := ⟨s.out, s.sh.trans (hid_weak h)⟩
/-! ### views -/
def vw : R → Fr → Option D
  | .dat d, _ => some d
  | .own t, _ => t.view
  | .ref r, ρ => (ρ.rt[r]?).bind fun t => t.t.view
  | .fn _, _ => none
theorem StC.root (S : StC K mg B O A ρ σ H) {r : Nat} {t : Rt} {v : V} (h : ρ.rt[r]? = some t) (a : XM.al A r = some v) : ∃ F, A[r]? = some (v, F) ∧ TR K ⟨mg, B.η⟩ (hid (tot O A) H) H t.t v F := by
  unfold XM.al at a
  cases e : A[r]? with
  | none => rw [e] at a; cases a
  | some x =>
    rw [e] at a
    cases Option.some.inj a
    exact ⟨x.2, rfl, S.rts r x t e h⟩
theorem StC.view (S : StC K mg B O A ρ σ H) {r : R} {v : V} {F : Ft} {d : D} (h : RR K ⟨mg, B.η⟩ (XM.al A) (hid (tot O A) H) H v F r) (e : vw r ρ = some d) : Dq K H v d := by
  cases r with
  | dat d' => cases e; exact Dq_same hid_sub h.2
  | fn x => cases e
  | own t => exact TR.view hid_sub h (fun _ _ _ z => z) e
  | ref r =>
    simp only [vw] at e
    cases e1 : ρ.rt[r]? with
    | none => rw [e1] at e; cases e
    | some t =>
      rw [e1] at e
      obtain ⟨F', _, h'⟩ := S.root e1 h.2
      exact TR.view hid_sub h' (fun _ _ _ z => z) e
end
end XM
end
section
namespace XM
open PySem PySem.Spec PyProof.Rows L2 Tl
section
variable {K : PySem.W.Frag} {mg : Str → Option Value} {mm : Mg} {B : Bs} {O O' : Ft} {A A1 : Al} {ρ : Fr} {σ : L2.St} {H H1 : Hp} {E : XK} {β : Type}
/-- what an exception's way asks -/
def Exc (K : PySem.W.Frag) (mg : Str → Option Value) (B : Bs) (O : Ft) (A : Al) (σ : L2.St) (H : Hp) (E : XK) (out : Out β) : Prop :=
  ∀ c ρ', out = .ex c ρ' → ∀ C H' A', mg c = some (.ref C) → StC K mg B O A' ρ' σ H' → Sto O A H O A' H' → E (.ref C) none H'
theorem Aft.exc {ok : β → Fr → Prop} {out : Out β} (h : Aft K mg B O A σ H E ok out) : Exc K mg B O A σ H E out := fun c ρ' e => by subst e; exact h
theorem Aft.oks {ok : β → Fr → Prop} {r : β} {ρ' : Fr} (h : Aft K mg B O A σ H E ok (.ok r ρ')) : ok r ρ' := h
theorem zer_add {F : Ft} : add zer F = F := by funext a; show 0 + F a = F a; omega
theorem add_zer {F : Ft} : add F zer = F := by funext a; show F a + 0 = F a; omega
theorem add_assoc {F F1 F2 : Ft} : add (add F F1) F2 = add F (add F1 F2) := by funext a; show F a + F1 a + F2 a = F a + (F1 a + F2 a); omega
theorem le_add {F F1 : Ft} (a : Addr) : F a ≤ add F F1 a := by unfold add; omega
theorem Exc.later {out : Out β} {O1 : Ft} (h : Exc K mg B O A σ H E out) (s : Sto O A H O1 A1 H1) (le : ∀ a, O a ≤ O1 a) : Exc K mg B O1 A1 σ H1 E out := fun c ρ' e C H' A' hc S st =>
  h c ρ' e C H' A' hc (S.weak le) ((s.trans st (fun a n => by have := le a; omega)).weak le)
theorem aft_of {ok : β → Fr → Prop} {out : Out β} (h : Exc K mg B O A σ H E out) (k : ∀ r ρ', out = .ok r ρ' → ok r ρ') : Aft K mg B O A σ H E ok out := by
  cases out with
  | ok r ρ' => exact k r ρ' rfl
  | ex c ρ' => exact h c ρ' rfl
theorem bnd_some {γ : Type} {m : M β} {k : β → M γ} {out : Out γ} (h : bnd m k ρ = some out) : (∃ c ρ1, m ρ = some (.ex c ρ1) ∧ out = .ex c ρ1) ∨ ∃ r ρ1, m ρ = some (.ok r ρ1) ∧ k r ρ1 = some out := by
  unfold bnd at h
  split at h
  · cases h
  · rename_i c ρ1 e; exact .inl ⟨c, ρ1, e, (Option.some.inj h).symm⟩
  · rename_i r ρ1 e; exact .inr ⟨r, ρ1, e, h⟩
/-- an expression, then the rest -/
theorem run_bnd {γ : Type} {m : M R} {k : R → M γ} {out : Out γ} {Q : VK} (S : StC K mg B O A ρ σ H) (h : bnd m k ρ = some out) (x : Exc K mg B O A σ H E out)
    (c : ∀ r ρ1 v H1 A1 F, k r ρ1 = some out → StC K mg B (add O F) A1 ρ1 σ H1 → RR K ⟨mg, B.η⟩ (al A1) (hid (tot (add O F) A1) H1) H1 v F r → Stp O A H (add O F) A1 H1 → Exc K mg B (add O F) A1 σ H1 E out → Q v H1) : ERun K mg m E σ H Q := by
  rcases bnd_some h with ⟨c', ρ1, e, eo⟩ | ⟨r, ρ1, e, hk⟩
  · exact ⟨B, O, A, ρ, _, S, e, fun C H' A' hc S' st => x c' ρ1 eo C H' A' hc S' st⟩
  · exact ⟨B, O, A, ρ, _, S, e, fun v H1 A1 F S1 rr st => c r ρ1 v H1 A1 F hk S1 rr st (x.later st.toSto fun a => le_add a)⟩
theorem run_bndT {γ : Type} {m : M Bool} {k : Bool → M γ} {out : Out γ} {Q : Bool → Hp → Prop} (S : StC K mg B O A ρ σ H) (h : bnd m k ρ = some out) (x : Exc K mg B O A σ H E out)
    (c : ∀ r ρ1 H1 A1, k r ρ1 = some out → StC K mg B O A1 ρ1 σ H1 → Stp O A H O A1 H1 → Exc K mg B O A1 σ H1 E out → Q r H1) : TRun K mg m E σ H Q := by
  rcases bnd_some h with ⟨c', ρ1, e, eo⟩ | ⟨r, ρ1, e, hk⟩
  · exact ⟨B, O, A, ρ, _, S, e, fun C H' A' hc S' st => x c' ρ1 eo C H' A' hc S' st⟩
  · exact ⟨B, O, A, ρ, _, S, e, fun H1 A1 S1 st => c r ρ1 H1 A1 hk S1 st (x.later st.toSto fun a => Nat.le_refl _)⟩
theorem run_bndA {γ : Type} {m : M (List R)} {k : List R → M γ} {out : Out γ} {Q : List V → Hp → Prop} (S : StC K mg B O A ρ σ H) (h : bnd m k ρ = some out) (x : Exc K mg B O A σ H E out)
    (c : ∀ r ρ1 v H1 A1 F, k r ρ1 = some out → StC K mg B (add O F) A1 ρ1 σ H1 → RRs K ⟨mg, B.η⟩ (al A1) (hid (tot (add O F) A1) H1) H1 v F r → Stp O A H (add O F) A1 H1 → Exc K mg B (add O F) A1 σ H1 E out → Q v H1) : ARun K mg m E σ H Q := by
  rcases bnd_some h with ⟨c', ρ1, e, eo⟩ | ⟨r, ρ1, e, hk⟩
  · exact ⟨B, O, A, ρ, _, S, e, fun C H' A' hc S' st => x c' ρ1 eo C H' A' hc S' st⟩
  · exact ⟨B, O, A, ρ, _, S, e, fun v H1 A1 F S1 rr st => c r ρ1 v H1 A1 F hk S1 rr st (x.later st.toSto fun a => le_add a)⟩
/-- the end of an expression: data in the heap as it is -/
theorem fin_dat {Q : VK} {d : D} {ρ' : Fr} {v : V} {O1 : Ft} (k : okE K mg B O A σ H Q (.dat d) ρ') (S : StC K mg B O1 A1 ρ' σ H1) (le : ∀ a, O a ≤ O1 a) (st : Stp O A H O1 A1 H1) (h : Dq K (hid (tot O A1) H1) v d) : Q v H1 := by
  have S' : StC K mg B (add O zer) A1 ρ' σ H1 := by rw [add_zer]; exact S.weak le
  exact k v H1 A1 zer S' ⟨rfl, by rw [add_zer]; exact h⟩ (by rw [add_zer]; exact st.weak le)
def atomD : D → Bool
  | .none | .bool _ | .int _ | .str _ => true
  | _ => false
theorem atom_any {H' : Hp} {v : V} {d : D} (h : Dq K H v d) (a : atomD d = true) : Dq K H' v d := by
  cases h with
  | non => exact .non
  | bl b => exact .bl b
  | int i => exact .int i
  | str x => exact .str x
  | lst _ _ => cases a
  | tup _ _ => cases a
end
theorem at_len {α γ : Type} {l : List α} {l' : List γ} {i : Nat} {x : γ} (e : l.length = l'.length) (h : l'[i]? = some x) : ∃ y, l[i]? = some y := by
  obtain ⟨hi, _⟩ := List.getElem?_eq_some_iff.mp h
  exact ⟨_, List.getElem?_eq_getElem (by rw [e]; exact hi)⟩
/-! ### names and constants -/
def mSlot (i : Nat) : M R := fun ρ => match ρ.sl[i]? with
  | some (.dat d) => some (.ok (.dat d) ρ)
  | some (.fn x) => some (.ok (.fn x) ρ)
  | some (.ref r) => match ρ.rt[r]? with
    | some _ => some (.ok (.ref r) ρ)
    | none => none
  | _ => none
def mC (d : D) : M R := fun ρ => some (.ok (.dat d) ρ)
def mF (x : Str) : M R := fun ρ => some (.ok (.fn x) ρ)
section
variable {X : Cx} {E : XK} {e a b : Expr} {pos : Pos}
theorem de_slot {i : Nat} {x : Str} (hN : X.N[i]? = some x) (hv : Vis X.env.scope x) (hd : (x == ("__debug__" : Str)) = false := by decide) (hcd : (x == ("__classdict__" : Str)) = false := by decide) : DE X E (.Name x pos) (mSlot i) := by
  refine ⟨pe_imp (pe_var hN hv hd hcd) fun σ H Q h => ?_⟩
  obtain ⟨B, O, A, ρ, out, S, hm, k⟩ := h
  unfold mSlot at hm
  split at hm
  · rename_i d hs
    obtain rfl := Option.some.inj hm
    obtain ⟨o, hσ⟩ := at_len S.slen hs
    obtain ⟨v, e, h⟩ := S.sls i _ _ hs hσ
    exact ⟨v, by rw [hσ, e], fin_dat k.oks S (fun _ => Nat.le_refl _) Stp.refl h⟩
  · rename_i y hs
    obtain rfl := Option.some.inj hm
    obtain ⟨o, hσ⟩ := at_len S.slen hs
    obtain ⟨f, e, h⟩ := S.sls i _ _ hs hσ
    exact ⟨_, by rw [hσ, e], k.oks _ H A zer (by rw [add_zer]; exact S) ⟨rfl, f, rfl, h⟩ (by rw [add_zer]; exact Stp.refl)⟩
  · rename_i r hs
    split at hm
    · rename_i t ht
      obtain rfl := Option.some.inj hm
      obtain ⟨o, hσ⟩ := at_len S.slen hs
      obtain ⟨v, e1, e⟩ := S.sls i _ _ hs hσ
      exact ⟨_, by rw [hσ, e], k.oks _ H A zer (by rw [add_zer]; exact S) ⟨rfl, e1⟩ (by rw [add_zer]; exact Stp.refl)⟩
    · cases hm
  · cases hm
theorem de_const {v : V} {d : D} (h : PE X e (tC v)) (hd : ∀ K G, Dq K G v d) : DE X E e (mC d) := by
  refine ⟨pe_imp h fun σ H Q h => ?_⟩
  obtain ⟨B, O, A, ρ, out, S, hm, k⟩ := h
  obtain rfl := Option.some.inj hm
  exact fin_dat k.oks S (fun _ => Nat.le_refl _) Stp.refl (hd _ _)
theorem de_int {i : Int} {j pos} : DE X E (.Constant (.int i) j pos) (mC (.int i)) := de_const pe_int fun _ _ => .int i
theorem de_str {x : Str} {j pos} : DE X E (.Constant (.str x) j pos) (mC (.str x)) := de_const pe_str fun _ _ => .str x
theorem de_bl {b : Bool} {j pos} : DE X E (.Constant (.bool b) j pos) (mC (.bool b)) := de_const pe_bl fun _ _ => .bl b
theorem de_non {j pos} : DE X E (.Constant .none j pos) (mC .none) := de_const pe_non fun _ _ => .non
/-- a module's constant -/
def CD (K : PySem.W.Frag) (mg : Str → Option Value) (x : Str) (d : D) : Prop := ∃ u v, mg x = some u ∧ RelV v u ∧ ∀ G, Dq K G v d
theorem de_glob {x : Str} {d : D} (c : CD X.K X.mg x d) (hg : Gl X x) (hd : (x == ("__debug__" : Str)) = false := by decide) : DE X E (.Name x pos) (mC d) := by
  obtain ⟨u, v, hm, r, h⟩ := c
  refine ⟨pe_imp (pe_glob hg hm r hd) fun σ H Q hq => ?_⟩
  obtain ⟨B, O, A, ρ, out, S, hm, k⟩ := hq
  obtain rfl := Option.some.inj hm
  exact fin_dat k.oks S (fun _ => Nat.le_refl _) Stp.refl (h _)
/-! ### operators on data, with an atom as result -/
def OpA (K : PySem.W.Frag) (r : R2) (f : D → D → Option D) : Prop := ∀ (H : Hp) (x y : V) (d e z : D) (Q : VK), Dq K H x d → Dq K H y e → f d e = some z → (∀ v, Dq K H v z → Q v H) → r x y H Q
def mOp (f : D → D → Option D) (ma mb : M R) : M R := bnd ma fun ra => bnd mb fun rb ρ => match vw ra ρ, vw rb ρ with
  | some d, some e => match f d e with
    | some z => if atomD z = true then some (.ok (.dat z) ρ) else none
    | none => none
  | _, _ => none
theorem mOp_ok {f : D → D → Option D} {ra rb : R} {ρ : Fr} {out : Out R} (h : (match vw ra ρ, vw rb ρ with
  | some d, some e => match f d e with
    | some z => if atomD z = true then some (Out.ok (R.dat z) ρ) else none
    | none => none
  | _, _ => none) = some out) : ∃ d e z, vw ra ρ = some d ∧ vw rb ρ = some e ∧ f d e = some z ∧ atomD z = true ∧ out = .ok (.dat z) ρ := by
  split at h
  · rename_i d e h1 h2
    split at h
    · rename_i z h3
      split at h
      · exact ⟨d, e, z, h1, h2, h3, by assumption, (Option.some.inj h).symm⟩
      · cases h
    · cases h
  · cases h
theorem run_op {r : R2} {f : D → D → Option D} {ma mb : M R} {σ : L2.St} {H : Hp} {Q : VK} (hf : OpA X.K r f) (h : ERun X.K X.mg (mOp f ma mb) E σ H Q) : tOp r (ERun X.K X.mg ma E) (ERun X.K X.mg mb E) σ H Q := by
  obtain ⟨B, O, A, ρ, out, S, hm, k⟩ := h
  refine run_bnd S hm k.exc fun ra ρ1 v H1 A1 F hk S1 rr1 st1 x1 => ?_
  refine run_bnd S1 hk x1 fun rb ρ2 w H2 A2 F2 hk2 S2 rr2 st2 x2 => ?_
  obtain ⟨d, e, z, e1, e2, e3, az, rfl⟩ := mOp_ok hk2
  have rr1' := rr1.step st2 (fun a n => add_r n)
  refine hf H2 v w d e z Q (S2.view rr1' e1) (S2.view rr2 e2) e3 fun u hu => ?_
  exact fin_dat k.oks S2 (fun a => by have := le_add (F := O) (F1 := F) a; have := le_add (F := add O F) (F1 := F2) a; omega) (st1.trans st2 fun a n => add_l n) (atom_any hu az)
theorem de_op {op : Operator} {r : R2} {f : D → D → Option D} {ma mb : M R} (ho : OpR X (binaryOp op) r) (hf : OpA X.K r f) (ha : DE X E a ma) (hb : DE X E b mb) : DE X E (.BinOp a op b pos) (mOp f ma mb) :=
  ⟨pe_imp (pe_op ho ha.pe hb.pe) fun _ _ _ h => run_op hf h⟩
theorem de_cmp {op : CmpOp} {r : R2} {f : D → D → Option D} {ma mb : M R} (ho : OpR X (compareOp op) r) (hf : OpA X.K r f) (hm : behindInMarks op b = false) (ha : DE X E a ma) (hb : DE X E b mb) : DE X E (.Compare a [op] [b] pos) (mOp f ma mb) :=
  ⟨pe_imp (pe_cmpR ho ha.pe hb.pe hm) fun _ _ _ h => run_op hf h⟩
/-! ### tests -/
def asB (m : M R) : M Bool := bnd m fun r ρ => match vw r ρ with
  | some (.bool b) => some (.ok b ρ)
  | _ => none
theorem asB_ok {r : R} {ρ : Fr} {out : Out Bool} (h : (match vw r ρ with
  | some (.bool b) => some (Out.ok b ρ)
  | _ => none) = some out) : ∃ b, vw r ρ = some (.bool b) ∧ out = .ok b ρ := by
  split at h
  · exact ⟨_, by assumption, (Option.some.inj h).symm⟩
  · cases h
theorem run_tB {m : M R} {σ : L2.St} {H : Hp} {Q : Bool → Hp → Prop} (h : TRun X.K X.mg (asB m) E σ H Q) : tB (ERun X.K X.mg m E) σ H Q := by
  obtain ⟨B, O, A, ρ, out, S, hm, k⟩ := h
  refine run_bnd S hm k.exc fun r ρ1 v H1 A1 F hk S1 rr1 st1 x1 => ?_
  obtain ⟨b, e1, rfl⟩ := asB_ok hk
  have := S1.view rr1 e1
  cases this
  exact ⟨b, rfl, k.oks H1 A1 (S1.weak fun a => le_add a) (st1.weak fun a => le_add a)⟩
theorem dt_val {m : M R} (h : DE X E e m) (he : ∀ whole, isTrue e X.env whole = (do let v ← whole; standAt e.pos; holding [v] (truthy v)) := by intro _; rfl) : DT X E e (asB m) :=
  ⟨pt_imp (pt_val h.pe he) fun _ _ _ h => run_tB h⟩
theorem dt_cmp {op : CmpOp} {r : R2} {f : D → D → Option D} {ma mb : M R} (ho : OpR X (compareOp op) r) (hf : OpA X.K r f) (hm : behindInMarks op b = false) (ha : DE X E a ma) (hb : DE X E b mb) : DT X E (.Compare a [op] [b] pos) (asB (mOp f ma mb)) := by
  refine ⟨pt_imp (pt_cmpR ho ha.pe hb.pe hm) fun σ H Q h => ?_⟩
  have h' : tB (ERun X.K X.mg (mOp f ma mb) E) σ H Q := run_tB h
  exact run_op hf h'
def mNotT (m : M Bool) : M Bool := bnd m fun b ρ => some (.ok (!b) ρ)
theorem dt_not {m : M Bool} (h : DT X E a m) : DT X E (.UnaryOp .Not a pos) (mNotT m) := by
  refine ⟨pt_imp (pt_not h.pt) fun σ H Q h => ?_⟩
  obtain ⟨B, O, A, ρ, out, S, hm, k⟩ := h
  refine run_bndT S hm k.exc fun b ρ1 H1 A1 hk S1 st1 x1 => ?_
  obtain rfl := Option.some.inj hk
  exact k.oks H1 A1 S1 st1
def mAndT (ma mb : M Bool) : M Bool := bnd ma fun b => if b = true then mb else fun ρ => some (.ok false ρ)
def mOrT (ma mb : M Bool) : M Bool := bnd ma fun b => if b = true then fun ρ => some (.ok true ρ) else mb
theorem TRun.of {m : M Bool} {B : Bs} {O O1 : Ft} {A A1 : Al} {ρ1 : Fr} {σ : L2.St} {H H1 : Hp} {out : Out Bool} {Q : Bool → Hp → Prop} (k : Aft X.K X.mg B O A σ H E (okT X.K X.mg B O A σ H Q) out) (S1 : StC X.K X.mg B O A1 ρ1 σ H1) (st : Stp O A H O A1 H1) (h : m ρ1 = some out) : TRun X.K X.mg m E σ H1 Q :=
  ⟨B, O, A1, ρ1, out, S1, h, aft_of (k.exc.later st.toSto fun _ => Nat.le_refl _) fun r ρ' e H' A' S' st' => by subst e; exact k.oks H' A' S' (st.trans st' fun _ n => n)⟩
theorem dw_and {rest : List Expr} {ma mb : M Bool} (ha : DT X E a ma) (hb : DW X E (.BoolOp .And (b :: rest) pos) mb) : DW X E (.BoolOp .And (a :: b :: rest) pos) (mAndT ma mb) := by
  refine ⟨pw_imp (pw_and ha.pt hb.pw) fun σ H Q h => ?_⟩
  obtain ⟨B, O, A, ρ, out, S, hm, k⟩ := h
  refine run_bndT S hm k.exc fun c ρ1 H1 A1 hk S1 st1 x1 => ?_
  cases c with
  | true => exact TRun.of (O1 := O) k S1 st1 hk
  | false =>
    obtain rfl := Option.some.inj hk
    exact k.oks H1 A1 S1 st1
theorem dw_or {rest : List Expr} {ma mb : M Bool} (ha : DT X E a ma) (hb : DW X E (.BoolOp .Or (b :: rest) pos) mb) : DW X E (.BoolOp .Or (a :: b :: rest) pos) (mOrT ma mb) := by
  refine ⟨pw_imp (pw_or ha.pt hb.pw) fun σ H Q h => ?_⟩
  obtain ⟨B, O, A, ρ, out, S, hm, k⟩ := h
  refine run_bndT S hm k.exc fun c ρ1 H1 A1 hk S1 st1 x1 => ?_
  cases c with
  | false => exact TRun.of (O1 := O) k S1 st1 hk
  | true =>
    obtain rfl := Option.some.inj hk
    exact k.oks H1 A1 S1 st1
theorem dw_and1 {ma : M Bool} (ha : DT X E a ma) : DW X E (.BoolOp .And [a] pos) ma := ⟨pw_and1 ha.pt⟩
theorem dw_or1 {ma : M Bool} (ha : DT X E a ma) : DW X E (.BoolOp .Or [a] pos) ma := ⟨pw_or1 ha.pt⟩
theorem DW.dt {m : M Bool} (h : DW X E e m) : DT X E e m := ⟨h.pw.pt⟩
end
end XM
end
section
namespace XM
open PySem PySem.Spec PyProof.Rows L2 Tl
section
variable {K : PySem.W.Frag} {mg : Str → Option Value} {mm : Mg} {B : Bs} {O O' : Ft} {A A' A1 : Al} {ρ ρ1 : Fr} {σ : L2.St} {H H' H1 : Hp} {E : XK} {β : Type}
theorem sumF_set : ∀ {A : Al} {n : Nat} {x y : V × Ft} (a : Addr), A[n]? = some x → sumF (A.set n y) a + x.2 a = sumF A a + y.2 a
  | [], _, _, _, _, h => by simp at h
  | z :: zs, 0, x, y, a, h => by simp at h; subst h; show y.2 a + sumF zs a + z.2 a = z.2 a + sumF zs a + y.2 a; omega
  | z :: zs, n + 1, x, y, a, h => by
    have := sumF_set (A := zs) (n := n) (y := y) a (by simpa using h)
    show z.2 a + sumF (zs.set n y) a + x.2 a = z.2 a + sumF zs a + y.2 a
    omega
theorem sumF_two : ∀ {A : Al} {n m : Nat} {x y : V × Ft} (a : Addr), n ≠ m → A[n]? = some x → A[m]? = some y → x.2 a + y.2 a ≤ sumF A a
  | [], _, _, _, _, _, _, h, _ => by simp at h
  | z :: zs, 0, 0, _, _, _, n, _, _ => absurd rfl n
  | z :: zs, 0, m + 1, x, y, a, _, h1, h2 => by
    simp at h1; subst h1
    have := sumF_at (A := zs) (r := m) a (by simpa using h2)
    show z.2 a + y.2 a ≤ z.2 a + sumF zs a
    omega
  | z :: zs, n + 1, 0, x, y, a, _, h1, h2 => by
    simp at h2; subst h2
    have := sumF_at (A := zs) (r := n) a (by simpa using h1)
    show x.2 a + z.2 a ≤ z.2 a + sumF zs a
    omega
  | z :: zs, n + 1, m + 1, x, y, a, ne, h1, h2 => by
    have := sumF_two (A := zs) (n := n) (m := m) a (by omega) (by simpa using h1) (by simpa using h2)
    show x.2 a + y.2 a ≤ z.2 a + sumF zs a
    omega
theorem sumF_app : ∀ {A B : Al} (a : Addr), sumF (A ++ B) a = sumF A a + sumF B a
  | [], _, a => by show _ = 0 + _; rw [List.nil_append]; omega
  | x :: xs, B, a => by
    have := sumF_app (A := xs) (B := B) a
    show x.2 a + sumF (xs ++ B) a = x.2 a + sumF xs a + sumF B a
    omega
theorem al_set {n : Nat} {v : V} {F F' : Ft} (h : A[n]? = some (v, F)) : al (A.set n (v, F')) = al A := by
  funext r
  unfold al
  rw [List.getElem?_set]
  by_cases e : n = r
  · subst e
    obtain ⟨hi, _⟩ := List.getElem?_eq_some_iff.mp h
    rw [if_pos rfl, if_pos hi, h]; rfl
  · rw [if_neg e]
/-- another tree at a root -/
theorem StC.setR (S : StC K mg B O A ρ σ H) {n : Nat} {v : V} {F F' : Ft} {x : Rt} {t' : T} (hA : A[n]? = some (v, F)) (hx : ρ.rt[n]? = some x)
    (s : Same (hid (tot O A) H) (hid (tot O' (A.set n (v, F'))) H')) (k : ∀ a, sumF A a ≠ 0 → F a = 0 → H' a = H a) (l : ∀ a, tot O' (A.set n (v, F')) a ≤ 1) (nn : ∀ a, tot O' (A.set n (v, F')) a ≠ 0 → H' a ≠ none)
    (ht : TR K ⟨mg, B.η⟩ (hid (tot O' (A.set n (v, F'))) H') H' t' v F')
    (hp : t'.cont = true → ∀ (m : Nat) (p : Pl) (y : Rt) (z : V × Ft), ρ.rt[m]? = some y → y.par = some (n, p) → A[m]? = some z → chAt H' v p = some z.1) :
    StC K mg B O' (A.set n (v, F')) { ρ with rt := ρ.rt.set n ⟨t', x.par⟩ } σ H' := by
  obtain ⟨hn, _⟩ := List.getElem?_eq_some_iff.mp hA
  obtain ⟨hn', _⟩ := List.getElem?_eq_some_iff.mp hx
  have other : ∀ (m : Nat) (z : V × Ft), m ≠ n → A[m]? = some z → ∀ a, z.2 a ≠ 0 → H' a = H a := fun m z ne hm a hz => by
    have h2 : z.2 a + F a ≤ sumF A a := sumF_two a ne hm hA
    have h1 := S.le1 a
    unfold tot add at h1
    exact k a (by omega) (by omega)
  have getA : ∀ (m : Nat) (z : V × Ft), (A.set n (v, F'))[m]? = some z → (m = n ∧ z = (v, F')) ∨ (m ≠ n ∧ A[m]? = some z) := fun m z h => by
    rw [List.getElem?_set] at h
    by_cases e : n = m
    · rw [if_pos e, if_pos (e ▸ hn)] at h; exact .inl ⟨e.symm, (Option.some.inj h).symm⟩
    · rw [if_neg e] at h; exact .inr ⟨fun z => e z.symm, h⟩
  have getR : ∀ (m : Nat) (z : Rt), (ρ.rt.set n ⟨t', x.par⟩)[m]? = some z → (m = n ∧ z = ⟨t', x.par⟩) ∨ (m ≠ n ∧ ρ.rt[m]? = some z) := fun m z h => by
    rw [List.getElem?_set] at h
    by_cases e : n = m
    · rw [if_pos e, if_pos (e ▸ hn')] at h; exact .inl ⟨e.symm, (Option.some.inj h).symm⟩
    · rw [if_neg e] at h; exact .inr ⟨fun z => e z.symm, h⟩
  have valA : ∀ (m : Nat) (z : V × Ft), (A.set n (v, F'))[m]? = some z → ∃ z', A[m]? = some z' ∧ z'.1 = z.1 := fun m z h => by
    rcases getA m z h with ⟨rfl, rfl⟩ | ⟨_, h⟩
    · exact ⟨_, hA, rfl⟩
    · exact ⟨z, h, rfl⟩
  have parR : ∀ (m : Nat) (z : Rt), (ρ.rt.set n ⟨t', x.par⟩)[m]? = some z → ∃ z', ρ.rt[m]? = some z' ∧ z'.par = z.par := fun m z h => by
    rcases getR m z h with ⟨rfl, rfl⟩ | ⟨_, h⟩
    · exact ⟨_, hx, rfl⟩
    · exact ⟨z, h, rfl⟩
  refine ⟨l, nn, by simp [S.len], fun r y t h1 h2 => ?_, fun m j p y yj z w h1 h2 h3 h4 h5 h6 => ?_, fun m j p y h1 h2 => ?_, fun r u h => by rw [al_set hA]; exact S.bas r u h, S.bnp, S.slen, fun i sl o h1 h2 => ?_⟩
  · rcases getA r y h1 with ⟨rfl, rfl⟩ | ⟨ne, h1⟩
    · rcases getR _ t h2 with ⟨_, rfl⟩ | ⟨ne, _⟩
      · exact ht
      · exact absurd rfl ne
    · rcases getR r t h2 with ⟨e, _⟩ | ⟨_, h2⟩
      · exact absurd e ne
      · exact (S.rts r y t h1 h2).step s (other r y ne h1)
  · obtain ⟨z', hz, ez⟩ := valA m z h5
    obtain ⟨y', hy, ey⟩ := parR m y h1
    rw [← ez]
    rcases getR j yj h3 with ⟨rfl, rfl⟩ | ⟨nj, h3⟩
    · rcases getA _ w h6 with ⟨_, rfl⟩ | ⟨ne, _⟩
      · exact hp h4 m p y' z' hy (ey.trans h2) hz
      · exact absurd rfl ne
    · rcases getA j w h6 with ⟨e, _⟩ | ⟨_, h6⟩
      · exact absurd e nj
      · rw [chAt_keep s hid_sub hid_sub (S.rts j w yj h6 h3) h4 (other j w nj h6) p]
        exact S.par m j p y' yj z' w hy (ey.trans h2) h3 h4 hz h6
  · obtain ⟨y', hy, ey⟩ := parR m y h1
    rw [List.length_set]
    exact S.parL m j p y' hy (ey.trans h2)
  · have := S.sls i sl o h1 h2
    rw [al_set hA]
    cases sl with
    | un => exact trivial
    | dat d => obtain ⟨v, e, h⟩ := this; exact ⟨v, e, Dq_same s h⟩
    | fn x => exact this
    | ref r => exact this
/-- the same tree's places, the heap as it is -/
theorem StC.par0 (S : StC K mg B O A ρ σ H) {n : Nat} {v : V} {F : Ft} {x : Rt} (hA : A[n]? = some (v, F)) (hx : ρ.rt[n]? = some x) (c : x.t.cont = true) :
    ∀ (m : Nat) (p : Pl) (y : Rt) (z : V × Ft), ρ.rt[m]? = some y → y.par = some (n, p) → A[m]? = some z → chAt H v p = some z.1 := fun m p y z h1 h2 h3 => S.par m n p y x z (v, F) h1 h2 hx c h3 hA
theorem tot_set {n : Nat} {v : V} {F F' O2 : Ft} (h : A[n]? = some (v, F)) (e : ∀ a, O2 a + F' a = O a + F a) : tot O2 (A.set n (v, F')) = tot O A := by
  funext a
  have h1 := sumF_set (y := (v, F')) a h
  have h2 := sumF_at a h
  have h3 := e a
  dsimp only at h1 h2
  show O2 a + sumF (A.set n (v, F')) a = O a + sumF A a
  omega
/-- a root is taken out -/
theorem StC.take (S : StC K mg B O A ρ σ H) {n : Nat} {v : V} {F : Ft} {x : Rt} (hA : A[n]? = some (v, F)) (hx : ρ.rt[n]? = some x) :
    StC K mg B (add O F) (A.set n (v, zer)) { ρ with rt := ρ.rt.set n ⟨.gone, x.par⟩ } σ H ∧ tot (add O F) (A.set n (v, zer)) = tot O A ∧ TR K ⟨mg, B.η⟩ (hid (tot O A) H) H x.t v F := by
  have e : tot (add O F) (A.set n (v, zer)) = tot O A := tot_set hA fun a => by show O a + F a + 0 = _; omega
  refine ⟨S.setR hA hx (by rw [e]; exact Same.refl _) (fun _ _ _ => rfl) (by rw [e]; exact S.le1) (by rw [e]; exact S.al) .gone (fun c => nomatch c), e, S.rts n _ _ hA hx⟩
/-- behind a push the old roots stand as before -/
theorem al_push {x : V × Ft} {r : Nat} {v : V} (h : al A r = some v) : al (A ++ [x]) r = some v := by
  unfold al at h ⊢
  have q : r < A.length := by
    cases e1 : A[r]? with
    | none => rw [e1] at h; cases h
    | some z => exact (List.getElem?_eq_some_iff.mp e1).1
  rw [List.getElem?_append_left q]
  exact h
/-- a new root -/
theorem StC.push (S : StC K mg B (add O F) A ρ σ H) {t : T} {v : V} {pr : Option (Nat × Pl)} (ht : TR K ⟨mg, B.η⟩ (hid (tot (add O F) A) H) H t v F)
    (hp : ∀ (j : Nat) (p : Pl) (xj : Rt) (z : V × Ft), pr = some (j, p) → ρ.rt[j]? = some xj → xj.t.cont = true → A[j]? = some z → chAt H z.1 p = some v)
    (hj0 : ∀ j p, pr = some (j, p) → j < ρ.rt.length) :
    StC K mg B O (A ++ [(v, F)]) { ρ with rt := ρ.rt ++ [⟨t, pr⟩] } σ H ∧ tot O (A ++ [(v, F)]) = tot (add O F) A := by
  have e : tot O (A ++ [(v, F)]) = tot (add O F) A := by
    funext a
    show O a + sumF (A ++ [(v, F)]) a = O a + F a + sumF A a
    rw [sumF_app]
    show O a + (sumF A a + (F a + 0)) = _
    omega
  have len := S.len
  have getL : ∀ {γ : Type} {l : List γ} {w : γ} (m : Nat) (z : γ), (l ++ [w])[m]? = some z → (m < l.length ∧ l[m]? = some z) ∨ (m = l.length ∧ z = w) := fun {γ l w} m z h => by
    by_cases q : m < l.length
    · rw [List.getElem?_append_left q] at h; exact .inl ⟨q, h⟩
    · rw [List.getElem?_append_right (by omega)] at h
      have : m - l.length = 0 := by
        cases e : m - l.length with
        | zero => rfl
        | succ n => rw [e] at h; simp at h
      rw [this] at h
      exact .inr ⟨by omega, by simpa using h.symm⟩
  refine ⟨⟨by rw [e]; exact S.le1, by rw [e]; exact S.al, by simp [len], fun r y t' h1 h2 => ?_, fun m j p y yj z w h1 h2 h3 h4 h5 h6 => ?_, fun m j p y h1 h2 => ?_, fun r u h => al_push (S.bas r u h), S.bnp, S.slen, fun i sl o h1 h2 => ?_⟩, e⟩
  · rw [e]
    rcases getL r y h1 with ⟨lt, h1⟩ | ⟨e1, rfl⟩
    · rcases getL r t' h2 with ⟨_, h2⟩ | ⟨e2, _⟩
      · exact S.rts r y t' h1 h2
      · omega
    · rcases getL r t' h2 with ⟨lt, _⟩ | ⟨_, rfl⟩
      · omega
      · exact ht
  · have jl : j < ρ.rt.length := by
      rcases getL m y h1 with ⟨_, h1⟩ | ⟨_, rfl⟩
      · exact S.parL m j p y h1 h2
      · exact hj0 j p h2
    have h3 : ρ.rt[j]? = some yj := by rcases getL j yj h3 with ⟨_, h⟩ | ⟨e, _⟩; exact h; omega
    have h6 : A[j]? = some w := by rcases getL j w h6 with ⟨_, h⟩ | ⟨e, _⟩; exact h; omega
    rcases getL m z h5 with ⟨lt, h5⟩ | ⟨e1, rfl⟩
    · rcases getL m y h1 with ⟨_, h1⟩ | ⟨e2, _⟩
      · exact S.par m j p y yj z w h1 h2 h3 h4 h5 h6
      · omega
    · rcases getL m y h1 with ⟨lt, _⟩ | ⟨_, rfl⟩
      · omega
      · exact hp j p yj w h2 h3 h4 h6
  · rw [List.length_append]
    rcases getL m y h1 with ⟨_, h1⟩ | ⟨_, rfl⟩
    · have := S.parL m j p y h1 h2; omega
    · have := hj0 j p h2; omega
  · have := S.sls i sl o h1 h2
    rw [e]
    cases sl with
    | un => exact trivial
    | dat d => exact this
    | fn x => exact this
    | ref r =>
      obtain ⟨v', a, b⟩ := this
      refine ⟨v', ?_, b⟩
      unfold XM.al at a ⊢
      have q : r < A.length := by
        cases e1 : A[r]? with
        | none => rw [e1] at a; cases a
        | some z => exact (List.getElem?_eq_some_iff.mp e1).1
      rw [List.getElem?_append_left q]
      exact a
/-! ### giving away: what is read is from now on everybody's -/
def toD (r : R) : M D := fun ρ => match r with
  | .dat d => some (.ok d ρ)
  | .own t => t.view.map fun d => .ok d ρ
  | .ref n => match ρ.rt[n]? with
    | some x => x.t.view.map fun d => .ok d { ρ with rt := ρ.rt.set n ⟨.dat d, x.par⟩ }
    | none => none
  | .fn _ => none
theorem give (S : StC K mg B (add O F) A ρ σ H) {r : R} {v : V} {out : Out D} (h : RR K ⟨mg, B.η⟩ (al A) (hid (tot (add O F) A) H) H v F r) (e : toD r ρ = some out) :
    ∃ d ρ' A', out = .ok d ρ' ∧ StC K mg B O A' ρ' σ H ∧ Dq K (hid (tot O A') H) v d ∧ Stp (add O F) A H O A' H := by
  cases r with
  | dat d =>
    cases e
    obtain ⟨rfl, h⟩ := h
    rw [add_zer] at S h ⊢
    exact ⟨d, ρ, A, rfl, S, h, Stp.refl⟩
  | fn x => cases e
  | own t =>
    simp only [toD] at e
    cases e1 : t.view with
    | none => rw [e1] at e; cases e
    | some d =>
      rw [e1] at e
      cases e
      have w : Same (hid (tot (add O F) A) H) (hid (tot O A) H) := hid_weak fun a => le_add a
      refine ⟨d, ρ, A, rfl, S.weak fun a => le_add a, TR.view w h (fun a o n z => hid_at ?_ z) e1, ⟨⟨fun _ _ => rfl, w⟩, fun _ _ h => h⟩⟩
      have := S.le1 a
      unfold tot add at this ⊢
      omega
  | ref n =>
    obtain ⟨rfl, h⟩ := h
    rw [add_zer] at S ⊢
    simp only [toD] at e
    cases ex : ρ.rt[n]? with
    | none => rw [ex] at e; cases e
    | some x =>
      rw [ex] at e
      dsimp only at e
      cases e1 : x.t.view with
      | none => rw [e1] at e; cases e
      | some d =>
        rw [e1] at e
        cases e
        obtain ⟨F', hA, ht⟩ := S.root ex h
        obtain ⟨S2, e2, _⟩ := S.take hA ex
        have w : Same (hid (tot O A) H) (hid (tot O (A.set n (v, zer))) H) := by
          rw [← e2]; exact hid_weak fun a => le_add a
        have dp : Dq K (hid (tot O (A.set n (v, zer))) H) v d := TR.view w ht (fun a o z q => hid_at (by
          have h1 := S.le1 a
          have h2 := sumF_set (y := (v, zer)) a hA
          dsimp only [zer] at h2
          unfold tot add at h1 ⊢
          omega) q) e1
        refine ⟨d, _, A.set n (v, zer), rfl, S.setR hA ex w (fun _ _ _ => rfl) (fun a => ?_) (fun a z => ?_) (.dat dp) (fun c => nomatch c), dp, ⟨⟨fun _ _ => rfl, w⟩, fun r u q => by rw [al_set hA]; exact q⟩⟩
        · have := S.le1 a
          have h2 := sumF_set (y := (v, zer)) a hA
          dsimp only [zer] at h2
          unfold tot add at this ⊢
          omega
        · refine S.al a ?_
          have h2 := sumF_set (y := (v, zer)) a hA
          dsimp only [zer] at h2
          unfold tot add at z ⊢
          omega
/-- several at once -/
def toDs : List R → M (List D)
  | [] => fun ρ => some (.ok [] ρ)
  | r :: rs => bnd (toD r) fun d => bnd (toDs rs) fun ds ρ => some (.ok (d :: ds) ρ)
theorem gives : ∀ {rs : List R} {O : Ft} {A : Al} {ρ : Fr} {vs : List V} {F : Ft} {out : Out (List D)}, StC K mg B (add O F) A ρ σ H → RRs K ⟨mg, B.η⟩ (al A) (hid (tot (add O F) A) H) H vs F rs → toDs rs ρ = some out →
    ∃ ds ρ' A', out = .ok ds ρ' ∧ StC K mg B O A' ρ' σ H ∧ DqAll K (hid (tot O A') H) vs ds ∧ Stp (add O F) A H O A' H
  | [], O, A, ρ, _, _, _, S, hh, e => by
    cases hh
    cases e
    rw [add_zer] at S ⊢
    exact ⟨[], ρ, A, rfl, S, .nil, Stp.refl⟩
  | r :: rs, O, A, ρ, _, _, out, S, hh, e => by
    cases hh with
    | cons h hr =>
    rename_i v F1 vs F2
    have eq : add O (add F1 F2) = add (add O F2) F1 := by funext a; show O a + (F1 a + F2 a) = O a + F2 a + F1 a; omega
    rw [eq] at S h hr ⊢
    rcases bnd_some e with ⟨c, ρ1, e1, rfl⟩ | ⟨d, ρ1, e1, e2⟩
    · obtain ⟨_, _, _, z, _⟩ := give S h e1
      cases z
    · obtain ⟨d', ρ1', A1, z, S1, dp, st1⟩ := give S h e1
      cases z
      have hr' : RRs K ⟨mg, B.η⟩ (al A1) (hid (tot (add O F2) A1) H) H vs F2 rs := hr.step st1 (fun a n => by unfold add; omega)
      rcases bnd_some e2 with ⟨c, ρ2, e3, rfl⟩ | ⟨ds, ρ2, e3, e4⟩
      · obtain ⟨_, _, _, z, _⟩ := gives S1 hr' e3
        cases z
      · obtain ⟨ds', ρ2', A2, z, S2, dps, st2⟩ := gives S1 hr' e3
        cases z
        cases e4
        exact ⟨d :: ds, ρ2, A2, rfl, S2, .cons (Dq_same st2.sh dp) dps, ⟨⟨fun _ _ => rfl, st1.sh.trans st2.sh⟩, fun r v q => st2.al r v (st1.al r v q)⟩⟩
end
end XM
end
section
namespace XM
open PySem PySem.Spec PyProof.Rows L2 Tl
/-! ### arguments -/
def mArgs : List (M R) → M (List R)
  | [] => fun ρ => some (.ok [] ρ)
  | m :: ms => bnd m fun r => bnd (mArgs ms) fun rs ρ => some (.ok (r :: rs) ρ)
section
variable {X : Cx} {E : XK} {e a b : Expr} {es : List Expr} {pos : Pos} {B : Bs} {O O' : Ft} {A A' A1 : Al} {ρ ρ1 : Fr} {σ : L2.St} {H H' H1 : Hp}
theorem da_nil : DA X E [] (mArgs []) := by
  refine ⟨pa_imp pa_nil fun σ H Q h => ?_⟩
  obtain ⟨B, O, A, ρ, out, S, hm, k⟩ := h
  obtain rfl := Option.some.inj hm
  exact k.oks [] H A zer (by rw [add_zer]; exact S) .nil (by rw [add_zer]; exact Stp.refl)
theorem da_cons {m : M R} {ms : List (M R)} (ha : DE X E e m) (hr : DA X E es (mArgs ms)) (hs : starEach (e :: es) X.env = (false, eval e X.env) :: starEach es X.env := by rfl) : DA X E (e :: es) (mArgs (m :: ms)) := by
  refine ⟨pa_imp (pa_cons ha.pe hr.pa hs) fun σ H Q h => ?_⟩
  obtain ⟨B, O, A, ρ, out, S, hm, k⟩ := h
  refine run_bnd S hm k.exc fun r ρ1 v H1 A1 F hk S1 rr1 st1 x1 => ?_
  refine run_bndA S1 hk x1 fun rs ρ2 vs H2 A2 F2 hk2 S2 rr2 st2 x2 => ?_
  obtain rfl := Option.some.inj hk2
  have st := st1.trans st2 fun a n => add_l n
  rw [add_assoc] at S2 rr2 st
  have rr1' := rr1.step st2 (fun a n => add_r n)
  rw [add_assoc] at rr1'
  exact k.oks (v :: vs) H2 A2 (add F F2) S2 (.cons rr1' rr2) st
/-! ### tuples, lists -/
def mTup (ms : List (M R)) : M R := bnd (mArgs ms) fun rs => bnd (toDs rs) fun ds ρ => if ds.length ≤ 1000 then some (.ok (.dat (.tuple ds)) ρ) else none
def mLst (ms : List (M R)) : M R := bnd (mArgs ms) fun rs => bnd (toDs rs) fun ds ρ => if ds.length ≤ 1000 then some (.ok (.own (.dl ds)) ρ) else none
theorem le_line {n : Nat} (h : n ≤ 1000) : n ≤ sizeLine := by rw [sizeLine_eq]; omega
/-- behind arguments that are given away -/
theorem gives_bnd {K : PySem.W.Frag} {mg : Str → Option Value} {γ : Type} {F : Ft} {rs : List R} {vs : List V} {k : List D → M γ} {out : Out γ} (S : StC K mg B (add O F) A ρ σ H) (h : RRs K ⟨mg, B.η⟩ (al A) (hid (tot (add O F) A) H) H vs F rs) (e : bnd (toDs rs) k ρ = some out) :
    ∃ ds ρ' A', k ds ρ' = some out ∧ StC K mg B O A' ρ' σ H ∧ DqAll K (hid (tot O A') H) vs ds ∧ Stp (add O F) A H O A' H := by
  rcases bnd_some e with ⟨c, ρ1, e1, rfl⟩ | ⟨ds, ρ1, e1, e2⟩
  · obtain ⟨_, _, _, z, _⟩ := gives S h e1
    cases z
  · obtain ⟨_, _, A', z, r⟩ := gives S h e1
    cases z
    exact ⟨ds, ρ1, A', e2, r⟩
theorem give_bnd {K : PySem.W.Frag} {mg : Str → Option Value} {γ : Type} {F : Ft} {r : R} {v : V} {k : D → M γ} {out : Out γ} (S : StC K mg B (add O F) A ρ σ H) (h : RR K ⟨mg, B.η⟩ (al A) (hid (tot (add O F) A) H) H v F r) (e : bnd (toD r) k ρ = some out) :
    ∃ d ρ' A', k d ρ' = some out ∧ StC K mg B O A' ρ' σ H ∧ Dq K (hid (tot O A') H) v d ∧ Stp (add O F) A H O A' H := by
  rcases bnd_some e with ⟨c, ρ1, e1, rfl⟩ | ⟨ds, ρ1, e1, e2⟩
  · obtain ⟨_, _, _, z, _⟩ := give S h e1
    cases z
  · obtain ⟨_, _, A', z, r⟩ := give S h e1
    cases z
    exact ⟨ds, ρ1, A', e2, r⟩
theorem fin_own {K : PySem.W.Frag} {mg : Str → Option Value} {Q : VK} {t : T} {ρ' : Fr} {v : V} {F : Ft} (k : okE K mg B O A σ H Q (.own t) ρ') (S : StC K mg B (add O F) A1 ρ' σ H1) (st : Stp O A H (add O F) A1 H1) (h : TR K ⟨mg, B.η⟩ (hid (tot (add O F) A1) H1) H1 t v F) : Q v H1 := k v H1 A1 F S h st
/-- a new tuple, a new list of data -/
theorem fin_tup {K : PySem.W.Frag} {mg : Str → Option Value} {Q : VK} {ds : List D} {ρ' : Fr} {vs : List V} {p : Addr} {O1 : Ft} (k : okE K mg B O A σ H Q (.dat (.tuple ds)) ρ') (S : StC K mg B O1 A1 ρ' σ H1) (le : ∀ a, O a ≤ O1 a) (st : Stp O A H O1 A1 H1) (h : DqAll K (hid (tot O A1) H1) vs ds) (np : H1 p = none) : Q (.ref p) (upd H1 p (.tup vs)) := by
  obtain ⟨S2, st2, e⟩ := (S.weak le).newS (o := .tup vs) np
  exact fin_dat k S2 (fun _ => Nat.le_refl _) ((st.weak le).trans st2 fun _ n => n) (.tup (.of e) (DqAll_same st2.sh h))
theorem fin_lst {K : PySem.W.Frag} {mg : Str → Option Value} {Q : VK} {ds : List D} {ρ' : Fr} {vs : List V} {p : Addr} {O1 : Ft} (k : okE K mg B O A σ H Q (.own (.dl ds)) ρ') (S : StC K mg B O1 A1 ρ' σ H1) (le : ∀ a, O a ≤ O1 a) (st : Stp O A H O1 A1 H1) (h : DqAll K (hid (tot O A1) H1) vs ds) (np : H1 p = none) : Q (.ref p) (upd H1 p (.lst vs)) := by
  obtain ⟨S2, st2⟩ := (S.weak le).newO (o := .lst vs) np
  exact fin_own k S2 ((st.weak le).trans st2 fun _ n => n) (.dl upd_same (DqAll_same st2.sh h))
theorem de_tup {ms : List (M R)} {x1} (h : DA X E es (mArgs ms)) : DE X E (.Tuple es x1 pos) (mTup ms) := by
  refine ⟨pe_imp (pe_tup h.pa) fun σ H Q h => ?_⟩
  obtain ⟨B, O, A, ρ, out, S, hm, k⟩ := h
  refine run_bndA S hm k.exc fun rs ρ1 vs H1 A1 F hk S1 rr1 st1 x1 => ?_
  obtain ⟨ds, ρ2, A2, e2, S2, dq, st2⟩ := gives_bnd S1 rr1 hk
  split at e2
  · rename_i z
    cases e2
    refine ⟨by rw [DqAll_len dq]; exact le_line z, fun p np => ?_⟩
    exact fin_tup k.oks S2 (fun _ => Nat.le_refl _) (st1.trans st2 fun a n => add_l n) dq np
  · cases e2
theorem de_lst {ms : List (M R)} (h : DA X E es (mArgs ms)) : DE X E (.List es pos) (mLst ms) := by
  refine ⟨pe_imp (pe_lst h.pa) fun σ H Q h => ?_⟩
  obtain ⟨B, O, A, ρ, out, S, hm, k⟩ := h
  refine run_bndA S hm k.exc fun rs ρ1 vs H1 A1 F hk S1 rr1 st1 x1 => ?_
  obtain ⟨ds, ρ2, A2, e2, S2, dq, st2⟩ := gives_bnd S1 rr1 hk
  split at e2
  · rename_i z
    cases e2
    refine ⟨by rw [DqAll_len dq]; exact le_line z, fun p np => ?_⟩
    exact fin_lst k.oks S2 (fun _ => Nat.le_refl _) (st1.trans st2 fun a n => add_l n) dq np
  · cases e2
/-! ### lists and tuples as they are read -/
/-- the items of a tree's top: a list, a tuple; with b a tracked list only -/
def T.items (b : Bool) : T → Option (List D)
  | .dat (.list l) => some l
  | .dat (.tuple l) => if b = true then none else some l
  | .dl l => some l
  | .frz ns => if b = true then none else some (ns.map .int)
  | _ => none
def its (b : Bool) : R → Fr → Option (List D)
  | .dat d, _ => T.items b (.dat d)
  | .own t, _ => t.items b
  | .ref r, ρ => (ρ.rt[r]?).bind fun t => t.t.items b
  | .fn _, _ => none
theorem ints_all {K : PySem.W.Frag} {G : Hp} : ∀ ns : List Int, DqAll K G (ns.map V.int) (ns.map PyData.int)
  | [] => .nil
  | n :: ns => .cons (.int n) (ints_all ns)
theorem TR.items {K : PySem.W.Frag} {mm : Mg} {G : Hp} (s : Same G H) {b : Bool} {t : T} {v : V} {F : Ft} {l : List D} (h : TR K mm G H t v F) (e : t.items b = some l) :
    ∃ a vs, v = .ref a ∧ (H a = some (.lst vs) ∨ b = false ∧ (SqL K H a vs ∨ SqT K G a vs)) ∧ DqAll K G vs l := by
  cases h with
  | dat h =>
    cases h with
    | lst h r => cases e; exact ⟨_, _, rfl, .inl (s _ _ h), r⟩
    | tup h r =>
      cases b with
      | true => cases e
      | false => cases e; exact ⟨_, _, rfl, .inr ⟨rfl, .inr h⟩, r⟩
    | non => cases e
    | bl _ => cases e
    | int _ => cases e
    | str _ => cases e
  | dl h r => cases e; exact ⟨_, _, rfl, .inl h, r⟩
  | frz h =>
    cases b with
    | true => cases e
    | false => cases e; exact ⟨_, _, rfl, .inr ⟨rfl, .inl (s.seq h)⟩, ints_all _⟩
  | fn _ => cases e
  | ol _ _ => cases e
  | ot _ _ => cases e
  | dd _ _ _ => cases e
  | od _ _ _ => cases e
  | ins _ _ _ _ => cases e
  | gone => cases e
  | hole => cases e
theorem StC.items {K : PySem.W.Frag} {mg : Str → Option Value} (S : StC K mg B O A ρ σ H) {b : Bool} {r : R} {v : V} {F : Ft} {l : List D} (h : RR K ⟨mg, B.η⟩ (XM.al A) (hid (tot O A) H) H v F r) (e : its b r ρ = some l) :
    ∃ a vs, v = .ref a ∧ (H a = some (.lst vs) ∨ b = false ∧ (SqL K H a vs ∨ SqT K (hid (tot O A) H) a vs)) ∧ DqAll K (hid (tot O A) H) vs l := by
  cases r with
  | dat d => exact TR.items (mm := ⟨mg, B.η⟩) hid_sub (.dat h.2) e
  | fn x => cases e
  | own t => exact TR.items hid_sub h e
  | ref r =>
    simp only [its] at e
    cases e1 : ρ.rt[r]? with
    | none => rw [e1] at e; cases e
    | some t =>
      rw [e1] at e
      obtain ⟨F', _, h'⟩ := S.root e1 h.2
      exact TR.items hid_sub h' e
/-- a rule over two values, the first one's items and the second one's data -/
def mItems (b : Bool) (f : List D → D → Option R) (ma mb : M R) : M R := bnd ma fun ra => bnd mb fun rb ρ => match its b ra ρ, vw rb ρ with
  | some l, some e => (f l e).map fun z => .ok z ρ
  | _, _ => none
theorem mItems_ok {b : Bool} {f : List D → D → Option R} {ra rb : R} {ρ : Fr} {out : Out R} (h : (match its b ra ρ, vw rb ρ with
  | some l, some e => (f l e).map fun z => Out.ok z ρ
  | _, _ => none) = some out) : ∃ l e z, its b ra ρ = some l ∧ vw rb ρ = some e ∧ f l e = some z ∧ out = .ok z ρ := by
  split at h
  · rename_i l e h1 h2
    cases h3 : f l e with
    | none => rw [h3] at h; cases h
    | some z => rw [h3] at h; exact ⟨l, e, z, h1, h2, h3, (Option.some.inj h).symm⟩
  · cases h
/-- xs[i] of a list, a tuple -/
def fIx (l : List D) : D → Option R
  | .int i => (atI l i).map .dat
  | _ => none
theorem DqAll_atI {K : PySem.W.Frag} {G : Hp} {vs : List V} {l : List D} {i : Int} {d : D} (h : DqAll K G vs l) (e : atI l i = some d) : ∃ v, atI vs i = some v ∧ Dq K G v d := by
  unfold atI at e ⊢
  rw [DqAll_len h]
  cases e1 : ixN l.length i with
  | none => rw [e1] at e; cases e
  | some j => rw [e1] at e; exact DqAll_at h e
theorem de_ix {ma mb : M R} (ha : DE X E a ma) (hb : DE X E b mb) (hs : PlainIx b) : DE X E (.Subscript a b pos) (mItems false fIx ma mb) := by
  refine ⟨pe_imp (pe_ix ix_seq ha.pe hb.pe hs) fun σ H Q h => ?_⟩
  obtain ⟨B, O, A, ρ, out, S, hm, k⟩ := h
  refine run_bnd S hm k.exc fun ra ρ1 v H1 A1 F hk S1 rr1 st1 x1 => ?_
  refine run_bnd S1 hk x1 fun rb ρ2 w H2 A2 F2 hk2 S2 rr2 st2 x2 => ?_
  obtain ⟨l, e, z, e1, e2, e3, rfl⟩ := mItems_ok hk2
  have rr1' := rr1.step st2 (fun a n => add_r n)
  obtain ⟨p, vs, rfl, hp, dq⟩ := S2.items rr1' e1
  have hw := S2.view rr2 e2
  cases e with
  | int i =>
    cases hw
    simp only [fIx] at e3
    cases e4 : atI l i with
    | none => rw [e4] at e3; cases e3
    | some d =>
      rw [e4] at e3
      cases e3
      obtain ⟨u, h1, h2⟩ := DqAll_atI dq e4
      have le : ∀ a, O a ≤ add (add O F) F2 a := fun a => by unfold add; omega
      have fin : Q u H2 := fin_dat k.oks S2 le (st1.trans st2 fun a n => add_l n) (Dq_same (hid_weak le) h2)
      rcases hp with hp | ⟨_, hp | hp⟩
      · exact .inl ⟨p, vs, i, u, rfl, rfl, .of hp, h1, fin⟩
      · exact .inl ⟨p, vs, i, u, rfl, rfl, hp, h1, fin⟩
      · exact .inr (.inl ⟨p, vs, i, u, rfl, rfl, Tl.Same.tup hid_sub hp, h1, fin⟩)
  | _ => simp only [fIx] at e3; cases e3
/-- list + list -/
def fCat (l : List D) : D → Option R
  | .list l2 => if l.length + l2.length ≤ 1000000 then some (.own (.dl (l ++ l2))) else none
  | _ => none
theorem big_line {n : Nat} (h : n ≤ 1000000) : n ≤ sizeLine := by rw [sizeLine_eq]; omega
def mCat (ma mb : M R) : M R := bnd ma fun ra => bnd mb fun rb ρ => match its true ra ρ, its true rb ρ with
  | some l, some l2 => if l.length + l2.length ≤ 1000000 then some (.ok (.own (.dl (l ++ l2))) ρ) else none
  | _, _ => none
theorem de_cat {ma mb : M R} (ha : DE X E a ma) (hb : DE X E b mb) : DE X E (.BinOp a .Add b pos) (mCat ma mb) := by
  refine ⟨pe_imp (pe_op op_cat ha.pe hb.pe) fun σ H Q h => ?_⟩
  obtain ⟨B, O, A, ρ, out, S, hm, k⟩ := h
  refine run_bnd S hm k.exc fun ra ρ1 v H1 A1 F hk S1 rr1 st1 x1 => ?_
  refine run_bnd S1 hk x1 fun rb ρ2 w H2 A2 F2 hk2 S2 rr2 st2 x2 => ?_
  have rr1' := rr1.step st2 (fun a n => add_r n)
  split at hk2
  · rename_i l l2 e1 e2
    split at hk2
    · rename_i sm
      cases hk2
      obtain ⟨p, vs, rfl, hp, dq⟩ := S2.items rr1' e1
      obtain ⟨q, ws, rfl, hq, dq2⟩ := S2.items rr2 e2
      have hp : H2 p = some (.lst vs) := hp.elim id fun z => nomatch z.1
      have hq : H2 q = some (.lst ws) := hq.elim id fun z => nomatch z.1
      have le : ∀ a, O a ≤ add (add O F) F2 a := fun a => by unfold add; omega
      refine ⟨p, q, vs, ws, rfl, rfl, hp, hq, by rw [DqAll_len dq, DqAll_len dq2]; exact big_line sm, fun u nu => ?_⟩
      exact fin_lst k.oks S2 le (st1.trans st2 fun a n => add_l n) (DqAll_same (hid_weak le) (DqAll_app dq dq2)) nu
    · cases hk2
  · cases hk2
/-- list * int -/
def mRep (ma mb : M R) : M R := bnd ma fun ra => bnd mb fun rb ρ => match its true ra ρ, vw rb ρ with
  | some l, some (.int n) => if -1000000 ≤ n ∧ n ≤ 1000000 ∧ l.length * n.toNat ≤ 1000000 then some (.ok (.own (.dl (List.replicate n.toNat l).flatten)) ρ) else none
  | _, _ => none
theorem DqAll_rep {K : PySem.W.Frag} {G : Hp} {vs : List V} {l : List D} (h : DqAll K G vs l) : ∀ n, DqAll K G (List.replicate n vs).flatten (List.replicate n l).flatten
  | 0 => .nil
  | n + 1 => by rw [List.replicate_succ, List.replicate_succ, List.flatten_cons, List.flatten_cons]; exact DqAll_app h (DqAll_rep h n)
theorem de_rep {ma mb : M R} (ha : DE X E a ma) (hb : DE X E b mb) : DE X E (.BinOp a .Mult b pos) (mRep ma mb) := by
  refine ⟨pe_imp (pe_op op_rep ha.pe hb.pe) fun σ H Q h => ?_⟩
  obtain ⟨B, O, A, ρ, out, S, hm, k⟩ := h
  refine run_bnd S hm k.exc fun ra ρ1 v H1 A1 F hk S1 rr1 st1 x1 => ?_
  refine run_bnd S1 hk x1 fun rb ρ2 w H2 A2 F2 hk2 S2 rr2 st2 x2 => ?_
  have rr1' := rr1.step st2 (fun a n => add_r n)
  split at hk2
  · rename_i l n e1 e2
    split at hk2
    · rename_i sm
      cases hk2
      obtain ⟨p, vs, rfl, hp, dq⟩ := S2.items rr1' e1
      have hw := S2.view rr2 e2
      cases hw
      have hp : H2 p = some (.lst vs) := hp.elim id fun z => nomatch z.1
      have le : ∀ a, O a ≤ add (add O F) F2 a := fun a => by unfold add; omega
      refine ⟨p, n, vs, rfl, rfl, hp, by omega, by omega, by rw [DqAll_len dq]; exact big_line sm.2.2, fun u nu => ?_⟩
      exact fin_lst k.oks S2 le (st1.trans st2 fun a n => add_l n) (DqAll_same (hid_weak le) (DqAll_rep dq _)) nu
    · cases hk2
  · cases hk2
end
end XM
end
section
namespace XM
open PySem PySem.Spec PyProof.Rows L2 Tl
/-! ### behind a statement: parts are put back, what nobody names is forgotten -/
def trimL : List Rt → List Rt
  | [] => []
  | x :: xs => match trimL xs, x.t with
    | [], .gone => []
    | ys, _ => x :: ys
def trSl (n : Nat) : Sl → Sl
  | .ref r => if r < n then .ref r else .un
  | s => s
def trRt (n : Nat) (x : Rt) : Rt := match x.par with
  | some (j, p) => if j < n then ⟨x.t, some (j, p)⟩ else ⟨x.t, none⟩
  | none => ⟨x.t, none⟩
theorem trRt_t (n : Nat) (x : Rt) : (trRt n x).t = x.t := by
  unfold trRt
  split
  · split <;> rfl
  · rfl
theorem trRt_par {n : Nat} {x : Rt} {j : Nat} {p : Pl} (h : (trRt n x).par = some (j, p)) : x.par = some (j, p) ∧ j < n := by
  unfold trRt at h
  split at h
  · rename_i e
    split at h
    · cases h; exact ⟨e, by assumption⟩
    · cases h
  · cases h
def trim (ρ : Fr) : Fr :=
  let rt := ρ.rt.take ρ.np ++ trimL (ρ.rt.drop ρ.np)
  ⟨ρ.sl.map (trSl rt.length), rt.map (trRt rt.length), ρ.np⟩
/-- root k is put back where it came from, or forgotten -/
def backK (k : Nat) (ρ : Fr) : Fr := match ρ.rt[k]? with
  | some ⟨t, pr⟩ =>
    let rt1 := ρ.rt.set k ⟨.gone, pr⟩
    match pr with
    | some (j, p) => match rt1[j]? with
      | some xj => match getc p xj.t with
        | some .gone => { ρ with rt := rt1.set j ⟨setc t p xj.t, xj.par⟩ }
        | _ => { ρ with rt := rt1 }
      | none => { ρ with rt := rt1 }
    | none => { ρ with rt := rt1 }
  | none => ρ
def T.isGone : T → Bool
  | .gone => true
  | _ => false
/-- something that came from root k stands elsewhere -/
def kidR (k : Nat) (x : Rt) : Bool := match x.par with
  | some (j, _) => j == k && !x.t.isGone
  | none => false
def kid (ρ : Fr) (k : Nat) : Bool := ρ.rt.any (kidR k)
def sweepN (keep : Nat → Bool) : Nat → Fr → Fr
  | 0, ρ => ρ
  | n + 1, ρ => sweepN keep n (if (keep (ρ.np + n) || kid ρ (ρ.np + n)) = true then ρ else backK (ρ.np + n) ρ)
def sweep (keep : Nat → Bool) (ρ : Fr) : Fr := sweepN keep (ρ.rt.length - ρ.np) ρ
def named (ρ : Fr) (k : Nat) : Bool := ρ.sl.any fun s => match s with
  | .ref r => r == k
  | _ => false
def tidy (ρ : Fr) : Fr := trim (sweep (named ρ) ρ)
section
variable {K : PySem.W.Frag} {mg : Str → Option Value} {mm : Mg} {B : Bs} {O O' : Ft} {A A' A1 : Al} {ρ ρ1 : Fr} {σ : L2.St} {H H' H1 : Hp} {E : XK}
theorem TR.goneF {G : Hp} {v : V} {F : Ft} (h : TR K mm G H .gone v F) : F = zer := by cases h; rfl
theorem StC.drop (S : StC K mg B O A ρ σ H) {n : Nat} {v : V} {F : Ft} {x : Rt} (hA : A[n]? = some (v, F)) (hx : ρ.rt[n]? = some x) :
    StC K mg B O (A.set n (v, zer)) { ρ with rt := ρ.rt.set n ⟨.gone, x.par⟩ } σ H ∧ Same (hid (tot O A) H) (hid (tot O (A.set n (v, zer))) H) := by
  obtain ⟨S1, e, _⟩ := S.take hA hx
  have w : Same (hid (tot O A) H) (hid (tot O (A.set n (v, zer))) H) := by rw [← e]; exact hid_weak fun a => le_add a
  exact ⟨S1.weak fun a => le_add a, w⟩
theorem StC.backK (S : StC K mg B O A ρ σ H) (k : Nat) : ∃ A', StC K mg B O A' (XM.backK k ρ) σ H ∧ Same (hid (tot O A) H) (hid (tot O A') H) ∧ XM.al A' = XM.al A := by
  cases hx : ρ.rt[k]? with
  | none => exact ⟨A, by unfold XM.backK; rw [hx]; exact S, Same.refl _, rfl⟩
  | some x =>
    obtain ⟨t, pr⟩ := x
    obtain ⟨⟨v, F⟩, hA⟩ := at_len S.len hx
    have dr := S.drop hA hx
    cases pr with
    | none => exact ⟨A.set k (v, zer), by unfold XM.backK; rw [hx]; exact dr.1, dr.2, al_set hA⟩
    | some jp =>
      obtain ⟨j, p⟩ := jp
      cases hj : (ρ.rt.set k ⟨.gone, some (j, p)⟩)[j]? with
      | none => exact ⟨A.set k (v, zer), by unfold XM.backK; rw [hx]; dsimp only; rw [hj]; exact dr.1, dr.2, al_set hA⟩
      | some xj =>
        cases hg : getc p xj.t with
        | none => exact ⟨A.set k (v, zer), by unfold XM.backK; rw [hx]; dsimp only; rw [hj]; dsimp only; rw [hg]; exact dr.1, dr.2, al_set hA⟩
        | some c =>
          cases c with
          | gone =>
            obtain ⟨S1, e1, ht⟩ := S.take hA hx
            obtain ⟨⟨vj, Fj⟩, hAj⟩ := at_len S1.len hj
            have cj : xj.t.cont = true := by
              cases xj with
              | mk tj pj =>
                dsimp only at hg
                cases tj <;> cases p <;> first | rfl | cases hg
            have hk : (ρ.rt.set k ⟨.gone, some (j, p)⟩)[k]? = some ⟨.gone, some (j, p)⟩ := by
              rw [List.getElem?_set, if_pos rfl, if_pos (List.getElem?_eq_some_iff.mp hx).1]
            have hAk : (A.set k (v, zer))[k]? = some (v, zer) := by
              rw [List.getElem?_set, if_pos rfl, if_pos (List.getElem?_eq_some_iff.mp hA).1]
            have hc := S1.par k j p _ xj _ _ hk rfl hj cj hAk hAj
            obtain ⟨vc, Fc, Fr, c1, c2, c3, c4⟩ := TR.child hid_sub (S1.rts j _ _ hAj hj) hg
            have c1 : chAt H vj p = some vc := c1
            have hc : chAt H vj p = some v := hc
            rw [c1] at hc
            have hc := Option.some.inj hc
            subst hc
            have := c2.goneF
            subst this
            have c3 : Fj = Fr := c3.trans add_zer
            subst c3
            have ht' := c4 t F (by rw [e1]; exact ht)
            have e2 : tot O ((A.set k (vc, zer)).set j (vj, add Fj F)) = tot (add O F) (A.set k (vc, zer)) := tot_set hAj fun a => by unfold add; omega
            refine ⟨(A.set k (vc, zer)).set j (vj, add Fj F), ?_, by rw [e2, e1]; exact Same.refl _, by rw [al_set hAj, al_set hA]⟩
            unfold XM.backK; rw [hx]; dsimp only; rw [hj]; dsimp only; rw [hg]
            exact S1.setR (O' := O) hAj hj (by rw [e2]; exact Same.refl _) (fun _ _ _ => rfl) (by rw [e2]; exact S1.le1) (by rw [e2]; exact S1.al) (by rw [e2]; exact ht') fun _ => S1.par0 hAj hj cj
          | _ => exact ⟨A.set k (v, zer), by unfold XM.backK; rw [hx]; dsimp only; rw [hj]; dsimp only; rw [hg]; exact dr.1, dr.2, al_set hA⟩
theorem StC.sweepN {keep : Nat → Bool} : ∀ (n : Nat) {ρ : Fr} {A : Al}, StC K mg B O A ρ σ H → ∃ A', StC K mg B O A' (XM.sweepN keep n ρ) σ H ∧ Same (hid (tot O A) H) (hid (tot O A') H) ∧ XM.al A' = XM.al A
  | 0, ρ, A, S => ⟨A, S, Same.refl _, rfl⟩
  | n + 1, ρ, A, S => by
    unfold XM.sweepN
    split
    · exact StC.sweepN n S
    · obtain ⟨A1, S1, s1, l1⟩ := S.backK (ρ.np + n)
      obtain ⟨A2, S2, s2, l2⟩ := StC.sweepN n S1
      exact ⟨A2, S2, s1.trans s2, l2.trans l1⟩
theorem trimL_pre : ∀ l : List Rt, ∃ r, l = trimL l ++ r ∧ ∀ x ∈ r, x.t = .gone
  | [] => ⟨[], rfl, fun _ h => nomatch h⟩
  | x :: xs => by
    obtain ⟨r, e, g⟩ := trimL_pre xs
    unfold trimL
    split
    · rename_i e1 e2
      rw [e1] at e
      refine ⟨x :: xs, rfl, fun y hy => ?_⟩
      rcases List.mem_cons.mp hy with rfl | hy
      · exact e2
      · exact g y (by rw [e] at hy; simpa using hy)
    · exact ⟨r, by rw [List.cons_append, ← e], g⟩
theorem trim_pre (ρ : Fr) : ∃ r, ρ.rt = (ρ.rt.take ρ.np ++ trimL (ρ.rt.drop ρ.np)) ++ r ∧ ∀ x ∈ r, x.t = .gone := by
  obtain ⟨r, e, g⟩ := trimL_pre (ρ.rt.drop ρ.np)
  exact ⟨r, by rw [List.append_assoc, ← e, List.take_append_drop], g⟩
theorem sumF_zero : ∀ {A : Al} (a : Addr), (∀ x ∈ A, x.2 = zer) → sumF A a = 0
  | [], _, _ => rfl
  | x :: xs, a, h => by
    show x.2 a + sumF xs a = 0
    rw [h x List.mem_cons_self, sumF_zero a fun y hy => h y (List.mem_cons_of_mem _ hy)]
    rfl
theorem StC.trim (S : StC K mg B O A ρ σ H) : ∃ A', StC K mg B O A' (XM.trim ρ) σ H ∧ tot O A' = tot O A := by
  obtain ⟨r, e, g⟩ := trim_pre ρ
  generalize hh : ρ.rt.take ρ.np ++ trimL (ρ.rt.drop ρ.np) = rt at e
  have lenA : A.length = rt.length + r.length := by rw [S.len, e, List.length_append]
  have eA : A = A.take rt.length ++ A.drop rt.length := (List.take_append_drop _ _).symm
  have z : ∀ x ∈ A.drop rt.length, x.2 = zer := fun x hx => by
    obtain ⟨i, hi, ei⟩ := List.mem_iff_getElem.mp hx
    have h1 : A[rt.length + i]? = some x := by rw [← List.getElem?_drop, List.getElem?_eq_getElem hi, ei]
    have hi' : i < r.length := by rw [List.length_drop] at hi; omega
    have h2 : ρ.rt[rt.length + i]? = some r[i] := by rw [e, List.getElem?_append_right (by omega)]; simp [hi']
    have h3 := S.rts _ _ _ h1 h2
    rw [g _ (List.getElem_mem hi')] at h3
    exact h3.goneF
  have et : tot O (A.take rt.length) = tot O A := by
    funext a
    show O a + sumF (A.take rt.length) a = O a + sumF A a
    conv => rhs; rw [eA, sumF_app, sumF_zero a z]
    rfl
  have getA : ∀ i x, (A.take rt.length)[i]? = some x → A[i]? = some x ∧ i < rt.length := fun i x h => by
    have hi := (List.getElem?_eq_some_iff.mp h).1
    rw [List.length_take] at hi
    rw [List.getElem?_take_of_lt (by omega)] at h
    exact ⟨h, by omega⟩
  have getR : ∀ i x, rt[i]? = some x → ρ.rt[i]? = some x := fun i x h => by
    rw [e, List.getElem?_append_left (List.getElem?_eq_some_iff.mp h).1]; exact h
  have unf : XM.trim ρ = ⟨ρ.sl.map (trSl rt.length), rt.map (trRt rt.length), ρ.np⟩ := by unfold XM.trim; dsimp only; rw [hh]
  rw [unf]
  have cl : ∀ i (y : Rt), (rt.map (trRt rt.length))[i]? = some y → ∃ x : Rt, ρ.rt[i]? = some x ∧ x.t = y.t ∧ ∀ j p, y.par = some (j, p) → x.par = some (j, p) ∧ j < rt.length := fun i y h => by
    rw [List.getElem?_map] at h
    cases e1 : rt[i]? with
    | none => rw [e1] at h; cases h
    | some x =>
      rw [e1] at h
      have h : trRt rt.length x = y := Option.some.inj h
      subst h
      exact ⟨x, getR i x e1, (trRt_t _ _).symm, fun j p hp => trRt_par hp⟩
  refine ⟨A.take rt.length, ⟨by rw [et]; exact S.le1, by rw [et]; exact S.al, by simp [lenA], fun i x t h1 h2 => ?_, fun k j p x xj y z h1 h2 h3 h4 h5 h6 => ?_, fun m j p x h1 h2 => ?_, fun r u h => ?_, S.bnp, by simp [S.slen], fun i s o h1 h2 => ?_⟩, et⟩
  · obtain ⟨x', hx, ex, _⟩ := cl i t h2
    rw [et, ← ex]
    exact S.rts i x x' (getA i x h1).1 hx
  · obtain ⟨x', hx, ex, px⟩ := cl k x h1
    obtain ⟨xj', hxj, exj, _⟩ := cl j xj h3
    exact S.par k j p x' xj' y z hx (px j p h2).1 hxj (by rw [exj]; exact h4) (getA k y h5).1 (getA j z h6).1
  · obtain ⟨x', hx, ex, px⟩ := cl m x h1
    rw [List.length_map]
    exact (px j p h2).2
  · have h1 := S.bas r u h
    have h2 := (List.getElem?_eq_some_iff.mp h).1
    have h3 : r < A.length := by
      unfold XM.al at h1
      cases e1 : A[r]? with
      | none => rw [e1] at h1; cases h1
      | some z => exact (List.getElem?_eq_some_iff.mp e1).1
    have lt : r < rt.length := by
      rw [← hh, List.length_append, List.length_take]
      have := S.len
      have := S.bnp
      omega
    unfold XM.al at h1 ⊢
    rw [List.getElem?_take_of_lt lt]; exact h1
  · rw [et]
    dsimp only at h1
    rw [List.getElem?_map] at h1
    cases e1 : ρ.sl[i]? with
    | none => rw [e1] at h1; cases h1
    | some s' =>
      rw [e1] at h1
      have h1 := Option.some.inj h1
      have := S.sls i s' o e1 h2
      rw [← h1]
      cases s' with
      | un => exact trivial
      | dat d => exact this
      | fn x => exact this
      | ref r =>
        by_cases lt : r < rt.length
        · rw [show trSl rt.length (.ref r) = .ref r from if_pos lt]
          obtain ⟨v, a, b⟩ := this
          refine ⟨v, ?_, b⟩
          unfold XM.al at a ⊢
          rw [List.getElem?_take_of_lt lt]; exact a
        · rw [show trSl rt.length (.ref r) = .un from if_neg lt]
          exact trivial
theorem StC.tidy (S : StC K mg B O A ρ σ H) : ∃ A', StC K mg B O A' (XM.tidy ρ) σ H ∧ Same (hid (tot O A) H) (hid (tot O A') H) := by
  obtain ⟨A1, S1, s1, _⟩ := StC.sweepN (keep := named ρ) (ρ.rt.length - ρ.np) S
  obtain ⟨A2, S2, e2⟩ := S1.trim
  exact ⟨A2, S2, by rw [e2]; exact s1⟩
end
/-! ### statements -/
inductive SO where
  | nx (ρ : Fr) | rt (r : R) (ρ : Fr) | bk (ρ : Fr) | ct (ρ : Fr) | ex (c : Str) (ρ : Fr)
abbrev SM := Fr → Option SO
section
variable (K : PySem.W.Frag) (mg : Str → Option Value)
def onNx (B : Bs) (O : Ft) (A : Al) (H : Hp) (P : L2.St → Hp → Prop) (ρ' : Fr) : Prop := ∀ σ' H' A', StC K mg B O A' ρ' σ' H' → Sto O A H O A' H' → P σ' H'
def AftS (B : Bs) (O : Ft) (A : Al) (H : Hp) (E : XK) (D : Ends) : SO → Prop
  | .nx ρ' => onNx K mg B O A H D.nx ρ'
  | .bk ρ' => onNx K mg B O A H D.bk ρ'
  | .ct ρ' => onNx K mg B O A H D.ct ρ'
  | .rt r ρ' => ∀ σ' v H' A' F, StC K mg B (add O F) A' ρ' σ' H' → RR K ⟨mg, B.η⟩ (al A') (hid (tot (add O F) A') H') H' v F r → Sto O A H (add O F) A' H' → D.rt v H'
  | .ex c ρ' => ∀ C σ' H' A', mg c = some (.ref C) → StC K mg B O A' ρ' σ' H' → Sto O A H O A' H' → E (.ref C) none H'
def SRun (m : SM) (E : XK) : TS := fun D σ H => ∃ B O A ρ out, StC K mg B O A ρ σ H ∧ m ρ = some out ∧ AftS K mg B O A H E D out
end
structure DS (X : Cx) (E : XK) (st : Stmt) (m : SM) : Prop where
  ps : PS X st (SRun X.K X.mg m E)
structure DSs (X : Cx) (E : XK) (sts : List Stmt) (m : SM) : Prop where
  pss : PSs X sts (SRun X.K X.mg m E)
theorem ps_imp {X : Cx} {st : Stmt} {t t' : TS} (h : PS X st t) (i : ∀ D σ H, t' D σ H → t D σ H) : PS X st t' := ⟨fun pins s σ H D I q => h.run pins s σ H D I (i _ _ _ q)⟩
theorem pss_imp {X : Cx} {st : List Stmt} {t t' : TS} (h : PSs X st t) (i : ∀ D σ H, t' D σ H → t D σ H) : PSs X st t' := ⟨fun pins s σ H D I q => h.run pins s σ H D I (i _ _ _ q)⟩
section
variable {X : Cx} {E : XK} {e : Expr} {st : Stmt} {rest : List Stmt} {pos : Pos} {B : Bs} {O O' : Ft} {A A' A1 : Al} {ρ ρ1 : Fr} {σ σ1 : L2.St} {H H' H1 : Hp} {D : Ends}
/-- the rest of a run -/
theorem AftS.later {K : PySem.W.Frag} {mg : Str → Option Value} {out : SO} (h : AftS K mg B O A H E D out) (s : Sto O A H O A1 H1) : AftS K mg B O A1 H1 E D out := by
  cases out with
  | nx ρ' => exact fun σ' H' A' S st => h σ' H' A' S (s.trans st fun _ n => n)
  | bk ρ' => exact fun σ' H' A' S st => h σ' H' A' S (s.trans st fun _ n => n)
  | ct ρ' => exact fun σ' H' A' S st => h σ' H' A' S (s.trans st fun _ n => n)
  | rt r ρ' => exact fun σ' v H' A' F S rr st => h σ' v H' A' F S rr (s.trans st fun _ n => n)
  | ex c ρ' => exact fun C σ' H' A' hc S st => h C σ' H' A' hc S (s.trans st fun _ n => n)
def mSeq (m k : SM) : SM := fun ρ => match m ρ with
  | some (.nx ρ1) => k ρ1
  | o => o
def mNx : SM := fun ρ => some (.nx ρ)
theorem dss_nil : DSs X E [] mNx := ⟨pss_imp pss_nil fun D σ H h => by
  obtain ⟨B, O, A, ρ, out, S, hm, k⟩ := h
  cases hm
  exact k σ H A S Sto.refl⟩
theorem dss_cons {m k : SM} (h1 : DS X E st m) (h2 : DSs X E rest k) : DSs X E (st :: rest) (mSeq m k) := by
  refine ⟨pss_imp (pss_cons h1.ps h2.pss) fun D σ H h => ?_⟩
  obtain ⟨B, O, A, ρ, out, S, hm, kk⟩ := h
  unfold mSeq at hm
  split at hm
  · rename_i ρ1 e
    refine ⟨B, O, A, ρ, _, S, e, fun σ' H' A' S' st => ?_⟩
    exact ⟨B, O, A', ρ1, out, S', hm, kk.later st⟩
  · rename_i o ne
    refine ⟨B, O, A, ρ, out, S, hm, ?_⟩
    cases out with
    | nx ρ' => exact absurd hm (ne ρ')
    | bk ρ' => exact kk
    | ct ρ' => exact kk
    | rt r ρ' => exact kk
    | ex c ρ' => exact kk
theorem dss_one {m : SM} (h1 : DS X E st m) : DSs X E [st] m := ⟨pss_one h1.ps⟩
def sBnd {β : Type} (m : M β) (k : β → Fr → Option SO) : SM := fun ρ => match m ρ with
  | none => none
  | some (.ex c ρ1) => some (.ex c ρ1)
  | some (.ok r ρ1) => k r ρ1
/-- an expression at the head of a statement -/
theorem run_st {K : PySem.W.Frag} {mg : Str → Option Value} {m : M R} {Q : VK} {out : SO} {k : R → Fr → Option SO} (S : StC K mg B O A ρ σ H) (kk : AftS K mg B O A H E D out)
    (h : sBnd m k ρ = some out)
    (c : ∀ r ρ1 v H1 A1 F, k r ρ1 = some out → StC K mg B (add O F) A1 ρ1 σ H1 → RR K ⟨mg, B.η⟩ (al A1) (hid (tot (add O F) A1) H1) H1 v F r → Stp O A H (add O F) A1 H1 → Q v H1) : ERun K mg m E σ H Q := by
  unfold sBnd at h
  split at h
  · cases h
  · rename_i c' ρ1 e
    cases h
    exact ⟨B, O, A, ρ, _, S, e, fun C H' A' hc S' st => kk C σ H' A' hc S' st⟩
  · rename_i r ρ1 e
    exact ⟨B, O, A, ρ, _, S, e, fun v H1 A1 F S1 rr st => c r ρ1 v H1 A1 F h S1 rr st⟩
theorem run_stT {K : PySem.W.Frag} {mg : Str → Option Value} {m : M Bool} {Q : Bool → Hp → Prop} {out : SO} {k : Bool → Fr → Option SO} (S : StC K mg B O A ρ σ H) (kk : AftS K mg B O A H E D out)
    (h : sBnd m k ρ = some out)
    (c : ∀ r ρ1 H1 A1, k r ρ1 = some out → StC K mg B O A1 ρ1 σ H1 → Stp O A H O A1 H1 → Q r H1) : TRun K mg m E σ H Q := by
  unfold sBnd at h
  split at h
  · cases h
  · rename_i c' ρ1 e
    cases h
    exact ⟨B, O, A, ρ, _, S, e, fun C H' A' hc S' st => kk C σ H' A' hc S' st⟩
  · rename_i r ρ1 e
    exact ⟨B, O, A, ρ, _, S, e, fun H1 A1 S1 st => c r ρ1 H1 A1 h S1 st⟩
/-- an expression's value is dropped -/
def mExpr (m : M R) : SM := sBnd m fun _ ρ => some (.nx (tidy ρ))
theorem ds_expr {m : M R} (h : DE X E e m) (hs : swapsWith e none pos.line X.env = pure false := by rfl) : DS X E (.Expr e pos) (mExpr m) := by
  refine ⟨ps_imp (ps_expr h.pe hs) fun D σ H h => ?_⟩
  obtain ⟨B, O, A, ρ, out, S, hm, kk⟩ := h
  refine run_st S kk hm fun r ρ1 v H1 A1 F hk S1 rr st => ?_
  cases hk
  obtain ⟨A2, S2, s2⟩ := (S1.weak fun a => le_add a).tidy
  exact kk σ H1 A2 S2 ⟨st.out, (st.weak fun a => le_add a).sh.trans s2⟩
def mRet (m : M R) : SM := sBnd m fun r ρ => some (.rt r ρ)
theorem ds_ret {m : M R} (h : DE X E e m) : DS X E (.Return (some e) pos) (mRet m) := by
  refine ⟨ps_imp (ps_ret h.pe) fun D σ H h => ?_⟩
  obtain ⟨B, O, A, ρ, out, S, hm, kk⟩ := h
  refine run_st S kk hm fun r ρ1 v H1 A1 F hk S1 rr st => ?_
  cases hk
  exact kk σ v H1 A1 F S1 rr st.toSto
def mRetN : SM := fun ρ => some (.rt (.dat .none) ρ)
theorem ds_retN : DS X E (.Return none pos) mRetN := by
  refine ⟨ps_imp ps_retN fun D σ H h => ?_⟩
  obtain ⟨B, O, A, ρ, out, S, hm, kk⟩ := h
  cases hm
  exact kk σ .non H A zer (by rw [add_zer]; exact S) ⟨rfl, .non⟩ (by rw [add_zer]; exact Sto.refl)
def mIf (mt : M Bool) (a b : SM) : SM := sBnd mt fun c => if c = true then a else b
theorem ds_if {c : Expr} {as bs : List Stmt} {mt : M Bool} {a b : SM} (hc : DT X E c mt) (ha : DSs X E as a) (hb : DSs X E bs b) : DS X E (.If c as bs pos) (mIf mt a b) := by
  refine ⟨ps_imp (ps_if hc.pt ha.pss hb.pss) fun D σ H h => ?_⟩
  obtain ⟨B, O, A, ρ, out, S, hm, kk⟩ := h
  refine run_stT S kk hm fun r ρ1 H1 A1 hk S1 st => ?_
  cases r with
  | true => exact ⟨B, O, A1, ρ1, out, S1, hk, kk.later st.toSto⟩
  | false => exact ⟨B, O, A1, ρ1, out, S1, hk, kk.later st.toSto⟩
theorem ds_pass : DS X E (.Pass pos) mNx := by
  refine ⟨ps_imp ps_pass fun D σ H h => ?_⟩
  obtain ⟨B, O, A, ρ, out, S, hm, k⟩ := h
  cases hm
  exact k σ H A S Sto.refl
/-! ### names are set -/
/-- a root that nothing names -/
def isFree (ρ : Fr) (k : Nat) : Bool := (match ρ.rt[k]? with | some ⟨.gone, _⟩ => true | _ => false) && (!named ρ k && ρ.rt.all fun x => match x.par with
  | some (j, _) => !(j == k)
  | none => true)
def freeN (ρ : Fr) : Nat → Nat → Option Nat
  | 0, _ => none
  | n + 1, k => if isFree ρ k = true then some k else freeN ρ n (k + 1)
def freeAt (ρ : Fr) : Option Nat := freeN ρ (ρ.rt.length - ρ.np) ρ.np
/-- a new root, in the first free place -/
def place (t : T) (ρ : Fr) : Nat × Fr := match freeAt ρ with
  | some j => (j, { ρ with rt := ρ.rt.set j ⟨t, none⟩ })
  | none => (ρ.rt.length, { ρ with rt := ρ.rt ++ [⟨t, none⟩] })
def toSl (i : Nat) : R → Fr → Fr
  | .dat d, ρ => { ρ with sl := ρ.sl.set i (.dat d) }
  | .fn x, ρ => { ρ with sl := ρ.sl.set i (.fn x) }
  | .ref r, ρ => { ρ with sl := ρ.sl.set i (.ref r) }
  | .own t, ρ => { (place t ρ).2 with sl := ρ.sl.set i (.ref (place t ρ).1) }
theorem StC.setSl {K : PySem.W.Frag} {mg : Str → Option Value} (S : StC K mg B O A ρ σ H) {i : Nat} {s : Sl} {v : V} (h : SlOk K mg (XM.al A) (hid (tot O A) H) (some v) s) : StC K mg B O A { ρ with sl := ρ.sl.set i s } (σ.set i (some v)) H := by
  refine ⟨S.le1, S.al, S.len, S.rts, S.par, S.parL, S.bas, S.bnp, by simp [S.slen], fun j s' o h1 h2 => ?_⟩
  rw [List.getElem?_set] at h1 h2
  by_cases e : i = j
  · rw [if_pos e] at h1 h2
    split at h1
    · split at h2
      · cases h1; cases h2; exact h
      · cases h2
    · cases h1
  · rw [if_neg e] at h1 h2
    exact S.sls j s' o h1 h2
theorem freeN_ok {ρ : Fr} : ∀ (n k j : Nat), freeN ρ n k = some j → k ≤ j ∧ isFree ρ j = true
  | 0, _, _, h => by cases h
  | n + 1, k, j, h => by
    unfold freeN at h
    split at h
    · rename_i c; cases h; exact ⟨Nat.le_refl _, c⟩
    · obtain ⟨a, b⟩ := freeN_ok n (k + 1) j h; exact ⟨by omega, b⟩
theorem StC.fill {K : PySem.W.Frag} {mg : Str → Option Value} {F : Ft} {t : T} {v : V} (S : StC K mg B (add O F) A ρ σ H) (ht : TR K ⟨mg, B.η⟩ (hid (tot (add O F) A) H) H t v F) {j : Nat} (hj : freeAt ρ = some j) :
    StC K mg B O (A.set j (v, F)) { ρ with rt := ρ.rt.set j ⟨t, none⟩, sl := ρ.sl } σ H ∧ tot O (A.set j (v, F)) = tot (add O F) A ∧ XM.al (A.set j (v, F)) j = some v := by
  obtain ⟨nj, fr⟩ := freeN_ok _ _ _ hj
  unfold isFree at fr
  simp only [Bool.and_eq_true, Bool.not_eq_true'] at fr
  obtain ⟨g, nn, pp⟩ := fr
  cases hx : ρ.rt[j]? with
  | none => rw [hx] at g; cases g
  | some x =>
  obtain ⟨tx, px⟩ := x
  rw [hx] at g
  cases tx <;> try cases g
  have hjl : j < ρ.rt.length := (List.getElem?_eq_some_iff.mp hx).1
  obtain ⟨xA, hA⟩ := at_len S.len hx
  have z0 : xA.2 = zer := by
    obtain ⟨vA, FA⟩ := xA
    have := S.rts j _ _ hA hx
    cases this
    rfl
  have e : tot O (A.set j (v, F)) = tot (add O F) A := by
    funext a
    have h1 := sumF_set (y := (v, F)) a hA
    have h2 := congrFun z0 a
    have h3 : zer a = 0 := rfl
    show O a + sumF (A.set j (v, F)) a = O a + F a + sumF A a
    dsimp only at h1
    omega
  have getA : ∀ (m : Nat) (z : V × Ft), (A.set j (v, F))[m]? = some z → (m = j ∧ z = (v, F)) ∨ (m ≠ j ∧ A[m]? = some z) := fun m z h => by
    rw [List.getElem?_set] at h
    by_cases q : j = m
    · rw [if_pos q, if_pos (by rw [S.len]; exact hjl)] at h; exact .inl ⟨q.symm, (Option.some.inj h).symm⟩
    · rw [if_neg q] at h; exact .inr ⟨fun z => q z.symm, h⟩
  have getR : ∀ (m : Nat) (z : Rt), (ρ.rt.set j ⟨t, none⟩)[m]? = some z → (m = j ∧ z = ⟨t, none⟩) ∨ (m ≠ j ∧ ρ.rt[m]? = some z) := fun m z h => by
    rw [List.getElem?_set] at h
    by_cases q : j = m
    · rw [if_pos q, if_pos (q ▸ hjl)] at h; exact .inl ⟨q.symm, (Option.some.inj h).symm⟩
    · rw [if_neg q] at h; exact .inr ⟨fun z => q z.symm, h⟩
  have alE : ∀ m, m ≠ j → XM.al (A.set j (v, F)) m = XM.al A m := fun m ne => by
    unfold XM.al
    rw [List.getElem?_set, if_neg fun q => ne q.symm]
  refine ⟨⟨by rw [e]; exact S.le1, by rw [e]; exact S.al, by simp [S.len], fun r y t' h1 h2 => ?_, fun m k p y yk z w h1 h2 h3 h4 h5 h6 => ?_, fun m k p y h1 h2 => ?_, fun r u h => ?_, S.bnp, S.slen, fun i sl o h1 h2 => ?_⟩, e, ?_⟩
  · rw [e]
    rcases getA r y h1 with ⟨rfl, rfl⟩ | ⟨ne, h1⟩
    · rcases getR _ t' h2 with ⟨_, rfl⟩ | ⟨ne, _⟩
      · exact ht
      · exact absurd rfl ne
    · rcases getR r t' h2 with ⟨q, _⟩ | ⟨_, h2⟩
      · exact absurd q ne
      · exact S.rts r y t' h1 h2
  · rcases getR m y h1 with ⟨_, rfl⟩ | ⟨ne, h1⟩
    · cases h2
    · have nk : k ≠ j := fun q => by
        have := List.all_eq_true.mp pp y (List.mem_of_getElem? h1)
        rw [h2] at this
        subst q
        simp at this
      rcases getR k yk h3 with ⟨q, _⟩ | ⟨_, h3⟩
      · exact absurd q nk
      rcases getA m z h5 with ⟨q, _⟩ | ⟨_, h5⟩
      · exact absurd q ne
      rcases getA k w h6 with ⟨q, _⟩ | ⟨_, h6⟩
      · exact absurd q nk
      exact S.par m k p y yk z w h1 h2 h3 h4 h5 h6
  · rw [List.length_set]
    rcases getR m y h1 with ⟨_, rfl⟩ | ⟨_, h1⟩
    · cases h2
    · exact S.parL m k p y h1 h2
  · have lt : r < ρ.np := by rw [← S.bnp]; exact (List.getElem?_eq_some_iff.mp h).1
    rw [alE r (by omega)]
    exact S.bas r u h
  · have := S.sls i sl o h1 h2
    rw [e]
    cases sl with
    | un => exact trivial
    | dat d => exact this
    | fn x => exact this
    | ref r =>
      obtain ⟨v', a, b⟩ := this
      refine ⟨v', ?_, b⟩
      rw [alE r fun q => ?_]
      · exact a
      · unfold named at nn
        have h := List.any_eq_false.mp nn _ (List.mem_of_getElem? h1)
        subst q
        simp at h
  · unfold XM.al
    rw [List.getElem?_set, if_pos rfl, if_pos (by rw [S.len]; exact hjl)]
    rfl
theorem StC.place {K : PySem.W.Frag} {mg : Str → Option Value} {F : Ft} {t : T} {v : V} (S : StC K mg B (add O F) A ρ σ H) (ht : TR K ⟨mg, B.η⟩ (hid (tot (add O F) A) H) H t v F) :
    ∃ A', StC K mg B O A' (XM.place t ρ).2 σ H ∧ tot O A' = tot (add O F) A ∧ XM.al A' (XM.place t ρ).1 = some v := by
  unfold XM.place
  cases hj : freeAt ρ with
  | some j =>
    obtain ⟨S1, e1, a1⟩ := S.fill ht hj
    exact ⟨_, S1, e1, a1⟩
  | none =>
    obtain ⟨S1, e1⟩ := S.push (pr := none) ht (fun _ _ _ _ z => nomatch z) (fun _ _ z => nomatch z)
    refine ⟨A ++ [(v, F)], S1, e1, ?_⟩
    unfold XM.al
    rw [← S.len, List.getElem?_append_right (Nat.le_refl _), Nat.sub_self]
    rfl
theorem place_sl {t : T} {ρ : Fr} : (place t ρ).2.sl = ρ.sl := by
  unfold place
  split <;> rfl
theorem StC.toSl {K : PySem.W.Frag} {mg : Str → Option Value} {F : Ft} {r : R} {v : V} (S : StC K mg B (add O F) A ρ σ H) (h : RR K ⟨mg, B.η⟩ (XM.al A) (hid (tot (add O F) A) H) H v F r) (i : Nat) :
    ∃ A', StC K mg B O A' (XM.toSl i r ρ) (σ.set i (some v)) H ∧ tot O A' = tot (add O F) A := by
  cases r with
  | dat d =>
    obtain ⟨rfl, h⟩ := h
    rw [add_zer] at S h ⊢
    exact ⟨A, S.setSl ⟨v, rfl, h⟩, rfl⟩
  | fn x =>
    obtain ⟨rfl, f, rfl, h⟩ := h
    rw [add_zer] at S ⊢
    exact ⟨A, S.setSl ⟨f, rfl, h⟩, rfl⟩
  | ref n =>
    obtain ⟨rfl, h⟩ := h
    rw [add_zer] at S ⊢
    exact ⟨A, S.setSl ⟨v, h, rfl⟩, rfl⟩
  | own t =>
    obtain ⟨A1, S1, e1, a1⟩ := S.place h
    refine ⟨A1, ?_, e1⟩
    have := S1.setSl (i := i) (s := .ref (XM.place t ρ).1) ⟨v, a1, rfl⟩
    rw [place_sl] at this
    exact this
/-- what the slot held is let go -/
def isRef : R → Nat → Bool
  | .ref n, k => n == k
  | _, _ => false
def letGo (i : Nat) (r : R) (ρ : Fr) : Fr := sweep (fun k => named { ρ with sl := ρ.sl.set i .un } k || isRef r k) { ρ with sl := ρ.sl.set i .un }
theorem StC.unS {K : PySem.W.Frag} {mg : Str → Option Value} (S : StC K mg B O A ρ σ H) (i : Nat) : StC K mg B O A { ρ with sl := ρ.sl.set i .un } σ H := by
  refine ⟨S.le1, S.al, S.len, S.rts, S.par, S.parL, S.bas, S.bnp, by simp [S.slen], fun j s' o h1 h2 => ?_⟩
  rw [List.getElem?_set] at h1
  by_cases e : i = j
  · rw [if_pos e] at h1
    split at h1
    · cases h1; exact trivial
    · cases h1
  · rw [if_neg e] at h1
    exact S.sls j s' o h1 h2
theorem StC.letGo {K : PySem.W.Frag} {mg : Str → Option Value} (S : StC K mg B O A ρ σ H) (i : Nat) (r : R) : ∃ A', StC K mg B O A' (XM.letGo i r ρ) σ H ∧ Same (hid (tot O A) H) (hid (tot O A') H) ∧ XM.al A' = XM.al A :=
  StC.sweepN _ (S.unS i)
def setS (i : Nat) (r : R) (ρ : Fr) : Fr := tidy (toSl i r (letGo i r ρ))
theorem StC.setS {K : PySem.W.Frag} {mg : Str → Option Value} {F : Ft} {r : R} {v : V} (S : StC K mg B (add O F) A ρ σ H) (h : RR K ⟨mg, B.η⟩ (XM.al A) (hid (tot (add O F) A) H) H v F r) (i : Nat) :
    ∃ A', StC K mg B O A' (XM.setS i r ρ) (σ.set i (some v)) H ∧ Same (hid (tot (add O F) A) H) (hid (tot O A') H) := by
  obtain ⟨A1, S1, s1, l1⟩ := S.letGo i r
  have h1 : RR K ⟨mg, B.η⟩ (XM.al A1) (hid (tot (add O F) A1) H) H v F r := by
    cases r with
    | dat d => exact ⟨h.1, Dq_same s1 h.2⟩
    | fn x => exact h
    | own t => exact TR.step s1 h fun _ _ => rfl
    | ref r => exact ⟨h.1, by rw [l1]; exact h.2⟩
  obtain ⟨A2, S2, e2⟩ := S1.toSl h1 i
  obtain ⟨A3, S3, s3⟩ := S2.tidy
  exact ⟨A3, S3, s1.trans (by rw [← e2]; exact s3)⟩
def mSet (i : Nat) (m : M R) : SM := sBnd m fun r ρ => some (.nx (setS i r ρ))
theorem ds_set {i : Nat} {x : Str} {m : M R} {pos'} (hN : X.N.Nodup) (hi : X.N[i]? = some x) (hx : Loc X.env.scope x) (he : DE X E e m) (hs : swapsWith e (some (.Name x pos')) pos.line X.env = pure false := by rfl)
    (hf : X.fn x = true ∨ X.env.scope.names.lookup x = some .local := by first | exact .inl rfl | exact .inr rfl | assumption) : DS X E (.Assign [.Name x pos'] e pos) (mSet i m) := by
  refine ⟨ps_imp (ps_set hN hi hx he.pe hs hf) fun D σ H h => ?_⟩
  obtain ⟨B, O, A, ρ, out, S, hm, kk⟩ := h
  refine run_st S kk hm fun r ρ1 v H1 A1 F hk S1 rr st => ?_
  cases hk
  obtain ⟨A3, S3, s3⟩ := S1.setS rr i
  exact kk _ H1 A3 S3 ⟨st.out, st.sh.trans s3⟩
end
end XM
end
section
/-! an exception that leaves from inside a list comprehension -/
namespace CqN
open PySem PySem.Spec PyProof.Rows L2
/-- in flight over the frames l, B the ground, fl what its traceback says -/
def Trk (B : Heap) (l : List Env) (a : Addr) (Z : Obj → Prop) (fl : Value) (h : Heap) : Prop :=
  B.StaysIn h ∧ B.get? a = none ∧ h.FunFrames B l ∧ HandSPX.TracedZ h B a Z fl
/-- as CX, whatever the traceback says of its flight -/
def Fl (P : Program) (w : World) (l : List Env) (H : Hp) (s : Shared) (E : XK) (a : Addr) (fl : Value) (s' : Shared) : Prop :=
  ∃ (B : Heap) (H' : Hp) (cls : Value) (d : Option Addr), Trk B l a (L2N.Zn cls d) fl s'.heap ∧ HOk P w H' B ∧ UB (frs l) H H' s.heap B s'.heap ∧ H' a = none ∧ s'.os = s.os ∧ AllBare s'.gens ∧ E cls d H'
theorem mem_frs {l : List Env} {b : Addr} {B h : Heap} (hl : h.FunFrames B l) (hb : b ∈ frs l) : ∃ o, h.get? b = some o ∧ ∀ vs, o.data ≠ .fields vs := (hl.mem hb).2
section
variable {P : Program} {w : World} {l : List Env} {H : Hp} {s s' : Shared} {E : XK} {a C : Addr} {fl fl' : Value}
/-- the exception's own objects and the frames' slots move -/
theorem Fl.up {h' : Heap} {B : Heap} {H' : Hp} {cls : Value} {d : Option Addr} (t : Trk B l a (L2N.Zn cls d) fl s'.heap) (ok : HOk P w H' B) (ub : UB (frs l) H H' s.heap B s'.heap) (na : H' a = none) (os : s'.os = s.os) (ag : AllBare s'.gens) (e : E cls d H')
    (t' : Trk B l a (L2N.Zn cls d) fl' h') (up : s'.heap.UpToSlots h') : Fl P w l H s E a fl' { s' with heap := h' } := by
  refine ⟨B, H', cls, d, t', ok, ⟨ub.keep, fun b o q hb => ?_, ub.free, ub.there, ub.tups, ub.frzs, ub.tbls⟩, na, os, ag, e⟩
  obtain ⟨sl, q1⟩ := ub.slot b o q hb
  obtain ⟨o2, q2, nf⟩ := mem_frs t.2.2.1 hb
  rw [q1] at q2
  cases q2
  obtain ⟨sl2, q3⟩ := up b _ q1 nf
  exact ⟨sl2, q3⟩
theorem frames_on {B h h' : Heap} : ∀ {l : List Env}, (∀ b ∈ frs l, ∀ o, h.get? b = some o → h'.get? b = some o) → h.FunFrames B l → h'.FunFrames B l
  | [], _, _ => trivial
  | env :: l, k, hl => by
    obtain ⟨hk, ⟨L, o, hf, hn, ho, hd⟩, hr⟩ := hl
    have sub : ∀ b ∈ frs l, b ∈ frs (env :: l) := fun b hb => by
      unfold frs
      rw [List.filterMap_cons, hf]
      exact List.mem_cons_of_mem _ hb
    have here : L ∈ frs (env :: l) := by
      unfold frs
      rw [List.filterMap_cons, hf]
      exact List.mem_cons_self
    exact ⟨hk, ⟨L, o, hf, hn, k L here o ho, hd⟩, frames_on (fun b hb => k b (sub b hb)) hr⟩
/-- an untracked object of the callee's time is let go: the ground is without it -/
theorem Fl.less {oC : Obj} {h2 : Heap} (hC : s.heap.get? C = some oC) (nC : H C = none) (fC : C ∉ frs l) (sb : Heap.SameBut C s'.heap h2) (c : Fl P w l H s E a fl s') :
    Fl P w l H { s with heap := PySem.W.hideAll s.heap [C] } E a fl { s' with heap := h2 } := by
  obtain ⟨B, H', cls, d, ⟨t1, t2, t3, t4⟩, ok, ub, na, os, ag, e⟩ := c
  have BC : B.get? C = some oC := ub.keep C oC hC nC fC
  have HC : H' C = none := ub.free C oC hC nC
  have inB : ∀ b o, (PySem.W.hideAll B [C]).get? b = some o → B.get? b = some o ∧ b ≠ C := fun b o q => ⟨PySem.W.of_hideAll _ q, fun z => by
    rw [z, PySem.W.hideAll_none [C] (List.mem_cons_self ..)] at q; cases q⟩
  have inS : ∀ b o, (PySem.W.hideAll s.heap [C]).get? b = some o → s.heap.get? b = some o ∧ b ≠ C := fun b o q => ⟨PySem.W.of_hideAll _ q, fun z => by
    rw [z, PySem.W.hideAll_none [C] (List.mem_cons_self ..)] at q; cases q⟩
  have toB : ∀ b o, b ≠ C → B.get? b = some o → (PySem.W.hideAll B [C]).get? b = some o := fun b o n q => PySem.W.hideAll_get _ q fun m => n (List.mem_singleton.mp m)
  have nB : ∀ b, B.get? b = none → (PySem.W.hideAll B [C]).get? b = none := fun b q => by
    cases z : (PySem.W.hideAll B [C]).get? b with
    | none => rfl
    | some o => rw [(inB b o z).1] at q; cases q
  have same : ∀ b, b ≠ C → h2.get? b = s'.heap.get? b := sb.2
  obtain ⟨oe, vs, T, oT, ts, he, hz, hd, h1, hnT, hTe, hT, hdT, h3⟩ := t4
  have aC : a ≠ C := fun z => by rw [z, BC] at t2; cases t2
  have TC : T ≠ C := fun z => by rw [z, BC] at hnT; cases hnT
  refine ⟨PySem.W.hideAll B [C], H', cls, d, ⟨fun b o q => ?_, nB a t2, ?_, ?_⟩, fun b o q => ?_, ⟨fun b o q n m => ?_, fun b o q m => ?_, fun b o q => ub.free b o (inS b o q).1, fun b o q m => ?_, ub.tups, ub.frzs, ub.tbls⟩, na, os, ag, e⟩
  · obtain ⟨q1, q2⟩ := inB b o q
    exact (same b q2).trans (t1 b o q1)
  · refine frames_on (fun b hb o q => (same b fun z => fC (z ▸ hb)).trans q) (funFrames_none t3 fun L hL => nB L ?_)
    exact (t3.mem hL).1
  · exact ⟨oe, vs, T, oT, ts, (same a aC).trans he, hz, hd, h1, nB T hnT, hTe, (same T TC).trans hT, hdT, h3⟩
  · refine (ok b o q).stay (fun c u hc r => toB c u (fun z => ?_) r) (fun _ r => r) fun _ _ r => r
    rcases hc with hc | hc
    · rw [← hc, z, HC] at q; cases q
    · rw [z, HC] at hc; cases hc
  · obtain ⟨q1, q2⟩ := inS b o q
    exact toB b o q2 (ub.keep b o q1 n m)
  · obtain ⟨q1, q2⟩ := inS b o q
    obtain ⟨sl, q3⟩ := ub.slot b o q1 m
    exact ⟨sl, (same b q2).trans q3⟩
  · obtain ⟨q1, q2⟩ := inS b o q
    obtain ⟨o', q3⟩ := ub.there b o q1 m
    exact ⟨o', toB b o' q2 q3⟩
theorem Fl.of {u : Value} (c : L2N.CX P w l H s E u s') : ∃ a, u = .ref a ∧ Fl P w l H s E a .none s' := by
  obtain ⟨a, B, H', cls, d, rfl, ⟨k1, k2, k3, k4⟩, ok, ub, na, os, ag, e⟩ := c
  exact ⟨a, rfl, B, H', cls, d, ⟨k1, k2, k3, k4⟩, ok, ub, na, os, ag, e⟩
section
variable {M : Model} {A : Around} {E₁ : Value → Shared → Prop} {env : Env} {outer : List Env} {L : Addr}
/-- the frame notes it -/
theorem Fl.note {Q : Unit → Shared → Prop} (hfr : A.frames = some (env :: outer)) (hf : env.frame = some L) (c : Fl P w (env :: outer) H s E a .none s')
    (hQ : ∀ h', Fl P w (env :: outer) H s E a (rawInt L) { s' with heap := h' } → s'.heap.UpToSlots h' → Q () { s' with heap := h' }) : wpAny M A (noteFrame (.ref a) env) Q E₁ s' := by
  obtain ⟨B, H', cls, d, ⟨t1, t2, t3, t4⟩, ok, ub, na, os, ag, e⟩ := c
  refine PXN.looks_onZ (Z := L2N.Zn cls d) L2N.Zn.steady hfr hf ⟨t1, t2, t3, t4⟩ fun h' hh up => hQ h' ?_ up
  exact Fl.up (fl := .none) ⟨t1, t2, t3, t4⟩ ok ub na os ag e hh up
/-- passed on: whatever frame is told -/
theorem Fl.passOn {what : String} {cenv : Env} {α : Type} {Q : α → Shared → Prop} (c : Fl P w l H s E a fl s') (hE : ∀ h' fl', Fl P w l H s E a fl' { s' with heap := h' } → E₁ (.ref a) { s' with heap := h' }) :
    wpAny M A (PySem.passOn what (.ref a) cenv : Sem α) Q E₁ s' := by
  obtain ⟨B, H', cls, d, ⟨t1, t2, t3, t4⟩, ok, ub, na, os, ag, e⟩ := c
  obtain ⟨oe, vs, T, oT, ts, he, hz, hd, h1, hnT, hTe, hT, hdT, h3⟩ := id t4
  unfold PySem.passOn
  refine wpAny_bind (wpAny_field he hd h1 ?_)
  rw [if_neg (show ¬ ((Value.ref T == Value.none) = true) by simp)]
  refine wpAny_bind (HandSPX.setFlight_anyZ t1 t3 t4 fun h' k1 k2 k3 k4 => wpAny_throw (hE h' (cenv.frame.elim Value.none fun f => rawInt f) ?_))
  exact Fl.up ⟨t1, t2, t3, t4⟩ ok ub na os ag e ⟨k1, t2, k2, k3⟩ k4
/-- it leaves the frame, whatever its traceback says -/
theorem leaves_any {B : Heap} {Z : Obj → Prop} {Q : Unit → Shared → Prop} (hZ : PXN.Steady1 Z) (hfr : A.frames = some (env :: outer)) (hf : env.frame = some L) (t : Trk B (env :: outer) a Z fl s.heap)
    (hQ : ∀ h', HandSPX.FlyingZ B outer a Z h' → s.heap.UpToSlots h' → Q () { s with heap := h' }) : wpAny M A (leaving env (.ref a)) Q E₁ s := by
  obtain ⟨hkb, hen, hl, tr⟩ := t
  by_cases hfl : (fl == rawInt L) = true
  · have e : fl = rawInt L := by simpa using hfl
    exact HandSPX.leaves_heldZ hf ⟨hkb, hen, hl, e ▸ tr⟩ hQ
  obtain ⟨oe, vs, T, oT, ts, he, hz, hd, h1, hnT, hTe, hT, hdT, h3⟩ := tr
  unfold leaving noteFrame
  simp only [hf]
  refine wpAny_bind (wpAny_bind (wpAny_field he hd h1 ?_))
  rw [if_pos (show (Value.ref T != Value.none) = true from by simp)]
  refine wpAny_bind (wpAny_field hT hdT h3 ?_)
  rw [if_neg hfl]
  have h3s : 3 < ts.size := (Array.getElem?_eq_some_iff.mp h3).1
  refine wpAny_bind (wpAny_setField hT hdT h3s ?_)
  generalize hG : s.heap.update T (Obj.mapFields (·.setIfInBounds 3 Value.none)) = G
  have oth : ∀ b, b ≠ T → G.get? b = s.heap.get? b := fun b hb => by
    rw [← hG]
    exact Heap.get?_update_other _ _ (Ne.symm hb)
  have norec : ∀ b o, s.heap.get? b = some o → (∀ vs, o.data ≠ .fields vs) → b ≠ T := fun b o hb hnf q => by
    rw [q, hT] at hb
    cases hb
    exact hnf ts hdT
  refine PXN.wpAny_newEntryZ hZ hfr (hl.of_keeps fun b o hb hnf => ⟨o, (oth b (norec b o hb hnf)).trans hb, rfl⟩) hf ((oth a (Ne.symm hTe)).trans he)
    (fun b o q => (oth b fun z => ?_).trans (hkb b o q)) hen hd (Array.getElem?_eq_some_iff.mp h1).1 hz fun h' hL => ?_
  · rw [z, hnT] at q; cases q
  · obtain ⟨x1, ⟨_, _, x2⟩, x3, x4⟩ := hL
    exact hQ h' ⟨x1, hen, x2, x3⟩ fun b o hb hnf => x4 b o ((oth b (norec b o hb hnf)).trans hb) hnf
end
end
section
variable {X : Cx} {pins : List (Addr × Obj)} {σ : L2.St} {H : Hp} {s s' : Shared} {E : XK} {a : Addr} {fl : Value}
/-- out of the def, from a state of its body -/
theorem Fl.leave {E₁ : Value → Shared → Prop} (hs : X.stack = X.env :: X.outer) (hf : X.env.frame = some X.env.locals) (hex : X.ex = []) (I : Inv X pins σ H s) (c : Fl X.prog X.w X.stack H s E a fl s') :
    wpAny (model X.prog X.w) X.A (leaving X.env (.ref a)) (fun _ s'' => L2N.CX X.prog X.w X.outer X.H_0 X.s_0 E (.ref a) s'') E₁ s' := by
  obtain ⟨B, H', cls, d, t, ok, ub, na, os, ag, e⟩ := c
  have hfr : X.A.frames = some (X.env :: X.outer) := by rw [I.ok.frames, hs]
  have nst : ∀ b o, X.s_0.heap.get? b = some o → b ∉ X.fs → b ∉ frs X.stack := fun b o q hb hm => by
    rcases List.mem_cons.mp (I.stkSub b hm) with z | z
    · have z1 := Heap.lt_size q
      rw [z] at z1
      exact absurd (Nat.lt_of_lt_of_le z1 I.ok.above) (Nat.lt_irrefl _)
    · exact hb z
  have nex : ∀ b, b ∉ X.ex := fun b hb => by rw [hex] at hb; cases hb
  have fsub : ∀ b, b ∈ X.fs → b ∈ frs X.stack := fun b hb => by
    rw [hs]
    unfold frs
    rw [List.filterMap_cons, hf]
    exact List.mem_cons_of_mem _ hb
  refine leaves_any (Z := L2N.Zn cls d) L2N.Zn.steady hfr hf (hs ▸ t) fun h' fly up => ?_
  refine ⟨a, B, H', cls, d, rfl, fly, ok, ⟨fun b o q n hb => ?_, fun b o q hb => ?_, fun b o q n => ?_, fun b o q hb => ?_, fun b xs q => ?_, fun b o u q => ?_, fun b ps q => ?_⟩, na, os.trans I.os, ag, e⟩
  · exact ub.keep b o (I.base.keep b o q n hb (nex b)) (I.base.free b o q n (nex b)) (nst b o q hb)
  · obtain ⟨sl, q1⟩ := I.base.slot b o q (I.ok.frf b hb) hb (nex b)
    obtain ⟨sl2, q2⟩ := ub.slot b _ q1 (fsub b hb)
    obtain ⟨o3, q3, nf⟩ := mem_frs t.2.2.1 (fsub b hb)
    rw [q2] at q3
    cases q3
    obtain ⟨sl3, q4⟩ := up b _ q2 nf
    exact ⟨sl3, q4⟩
  · obtain ⟨o', q1⟩ := I.base.there b o q (nex b)
    exact ub.free b o' q1 (I.base.free b o q n (nex b))
  · obtain ⟨o', q1⟩ := I.base.there b o q (nex b)
    exact ub.there b o' q1 (nst b o q hb)
  · exact ub.tups b xs (I.base.tups b xs q)
  · exact ub.frzs b o u (I.base.frzs b o u q)
  · obtain ⟨m1, q1⟩ := I.base.tbls b ps q
    obtain ⟨m2, q2⟩ := ub.tbls b _ q1
    exact ⟨m1 ++ m2, by rw [q2, Array.append_assoc]⟩
end
/-- what a block wishes of an exception: noted, the block's names let go, passed on -/
def xeC (X : Cx) (ce : Env) : Value → Shared → Prop := notedBy (model X.prog X.w) X.A ce fun x s1 => ∃ m, s1.heap.Ns ce.locals m ∧
  ∀ h', Heap.SameBut ce.locals s1.heap h' → ∀ cenv : Env, cenv.locals = ce.locals → wpAny (model X.prog X.w) X.A (PySem.passOn "comprehension.variables-let-go" x cenv : Sem Value) (fun _ _ => False) X.xe { s1 with heap := h' }
/-- how a block stands in its def -/
structure In (X : Cx) (s : Shared) (H : Hp) (scope : Scope) (ce : Env) (fp : List Addr) : Prop where
  inv : ∃ pins σ, Inv X pins σ H s ∧ ∀ b ∈ fp, FpOk X pins H b
  loc : ce.locals = s.heap.objs.size
  frm : ce.frame = X.env.frame
/-- a def's body -/
structure Body (X : Cx) (E : XK) : Prop where
  hs : X.stack = X.env :: X.outer
  hf : X.env.frame = some X.env.locals
  hex : X.ex = []
  hx : ∃ E₁ : Value → Shared → Prop, X.xe = fun e s' => wpAny (model X.prog X.w) X.A (leaving X.env e) (fun _ s'' => L2N.CX X.prog X.w X.outer X.H_0 X.s_0 E e s'') E₁ s'
theorem noteFrame_as {env env' : Env} {e : Value} (h : env.frame = env'.frame) : noteFrame e env = noteFrame e env' := by
  unfold noteFrame PySem.frameOf
  rw [h]
theorem passes_blk {X : Cx} {s : Shared} {H : Hp} {scope : Scope} {ce : Env} {fp : List Addr} {E : XK} (b : Body X E) (i : In X s H scope ce fp) : Passes (L2N.CX X.prog X.w) ((X.blk s H scope ce fp).wish (xeC X ce)) E := by
  intro pinsb σb H1 s1 u s' I c
  obtain ⟨pins, σ, J, hfp⟩ := i.inv
  have I := I.unwish
  have cL : ce.locals = s.heap.objs.size := i.loc
  -- the block's names
  obtain ⟨m, hn, _⟩ := I.loc
  have hn : s1.heap.Ns ce.locals m := hn
  obtain ⟨oC, es, ep, hC, hdC, _⟩ := id hn
  have nC : H1 ce.locals = none := I.free
  have fC : ce.locals ∉ frs X.stack := fun hm => by
    obtain ⟨o, q, _⟩ := mem_frs J.stack hm
    have z := Heap.lt_size q
    rw [cL] at z
    exact absurd z (Nat.lt_irrefl _)
  -- the def's state ahead of the call, the block's names left out
  generalize hG : PySem.W.hideAll s1.heap [ce.locals] = G
  have inS : ∀ b o, b ≠ ce.locals → s1.heap.get? b = some o → G.get? b = some o := fun b o n q => by
    rw [← hG]
    exact PySem.W.hideAll_get _ q fun z => n (List.mem_singleton.mp z)
  have old : ∀ b o, s.heap.get? b = some o → b ≠ ce.locals := fun b o q z => by
    have y := Heap.lt_size q
    rw [z, cL] at y
    exact absurd y (Nat.lt_irrefl _)
  have un := I.base
  have J2 : Inv X pins σ H1 { s1 with heap := G } := by
    refine J.call' (ch := fp) I.os ⟨fun b o q n h1 h2 => inS b o (old b o q) (un.keep b o q n h1 h2), fun b o q n h1 h2 => ?_, un.free, fun b o q h2 => ?_, un.tups, un.frzs, un.tbls⟩ (fun b o q => ?_) I.bare fun b hb => ⟨(hfp b hb).2.2.2.1, (hfp b hb).2.1, (hfp b hb).2.2.2.2.1, (hfp b hb).2.2.2.2.2⟩
    · obtain ⟨sl, q1⟩ := un.slot b o q n h1 h2
      exact ⟨sl, inS b _ (old b o q) q1⟩
    · obtain ⟨o', q1⟩ := un.there b o q h2
      exact ⟨o', inS b _ (old b o q) q1⟩
    · refine (I.hok b o q).stay (fun c u hc r => inS c u (fun z => ?_) r) (fun _ r => r) fun _ _ r => r
      rcases hc with hc | hc
      · rw [← hc, z, nC] at q; cases q
      · rw [z, nC] at hc; cases hc
  obtain ⟨a, rfl, c1⟩ := Fl.of c
  have c1 : Fl X.prog X.w X.stack H1 s1 E a .none s' := c1
  have sC : s'.heap.Ns ce.locals m := by
    obtain ⟨B, H', cls, d, ⟨t1, _⟩, _, ub, _⟩ := id c1
    exact ⟨oC, es, ep, t1 _ _ (ub.keep _ _ hC nC fC), hdC, (by obtain ⟨o, es', ep', q, qd, r⟩ := hn; rw [hC] at q; cases q; rw [hdC] at qd; cases qd; exact r)⟩
  show xeC X ce _ _
  unfold xeC notedBy
  rw [noteFrame_as (env' := X.env) i.frm]
  have hfr : X.A.frames = some (X.env :: X.outer) := by rw [J.ok.frames, b.hs]
  rw [b.hs] at c1
  refine Fl.note hfr b.hf c1 fun h1 c2 up => ⟨m, up.ns sC, fun h2 sb cenv _ => ?_⟩
  rw [← b.hs] at c2
  have c3 := Fl.less hC nC fC sb c2
  rw [hG] at c3
  refine Fl.passOn c3 fun h3 fl c4 => ?_
  obtain ⟨E₁, hx⟩ := b.hx
  rw [hx]
  exact Fl.leave b.hs b.hf b.hex J2 c4
end CqN
end
section
namespace CqN
open PySem PySem.Spec PyProof.Rows L2
/-- a block's own iterator turns within the block -/
theorem turns_in {X : Cx} {s s' : Shared} {H H' : Hp} {scope : Scope} {ce : Env} {fp : List Addr} {τ : L2.St} (J : Inv (X.blk s H scope ce fp) [] τ H' s') (n : ∀ b ∈ fp, H' b = none) : ∀ b ∈ fp, FpOk (X.blk s H scope ce fp) [] H' b := by
  intro b hb
  have z := J.ok.exf b hb
  exact ⟨n b hb, z.1, J.ok.exfs b hb, Or.inl hb, z.2, fun p hp => by
    rw [show (X.blk s H scope ce fp).pn ++ [] = [] from rfl] at hp
    cases hp⟩
/-- [elt for target in iter if ..] in a def's body; the element may raise what the def may -/
theorem pe_lcX {X : Cx} {E : XK} {elt tg iter : Expr} {ifs : List Expr} {scope : Scope} {own : List (Str × Nat)} {pos : Pos} {wi : TI} {g : TG} {tt : TT} {te : TE}
    (hb : Body X E) (hc : X.calm = true) (hN : X.N.Nodup) (hi : PI X tg iter wi) (ok : BlkOk X.N X.env.scope scope own)
    (hg : ∀ s H C cl fp, PG (X.blk s H scope (compEnvC scope cl C X.env) fp) tg g)
    (ht : ∀ s H C cl fp, PTs (X.blk s H scope (compEnvC scope cl C X.env) fp) ifs tt)
    (he : ∀ s H C cl fp, In X s H scope (compEnvC scope cl C X.env) fp → PE ((X.blk s H scope (compEnvC scope cl C X.env) fp).wish (xeC X (compEnvC scope cl C X.env))) elt te)
    (hs : ∀ x, foldedSetIterable iter X.env x = pure x := by intro _; rfl) : PE X (.ListComp elt [⟨tg, iter, ifs, 0⟩] scope pos) (tLc wi g tt te (own.map (·.2))) := by
  refine ⟨fun pins s σ H Q I want => ?_⟩
  rw [eval_ListComp]
  have free : ∀ y ∈ scope.names, y.2 = .free → ∃ c, X.env.cells.lookup y.1 = some c := by
    intro y hy e
    exact (ok.free y hy e).elim (fun k => I.ok.has _ (.inl k)) fun k => I.ok.has _ (.inr k)
  refine wpAny_comprehension_free (use := none) rfl hs (closure_ok free) ok.kind (fun y hy e => (ok.uniq y hy).trans (by rw [e])) ?_
  refine thn (hi.run pins s σ H _ I want) fun xv sa hx => thn hx fun itv sb hy => ?_
  obtain ⟨it, fp, tn, J, H2, rfl, I2, T, begun, own2, q⟩ := hy
  refine wpAny_newObj_type (newEnv_comp ?_) (Nat.zero_le _)
  -- the new list at D
  obtain ⟨D, hD⟩ : ∃ D, D = sb.heap.objs.size := ⟨_, rfl⟩
  have nD : H2 D = none := I2.hok.fresh (by rw [hD]; exact Nat.le_refl _)
  obtain ⟨W, ⟨m0, w0⟩, turn⟩ := q D nD
  rw [← hD]
  have atD : (sb.heap.push { cls := .type "list", data := .seq ([] : List Value).toArray }).get? D = some { cls := .type "list", data := .seq ([] : List Value).toArray } := by
    rw [hD]
    exact Heap.get?_push_size _ rfl
  obtain ⟨sc, hsc⟩ : ∃ sc : Shared, sc = { sb with heap := sb.heap.push { cls := .type "list", data := .seq ([] : List Value).toArray } } := ⟨_, rfl⟩
  have more : ∀ b o, sb.heap.get? b = some o → sc.heap.get? b = some o := fun b o e => by
    rw [hsc]
    exact Heap.get?_push_of_some _ e
  have Ic : Inv X pins σ (upd H2 D (.lst [])) sc := by
    have := I2.laid (a := D) (o := .lst []) (t' := sb.toks) (h' := sc.heap) more (by rw [hD]; exact Nat.le_refl _) ⟨Nat.zero_le _, [], 0, .nil, by rw [hsc]; exact atD⟩
    rw [hsc] at this ⊢
    exact this
  have under : ∀ b ∈ fp, b < sb.heap.objs.size := fun b hbf => by
    obtain ⟨o, e, _⟩ := T.obj _ _ begun b hbf
    exact Heap.lt_size e
  have sz : sc.heap.objs.size = sb.heap.objs.size + 1 := by rw [hsc]; exact Heap.size_push ..
  have fine : ∀ b ∈ fp, FpOk X pins (upd H2 D (.lst [])) b ∧ b < sc.heap.objs.size := fun b hbf => by
    have lt := under b hbf
    have z := own2 b hbf
    refine ⟨⟨?_, z.2⟩, by rw [sz]; exact Nat.lt_succ_of_lt lt⟩
    rw [upd_ne (by rw [hD]; exact Nat.ne_of_lt lt)]
    exact z.1
  have begun3 : tn 0 sc.heap := T.keep _ _ _ begun fun b _ o e => more b o e
  have I4 := block_start Ic ok hN fine
  obtain ⟨cl, hcl⟩ : ∃ cl, cl = cellsFrom (sc.heap.objs.size + 1) scope.names (cloFrom X.env.cells scope.names []) := ⟨_, rfl⟩
  obtain ⟨C, hC⟩ : ∃ C, C = sc.heap.objs.size := ⟨_, rfl⟩
  obtain ⟨ce, hce⟩ : ∃ ce, ce = compEnvC scope cl C X.env := ⟨_, rfl⟩
  obtain ⟨H3, hH3⟩ : ∃ H3, H3 = upd H2 D (.lst []) := ⟨_, rfl⟩
  rw [← hH3] at Ic w0 fine I4
  have inX : In X sc H3 scope (compEnvC scope cl C X.env) fp := ⟨⟨pins, σ, Ic, fun b hbf => (fine b hbf).1⟩, hC, rfl⟩
  have pg := hg sc H3 C cl fp
  have pt := ht sc H3 C cl fp
  have pe := he sc H3 C cl fp inX
  rw [← hcl, ← hC, ← hce] at I4
  rw [← hce] at pg pt pe
  have cL : ce.locals = C := by rw [hce]; rfl
  obtain ⟨sd, hsd⟩ : ∃ sd : Shared, sd = { sc with heap := pushCells (sc.heap.push { cls := .type "dict", data := .dict #[] }) scope.names } := ⟨_, rfl⟩
  rw [← hsd] at I4
  have begun4 : tn 0 sd.heap := T.keep _ _ _ begun3 fun b _ o e => by
    rw [hsd]
    exact pushCells_keeps _ _ _ _ (Heap.get?_push_of_some _ e)
  have nfp : ∀ b ∈ fp, H3 b = none := fun b hbf => (fine b hbf).1.1
  have goal : codeAny (model X.prog X.w) X.A (.compStart (.ListComp elt [⟨tg, iter, ifs, 0⟩] scope pos) 0 (.ref it) (.ref D) ce)
      (compPost (model X.prog X.w) X.A X.xe none (EP X pins σ Q) (.ref D) C) sd := by
    have loop : codeAny (model X.prog X.w) X.A (.compLoop (.ListComp elt [⟨tg, iter, ifs, 0⟩] scope pos) 0 (.ref it) (.ref D) ce)
        (compPost (model X.prog X.w) X.A X.xe none (EP X pins σ Q) (.ref D) C) sd := by
      refine compLoop_any (fun n s' => ∃ i H', Inv (X.blk sc H3 scope ce fp) [] (wipe σ (own.map (·.2))) H' s' ∧ tn i s'.heap ∧ (∀ b ∈ fp, H' b = none) ∧ W i n H') ?_ m0 ⟨0, H3, I4, begun4, nfp, w0⟩
      rintro n s5 ⟨i, H5, I5, at5, n5, w5⟩
      rcases turn i n H5 w5 with ⟨stop, fin⟩ | ⟨go, Nx, hNx, step⟩
      · have ends := T.done (X.blk sc H3 scope ce fp) rfl rfl rfl hc i [] s5 _ H5 (fun _ _ => False) I5 (turns_in I5 n5) at5 stop
        refine thnF ends fun r s6 ⟨er, I6⟩ => ?_
        subst er
        have I7 : Inv X pins σ H5 s6 := Ic.call' (ch := fp) I6.os I6.base I6.hok I6.bare fun b hbf => by
          obtain ⟨z1, z2, z3, z4, z5, z6⟩ := (fine b hbf).1
          exact ⟨z4, z2, z5, z6⟩
        obtain ⟨m, hn, _⟩ := I6.loc
        have hn : s6.heap.Ns ce.locals m := hn
        have nC : H5 ce.locals = none := I6.free
        rw [cL] at hn nC
        refine ⟨m, hn, fun h'' sb'' => ?_⟩
        obtain ⟨f0, f1, f2, f3, f4, f5⟩ := Ic.fpOk (b := C) (by rw [hC]; exact Nat.le_refl _) nC
        exact ⟨.ref D, H5, I7.turned (t' := s6.toks) (fun b o ne e => (sb''.2 b ne).trans e) f0 f1 f3 f4 f5, rfl, fin⟩
      · have draw := T.item (X.blk sc H3 scope ce fp) rfl rfl rfl hc i [] s5 _ H5 (fun _ _ => False) I5 (turns_in I5 n5) at5 go
        refine thnF draw fun r s6 ⟨u, er, h6⟩ => ?_
        subst er
        refine thnF h6 fun _ s7 ⟨x, H7, I7, r7, y7, at7, n7⟩ => ?_
        have I7p := I7.pinned (turns_in I7 n7) (T.obj _ _ at7)
        refine thnF (pg.run _ s7 _ H7 x u _ I7p r7 (step x H7 y7)) fun _ s8 ⟨σ8, H8, I8, hw8, q8⟩ => ?_
        refine thnF (pt.run _ s8 σ8 H8 _ I8 q8) fun b s9 ⟨H9, I9, q9⟩ => ?_
        have again : ∀ {s' : Shared} {H' : Hp}, Inv (X.blk sc H3 scope ce fp) ([] ++ pinsAt fp s7.heap) σ8 H' s' → Nx H' →
            ∃ m, m < n ∧ ∃ i H', Inv (X.blk sc H3 scope ce fp) [] (wipe σ (own.map (·.2))) H' s' ∧ tn i s'.heap ∧ (∀ b ∈ fp, H' b = none) ∧ W i m H' := by
          intro s' H' K nx
          obtain ⟨m', lt, w'⟩ := hNx H' nx
          have pinned : ∀ b ∈ fp, ∀ o, s7.heap.get? b = some o → s'.heap.get? b = some o ∧ H' b = none := by
            intro b hbf o e
            have z := K.pin (b, o) (List.mem_append_right _ (List.mem_append_right _ (mem_pinsAt hbf e)))
            exact ⟨z.1, z.2.1⟩
          have len : (wipe σ (own.map (·.2))).length = σ8.length := by
            rw [← hw8, wipe_length]
          refine ⟨m', lt, i + 1, H', (K.unpinned (pins := [])).weak len (fun j v e => (wipe_some (hw8 ▸ e)).1), T.keep _ _ _ at7 (fun b hbf o e => (pinned b hbf o e).1), fun b hbf => ?_, w'⟩
          obtain ⟨o, e, _⟩ := T.obj _ _ at7 b hbf
          exact (pinned b hbf o e).2
        cases b with
        | false =>
          simp only [Bool.false_eq_true, if_false] at q9 ⊢
          exact again I9 q9
        | true =>
          simp only [if_true] at q9 ⊢
          refine wpAny_mono (pe.run _ s9 σ8 H9 _ (I9.wish _) q9) (fun z sz ⟨yv, H10, I10, r10, acc, atD10, lt10, nx⟩ => ?_) (fun e se he' => ?_)
          · exact app_ok (X := X.blk sc H3 scope ce fp) I10.unwish atD10 lt10 r10 fun s11 I11 => again I11 nx
          · have he' : xeC X ce e se := hce ▸ he'
            unfold xeC at he'
            rw [cL] at he'
            exact he'
    exact codeAny_compStart_list loop (T.self X.A 0 _ _ _ begun4 loop)
  rw [hsc] at hcl hC hsd
  rw [hce, hcl, hC, hsd] at goal
  exact goal
end CqN
end
section
/-! defs whose exceptions have no context -/
namespace Tl
open PySem PySem.Spec PyProof.Rows L2
section
variable {P : Program} {w : World} {K : PySem.W.Frag} {mg : Str → Option Value} {base : Heap}
theorem prN {x : Str} {st : Stmt} {N ps : List Str} {k : Nat} {sp : Sp} (D : Dn K mg x st ps) (S : FnScope N ps (defScope st)) (len : ∀ vs H Q E, sp vs H Q E → vs.length = ps.length)
    (hbody : ∀ (f : Addr) (cdv : Value) (A : Around) (outer : List Env) (s : Shared) (H : Hp) (vs : List V) (Q : VK) (E : XK), Room k (A.deeper (envOfC x (defScope st) s.heap.objs.size f cdv)) → sp vs H Q E →
      ∃ t, PSs (cxOf (L2N.CX P w) P w K mg base N x (defScope st) f cdv A outer s H E) (defBody st) t ∧ t { nx := fun _ H' => Q .non H', rt := Q } (start N vs) H) : Pr P w K mg base (L2N.CX P w) (k + 1) x ps sp := by
  obtain ⟨f, fd, hm, F, b⟩ := D.ex
  obtain ⟨oc, od, kV, doc, pm, an, cdv, ct, osl, rfl, lk, hcd⟩ := F.ex
  exact ⟨f, _, hm, F.kp, b, fn_of lk hcd S len fun A outer s H vs Q E hr hsp => hbody f cdv A outer s H vs Q E hr hsp⟩
end
section
variable {X : Cx}
/-- X(e), its context is None -/
theorem pmk_ownN1 {C : Addr} {bmB : List Value} {B newId initId : String} {x : Str} {e : Expr} {ta : TE} {p pos : Pos} (F : ExcBaseFacts B newId initId bmB) (q : PySem.W.excIn X.K C bmB newId = true) (gC : X.mg x = some (.ref C))
    (kC : PySem.W.keepIn X.K (.ref C) = true) (r : Raises X (.ref C)) (hg : Gl X x) (he : PE X e ta)
    (hs : starEach [e] X.env = (false, eval e X.env) :: starEach [] X.env := by rfl) (hdb : (x == ("__debug__" : Str)) = false := by decide) :
    L2N.PMk X (.Call (.Name x p) [e] [] pos) (fun σ H Q => ta σ H fun _ H1 => Q (.ref C) none H1) := by
  intro pins s σ H Q I want
  refine wpAny_Call_Name_kw (ld_glob I hg gC (PySem.W.callWith_K (h₀ := X.base) I.ok.mod.kin kC ?_ hs (by rfl)) hdb)
  rw [hs]
  show wpAny _ _ (spliced ((false, eval e X.env) :: backTo pos (starEach [] X.env))) _ _ s
  refine Calls.spliced_cons (thn (he.run pins s σ H _ I want) fun u s1 hh => Calls.spliced_nil ?_)
  obtain ⟨v, H1, I1, r1, q1⟩ := hh
  refine ⟨I1.kIn, ?_⟩
  show wpAny _ _ (call (.ref C) [u]) _ _ _
  obtain ⟨bm, N, nm, qn, bs, hdct, sn, sub, ab, col, dd, k0, k1, k2, k3, k4, k5, hC, hN, hni, T⟩ := exc_obj I1.kIn q
  exact wpAny_call_exc_subT F T hC hN hni (fun h' e hm => L2N.mk_of I1 hm r q1 (I1.hok.gone hm.new)) (by show 1 ≤ sizeLine; rw [sizeLine_eq]; omega)
end
end Tl
end
section
namespace XM
open PySem PySem.Spec PyProof.Rows L2 Tl
/-! ### defs -/
inductive FO where
  | ret (t : T) (as : List T) | ex (c : Str) (as : List T)
abbrev FM := List T → Option FO
def slFrom (k : Nat) : List T → List Sl
  | [] => []
  | _ :: ts => .ref k :: slFrom (k + 1) ts
def entry (n : Nat) (as : List T) : Fr := ⟨slFrom 0 as ++ List.replicate (n - as.length) .un, as.map (⟨·, none⟩), as.length⟩
def params (ρ : Fr) : List T := (ρ.rt.take ρ.np).map (·.t)
def leave (r : R) (ρ : Fr) : Option (T × List T) := match r with
  | .dat d => some (.dat d, params (sweep (fun _ => false) ρ))
  | .fn x => some (.fn x, params (sweep (fun _ => false) ρ))
  | .own t => some (t, params (sweep (fun _ => false) ρ))
  | .ref k => match ρ.rt[k]? with
    | some ⟨t, none⟩ => if ρ.np ≤ k then
        let ρ1 := sweep (fun j => j == k) ρ
        match ρ1.rt[k]? with
        | some x => some (x.t, params ρ1)
        | none => none
      else match toD (.ref k) ρ with
        | some (.ok d ρ1) => some (.dat d, params (sweep (fun _ => false) ρ1))
        | _ => none
    | _ => match toD (.ref k) ρ with
      | some (.ok d ρ1) => some (.dat d, params (sweep (fun _ => false) ρ1))
      | _ => none
def mDef (n : Nat) (m : SM) : FM := fun as => match m (entry n as) with
  | some (.rt r ρ) => (leave r ρ).map fun p => .ret p.1 p.2
  | some (.nx ρ) => (leave (.dat .none) ρ).map fun p => .ret p.1 p.2
  | some (.ex c ρ) => some (.ex c (params (sweep (fun _ => false) ρ)))
  | _ => none
section
variable {K : PySem.W.Frag} {mg : Str → Option Value} {mm : Mg} {B : Bs} {O O' : Ft} {A A' A1 : Al} {ρ ρ1 : Fr} {σ : L2.St} {H H' H1 : Hp} {E : XK}
theorem TRs.als {G : Hp} : ∀ {ts : List T} {vs : List V} {F : Ft}, TRs K mm G H ts vs F → ∃ A : Al, A.map (·.1) = vs ∧ sumF A = F ∧ A.length = ts.length ∧ ∀ (r : Nat) (x : V × Ft) (t : T), A[r]? = some x → ts[r]? = some t → TR K mm G H t x.1 x.2
  | _, _, _, .nil => ⟨[], rfl, rfl, rfl, fun r x t h => by simp at h⟩
  | _, _, _, .cons (v := v) (F := F) h r => by
    obtain ⟨A, e1, e2, e3, k⟩ := TRs.als r
    refine ⟨(v, F) :: A, by simp [e1], by show add F (sumF A) = _; rw [e2], by simp [e3], fun r x t h1 h2 => ?_⟩
    cases r with
    | zero => simp at h1 h2; subst h1 h2; exact h
    | succ n => exact k n x t (by simpa using h1) (by simpa using h2)
theorem TRs.of {G : Hp} : ∀ {A : Al} {ts : List T}, A.length = ts.length → (∀ (r : Nat) (x : V × Ft) (t : T), A[r]? = some x → ts[r]? = some t → TR K mm G H t x.1 x.2) → TRs K mm G H ts (A.map (·.1)) (sumF A)
  | [], [], _, _ => .nil
  | x :: A, t :: ts, e, k => .cons (k 0 x t rfl rfl) (TRs.of (by simpa using e) fun r x t h1 h2 => k (r + 1) x t (by simpa using h1) (by simpa using h2))
  | [], _ :: _, e, _ => by simp at e
  | _ :: _, [], e, _ => by simp at e
theorem al_at {r : Nat} {v : V} (h : al A r = some v) : ∃ F, A[r]? = some (v, F) := by
  unfold al at h
  cases e : A[r]? with
  | none => rw [e] at h; cases h
  | some x => rw [e] at h; cases Option.some.inj h; exact ⟨x.2, rfl⟩
/-- what a body leaves of its parameters -/
theorem StC.params (S : StC K mg B O A ρ σ H) : ∃ F, TRs K ⟨mg, B.η⟩ (hid (add O F) H) H (XM.params ρ) B.l F ∧ (∀ a, add O F a ≤ 1) ∧ (∀ a, add O F a ≠ 0 → H a ≠ none) ∧ Same (hid (tot O A) H) (hid (add O F) H) := by
  have hB : B.l = (A.take ρ.np).map (·.1) := by
    apply List.ext_getElem?
    intro i
    cases e : B.l[i]? with
    | none =>
      have h1 := List.getElem?_eq_none_iff.mp e
      rw [S.bnp] at h1
      refine (List.getElem?_eq_none_iff.mpr ?_).symm
      rw [List.length_map, List.length_take]; omega
    | some v =>
      obtain ⟨F, hA⟩ := al_at (S.bas i v e)
      have h1 := (List.getElem?_eq_some_iff.mp e).1
      rw [S.bnp] at h1
      rw [List.getElem?_map, List.getElem?_take_of_lt h1, hA]
      rfl
  have le : ∀ a, sumF (A.take ρ.np) a ≤ sumF A a := fun a => by
    have h1 := sumF_app (A := A.take ρ.np) (B := A.drop ρ.np) a
    rw [List.take_append_drop] at h1
    omega
  have w : Same (hid (tot O A) H) (hid (add O (sumF (A.take ρ.np))) H) := hid_mono fun a z => by
    have h1 := le a
    unfold tot add at z
    show O a + sumF (A.take ρ.np) a = 0
    omega
  refine ⟨sumF (A.take ρ.np), ?_, fun a => ?_, fun a z => S.al a ?_, w⟩
  · rw [hB]
    refine TRs.of ?_ fun r x t h1 h2 => ?_
    · unfold XM.params
      rw [List.length_map, List.length_take, List.length_take, S.len]
    · unfold XM.params at h2
      rw [List.getElem?_map] at h2
      cases e : (ρ.rt.take ρ.np)[r]? with
      | none => rw [e] at h2; cases h2
      | some y =>
        rw [e] at h2
        have h2 : y.t = t := Option.some.inj h2
        have lt : r < ρ.np := by
          have := (List.getElem?_eq_some_iff.mp e).1
          rw [List.length_take] at this; omega
        rw [List.getElem?_take_of_lt lt] at e h1
        rw [← h2]
        exact (S.rts r x y h1 e).step w fun _ _ => rfl
  · have h1 := S.le1 a
    have h2 := le a
    unfold tot add at h1
    show O a + _ ≤ 1
    omega
  · have h2 := le a
    have z : O a + sumF (A.take ρ.np) a ≠ 0 := z
    show O a + sumF A a ≠ 0
    omega
/-- what a caller gets back -/
def Got (K : PySem.W.Frag) (mm : Mg) (O F : Ft) (H : Hp) (vs : List V) (as' : List T) (t : T) (v : V) (H' : Hp) (F' Ft : Ft) : Prop :=
  TRs K mm (hid (add O (add F' Ft)) H') H' as' vs F' ∧ TR K mm (hid (add O (add F' Ft)) H') H' t v Ft ∧ (∀ a, add O (add F' Ft) a ≤ 1) ∧ (∀ a, add O (add F' Ft) a ≠ 0 → H' a ≠ none) ∧ (∀ a, O a ≠ 0 → H' a = H a) ∧ Same (hid (add O F) H) (hid (add O (add F' Ft)) H')
theorem add_swap {F1 F2 F3 : Ft} : add (add F1 F2) F3 = add F1 (add F3 F2) := by funext a; show F1 a + F2 a + F3 a = F1 a + (F3 a + F2 a); omega
theorem leave_own {t : T} {v : V} {F : Ft} (S : StC K mg B (add O F) A ρ σ H) (h : TR K ⟨mg, B.η⟩ (hid (tot (add O F) A) H) H t v F) :
    ∃ F', TRs K ⟨mg, B.η⟩ (hid (add O (add F' F)) H) H (XM.params (sweep (fun _ => false) ρ)) B.l F' ∧ TR K ⟨mg, B.η⟩ (hid (add O (add F' F)) H) H t v F ∧ (∀ a, add O (add F' F) a ≤ 1) ∧ (∀ a, add O (add F' F) a ≠ 0 → H a ≠ none) ∧ Same (hid (tot (add O F) A) H) (hid (add O (add F' F)) H) := by
  obtain ⟨A1, S1, s1, _⟩ := StC.sweepN (keep := fun _ => false) (ρ.rt.length - ρ.np) S
  obtain ⟨F', p1, p2, p3, p4⟩ := S1.params
  rw [add_swap] at p1 p2 p3 p4
  have w := s1.trans p4
  exact ⟨F', p1, h.step w fun _ _ => rfl, p2, p3, w⟩
theorem sweepN_np {keep : Nat → Bool} : ∀ (n : Nat) (ρ : Fr), (sweepN keep n ρ).np = ρ.np
  | 0, _ => rfl
  | n + 1, ρ => by
    unfold sweepN
    rw [sweepN_np n]
    split
    · rfl
    · unfold backK
      split
      · dsimp only
        split
        · split
          · split <;> rfl
          · rfl
        · rfl
      · rfl
theorem leave_ok {r : R} {v : V} {F : Ft} {t : T} {as' : List T} (S : StC K mg B (add O F) A ρ σ H) (h : RR K ⟨mg, B.η⟩ (al A) (hid (tot (add O F) A) H) H v F r) (e : leave r ρ = some (t, as')) :
    ∃ F' Ft, TRs K ⟨mg, B.η⟩ (hid (add O (add F' Ft)) H) H as' B.l F' ∧ TR K ⟨mg, B.η⟩ (hid (add O (add F' Ft)) H) H t v Ft ∧ (∀ a, add O (add F' Ft) a ≤ 1) ∧ (∀ a, add O (add F' Ft) a ≠ 0 → H a ≠ none) ∧ Same (hid (tot (add O F) A) H) (hid (add O (add F' Ft)) H) := by
  have viaD : ∀ (k : Nat), r = .ref k → ∀ d ρ1, toD (.ref k) ρ = some (.ok d ρ1) → t = .dat d → as' = XM.params (sweep (fun _ => false) ρ1) → ∃ F' Ft, TRs K ⟨mg, B.η⟩ (hid (add O (add F' Ft)) H) H as' B.l F' ∧ TR K ⟨mg, B.η⟩ (hid (add O (add F' Ft)) H) H t v Ft ∧ (∀ a, add O (add F' Ft) a ≤ 1) ∧ (∀ a, add O (add F' Ft) a ≠ 0 → H a ≠ none) ∧ Same (hid (tot (add O F) A) H) (hid (add O (add F' Ft)) H) := by
    rintro k rfl d ρ1 hd rfl rfl
    obtain ⟨d', ρ', A', z, S', dq, st⟩ := give S h hd
    cases z
    have S'' : StC K mg B (add O zer) A' ρ1 σ H := by rw [add_zer]; exact S'
    obtain ⟨F', p1, p2, p3, p4, p5⟩ := leave_own S'' (t := .dat d) (v := v) (by rw [add_zer]; exact .dat dq)
    refine ⟨F', zer, p1, p2, p3, p4, ?_⟩
    rw [add_zer (F := O)] at p5
    exact st.sh.trans p5
  cases r with
  | dat d =>
    cases e
    obtain ⟨F', p⟩ := leave_own S (t := .dat d) (v := v) (by rw [h.1] at S ⊢; exact .dat (by have := h.2; rw [h.1] at this; exact this))
    exact ⟨F', F, p⟩
  | fn x =>
    cases e
    obtain ⟨z, f, rfl, hf⟩ := h
    obtain ⟨F', p⟩ := leave_own S (t := .fn x) (v := .ref f) (by rw [z]; exact .fn hf)
    exact ⟨F', F, p⟩
  | own t' =>
    cases e
    obtain ⟨F', p⟩ := leave_own S h
    exact ⟨F', F, p⟩
  | ref k =>
    simp only [leave] at e
    split at e
    · rename_i t0 hx
      split at e
      · rename_i hk
        split at e
        · rename_i x hx1
          cases e
          obtain ⟨z, ha⟩ := h
          subst z
          rw [add_zer] at S ⊢
          obtain ⟨A1, S1, s1, l1⟩ := StC.sweepN (keep := fun j => j == k) (ρ.rt.length - ρ.np) S
          rw [← l1] at ha
          obtain ⟨Fk, hAk⟩ := al_at ha
          obtain ⟨S2, e2, ht⟩ := S1.take hAk hx1
          obtain ⟨F', p1, p2, p3, p4⟩ := S2.params
          have ep : XM.params { sweep (fun j => j == k) ρ with rt := (sweep (fun j => j == k) ρ).rt.set k ⟨.gone, x.par⟩ } = XM.params (sweep (fun j => j == k) ρ) := by
            unfold XM.params
            dsimp only
            rw [show (sweep (fun j => j == k) ρ).np = ρ.np from sweepN_np _ _, List.take_set_of_le hk]
          have p1 : TRs K ⟨mg, B.η⟩ (hid (add (add O Fk) F') H) H (XM.params (sweep (fun j => j == k) ρ)) B.l F' := by rw [← ep]; exact p1
          rw [add_swap] at p1 p2 p3 p4
          rw [e2] at p4
          exact ⟨F', Fk, p1, ht.step p4 fun _ _ => rfl, p2, p3, s1.trans p4⟩
        · cases e
      · split at e
        · rename_i d ρ1 hd; cases e; exact viaD k rfl d ρ1 hd rfl rfl
        · cases e
    · split at e
      · rename_i d ρ1 hd; cases e; exact viaD k rfl d ρ1 hd rfl rfl
      · cases e
/-! ### promises -/
def AftF (K : PySem.W.Frag) (mm : Mg) (O F : Ft) (H : Hp) (vs : List V) (Q : VK) (E : XK) : FO → Prop
  | .ret t as' => ∀ v H' F' Ft, Got K mm O F H vs as' t v H' F' Ft → Q v H'
  | .ex c as' => ∀ C H' F', mm.g c = some (.ref C) → TRs K mm (hid (add O F') H') H' as' vs F' → (∀ a, add O F' a ≤ 1) → (∀ a, add O F' a ≠ 0 → H' a ≠ none) → (∀ a, O a ≠ 0 → H' a = H a) → Same (hid (add O F) H) (hid (add O F') H') → E (.ref C) none H'
/-- what a def that runs as m promises -/
def spM (K : PySem.W.Frag) (mg : Str → Option Value) (n : Nat) (m : FM) : Sp := fun vs H Q E => ∃ (η : Nat → V) (O F : Ft) (as : List T) (out : FO), as.length = n ∧ TRs K ⟨mg, η⟩ (hid (add O F) H) H as vs F ∧ (∀ a, add O F a ≤ 1) ∧ (∀ a, add O F a ≠ 0 → H a ≠ none) ∧ m as = some out ∧ AftF K ⟨mg, η⟩ O F H vs Q E out
/-- .. that raises nothing -/
def sp0 (K : PySem.W.Frag) (mg : Str → Option Value) (n : Nat) (m : FM) : Sp := fun vs H Q _ => spM K mg n m vs H Q fun _ _ _ => False
theorem slFrom_len : ∀ (ts : List T) (k : Nat), (slFrom k ts).length = ts.length
  | [], _ => rfl
  | _ :: ts, k => by show (slFrom (k + 1) ts).length + 1 = _; rw [slFrom_len ts]; rfl
theorem slFrom_at : ∀ (ts : List T) (k i : Nat) (s : Sl), (slFrom k ts)[i]? = some s → s = .ref (k + i)
  | [], _, _, _, h => by simp [slFrom] at h
  | _ :: ts, k, 0, s, h => by simp [slFrom] at h; rw [← h]; rfl
  | _ :: ts, k, i + 1, s, h => by
    have := slFrom_at ts (k + 1) i s (by simpa [slFrom] using h)
    rw [this]; congr 1; omega
theorem start_ok {η : Nat → V} {N : List Str} {as : List T} {vs : List V} {F : Ft} (h : TRs K ⟨mg, η⟩ (hid (add O F) H) H as vs F) (l : ∀ a, add O F a ≤ 1) (n : ∀ a, add O F a ≠ 0 → H a ≠ none) (lN : as.length ≤ N.length) :
    ∃ A, StC K mg ⟨vs, η⟩ O A (entry N.length as) (start N vs) H ∧ sumF A = F := by
  obtain ⟨A, e1, e2, e3, k⟩ := h.als
  have lv : as.length = vs.length := h.len
  refine ⟨A, ⟨by unfold tot; rw [e2]; exact l, by unfold tot; rw [e2]; exact n, by simp [entry, e3], fun r x t h1 h2 => ?_, fun k j p x xj y z h1 h2 => ?_, fun m j p x h1 h2 => ?_, fun r v hv => ?_, by simp [entry, lv], ?_, fun i s o h1 h2 => ?_⟩, e2⟩
  · simp only [entry, List.getElem?_map] at h2
    cases e : as[r]? with
    | none => rw [e] at h2; cases h2
    | some t' =>
      rw [e] at h2
      cases Option.some.inj h2
      unfold tot
      rw [e2]
      exact k r x t' h1 e
  · simp only [entry, List.getElem?_map] at h1
    cases e : as[k]? with
    | none => rw [e] at h1; cases h1
    | some t' => rw [e] at h1; cases Option.some.inj h1; cases h2
  · simp only [entry, List.getElem?_map] at h1
    cases e : as[m]? with
    | none => rw [e] at h1; cases h1
    | some t' => rw [e] at h1; cases Option.some.inj h1; cases h2
  · unfold al
    rw [← List.getElem?_map, e1]; exact hv
  · unfold L2.start entry
    simp only [List.length_append, List.length_map, List.length_replicate, slFrom_len]
    omega
  · simp only [entry] at h1
    by_cases lt : i < as.length
    · rw [List.getElem?_append_left (by rw [slFrom_len]; exact lt)] at h1
      obtain rfl := slFrom_at as 0 i s h1
      unfold L2.start at h2
      rw [List.getElem?_append_left (by rw [List.length_map]; omega), List.getElem?_map] at h2
      cases e : vs[i]? with
      | none => rw [e] at h2; cases h2
      | some v =>
        rw [e] at h2
        refine ⟨v, ?_, (Option.some.inj h2).symm⟩
        unfold al
        rw [← List.getElem?_map, e1, Nat.zero_add]; exact e
    · rw [List.getElem?_append_right (by rw [slFrom_len]; omega), List.getElem?_replicate] at h1
      split at h1
      · cases h1; exact trivial
      · cases h1
/-- a body's run gives what the def promises -/
theorem body_run {η : Nat → V} {m : SM} {N : List Str} {vs : List V} {Q : VK} {as : List T} {F : Ft} {out : FO} (h : TRs K ⟨mg, η⟩ (hid (add O F) H) H as vs F) (l : ∀ a, add O F a ≤ 1) (n : ∀ a, add O F a ≠ 0 → H a ≠ none) (lN : as.length ≤ N.length)
    (hm : mDef N.length m as = some out) (k : AftF K ⟨mg, η⟩ O F H vs Q E out) : SRun K mg m E { nx := fun _ H' => Q .non H', rt := Q } (start N vs) H := by
  obtain ⟨A, S, eA⟩ := start_ok (N := N) h l n lN
  have t0 : tot O A = add O F := by unfold tot; rw [eA]
  unfold mDef at hm
  have back : ∀ (r : R) (ρ : Fr) (σ' : L2.St) (v : V) (H' : Hp) (A' : Al) (F1 : Ft) (p : T × List T), leave r ρ = some p → out = .ret p.1 p.2 → StC K mg ⟨vs, η⟩ (add O F1) A' ρ σ' H' → RR K ⟨mg, η⟩ (al A') (hid (tot (add O F1) A') H') H' v F1 r → Sto O A H (add O F1) A' H' → Q v H' := by
    rintro r ρ σ' v H' A' F1 ⟨t, as'⟩ hl rfl S' rr st
    obtain ⟨F', Ft, p1, p2, p3, p4, p5⟩ := leave_ok S' rr hl
    refine k v H' F' Ft ⟨p1, p2, p3, p4, fun a z => st.out a z, ?_⟩
    rw [← t0]
    exact st.sh.trans p5
  split at hm
  · rename_i r ρ e
    cases hl : leave r ρ with
    | none => rw [hl] at hm; cases hm
    | some p =>
      rw [hl] at hm
      exact ⟨⟨vs, η⟩, O, A, _, _, S, e, fun σ' v H' A' F1 S' rr st => back r ρ σ' v H' A' F1 p hl (Option.some.inj hm).symm S' rr st⟩
  · rename_i ρ e
    cases hl : leave (.dat .none) ρ with
    | none => rw [hl] at hm; cases hm
    | some p =>
      rw [hl] at hm
      refine ⟨⟨vs, η⟩, O, A, _, _, S, e, fun σ' H' A' S' st => ?_⟩
      exact back (.dat .none) ρ σ' .non H' A' zer p hl (Option.some.inj hm).symm (by rw [add_zer]; exact S') ⟨rfl, .non⟩ (by rw [add_zer]; exact st)
  · rename_i c ρ e
    cases hm
    refine ⟨⟨vs, η⟩, O, A, _, _, S, e, fun C σ' H' A' hc S' st => ?_⟩
    obtain ⟨A1, S1, s1, _⟩ := StC.sweepN (keep := fun _ => false) (ρ.rt.length - ρ.np) S'
    obtain ⟨F', p1, p2, p3, p4⟩ := S1.params
    refine k C H' F' hc p1 p2 p3 (fun a z => st.out a z) ?_
    rw [← t0]
    exact (st.sh.trans s1).trans p4
  · cases hm
end
section
variable {P : Program} {w : World} {K : PySem.W.Frag} {mg : Str → Option Value} {mm : Mg} {base : Heap} {x : Str} {st : Stmt} {N ps : List Str} {k : Nat} {m : SM}
theorem sp_len {n : Nat} {m : FM} {vs : List V} {H : Hp} {Q : VK} {E : XK} (h : spM K mg n m vs H Q E) : vs.length = n := by
  obtain ⟨η, O, F, as, out, l, r, _⟩ := h
  rw [← l]; exact r.len.symm
/-! ### promises where no object is being shown -/
def Quiet (A : Around) : Prop := A.guards = some []
structure FnG (P : Program) (w : World) (K : PySem.W.Frag) (mg : Str → Option Value) (base : Heap) (CX : CXT) (k : Nat) (f : Addr) (fd : FuncData) (ps : List Str) (sp : Sp) : Prop where
  len : ∀ vs H Q E, sp vs H Q E → vs.length = ps.length
  run : ∀ (A : Around) (outer : List Env) (s : Shared) (H : Hp) (args : Args) (us : List Value) (vs : List V) (Q : VK) (E : XK), Quiet A → Room k A → Env0 P w K mg base A outer s H → BindsTo s fd args (ps.zip us) → Vals vs us → sp vs H Q E →
    codeAny (model P w) A (.call (.ref f) args) (CR CX outer P w H s Q E) s
theorem FnG.of {base : Heap} {CX : CXT} {f : Addr} {fd : FuncData} {sp : Sp} (F : FnOk P w K mg base CX k f fd ps sp) : FnG P w K mg base CX k f fd ps sp := ⟨F.len, fun A outer s H args us vs Q E _ => F.run A outer s H args us vs Q E⟩
/-- a promise stays one for a callee whose caller is quiet -/
theorem fnG_of {CX : CXT} {f : Addr} {qual : Str} {fd : FuncData} {sp : Sp} (F : Fun K x qual st f fd) (S : FnScope N ps (defScope st)) (len : ∀ vs H Q E, sp vs H Q E → vs.length = ps.length)
    (hb : ∀ (cdv : Value) (A : Around) (outer : List Env) (s : Shared) (H : Hp) (vs : List V) (Q : VK) (E : XK), Quiet (A.deeper (envOfC qual (defScope st) s.heap.objs.size f cdv)) → Room k (A.deeper (envOfC qual (defScope st) s.heap.objs.size f cdv)) → sp vs H Q E →
      ∃ t, PSs (cxOf CX P w K mg base N qual (defScope st) f cdv A outer s H E) (defBody st) t ∧ t { nx := fun _ H' => Q .non H', rt := Q } (L2.start N vs) H) : FnG P w K mg base CX (k + 1) f fd ps sp := by
  obtain ⟨oc, od, kV, doc, pm, an, cdv, ct, osl, rfl, lk, hcd⟩ := F.ex
  refine ⟨len, fun A outer s H args us vs Q E quiet room env bound vals want => ?_⟩
  have size := len _ _ _ _ want
  have written : K.In s.heap := env.mod.kin.keeps fun b o e => (env.bs b o e).1
  have nolim : s.heap.NoLimit := env.mod.nolimit.keeps fun b o e => (env.bs b o e).1
  have kinds : ∀ y ∈ ps.zip us, (defScope st).names.lookup y.1 = some .local ∨ ((defScope st).names.lookup y.1 = some .cell ∧ ((cellsFrom (s.heap.objs.size + 1) (defScope st).names []).lookup y.1).isSome = true) := by
    rintro ⟨n, v⟩ hy
    exact (S.par n (List.of_mem_zip hy).1).imp id fun q => ⟨q, PySem.W.cellsFrom_some _ _ _ (.inl q)⟩
  refine codeAny_call_function room.depth (written _ _ lk) rfl S.co S.gen rfl (PySem.W.codeRec_of written hcd) (bound _ _ _ _ ?_)
  refine wpAny_newFunctionEnv_cells S.kind kinds fun e0 he s1 incall => ?_
  subst he
  refine ⟨nolim.keeps incall.toInCall.keep, codeAny_func ?_⟩
  obtain ⟨t, ht, hq⟩ := hb cdv A outer s H vs Q E quiet (room.deeper _) want
  have I1 : Inv (cxOf CX P w K mg base N qual (defScope st) f cdv A outer s H E) [] (L2.start N vs) H s1 := inv_start S room.hd env size vals incall
  refine wpAny_mono (ht.run [] s1 (L2.start N vs) H _ I1 hq) (fun fl s2 hs => ?_) fun _ _ q => q
  have ended : ∀ {σ2 : L2.St} {H2 : Hp} {v : V} {u : Value}, Inv (cxOf CX P w K mg base N qual (defScope st) f cdv A outer s H E) [] σ2 H2 s2 → RelV v u → Q v H2 → CE outer P w H s Q u s2 := fun {_ H2 v _} J rv q => ⟨v, H2, J.os, J.bare, J.base, J.hok, rv, q⟩
  cases fl with
  | brk => exact hs.elim fun _ h => h.elim fun _ h => h.2.elim
  | cont => exact hs.elim fun _ h => h.elim fun _ h => h.2.elim
  | next => exact hs.elim fun _ h => h.elim fun _ h => ended (v := .non) (u := .none) h.1 rfl h.2
  | ret u => exact hs.elim fun _ h => h.elim fun _ h => h.elim fun _ h => ended h.1 h.2.1 h.2.2
/-- the promise of the def named x, where nothing is being shown -/
structure PrG (P : Program) (w : World) (K : PySem.W.Frag) (mg : Str → Option Value) (base : Heap) (CX : CXT) (k : Nat) (x : Str) (ps : List Str) (sp : Sp) : Prop where
  ex : ∃ f fd, mg x = some (.ref f) ∧ PySem.W.keepIn K (.ref f) = true ∧ L2.Binds K fd ps [] ∧ FnG P w K mg base CX k f fd ps sp
theorem PrG.of {base : Heap} {CX : CXT} {sp : Sp} (h : Pr P w K mg base CX k x ps sp) : PrG P w K mg base CX k x ps sp := by
  obtain ⟨f, fd, a, b, c, F⟩ := h.ex
  exact ⟨f, fd, a, b, c, .of F⟩
/-- a def that raises nothing -/
theorem fn0 (D : Dn K mg x st ps) (S : FnScope N ps (defScope st)) (hl : ps.length ≤ N.length)
    (hb : ∀ (f : Addr) (cdv : Value) (A : Around) (outer : List Env) (s : Shared) (H : Hp) (E : XK), Quiet (A.deeper (envOfC x (defScope st) s.heap.objs.size f cdv)) → Room k (A.deeper (envOfC x (defScope st) s.heap.objs.size f cdv)) → DSs (cxOf CX0 P w K mg base N x (defScope st) f cdv A outer s H E).nox (fun _ _ _ => False) (defBody st) m) :
    PrG P w K mg base CX0 (k + 1) x ps (sp0 K mg ps.length (mDef N.length m)) := by
  obtain ⟨f, fd, hm, F, b⟩ := D.ex
  refine ⟨f, fd, hm, F.kp, b, fnG_of F S (fun vs H Q E h => sp_len h) fun cdv A outer s H vs Q E hq hr h => ?_⟩
  obtain ⟨η, O, F, as, out, e, p1, p2, p3, hm, kk⟩ := h
  exact ⟨_, (hb f cdv A outer s H E hq hr).pss.nox, body_run p1 p2 p3 (by rw [e]; exact hl) hm kk⟩
/-- a def that may raise -/
theorem fnX (D : Dn K mg x st ps) (S : FnScope N ps (defScope st)) (hl : ps.length ≤ N.length)
    (hb : ∀ (f : Addr) (cdv : Value) (A : Around) (outer : List Env) (s : Shared) (H : Hp) (E : XK), Quiet (A.deeper (envOfC x (defScope st) s.heap.objs.size f cdv)) → Room k (A.deeper (envOfC x (defScope st) s.heap.objs.size f cdv)) → DSs (cxOf (L2N.CX P w) P w K mg base N x (defScope st) f cdv A outer s H E) E (defBody st) m) :
    PrG P w K mg base (L2N.CX P w) (k + 1) x ps (spM K mg ps.length (mDef N.length m)) := by
  obtain ⟨f, fd, hm, F, b⟩ := D.ex
  refine ⟨f, fd, hm, F.kp, b, fnG_of F S (fun vs H Q E h => sp_len h) fun cdv A outer s H vs Q E hq hr h => ?_⟩
  obtain ⟨η, O, F, as, out, e, p1, p2, p3, hm, kk⟩ := h
  exact ⟨_, (hb f cdv A outer s H E hq hr).pss, body_run p1 p2 p3 (by rw [e]; exact hl) hm kk⟩
end
section
variable {X : Cx} {k j : Nat} {x : Str} {ps : List Str} {sp : Sp} {p pos : Pos} {e : Expr} {es : List Expr} {t : TA} {CX : CXT} {E : XK} {f : Addr} {fd : FuncData} {dvs : List V} {ds : List Value}
/-- the callee runs -/
theorem run_fnG {pins : List (Addr × Obj)} {σ : L2.St} {H : Hp} {s : Shared} {Q : VK} {us : List Value} {vs : List V} (F : FnG X.prog X.w X.K X.mg X.base CX k f fd ps sp) (quiet : Quiet X.A) (hr : Room k X.A) (hb : L2.Binds X.K fd ps ds) (hd : Vals dvs ds) (hx : Passes CX X E)
    (I : Inv X pins σ H s) (r : Vals vs us) (h : sp (vs ++ dvs) H Q E) : wpAny (model X.prog X.w) X.A (call (.ref f) us) (EP X pins σ Q) X.xe s := by
  have both : Vals (vs ++ dvs) (us ++ ds) := r.append hd
  have size : (us ++ ds).length = ps.length := both.length.symm.trans (F.len _ _ _ _ h)
  refine wpAny_call (codeAny_mono (F.run X.A X.stack s H ⟨us, []⟩ (us ++ ds) (vs ++ dvs) Q E quiet hr I.env0 (hb s us I.kIn size) both h) fun r s2 got => ?_)
  rcases r with e | fl
  · exact hx pins σ H s e s2 I got
  · cases fl with
    | ret u => exact I.after got
    | next => exact got.elim
    | brk => exact got.elim
    | cont => exact got.elim
theorem pe_kG (c : PrG X.prog X.w X.K X.mg X.base CX k x ps sp) (quiet : Quiet X.A) (hr : Room j X.A) (hk : k ≤ j) (hx : Passes CX X E) (hg : Gl X x) (ha : PA X (e :: es) t)
    (hdb : (x == ("__debug__" : Str)) = false := by decide) (he : starEach (e :: es) X.env = (false, eval e X.env) :: starEach es X.env := by rfl) (hpl : (backTo pos (starEach es X.env)).any (·.1) = false := by rfl) :
    PE X (.Call (.Name x p) (e :: es) [] pos) (tCall sp [] E t) := by
  obtain ⟨f, fd, hm, kp, b, F⟩ := c.ex
  refine ⟨fun pins s σ H Q I h => ?_⟩
  have args : wpAny (model X.prog X.w) X.A (spliced (backTo pos (starEach (e :: es) X.env))) (fun us s1 => X.K.In s1.heap ∧ wpAny (model X.prog X.w) X.A (call (.ref f) us) (EP X pins σ Q) X.xe s1) X.xe s :=
    thn (ha.run pos pins s σ H _ I h) fun us s1 ⟨vs, H1, I1, r, q⟩ => ⟨I1.kIn, run_fnG F quiet (hr.mono hk) b .nil hx I1 r q⟩
  exact wpAny_Call_Name_kw (ld_glob I hg hm (PySem.W.callWith_K (h₀ := X.base) I.ok.mod.kin kp args he hpl) hdb)
theorem pe_k0G (c : PrG X.prog X.w X.K X.mg X.base CX k x ps sp) (quiet : Quiet X.A) (hr : Room j X.A) (hk : k ≤ j) (hx : Passes CX X E) (hg : Gl X x) (hdb : (x == ("__debug__" : Str)) = false := by decide) : PE X (.Call (.Name x p) [] [] pos) (tCall sp [] E tNil) := by
  obtain ⟨f, fd, hm, kp, b, F⟩ := c.ex
  refine ⟨fun pins s σ H Q I h => ?_⟩
  exact wpAny_Call_Name_kw (ld_glob I hg hm (PySem.W.callWith_K0 I.kIn kp (run_fnG (us := []) F quiet (hr.mono hk) b .nil hx I .nil h)) hdb)
end
end XM
end
section
namespace XM
open PySem PySem.Spec PyProof.Rows L2 Tl
/-! ### calls -/
def desc (rt : List Rt) (n : Nat) : Nat → Nat → Bool
  | 0, _ => false
  | f + 1, k => match rt[k]? with
    | some ⟨_, some (j, _)⟩ => j == n || desc rt n f j
    | _ => false
/-- the parts of the roots that are handed over are put back -/
def gathers : List R → Fr → Fr
  | [], ρ => ρ
  | .ref n :: rs, ρ => gathers rs (sweep (fun k => !desc ρ.rt n ρ.rt.length k) ρ)
  | _ :: rs, ρ => gathers rs ρ
def clrR (q : Nat × Pl → Bool) (x : Rt) : Rt := match x.par with
  | some jp => if q jp = true then ⟨x.t, none⟩ else x
  | none => x
def clr (q : Nat × Pl → Bool) (ρ : Fr) : Fr := { ρ with rt := ρ.rt.map (clrR q) }
def takes : List R → Fr → List T × Fr
  | [], ρ => ([], ρ)
  | .dat d :: rs, ρ => let p := takes rs ρ; (.dat d :: p.1, p.2)
  | .fn x :: rs, ρ => let p := takes rs ρ; (.fn x :: p.1, p.2)
  | .own t :: rs, ρ => let p := takes rs ρ; (t :: p.1, p.2)
  | .ref n :: rs, ρ => match ρ.rt[n]? with
    | some x => let p := takes rs { ρ with rt := ρ.rt.set n ⟨.gone, x.par⟩ }; (x.t :: p.1, p.2)
    | none => let p := takes rs ρ; (.gone :: p.1, p.2)
def putR (n : Nat) (t : T) (ρ : Fr) : Fr := match (clr (fun jp => jp.1 == n) ρ).rt[n]? with
  | some x => { ρ with rt := ((clr (fun jp => jp.1 == n) ρ).rt).set n ⟨t, x.par⟩ }
  | none => ρ
def puts : List R → List T → Fr → Fr
  | .ref n :: rs, t :: ts, ρ => puts rs ts (putR n t ρ)
  | _ :: rs, _ :: ts, ρ => puts rs ts ρ
  | _, _, ρ => ρ
def toR : T → R
  | .dat d => .dat d
  | .fn x => .fn x
  | t => .own t
def callM (m : FM) (rs : List R) : M R := fun ρ =>
  let ρ1 := gathers rs ρ
  let p := takes rs ρ1
  match m p.1 with
  | some (.ret t ts) => some (.ok (toR t) (puts rs ts p.2))
  | some (.ex c ts) => some (.ex c (puts rs ts p.2))
  | none => none
def noEx {β : Type} (m : M β) : M β := fun ρ => match m ρ with
  | some (.ok r ρ') => some (.ok r ρ')
  | _ => none
def mCall0 (m : FM) (ms : List (M R)) : M R := bnd (mArgs ms) fun rs => noEx (callM m rs)
def mCall (m : FM) (ms : List (M R)) : M R := bnd (mArgs ms) fun rs => callM m rs
section
variable {K : PySem.W.Frag} {mg : Str → Option Value} {mm : Mg} {B : Bs} {O O' : Ft} {A A' A1 : Al} {ρ ρ1 : Fr} {σ : L2.St} {H H' H1 : Hp} {E : XK}
theorem StC.sweep (S : StC K mg B O A ρ σ H) (keep : Nat → Bool) : ∃ A', StC K mg B O A' (XM.sweep keep ρ) σ H ∧ Same (hid (tot O A) H) (hid (tot O A') H) ∧ XM.al A' = XM.al A := StC.sweepN _ S
theorem StC.gathers : ∀ (rs : List R) {ρ : Fr} {A : Al}, StC K mg B O A ρ σ H → ∃ A', StC K mg B O A' (XM.gathers rs ρ) σ H ∧ Same (hid (tot O A) H) (hid (tot O A') H) ∧ XM.al A' = XM.al A
  | [], _, A, S => ⟨A, S, Same.refl _, rfl⟩
  | .ref n :: rs, ρ, A, S => by
    obtain ⟨A1, S1, s1, l1⟩ := S.sweep (fun k => !desc ρ.rt n ρ.rt.length k)
    obtain ⟨A2, S2, s2, l2⟩ := StC.gathers rs S1
    exact ⟨A2, S2, s1.trans s2, l2.trans l1⟩
  | .dat d :: rs, ρ, A, S => StC.gathers rs S
  | .fn x :: rs, ρ, A, S => StC.gathers rs S
  | .own t :: rs, ρ, A, S => StC.gathers rs S
theorem clrR_t (q : Nat × Pl → Bool) (x : Rt) : (clrR q x).t = x.t := by
  unfold clrR
  split
  · split <;> rfl
  · rfl
theorem clrR_par {q : Nat × Pl → Bool} {x : Rt} {jp : Nat × Pl} (h : (clrR q x).par = some jp) : x.par = some jp ∧ q jp = false := by
  unfold clrR at h
  split at h
  · rename_i y e
    split at h
    · cases h
    · rename_i z
      rw [e] at h
      cases h
      exact ⟨e, Bool.eq_false_iff.mpr z⟩
  · rename_i e; rw [e] at h; cases h
theorem clr_at {q : Nat × Pl → Bool} {i : Nat} {y : Rt} (h : (clr q ρ).rt[i]? = some y) : ∃ x, ρ.rt[i]? = some x ∧ y = clrR q x := by
  unfold clr at h
  dsimp only at h
  rw [List.getElem?_map] at h
  cases e : ρ.rt[i]? with
  | none => rw [e] at h; cases h
  | some x => rw [e] at h; exact ⟨x, rfl, (Option.some.inj h).symm⟩
theorem StC.clr (S : StC K mg B O A ρ σ H) (q : Nat × Pl → Bool) : StC K mg B O A (XM.clr q ρ) σ H := by
  refine ⟨S.le1, S.al, by simp [XM.clr, S.len], fun r x t h1 h2 => ?_, fun k j p x xj y z h1 h2 h3 h4 h5 h6 => ?_, fun m j p x h1 h2 => ?_, S.bas, S.bnp, S.slen, S.sls⟩
  · obtain ⟨x', e, rfl⟩ := clr_at h2
    rw [clrR_t]
    exact S.rts r x x' h1 e
  · obtain ⟨x', e, rfl⟩ := clr_at h1
    obtain ⟨xj', e', rfl⟩ := clr_at h3
    rw [clrR_t] at h4
    exact S.par k j p x' xj' y z e (clrR_par h2).1 e' h4 h5 h6
  · obtain ⟨x', e, rfl⟩ := clr_at h1
    have := S.parL m j p x' e (clrR_par h2).1
    simpa [XM.clr] using this
/-- a root gets the tree that came back -/
theorem StC.putR {n : Nat} {t : T} {v : V} {F : Ft} (S : StC K mg B (add O F) A ρ σ H) (ha : XM.al A n = some v) (ht : TR K ⟨mg, B.η⟩ (hid (tot (add O F) A) H) H t v F) :
    ∃ A', StC K mg B O A' (XM.putR n t ρ) σ H ∧ XM.al A' = XM.al A ∧ Same (hid (tot (add O F) A) H) (hid (tot O A') H) := by
  have S1 := S.clr (fun jp => jp.1 == n)
  obtain ⟨Fn, hA⟩ := al_at ha
  obtain ⟨x, hx⟩ := at_len S1.len.symm hA
  have z := fun a => sumF_set (y := (v, F)) a hA
  have w : Same (hid (tot (add O F) A) H) (hid (tot O (A.set n (v, F))) H) := hid_mono fun a e => by
    have h2 := z a
    have h3 := sumF_at a hA
    dsimp only at h2 h3
    unfold tot add at e ⊢
    omega
  refine ⟨A.set n (v, F), ?_, al_set hA, w⟩
  unfold XM.putR
  rw [hx]
  refine S1.setR (O' := O) hA hx w (fun _ _ _ => rfl) (fun a => ?_) (fun a e => S1.al a ?_) (ht.step w fun _ _ => rfl) fun _ m p y zz h1 h2 h3 => ?_
  · have h1 := S1.le1 a
    have h2 := z a
    have h3 := sumF_at a hA
    dsimp only at h2 h3
    unfold tot add at h1 ⊢
    omega
  · have h2 := z a
    have h3 := sumF_at a hA
    dsimp only at h2 h3
    unfold tot add at e ⊢
    omega
  · obtain ⟨y', _, rfl⟩ := clr_at h1
    have := (clrR_par h2).2
    simp at this
theorem puts_nil : ∀ (rs : List R) (ρ : Fr), puts rs [] ρ = ρ
  | [], _ => rfl
  | .dat _ :: _, _ => rfl
  | .fn _ :: _, _ => rfl
  | .own _ :: _, _ => rfl
  | .ref _ :: _, _ => rfl
theorem StC.puts : ∀ {rs : List R} {ts : List T} {vs : List V} {F : Ft} {O : Ft} {A : Al} {ρ : Fr}, StC K mg B (add O F) A ρ σ H → TRs K ⟨mg, B.η⟩ (hid (tot (add O F) A) H) H ts vs F → (∀ (i : Nat) (n : Nat) (v : V), rs[i]? = some (.ref n) → vs[i]? = some v → XM.al A n = some v) →
    ∃ A', StC K mg B O A' (XM.puts rs ts ρ) σ H ∧ XM.al A' = XM.al A ∧ Same (hid (tot (add O F) A) H) (hid (tot O A') H)
  | [], ts, vs, F, O, A, ρ, S, h, _ => ⟨A, by unfold XM.puts; exact S.weak fun a => le_add a, rfl, hid_weak fun a => le_add a⟩
  | r :: rs, [], vs, F, O, A, ρ, S, h, _ => ⟨A, by rw [puts_nil]; exact S.weak fun a => le_add a, rfl, hid_weak fun a => le_add a⟩
  | r :: rs, t :: ts, vs, F, O, A, ρ, S, h, q => by
    cases h with
    | cons h1 h2 =>
    rename_i v F1 vs F2
    have eq : add O (add F1 F2) = add (add O F2) F1 := by funext a; show O a + (F1 a + F2 a) = O a + F2 a + F1 a; omega
    rw [eq] at S h1 h2 ⊢
    have skip : ∃ A', StC K mg B O A' (XM.puts rs ts ρ) σ H ∧ XM.al A' = XM.al A ∧ Same (hid (tot (add (add O F2) F1) A) H) (hid (tot O A') H) := by
      have w : Same (hid (tot (add (add O F2) F1) A) H) (hid (tot (add O F2) A) H) := hid_weak fun a => le_add a
      obtain ⟨A', S', l', s'⟩ := StC.puts (S.weak fun a => le_add a) (h2.step w fun _ _ => rfl) fun i n v e1 e2 => q (i + 1) n v (by simpa using e1) (by simpa using e2)
      exact ⟨A', S', l', w.trans s'⟩
    cases r with
    | dat d => exact skip
    | fn x => exact skip
    | own t' => exact skip
    | ref n =>
      obtain ⟨A1, S1, l1, s1⟩ := S.putR (q 0 n v rfl rfl) h1
      obtain ⟨A2, S2, l2, s2⟩ := StC.puts (rs := rs) S1 (h2.step s1 fun _ _ => rfl) fun i n v e1 e2 => by rw [l1]; exact q (i + 1) n v (by simpa using e1) (by simpa using e2)
      exact ⟨A2, S2, l2.trans l1, s1.trans s2⟩
theorem takes_ok : ∀ {rs : List R} {vs : List V} {F O : Ft} {A : Al} {ρ : Fr}, StC K mg B (add O F) A ρ σ H → RRs K ⟨mg, B.η⟩ (al A) (hid (tot (add O F) A) H) H vs F rs →
    ∃ A' F', StC K mg B (add O F') A' (takes rs ρ).2 σ H ∧ TRs K ⟨mg, B.η⟩ (hid (tot (add O F') A') H) H (takes rs ρ).1 vs F' ∧ al A' = al A ∧ tot (add O F') A' = tot (add O F) A ∧ (takes rs ρ).1.length = rs.length
  | [], vs, F, O, A, ρ, S, h => by cases h; exact ⟨A, zer, S, .nil, rfl, rfl, rfl⟩
  | r :: rs, vs, F, O, A, ρ, S, h => by
    cases h with
    | cons h1 h2 =>
    rename_i v F1 vs F2
    have eq : add O (add F1 F2) = add (add O F1) F2 := by rw [add_assoc]
    rw [eq] at S h1 h2 ⊢
    have one : ∀ (t : T), TR K ⟨mg, B.η⟩ (hid (tot (add (add O F1) F2) A) H) H t v F1 → ∃ A' F', StC K mg B (add O F') A' (takes rs ρ).2 σ H ∧ TRs K ⟨mg, B.η⟩ (hid (tot (add O F') A') H) H (t :: (takes rs ρ).1) (v :: vs) F' ∧ al A' = al A ∧ tot (add O F') A' = tot (add (add O F1) F2) A ∧ (takes rs ρ).1.length = rs.length := fun t ht => by
      obtain ⟨A', F', S', tr, l', e', n'⟩ := takes_ok S h2
      rw [add_assoc] at S' tr e'
      exact ⟨A', add F1 F', S', .cons (by rw [e']; exact ht) tr, l', e', n'⟩
    cases r with
    | dat d =>
      obtain ⟨A', F', p1, p2, p3, p4, p5⟩ := one (.dat d) (by obtain ⟨z, h⟩ := h1; rw [z] at h ⊢; exact .dat h)
      exact ⟨A', F', p1, p2, p3, p4, by simp [takes, p5]⟩
    | fn x =>
      obtain ⟨A', F', p1, p2, p3, p4, p5⟩ := one (.fn x) (by obtain ⟨z, f, rfl, hf⟩ := h1; rw [z]; exact .fn hf)
      exact ⟨A', F', p1, p2, p3, p4, by simp [takes, p5]⟩
    | own t =>
      obtain ⟨A', F', p1, p2, p3, p4, p5⟩ := one t h1
      exact ⟨A', F', p1, p2, p3, p4, by simp [takes, p5]⟩
    | ref n =>
      obtain ⟨z, ha⟩ := h1
      subst z
      rw [add_zer] at S h2 ⊢
      obtain ⟨Fn, hA⟩ := al_at ha
      obtain ⟨x, hx⟩ := at_len S.len.symm hA
      obtain ⟨S1, e1, ht⟩ := S.take hA hx
      have eq2 : add (add O F2) Fn = add (add O Fn) F2 := by funext a; show O a + F2 a + Fn a = O a + Fn a + F2 a; omega
      rw [eq2] at S1 e1
      have h2' : RRs K ⟨mg, B.η⟩ (al (A.set n (v, zer))) (hid (tot (add (add O Fn) F2) (A.set n (v, zer))) H) H vs F2 rs := by rw [e1, al_set hA]; exact h2
      obtain ⟨A', F', S', tr, l', e', n'⟩ := takes_ok S1 h2'
      rw [add_assoc] at S' tr e'
      unfold takes
      rw [hx]
      exact ⟨A', add Fn F', S', .cons (by rw [e', e1]; exact ht) tr, by rw [l', al_set hA], by rw [e', e1], by simp [n']⟩
theorem RRs.nth_ref {α : Nat → Option V} {G : Hp} : ∀ {vs : List V} {F : Ft} {rs : List R}, RRs K mm α G H vs F rs → ∀ (i n : Nat) (v : V), rs[i]? = some (.ref n) → vs[i]? = some v → α n = some v
  | _, _, _, .nil, i, n, v, h, _ => by simp at h
  | _, _, _, .cons h r, 0, n, v, h1, h2 => by simp at h1 h2; subst h1 h2; exact h.2
  | _, _, _, .cons h r, i + 1, n, v, h1, h2 => RRs.nth_ref r i n v (by simpa using h1) (by simpa using h2)
theorem RRs.len {α : Nat → Option V} {G : Hp} : ∀ {vs : List V} {F : Ft} {rs : List R}, RRs K mm α G H vs F rs → rs.length = vs.length
  | _, _, _, .nil => rfl
  | _, _, _, .cons h r => by rw [List.length_cons, List.length_cons, RRs.len r]
theorem RRs.weakG {α α' : Nat → Option V} {G G' : Hp} (s : Same G G') (l : ∀ r v, α r = some v → α' r = some v) : ∀ {vs : List V} {F : Ft} {rs : List R}, RRs K mm α G H vs F rs → RRs K mm α' G' H vs F rs
  | _, _, _, .nil => .nil
  | _, _, _, .cons (r := r) h rr => .cons (by
    cases r with
    | dat d => exact ⟨h.1, Dq_same s h.2⟩
    | fn x => exact h
    | own t => exact TR.step s h fun _ _ => rfl
    | ref n => exact ⟨h.1, l _ _ h.2⟩) (RRs.weakG s l rr)
theorem toR_ok {α : Nat → Option V} {G : Hp} {t : T} {v : V} {F : Ft} (h : TR K mm G H t v F) : RR K mm α G H v F (toR t) := by
  cases h with
  | dat h => exact ⟨rfl, h⟩
  | fn h => exact ⟨rfl, _, rfl, h⟩
  | dl a b => exact .dl a b
  | ol a b => exact .ol a b
  | ot a b => exact .ot a b
  | dd a b c => exact .dd a b c
  | od a b c => exact .od a b c
  | ins a b c d => exact .ins a b c d
  | gone => exact .gone
  | hole => exact .hole
  | frz a => exact .frz a
/-- the callee's promise, seen from the caller -/
theorem call_ok {m : FM} {n : Nat} {rs : List R} {vs : List V} {F : Ft} {out : Out R} {Q : VK} {A0 : Al} {H0 : Hp} (S : StC K mg B (add O F) A ρ σ H) (h : RRs K ⟨mg, B.η⟩ (al A) (hid (tot (add O F) A) H) H vs F rs) (hn : rs.length = n) (e : callM m rs ρ = some out)
    (st1 : Stp O A0 H0 (add O F) A H) (x : Exc K mg B O A0 σ H0 E out) (c : ∀ r ρ', out = .ok r ρ' → okE K mg B O A0 σ H0 Q r ρ') : spM K mg n m vs H Q E := by
  obtain ⟨A1, S1, s1, l1⟩ := StC.gathers rs S
  have h1 := h.weakG (α' := al A1) s1 (fun r v q => by rw [l1]; exact q)
  obtain ⟨A2, F2, S2, tr, l2, t2, n2⟩ := takes_ok S1 h1
  unfold callM at e
  dsimp only at e
  generalize hρ : (takes rs (XM.gathers rs ρ)).2 = ρ2 at e S2
  have eO : add (add O (sumF A2)) F2 = tot (add O F2) A2 := by funext a; show O a + sumF A2 a + F2 a = O a + F2 a + sumF A2 a; omega
  have base : ∀ (H' : Hp) (F3 : Ft), (∀ a, add (add O (sumF A2)) F3 a ≤ 1) → (∀ a, add (add O (sumF A2)) F3 a ≠ 0 → H' a ≠ none) → (∀ a, add O (sumF A2) a ≠ 0 → H' a = H a) → Same (hid (add (add O (sumF A2)) F2) H) (hid (add (add O (sumF A2)) F3) H') →
      StC K mg B (add O F3) A2 ρ2 σ H' ∧ tot (add O F3) A2 = add (add O (sumF A2)) F3 ∧ Sto O A0 H0 (add O F3) A2 H' := fun H' F3 q1 q2 q3 q4 => by
    have e3 : tot (add O F3) A2 = add (add O (sumF A2)) F3 := by funext a; show O a + F3 a + sumF A2 a = O a + sumF A2 a + F3 a; omega
    rw [eO] at q4
    refine ⟨S2.move (by rw [e3]; exact q4) (fun a z => q3 a (by unfold add; omega)) (by rw [e3]; exact q1) (by rw [e3]; exact q2), e3, ⟨fun a z => (q3 a (by unfold add; omega)).trans (st1.out a z), ?_⟩⟩
    rw [e3]
    rw [t2] at q4
    exact (st1.sh.trans s1).trans q4
  have refs : ∀ (i n : Nat) (v : V), rs[i]? = some (.ref n) → vs[i]? = some v → al A2 n = some v := fun i n v q1 q2 => by rw [l2]; exact h1.nth_ref i n v q1 q2
  cases em : m (takes rs (XM.gathers rs ρ)).1 with
  | none => rw [em] at e; cases e
  | some fo =>
    rw [em] at e
    refine ⟨B.η, add O (sumF A2), F2, _, fo, by rw [n2, hn], by rw [eO]; exact tr, by rw [eO]; exact S2.le1, by rw [eO]; exact S2.al, em, ?_⟩
    cases fo with
    | ret t ts =>
      have e := Option.some.inj e
      rintro v H' F' Ft ⟨p1, p2, p3, p4, p5, p6⟩
      obtain ⟨S3, e3, sto⟩ := base H' (add F' Ft) p3 p4 p5 p6
      have eq : add O (add F' Ft) = add (add O Ft) F' := by funext a; show O a + (F' a + Ft a) = O a + Ft a + F' a; omega
      rw [← e3] at p1 p2
      rw [eq] at S3 p1 p2 sto
      obtain ⟨A3, S4, l4, s4⟩ := S3.puts (rs := rs) p1 refs
      exact c _ _ e.symm v H' A3 Ft S4 (toR_ok (p2.step s4 fun _ _ => rfl)) ⟨⟨sto.out, sto.sh.trans s4⟩, fun r u q => by rw [l4, l2, l1]; exact st1.al r u q⟩
    | ex c' ts =>
      have e := Option.some.inj e
      intro C H' F' hc p1 p3 p4 p5 p6
      obtain ⟨S3, e3, sto⟩ := base H' F' p3 p4 p5 p6
      rw [← e3] at p1
      obtain ⟨A3, S4, l4, s4⟩ := S3.puts (rs := rs) p1 refs
      exact x c' _ e.symm C H' A3 hc S4 ⟨sto.out, sto.sh.trans s4⟩
end
section
variable {X : Cx} {E : XK} {e : Expr} {es : List Expr} {x : Str} {ps : List Str} {k j : Nat} {p pos : Pos} {m : FM} {CX : CXT} {B : Bs} {O : Ft} {A : Al} {σ : L2.St} {H : Hp}
theorem len_args {ms : List (M R)} : ∀ {ρ ρ1 : Fr} {rs : List R}, mArgs ms ρ = some (.ok rs ρ1) → rs.length = ms.length := by
  induction ms with
  | nil => intro ρ ρ1 rs h; cases h; rfl
  | cons m ms ih =>
    intro ρ ρ1 rs h
    rcases bnd_some h with ⟨c, ρ2, e1, e2⟩ | ⟨r, ρ2, e1, e2⟩
    · cases e2
    · rcases bnd_some e2 with ⟨c, ρ3, e3, e4⟩ | ⟨rs', ρ3, e3, e4⟩
      · cases e4
      · cases e4
        rw [List.length_cons, List.length_cons, ih e3]
/-- behind arguments, with their number -/
theorem run_args {K : PySem.W.Frag} {mg : Str → Option Value} {ρ : Fr} {ms : List (M R)} {k : List R → M R} {out : Out R} {Q : List V → Hp → Prop} (S : StC K mg B O A ρ σ H) (h : bnd (mArgs ms) k ρ = some out) (x : Exc K mg B O A σ H E out)
    (c : ∀ r ρ1 v H1 A1 F, k r ρ1 = some out → r.length = ms.length → StC K mg B (add O F) A1 ρ1 σ H1 → RRs K ⟨mg, B.η⟩ (al A1) (hid (tot (add O F) A1) H1) H1 v F r → Stp O A H (add O F) A1 H1 → Q v H1) : ARun K mg (mArgs ms) E σ H Q := by
  rcases bnd_some h with ⟨c', ρ1, e, eo⟩ | ⟨r, ρ1, e, hk⟩
  · exact ⟨B, O, A, ρ, _, S, e, fun C H' A' hc S' st => x c' ρ1 eo C H' A' hc S' st⟩
  · exact ⟨B, O, A, ρ, _, S, e, fun v H1 A1 F S1 rr st => c r ρ1 v H1 A1 F hk (len_args e) S1 rr st⟩
/-- a call of a def that may raise -/
theorem de_callX {ms : List (M R)} (c : PrG X.prog X.w X.K X.mg X.base CX k x ps (spM X.K X.mg ps.length m)) (quiet : Quiet X.A) (hr : Room j X.A) (hk : k ≤ j) (hx : Passes CX X E) (hg : Gl X x) (hn : ms.length = ps.length) (ha : DA X E (e :: es) (mArgs ms))
    (hdb : (x == ("__debug__" : Str)) = false := by decide) (he : starEach (e :: es) X.env = (false, eval e X.env) :: starEach es X.env := by rfl) (hpl : (backTo pos (starEach es X.env)).any (·.1) = false := by rfl) :
    DE X E (.Call (.Name x p) (e :: es) [] pos) (mCall m ms) := by
  refine ⟨pe_imp (pe_kG c quiet hr hk hx hg ha.pa hdb he hpl) fun σ H Q h => ?_⟩
  obtain ⟨B, O, A, ρ, out, S, hm, k⟩ := h
  refine run_args S hm k.exc fun rs ρ1 vs H1 A1 F hk hl S1 rr1 st1 => ?_
  rw [List.append_nil]
  exact call_ok S1 rr1 (hl.trans hn) hk st1 k.exc fun r ρ' e => by subst e; exact k.oks
theorem noEx_some {β : Type} {m : M β} {ρ : Fr} {out : Out β} (h : noEx m ρ = some out) : ∃ r ρ', out = .ok r ρ' ∧ m ρ = some (.ok r ρ') := by
  unfold noEx at h
  split at h
  · rename_i r ρ' e; cases h; exact ⟨r, ρ', rfl, e⟩
  · cases h
/-- .. of one that raises nothing -/
theorem de_call {ms : List (M R)} (c : PrG X.prog X.w X.K X.mg X.base CX0 k x ps (sp0 X.K X.mg ps.length m)) (quiet : Quiet X.A) (hr : Room j X.A) (hk : k ≤ j) (hg : Gl X x) (hn : ms.length = ps.length) (ha : DA X E (e :: es) (mArgs ms))
    (hdb : (x == ("__debug__" : Str)) = false := by decide) (he : starEach (e :: es) X.env = (false, eval e X.env) :: starEach es X.env := by rfl) (hpl : (backTo pos (starEach es X.env)).any (·.1) = false := by rfl) :
    DE X E (.Call (.Name x p) (e :: es) [] pos) (mCall0 m ms) := by
  refine ⟨pe_imp (pe_kG (E := E) c quiet hr hk (fun _ _ _ _ _ _ _ h => h.elim) hg ha.pa hdb he hpl) fun σ H Q h => ?_⟩
  obtain ⟨B, O, A, ρ, out, S, hm, k⟩ := h
  refine run_args S hm k.exc fun rs ρ1 vs H1 A1 F hk hl S1 rr1 st1 => ?_
  rw [List.append_nil]
  obtain ⟨r, ρ', rfl, e1⟩ := noEx_some hk
  exact call_ok S1 rr1 (hl.trans hn) e1 st1 (fun c ρ' z => nomatch z) fun r ρ' z => by cases z; exact k.oks
end
end XM
end
section
namespace XM
open PySem PySem.Spec PyProof.Rows L2 Tl
/-! ### what loops walk -/
/-- turn i gives data -/
def Yld (K : PySem.W.Frag) (G : Hp) (l : List D) (i : Nat) (H : Hp) (x : V) (H' : Hp) : Prop :=
  (H' = H ∧ ∃ d, l[i]? = some d ∧ Dq K G x d) ∨ ∃ p xs ds, x = .ref p ∧ H p = none ∧ H' = upd H p (.tup xs) ∧ l[i]? = some (.tuple ds) ∧ DqAll K G xs ds
def ItOk (K : PySem.W.Frag) (G : Hp) (J : It) (l : List D) : Prop := ∃ Gd Y, Walk J l.length Gd Y ∧ (∀ H, Same G H → Gd H) ∧ ∀ i H x H', i < l.length → Y i H x H' → Yld K G l i H x H'
def okI (K : PySem.W.Frag) (mg : Str → Option Value) (B : Bs) (O : Ft) (A : Al) (σ : L2.St) (H : Hp) (R : It → Hp → Prop) (l : List D) (ρ' : Fr) : Prop :=
  ∀ J H' A', StC K mg B O A' ρ' σ H' → Stp O A H O A' H' → ItOk K (hid (tot O A') H') J l → R J H'
def IRun (K : PySem.W.Frag) (mg : Str → Option Value) (m : M (List D)) (E : XK) : TI := fun σ H R => ∃ B O A ρ out, StC K mg B O A ρ σ H ∧ m ρ = some out ∧ Aft K mg B O A σ H E (okI K mg B O A σ H R) out
structure DI (X : Cx) (E : XK) (tg iter : Expr) (m : M (List D)) : Prop where
  pi : PI X tg iter (IRun X.K X.mg m E)
theorem pi_imp {X : Cx} {tg iter : Expr} {t t' : TI} (h : PI X tg iter t) (i : ∀ σ H Q, t' σ H Q → t σ H Q) : PI X tg iter t' := ⟨fun pins s σ H R I q => h.run pins s σ H R I (i _ _ _ q)⟩
theorem pi_or {X : Cx} {tg iter : Expr} {t t' : TI} (h : PI X tg iter t) (h' : PI X tg iter t') : PI X tg iter (fun σ H R => t σ H R ∨ t' σ H R) := ⟨fun pins s σ H R I q => q.elim (h.run pins s σ H R I) (h'.run pins s σ H R I)⟩
section
variable {K : PySem.W.Frag} {mg : Str → Option Value} {mm : Mg} {B : Bs} {O O' : Ft} {A A' A1 : Al} {ρ ρ1 : Fr} {σ σ1 : L2.St} {H H' H1 : Hp} {E : XK}
theorem yat_ok {G : Hp} {vs : List V} {l : List D} (h : DqAll K G vs l) {i : Nat} {H : Hp} {x : V} {H' : Hp} (hi : i < l.length) (y : YAt vs i H x H') : Yld K G l i H x H' := by
  obtain ⟨rfl, e⟩ := y
  obtain ⟨v, e', hv⟩ := DqAll_at h (List.getElem?_eq_getElem hi)
  rw [e] at e'
  cases e'
  exact .inl ⟨rfl, _, List.getElem?_eq_getElem hi, hv⟩
theorem it_list {G : Hp} {a : Addr} {vs : List V} {l : List D} (ha : SqL K G a vs) (h : DqAll K G vs l) : ItOk K G (Itl K a) l :=
  ⟨_, _, by rw [← DqAll_len h]; exact walk_list (xs := vs), fun _ s => s.seq ha, fun i H x H' hi y => yat_ok h hi y⟩
theorem it_tup {G : Hp} {a : Addr} {vs : List V} {l : List D} (ha : SqT K G a vs) (h : DqAll K G vs l) : ItOk K G (Itt K a) l :=
  ⟨_, _, by rw [← DqAll_len h]; exact walk_tup (xs := vs), fun _ s => Tl.Same.tup s ha, fun i H x H' hi y => yat_ok h hi y⟩
def rangeD (lo : Int) (n : Nat) : List D := (List.range n).map fun i => .int (lo + (i : Nat))
theorem it_range {G : Hp} {lo : Int} {n : Nat} : ItOk K G (Itr lo n) (rangeD lo n) := by
  have len : (rangeD lo n).length = n := by simp [rangeD]
  refine ⟨_, _, by rw [len]; exact walk_range (lo := lo), fun _ _ => trivial, fun i H x H' hi y => ?_⟩
  obtain ⟨rfl, rfl⟩ := y
  rw [len] at hi
  exact .inl ⟨rfl, .int (lo + (i : Nat)), by simp [rangeD, hi], .int _⟩
def rangeC (lo c : Int) (n : Nat) : List D := (List.range n).map fun i => .int (lo + (i : Nat) * c)
theorem it_rangeC {G : Hp} {lo c : Int} {n : Nat} : ItOk K G (Itc lo c n) (rangeC lo c n) := by
  have len : (rangeC lo c n).length = n := by simp [rangeC]
  refine ⟨_, _, by rw [len]; exact walk_rangeC (lo := lo) (c := c), fun _ _ => trivial, fun i H x H' hi y => ?_⟩
  obtain ⟨rfl, rfl⟩ := y
  rw [len] at hi
  exact .inl ⟨rfl, .int (lo + (i : Nat) * c), by simp [rangeC, hi], .int _⟩
def strD (z : Str) : List D := z.cps.toList.map fun c => .str ⟨#[c]⟩
theorem it_str {G : Hp} {z : Str} : ItOk K G (Its z) (strD z) := by
  have len : (strD z).length = z.cps.size := by simp [strD]
  refine ⟨_, _, by rw [len]; exact walk_str (z := z), fun _ _ => trivial, fun i H x H' hi y => ?_⟩
  obtain ⟨rfl, c, hc, rfl⟩ := y
  refine .inl ⟨rfl, .str ⟨#[c]⟩, ?_, .str _⟩
  simp only [strD, List.getElem?_map, Array.getElem?_toList, hc]
  rfl
end
/-! what is walked: a list or a tuple that all may read from now on, a text, a range -/
def seqD (r : R) : M (List D) := fun ρ => match r with
  | .ref n => match ρ.rt[n]? with
    | some ⟨.frz ns, _⟩ => some (.ok (ns.map .int) ρ)
    | _ => match toD r ρ with
      | some (.ok (.list l) ρ1) => some (.ok l ρ1)
      | some (.ok (.tuple l) ρ1) => some (.ok l ρ1)
      | _ => none
  | _ => match toD r ρ with
    | some (.ok (.list l) ρ1) => some (.ok l ρ1)
    | some (.ok (.tuple l) ρ1) => some (.ok l ρ1)
    | _ => none
def mSeqI (m : M R) : M (List D) := bnd m seqD
def mStrI (m : M R) : M (List D) := bnd m fun r ρ => match vw r ρ with
  | some (.str z) => some (.ok (strD z) ρ)
  | _ => none
def mRng1 (m : M R) : M (List D) := bnd m fun r ρ => match vw r ρ with
  | some (.int j) => if -1000000 ≤ j ∧ j ≤ 1000000 then some (.ok (rangeD 0 j.toNat) ρ) else none
  | _ => none
def mRng2 (ma mb : M R) : M (List D) := bnd ma fun r => bnd mb fun r2 ρ => match vw r ρ, vw r2 ρ with
  | some (.int i), some (.int j) => if -1000000 ≤ i ∧ i ≤ 1000000 ∧ -1000000 ≤ j ∧ j ≤ 1000000 then some (.ok (rangeD i (j - i).toNat) ρ) else none
  | _, _ => none
/-- reversed(range(n)) -/
def mRev1 (m : M R) : M (List D) := bnd m fun r ρ => match vw r ρ with
  | some (.int j) => if -1000000 ≤ j ∧ j ≤ 1000000 then some (.ok (rangeC (0 + ((j - 0).toNat : Nat) - 1) (-1) (j - 0).toNat) ρ) else none
  | _ => none
section
variable {X : Cx} {E : XK} {e a b tg : Expr} {pos p : Pos} {B : Bs} {O O' : Ft} {A A' A1 : Al} {ρ ρ1 : Fr} {σ : L2.St} {H H' H1 : Hp}
theorem seq_ok {K : PySem.W.Frag} {mg : Str → Option Value} {F : Ft} {r : R} {v : V} {out : Out (List D)} (S : StC K mg B (add O F) A ρ σ H) (h : RR K ⟨mg, B.η⟩ (al A) (hid (tot (add O F) A) H) H v F r) (e : seqD r ρ = some out) :
    ∃ l ρ' A' a vs, out = .ok l ρ' ∧ v = .ref a ∧ StC K mg B O A' ρ' σ H ∧ (SqL K (hid (tot O A') H) a vs ∨ SqT K (hid (tot O A') H) a vs) ∧ DqAll K (hid (tot O A') H) vs l ∧ Stp (add O F) A H O A' H := by
  have viaD : ∀ o, toD r ρ = some o → (∃ l ρ1, out = .ok l ρ1 ∧ (o = .ok (.list l) ρ1 ∨ o = .ok (.tuple l) ρ1)) → ∃ l ρ' A' a vs, out = .ok l ρ' ∧ v = .ref a ∧ StC K mg B O A' ρ' σ H ∧ (SqL K (hid (tot O A') H) a vs ∨ SqT K (hid (tot O A') H) a vs) ∧ DqAll K (hid (tot O A') H) vs l ∧ Stp (add O F) A H O A' H := by
    rintro o ho ⟨l, ρ1, rfl, q⟩
    obtain ⟨d, ρ', A', rfl, S', dq, st⟩ := give S h ho
    rcases q with q | q
    · cases q
      cases dq with
      | lst ha r => exact ⟨l, ρ1, A', _, _, rfl, rfl, S', .inl (.of ha), r, st⟩
    · cases q
      cases dq with
      | tup ha r => exact ⟨l, ρ1, A', _, _, rfl, rfl, S', .inr ha, r, st⟩
  have gen : (match toD r ρ with
      | some (.ok (.list l) ρ1) => some (Out.ok l ρ1)
      | some (.ok (.tuple l) ρ1) => some (.ok l ρ1)
      | _ => none) = some out → ∃ l ρ' A' a vs, out = .ok l ρ' ∧ v = .ref a ∧ StC K mg B O A' ρ' σ H ∧ (SqL K (hid (tot O A') H) a vs ∨ SqT K (hid (tot O A') H) a vs) ∧ DqAll K (hid (tot O A') H) vs l ∧ Stp (add O F) A H O A' H := fun e => by
    split at e
    · rename_i l ρ1 q; cases e; exact viaD _ q ⟨l, ρ1, rfl, .inl rfl⟩
    · rename_i l ρ1 q; cases e; exact viaD _ q ⟨l, ρ1, rfl, .inr rfl⟩
    · cases e
  cases r with
  | ref n =>
    simp only [seqD] at e
    split at e
    · rename_i ns pr hx
      cases e
      obtain ⟨rfl, ha⟩ := h
      rw [add_zer] at S ⊢
      obtain ⟨F', _, ht⟩ := S.root hx ha
      cases ht with
      | frz hs => exact ⟨_, ρ, A, _, _, rfl, rfl, S, .inl hs, ints_all ns, Stp.refl⟩
    · exact gen e
  | dat d => exact gen e
  | own t => exact gen e
  | fn x => exact gen e
def iSeq (K : PySem.W.Frag) (tl : TE) : TI := fun σ H R => tl σ H fun x H1 => ∃ a, x = .ref a ∧ ((∃ xs, SqL K H1 a xs) ∧ R (Itl K a) H1 ∨ (∃ xs, SqT K H1 a xs) ∧ R (Itt K a) H1)
theorem pi_seq {tl : TE} (hl : PE X e tl) : PI X tg e (iSeq X.K tl) := by
  refine ⟨fun pins s σ H R I h => ?_⟩
  refine thn (hl.run pins s σ H _ I h) fun v s1 ⟨x, H1, I1, r1, q1⟩ => ?_
  obtain ⟨a, e, q⟩ := q1
  subst e
  cases r1
  rcases q with ⟨⟨xs, hq⟩, q⟩ | ⟨⟨xs, hq⟩, q⟩
  · obtain ⟨its, rv, p, hz⟩ := I1.list hq
    refine wpAny_pyIter_list p.isList ?_
    refine ⟨s1.heap.objs.size, [s1.heap.objs.size], _, _, H1, rfl, I1.kept (t' := s1.toks) fun b o e => Heap.get?_push_of_some _ e, turn_list a _, ⟨_, Heap.get?_push_size _ rfl, rfl, rfl⟩, fun b hb => ?_, q⟩
    have e : b = s1.heap.objs.size := by simpa using hb
    subst e
    exact I1.fpOk (Nat.le_refl _) (I1.hok.fresh (Nat.le_refl _))
  · obtain ⟨its, rv, p, hz⟩ := I1.tuple hq
    refine wpAny_pyIter_tuple (show s1.heap.IsTuple a its.toArray from p) ?_
    refine ⟨s1.heap.objs.size, [s1.heap.objs.size], _, _, H1, rfl, I1.kept (t' := s1.toks) fun b o e => Heap.get?_push_of_some _ e, turn_tuple a _, ⟨_, Heap.get?_push_size _ rfl, rfl, rfl⟩, fun b hb => ?_, q⟩
    have e : b = s1.heap.objs.size := by simpa using hb
    subst e
    exact I1.fpOk (Nat.le_refl _) (I1.hok.fresh (Nat.le_refl _))
theorem di_seq {m : M R} (h : DE X E e m) : DI X E tg e (mSeqI m) := by
  refine ⟨pi_imp (pi_seq h.pe) fun σ H R h => ?_⟩
  obtain ⟨B, O, A, ρ, out, S, hm, k⟩ := h
  refine run_bnd S hm k.exc fun r ρ1 v H1 A1 F hk S1 rr1 st1 x1 => ?_
  obtain ⟨l, ρ', A', a, vs, rfl, rfl, S', sq, dq, st⟩ := seq_ok S1 rr1 hk
  have st' := st1.trans st fun a n => add_l n
  rcases sq with sq | sq
  · exact ⟨a, rfl, .inl ⟨⟨vs, (show Same _ H1 from hid_sub).seq sq⟩, k.oks _ H1 A' S' st' (it_list sq dq)⟩⟩
  · exact ⟨a, rfl, .inr ⟨⟨vs, Tl.Same.tup hid_sub sq⟩, k.oks _ H1 A' S' st' (it_tup sq dq)⟩⟩
theorem di_str {m : M R} (h : DE X E e m) : DI X E tg e (mStrI m) := by
  refine ⟨pi_imp (pi_str h.pe) fun σ H R h => ?_⟩
  obtain ⟨B, O, A, ρ, out, S, hm, k⟩ := h
  refine run_bnd S hm k.exc fun r ρ1 v H1 A1 F hk S1 rr1 st1 x1 => ?_
  split at hk
  · rename_i z e1
    cases hk
    have := S1.view rr1 e1
    cases this
    exact ⟨z, rfl, k.oks _ H1 A1 (S1.weak fun a => le_add a) (st1.weak fun a => le_add a) it_str⟩
  · cases hk
theorem di_rng1 {m : M R} (hg : Gl X "range") (hm : X.mg "range" = none) (h : DE X E a m) (hs : starEach [a] X.env = [(false, eval a X.env)] := by rfl) : DI X E tg (.Call (.Name "range" p) [a] [] pos) (mRng1 m) := by
  refine ⟨pi_imp (pi_range1 hg hm (pa_cons h.pe pa_nil (by rw [hs]; rfl)) hs) fun σ H R h => ?_⟩
  obtain ⟨B, O, A, ρ, out, S, hm, k⟩ := h
  show ERun _ _ _ _ _ _ _
  refine run_bnd S hm k.exc fun r ρ1 v H1 A1 F hk S1 rr1 st1 x1 => ?_
  split at hk
  · rename_i j e1
    split at hk
    · rename_i sm
      cases hk
      have := S1.view rr1 e1
      cases this
      exact ⟨j, rfl, by omega, by omega, k.oks _ H1 A1 (S1.weak fun a => le_add a) (st1.weak fun a => le_add a) it_range⟩
    · cases hk
  · cases hk
theorem di_rng2 {ma mb : M R} (hg : Gl X "range") (hm : X.mg "range" = none) (ha : DE X E a ma) (hb : DE X E b mb) (hs : starEach [a, b] X.env = [(false, eval a X.env), (false, eval b X.env)] := by rfl) (hs2 : starEach [b] X.env = [(false, eval b X.env)] := by rfl) : DI X E tg (.Call (.Name "range" p) [a, b] [] pos) (mRng2 ma mb) := by
  refine ⟨pi_imp (pi_range2 hg hm (pa_cons ha.pe (pa_cons hb.pe pa_nil (by rw [hs2]; rfl)) (by rw [hs, hs2])) hs hs2) fun σ H R h => ?_⟩
  obtain ⟨B, O, A, ρ, out, S, hm, k⟩ := h
  show ERun _ _ _ _ _ _ _
  refine run_bnd S hm k.exc fun ra ρ1 v H1 A1 F hk S1 rr1 st1 x1 => ?_
  show ERun _ _ _ _ _ _ _
  refine run_bnd S1 hk x1 fun rb ρ2 w H2 A2 F2 hk2 S2 rr2 st2 x2 => ?_
  have rr1' := rr1.step st2 (fun a n => add_r n)
  split at hk2
  · rename_i i j e1 e2
    split at hk2
    · rename_i sm
      cases hk2
      have h1 := S2.view rr1' e1
      have h2 := S2.view rr2 e2
      cases h1
      cases h2
      have le : ∀ a, O a ≤ add (add O F) F2 a := fun a => by unfold add; omega
      exact ⟨i, j, rfl, ⟨by omega, by omega, by omega, by omega⟩, k.oks _ H2 A2 (S2.weak le) ((st1.trans st2 fun a n => add_l n).weak le) it_range⟩
    · cases hk2
  · cases hk2
theorem di_rev1 {m : M R} (hg : Gl X "range") (hm : X.mg "range" = none) (hg' : Gl X "reversed") (hm' : X.mg "reversed" = none) (h : DE X E a m) {p' pos' : Pos} (hs : starEach [a] X.env = (false, eval a X.env) :: starEach [] X.env := by rfl)
    (hs2 : starEach [.Call (.Name "range" p) [a] [] pos] X.env = (false, eval (.Call (.Name "range" p) [a] [] pos) X.env) :: starEach [] X.env := by rfl) : DI X E tg (.Call (.Name "reversed" p') [.Call (.Name "range" p) [a] [] pos] [] pos') (mRev1 m) := by
  refine ⟨pi_imp (pi_revR hg' hm' (prg_1 hg hm h.pe hs) hs2) fun σ H R h => ?_⟩
  obtain ⟨B, O, A, ρ, out, S, hm, k⟩ := h
  show ERun _ _ _ _ _ _ _
  refine run_bnd S hm k.exc fun r ρ1 v H1 A1 F hk S1 rr1 st1 x1 => ?_
  split at hk
  · rename_i j e1
    split at hk
    · rename_i sm
      cases hk
      have := S1.view rr1 e1
      cases this
      exact ⟨j, rfl, by decide, by decide, by omega, by omega, k.oks _ H1 A1 (S1.weak fun a => le_add a) (st1.weak fun a => le_add a) it_rangeC⟩
    · cases hk
  · cases hk
/-! ### targets -/
/-- only the slots ws are touched -/
def Only (ws : List Nat) (σ σ' : L2.St) : Prop := ∀ vs, (∀ w ∈ ws, w ∈ vs) → wipe σ' vs = wipe σ vs
def GRun (K : PySem.W.Frag) (mg : Str → Option Value) (ws : List Nat) (b : D → Fr → Option Fr) : TG := fun v σ H Q => ∃ B O A ρ ρ' d, StC K mg B O A ρ σ H ∧ Dq K (hid (tot O A) H) v d ∧ b d ρ = some ρ' ∧ ∀ σ', Only ws σ σ' → StC K mg B O A ρ' σ' H → Q σ' H
def GRuns (K : PySem.W.Frag) (mg : Str → Option Value) (ws : List Nat) (b : List D → Fr → Option Fr) : TGs := fun vs σ H Q => ∃ B O A ρ ρ' ds, StC K mg B O A ρ σ H ∧ DqAll K (hid (tot O A) H) vs ds ∧ b ds ρ = some ρ' ∧ ∀ σ', Only ws σ σ' → StC K mg B O A ρ' σ' H → Q σ' H
structure DG (X : Cx) (tg : Expr) (ws : List Nat) (b : D → Fr → Option Fr) : Prop where
  pg : PG X tg (GRun X.K X.mg ws b)
structure DGs (X : Cx) (ts : List Expr) (ws : List Nat) (b : List D → Fr → Option Fr) : Prop where
  pgs : PGs X ts (GRuns X.K X.mg ws b)
theorem pg_imp {X : Cx} {tg : Expr} {t t' : TG} (h : PG X tg t) (i : ∀ v σ H Q, t' v σ H Q → t v σ H Q) : PG X tg t' := ⟨fun pins s σ H v u Q I r q => h.run pins s σ H v u Q I r (i _ _ _ _ q)⟩
theorem pgs_imp {X : Cx} {ts : List Expr} {t t' : TGs} (h : PGs X ts t) (i : ∀ v σ H Q, t' v σ H Q → t v σ H Q) : PGs X ts t' := ⟨fun pins s σ H v u Q I r q => h.run pins s σ H v u Q I r (i _ _ _ _ q)⟩
theorem wipe_get {σ : L2.St} {i : Nat} : ∀ {vs : List Nat}, i ∈ vs → i < σ.length → (wipe σ vs)[i]? = some none
  | v :: vs, h, lt => by
    unfold wipe
    rw [List.getElem?_set]
    by_cases e : v = i
    · rw [if_pos e, if_pos (by rw [wipe_length]; omega)]
    · rw [if_neg e]
      rcases List.mem_cons.mp h with h | h
      · exact absurd h.symm e
      · exact wipe_get h lt
theorem wipe_ext {σ σ' : L2.St} {vs : List Nat} (l : σ'.length = σ.length) (h : ∀ i, i ∉ vs → σ'[i]? = σ[i]?) : wipe σ' vs = wipe σ vs := by
  apply List.ext_getElem?
  intro i
  by_cases m : i ∈ vs
  · by_cases lt : i < σ.length
    · rw [wipe_get m (by omega), wipe_get m lt]
    · rw [List.getElem?_eq_none_iff.mpr (by rw [wipe_length]; omega), List.getElem?_eq_none_iff.mpr (by rw [wipe_length]; omega)]
  · rw [wipe_out m, wipe_out m]; exact h i m
theorem wipe_wipe {σ : L2.St} {vs : List Nat} : wipe (wipe σ vs) vs = wipe σ vs := wipe_ext (wipe_length σ vs) fun i m => wipe_out m
theorem only_set {σ : L2.St} {i : Nat} {x : Option V} : Only [i] σ (σ.set i x) := fun vs h => wipe_ext (by simp) fun j m => by
  rw [List.getElem?_set, if_neg fun (e : i = j) => m (e ▸ h i (by simp))]
theorem Only.refl {σ : L2.St} : Only [] σ σ := fun _ _ => rfl
theorem Only.app {ws ws' : List Nat} {σ σ1 σ2 : L2.St} (a : Only ws σ σ1) (b : Only ws' σ1 σ2) : Only (ws ++ ws') σ σ2 := fun vs h => (b vs fun w m => h w (List.mem_append_right _ m)).trans (a vs fun w m => h w (List.mem_append_left _ m))
def bName (i : Nat) : D → Fr → Option Fr := fun d ρ => some { ρ with sl := ρ.sl.set i (.dat d) }
def bNil : List D → Fr → Option Fr := fun ds ρ => match ds with
  | [] => some ρ
  | _ => none
def bCons (b : D → Fr → Option Fr) (bs : List D → Fr → Option Fr) : List D → Fr → Option Fr := fun ds ρ => match ds with
  | d :: r => match b d ρ with
    | some ρ1 => bs r ρ1
    | none => none
  | [] => none
def bTup (n : Nat) (bs : List D → Fr → Option Fr) : D → Fr → Option Fr := fun d ρ => match d with
  | .tuple ds => if ds.length = n then bs ds ρ else none
  | _ => none
theorem dg_name {i : Nat} {x : Str} (hN : X.N.Nodup) (hi : X.N[i]? = some x) (hx : Loc X.env.scope x) (hf : X.fn x = true ∨ X.env.scope.names.lookup x = some .local := by first | exact .inl rfl | exact .inr rfl | assumption) : DG X (.Name x pos) [i] (bName i) := by
  refine ⟨pg_imp (pg_name hN hi hx hf) fun v σ H Q h => ?_⟩
  obtain ⟨B, O, A, ρ, ρ', d, S, dq, e, k⟩ := h
  cases e
  exact k _ only_set (S.setSl ⟨v, rfl, dq⟩)
theorem dgs_nil : DGs X [] [] bNil := by
  refine ⟨pgs_imp pgs_nil fun v σ H Q h => ?_⟩
  obtain ⟨B, O, A, ρ, ρ', ds, S, dq, e, k⟩ := h
  cases dq with
  | nil => cases e; exact ⟨rfl, k _ Only.refl S⟩
  | cons _ _ => cases e
theorem dgs_cons {es : List Expr} {b : D → Fr → Option Fr} {bs : List D → Fr → Option Fr} {ws ws' : List Nat} (h1 : DG X e ws b) (h2 : DGs X es ws' bs) (hs : (assignEach (e :: es) X.env).map (·.2) = assign e X.env :: (assignEach es X.env).map (·.2) := by rfl) : DGs X (e :: es) (ws ++ ws') (bCons b bs) := by
  refine ⟨pgs_imp (pgs_cons h1.pg h2.pgs hs) fun v σ H Q h => ?_⟩
  obtain ⟨B, O, A, ρ, ρ', ds, S, dq, e, k⟩ := h
  cases dq with
  | nil => cases e
  | cons a r =>
    rename_i v vs d ds
    simp only [bCons] at e
    split at e
    · rename_i ρ1 e1
      exact ⟨v, vs, rfl, B, O, A, ρ, ρ1, d, S, a, e1, fun σ1 o1 S1 => ⟨B, O, A, ρ1, ρ', ds, S1, r, e, fun σ2 o2 S2 => k σ2 (o1.app o2) S2⟩⟩
    · cases e
theorem dg_tup {es : List Expr} {kk n : Nat} {ws : List Nat} {bs : List D → Fr → Option Fr} (hc : X.calm = true) (h : DGs X es ws bs) (hn : (assignEach es X.env).length = n := by rfl) (hst : (assignEach es X.env).findIdx? (·.1) = none := by rfl) : DG X (.Tuple es kk pos) ws (bTup n bs) := by
  refine ⟨pg_imp (pg_tup hc h.pgs hn hst) fun v σ H Q h => ?_⟩
  obtain ⟨B, O, A, ρ, ρ', d, S, dq, e, k⟩ := h
  cases d with
  | tuple ds =>
    simp only [bTup] at e
    split at e
    · rename_i hl
      cases dq with
      | tup ha r => exact ⟨_, _, rfl, Tl.Same.tup hid_sub ha, by rw [DqAll_len r]; exact hl, B, O, A, ρ, ρ', ds, S, r, e, k⟩
    · cases e
  | _ => cases e
/-! ### for -/
def forL (b : D → Fr → Option Fr) (m : SM) : List D → SM
  | [], ρ => some (.nx ρ)
  | d :: ds, ρ => match b d ρ with
    | none => none
    | some ρ1 => match m ρ1 with
      | some (.nx ρ2) => forL b m ds ρ2
      | some (.ct ρ2) => forL b m ds ρ2
      | some (.bk ρ2) => some (.nx ρ2)
      | o => o
def mFor (mi : M (List D)) (b : D → Fr → Option Fr) (m : SM) : SM := sBnd mi fun l => forL b m l
theorem StC.yield {K : PySem.W.Frag} {mg : Str → Option Value} {G : Hp} {l : List D} {i : Nat} {x : V} (S : StC K mg B O A ρ σ H) (s : Same G (hid (tot O A) H)) (y : Yld K G l i H x H') : ∃ d, l[i]? = some d ∧ StC K mg B O A ρ σ H' ∧ Stp O A H O A H' ∧ Dq K (hid (tot O A) H') x d := by
  rcases y with ⟨rfl, d, e, dq⟩ | ⟨p, xs, ds, rfl, np, rfl, e, dq⟩
  · exact ⟨d, e, S, Stp.refl, Dq_same s dq⟩
  · obtain ⟨S2, st2, e2⟩ := S.newS (o := .tup xs) np
    exact ⟨_, e, S2, st2, .tup (.of e2) (DqAll_same (s.trans st2.sh) dq)⟩
theorem ds_for {iter : Expr} {body : List Stmt} {mi : M (List D)} {b : D → Fr → Option Fr} {ws : List Nat} {m : SM} (hp : PassesOwn (model X.prog X.w) X.A X.env X.xe) (hc : X.calm = true) (hi : DI X E tg iter mi) (hg : DG X tg ws b) (hb : DSs X E body m)
    (hs : ∀ x, foldedSetIterable iter X.env x = pure x := by intro _; rfl) : DS X E (.For tg iter body [] pos) (mFor mi b m) := by
  refine ⟨ps_imp (ps_for hp hc hi.pi hg.pg hb.pss hs) fun D σ H h => ?_⟩
  obtain ⟨B, O, A, ρ, out, S, hm, kk⟩ := h
  unfold mFor sBnd at hm
  split at hm
  · cases hm
  · rename_i c' ρ1 e
    cases hm
    exact ⟨B, O, A, ρ, _, S, e, fun C H' A' hc S' st => kk C σ H' A' hc S' st⟩
  · rename_i l ρ1 e
    refine ⟨B, O, A, ρ, _, S, e, fun J H1 A1 S1 st1 it => ?_⟩
    obtain ⟨Gd, Y, wk, gd, yl⟩ := it
    refine for_it wk (fun i σ' H' => ∃ A' ρ', StC X.K X.mg B O A' ρ' σ' H' ∧ Sto O A1 H1 O A' H' ∧ forL b m (l.drop i) ρ' = some out) ⟨A1, ρ1, S1, Sto.refl, hm⟩ (fun i σ' H' _ z => ?_) (fun i x σ' H' H2 hi z y => ?_) fun σ' H' z => ?_
    · obtain ⟨A', ρ', _, st, _⟩ := z
      exact gd H' (st.sh.trans hid_sub)
    · obtain ⟨A', ρ', S', st, hf⟩ := z
      obtain ⟨d, ed, S2, st2, dq⟩ := S'.yield st.sh (yl i H' x H2 hi y)
      have eq : l.drop i = d :: l.drop (i + 1) := by
        obtain ⟨h1, h2⟩ := List.getElem?_eq_some_iff.mp ed
        rw [← h2]; exact List.drop_eq_getElem_cons h1
      rw [eq] at hf
      unfold forL at hf
      split at hf
      · cases hf
      · rename_i ρ2 eb
        refine ⟨B, O, A', ρ', ρ2, d, S2, dq, eb, fun σ3 _ S3 => ?_⟩
        have st3 : Sto O A1 H1 O A' H2 := st.trans st2.toSto fun _ n => n
        have later : ∀ {P : L2.St → Hp → Prop} {ρ3 : Fr}, forL b m (l.drop (i + 1)) ρ3 = some out → (∀ σ4 H4 A4, StC X.K X.mg B O A4 ρ3 σ4 H4 → Sto O A' H2 O A4 H4 → ∃ A5 ρ5, StC X.K X.mg B O A5 ρ5 σ4 H4 ∧ Sto O A1 H1 O A5 H4 ∧ forL b m (l.drop (i + 1)) ρ5 = some out) := fun hf σ4 H4 A4 S4 st4 => ⟨A4, _, S4, st3.trans st4 fun _ n => n, hf⟩
        cases em : m ρ2 with
        | none => rw [em] at hf; cases hf
        | some o =>
          rw [em] at hf
          refine ⟨B, O, A', ρ2, o, S3, em, ?_⟩
          cases o with
          | nx ρ3 => exact fun σ4 H4 A4 S4 st4 => later (P := fun _ _ => True) hf σ4 H4 A4 S4 st4
          | ct ρ3 => exact fun σ4 H4 A4 S4 st4 => later (P := fun _ _ => True) hf σ4 H4 A4 S4 st4
          | bk ρ3 =>
            cases hf
            exact fun σ4 H4 A4 S4 st4 => kk σ4 H4 A4 S4 (st1.toSto.trans (st3.trans st4 fun _ n => n) fun _ n => n)
          | rt r ρ3 =>
            cases hf
            exact fun σ4 v H4 A4 F4 S4 rr st4 => kk σ4 v H4 A4 F4 S4 rr (st1.toSto.trans (st3.trans st4 fun _ n => n) fun _ n => n)
          | ex c ρ3 =>
            cases hf
            exact fun C σ4 H4 A4 hc S4 st4 => kk C σ4 H4 A4 hc S4 (st1.toSto.trans (st3.trans st4 fun _ n => n) fun _ n => n)
    · obtain ⟨A', ρ', S', st, hf⟩ := z
      rw [List.drop_length] at hf
      cases hf
      exact kk σ' H' A' S' (st1.toSto.trans st fun _ n => n)
end
end XM
end
section
namespace XM
open PySem PySem.Spec PyProof.Rows L2 Tl
/-! ### comprehensions -/
def wipeS (sl : List Sl) : List Nat → List Sl
  | [] => sl
  | v :: vs => (wipeS sl vs).set v .un
def lcL (vs : List Nat) (b : D → Fr → Option Fr) (mt : M Bool) (me : M R) (sl : List Sl) : List D → List D → Fr → Option (List D × Fr)
  | [], acc, ρ => some (acc, { ρ with sl := sl })
  | d :: ds, acc, ρ => match b d { ρ with sl := wipeS sl vs } with
    | none => none
    | some ρ1 => match mt ρ1 with
      | some (.ok true ρ2) => match me ρ2 with
        | some (.ok r ρ3) => match toD r ρ3 with
          | some (.ok z ρ4) => if acc.length < 1000000 then lcL vs b mt me sl ds (acc ++ [z]) ρ4 else none
          | _ => none
        | _ => none
      | some (.ok false ρ2) => lcL vs b mt me sl ds acc ρ2
      | _ => none
def mLc (vs : List Nat) (mi : M (List D)) (b : D → Fr → Option Fr) (mt : M Bool) (me : M R) : M R := bnd mi fun l ρ => (lcL vs b mt me ρ.sl l [] ρ).map fun p => .ok (.own (.dl p.1)) p.2
def mYes : M Bool := fun ρ => some (.ok true ρ)
section
variable {K : PySem.W.Frag} {mg : Str → Option Value} {mm : Mg} {B : Bs} {O O' O1 : Ft} {A A' A1 : Al} {ρ ρ1 : Fr} {σ : L2.St} {H H' H1 : Hp}
theorem wipeS_len (sl : List Sl) : ∀ vs, (wipeS sl vs).length = sl.length
  | [] => rfl
  | v :: vs => by unfold wipeS; rw [List.length_set, wipeS_len sl vs]
theorem wipeS_at {sl : List Sl} {i : Nat} {s : Sl} : ∀ {vs : List Nat}, (wipeS sl vs)[i]? = some s → s = .un ∨ (i ∉ vs ∧ sl[i]? = some s)
  | [], h => .inr ⟨by simp, h⟩
  | v :: vs, h => by
    unfold wipeS at h
    rw [List.getElem?_set] at h
    by_cases e : v = i
    · rw [if_pos e] at h
      split at h
      · exact .inl (Option.some.inj h).symm
      · cases h
    · rw [if_neg e] at h
      rcases wipeS_at h with h | ⟨n, h⟩
      · exact .inl h
      · exact .inr ⟨by simp [n]; exact fun z => e z.symm, h⟩
theorem StC.wiped (S : StC K mg B O A ρ σ H) (vs : List Nat) : StC K mg B O A { ρ with sl := wipeS ρ.sl vs } (wipe σ vs) H := by
  refine ⟨S.le1, S.al, S.len, S.rts, S.par, S.parL, S.bas, S.bnp, by rw [wipe_length, S.slen, wipeS_len], fun i s o h1 h2 => ?_⟩
  rcases wipeS_at h1 with rfl | ⟨n, h⟩
  · exact trivial
  · rw [wipe_out n] at h2
    exact S.sls i s o h h2
/-- the slots as they were -/
theorem StC.reslot {σ1 : L2.St} (S0 : StC K mg B O A ρ σ H) (S1 : StC K mg B O1 A1 ρ1 σ1 H1) (st : Stp O A H O1 A1 H1) : StC K mg B O1 A1 { ρ1 with sl := ρ.sl } σ H1 := by
  refine ⟨S1.le1, S1.al, S1.len, S1.rts, S1.par, S1.parL, S1.bas, S1.bnp, S0.slen, fun i s o h1 h2 => ?_⟩
  have := S0.sls i s o h1 h2
  cases s with
  | un => exact trivial
  | dat d => obtain ⟨v, e, h⟩ := this; exact ⟨v, e, Dq_same st.sh h⟩
  | fn x => exact this
  | ref r => obtain ⟨v, e, h⟩ := this; exact ⟨v, st.al r v e, h⟩
end
structure DTs (X : Cx) (E : XK) (ifs : List Expr) (m : M Bool) : Prop where
  pts : PTs X ifs (TRun X.K X.mg m E)
theorem dts_one {X : Cx} {E : XK} {c : Expr} {m : M Bool} (h : DT X E c m) : DTs X E [c] m := ⟨pts_one h.pt⟩
theorem dts_nil {X : Cx} {E : XK} : DTs X E [] mYes := ⟨⟨fun pins s σ H Q I h => pts_nil.run pins s σ H Q I (by
  obtain ⟨B, O, A, ρ, out, S, hm, k⟩ := h
  cases hm
  exact k.oks H A S Stp.refl)⟩⟩
abbrev EF : XK := fun _ _ _ => False
section
variable {X : Cx} {E : XK} {e elt tg iter : Expr} {ifs : List Expr} {pos : Pos} {scope : Scope} {own : List (Str × Nat)} {ws : List Nat} {mi : M (List D)} {b : D → Fr → Option Fr} {mt : M Bool} {me : M R}
theorem run_lc {σ : L2.St} {H : Hp} {Q : VK} {vs : List Nat} (hw : ∀ w ∈ ws, w ∈ vs) (h : ERun X.K X.mg (mLc vs mi b mt me) E σ H Q) : tLc (IRun X.K X.mg mi E) (GRun X.K X.mg ws b) (TRun X.K X.mg mt EF) (ERun X.K X.mg me EF) vs σ H Q := by
  obtain ⟨B, O, A, ρ, out, S, hm, k⟩ := h
  rcases bnd_some hm with ⟨c, ρ1, e, eo⟩ | ⟨l, ρ1, e, hk⟩
  · exact ⟨B, O, A, ρ, _, S, e, fun C H' A' hc S' st => k.exc c ρ1 eo C H' A' hc S' st⟩
  · refine ⟨B, O, A, ρ, _, S, e, fun J H1 A1 S1 st1 it D nD => ?_⟩
    obtain ⟨Gd, Y, wk, gd, yl⟩ := it
    cases hp : lcL vs b mt me ρ1.sl l [] ρ1 with
    | none => rw [hp] at hk; cases hk
    | some p =>
    rw [hp] at hk
    have hk := Option.some.inj hk
    subst hk
    obtain ⟨S2, st2⟩ := S1.newO (o := .lst []) nD
    have free : tot O A1 D = 0 := S1.free nD
    refine lc_it wk (Qd := fun H' => Q (.ref D) H') (fun i H' => ∃ A' ρ' acc xs, StC X.K X.mg B (add O (one D)) A' { ρ' with sl := ρ1.sl } σ H' ∧ Stp O A1 H1 (add O (one D)) A' H' ∧ H' D = some (.lst xs) ∧ DqAll X.K (hid (tot (add O (one D)) A') H') xs acc ∧ lcL vs b mt me ρ1.sl (l.drop i) acc ρ' = some p)
      ⟨A1, ρ1, [], [], S2, st2, upd_same, .nil, hp⟩ (fun i H' _ z => ?_) (fun i x H' H2 hi z y => ?_) fun H' z => ?_
    · obtain ⟨A', ρ', acc, xs, S', st', _⟩ := z
      exact gd H' (st'.sh.trans hid_sub)
    · obtain ⟨A', ρ', acc, xs, S', st', hD, dq, hl⟩ := z
      obtain ⟨d, ed, S3, st3, dx⟩ := S'.yield st'.sh (yl i H' x H2 hi y)
      have eq : l.drop i = d :: l.drop (i + 1) := by
        obtain ⟨h1, h2⟩ := List.getElem?_eq_some_iff.mp ed
        rw [← h2]; exact List.drop_eq_getElem_cons h1
      rw [eq] at hl
      unfold lcL at hl
      have oD : add O (one D) D ≠ 0 := by unfold add; rw [one_self]; omega
      have st13 := st'.trans st3 fun a n => add_l n
      split at hl
      · cases hl
      · rename_i ρ2 eb
        refine ⟨B, add O (one D), A', _, ρ2, d, S3.wiped vs, dx, eb, fun σ3 o3 S4 => ⟨(o3 vs hw).trans wipe_wipe, ?_⟩⟩
        split at hl
        · rename_i ρ3 et
          refine ⟨B, add O (one D), A', ρ2, _, S4, et, fun H5 A5 S5 st5 => ?_⟩
          dsimp only
          rw [if_pos rfl]
          split at hl
          · rename_i r ρ4 ee
            refine ⟨B, add O (one D), A5, ρ3, _, S5, ee, fun v H6 A6 F6 S6 rr st6 => ?_⟩
            split at hl
            · rename_i zz ρ5 ez
              split at hl
              · rename_i sm
                obtain ⟨d', ρ5', A7, eo, S7, dz, st7⟩ := give S6 rr ez
                cases eo
                have st37 : Stp (add O (one D)) A' H2 (add O (one D)) A7 H6 := (st5.trans st6 fun _ n => n).trans ⟨⟨fun _ _ => rfl, st7.sh⟩, st7.al⟩ fun a n => add_l n
                have hD6 : H6 D = some (.lst xs) := by rw [st37.out D oD, st3.out D oD]; exact hD
                have dq6 : DqAll X.K (hid (tot (add O (one D)) A7) H6) xs acc := DqAll_same (st3.sh.trans st37.sh) dq
                have zD : sumF A7 D = 0 := by have := S7.le1 D; unfold tot add at this; rw [one_self] at this; omega
                have S8 := S3.reslot S7 st37
                have pD : tot (add O (one D)) A7 D ≠ 0 := by unfold tot; exact add_l oD
                have w8 : Same (hid (tot (add O (one D)) A7) H6) (hid (tot (add O (one D)) A7) (upd H6 D (.lst (xs ++ [v])))) := fun a u h => by
                  obtain ⟨q, h⟩ := hid_some h
                  exact hid_at q (by rw [upd_ne fun z => pD (by rw [z] at q; exact q)]; exact h)
                have S9 : StC X.K X.mg B (add O (one D)) A7 { ρ5 with sl := ρ1.sl } σ (upd H6 D (.lst (xs ++ [v]))) := S8.move w8 (fun a n => upd_ne fun z => n (by rw [z]; exact zD)) S8.le1 fun a n => by
                  by_cases q : a = D
                  · rw [q, upd_same]; simp
                  · rw [upd_ne q]; exact S8.al a n
                refine ⟨xs, hD6, by rw [DqAll_len dq, sizeLine_eq]; omega, A7, ρ5, acc ++ [zz], xs ++ [v], S9, ⟨⟨fun a n => ?_, ?_⟩, fun r u q => st37.al r u (st13.al r u q)⟩, upd_same, DqAll_same w8 (DqAll_app dq6 (.cons dz .nil)), hl⟩
                · have ne : a ≠ D := fun z => by rw [z] at n; unfold tot add at free; omega
                  rw [upd_ne ne, st37.out a (add_l n)]
                  exact st13.out a n
                · exact (st13.sh.trans st37.sh).trans w8
              · cases hl
            · cases hl
          · cases hl
        · rename_i ρ3 et
          refine ⟨B, add O (one D), A', ρ2, _, S4, et, fun H5 A5 S5 st5 => ?_⟩
          dsimp only
          rw [if_neg (by decide)]
          have st35 : Stp (add O (one D)) A' H2 (add O (one D)) A5 H5 := st5
          exact ⟨A5, ρ3, acc, xs, S3.reslot S5 st35, st13.trans st5 fun a n => add_l n, by rw [st5.out D oD, st3.out D oD]; exact hD, DqAll_same (st3.sh.trans st5.sh) dq, hl⟩
        · cases hl
    · obtain ⟨A', ρ', acc, xs, S', st', hD, dq, hl⟩ := z
      rw [List.drop_length] at hl
      cases hl
      exact fin_own k.oks (F := one D) S' (st1.trans st' fun _ n => n) (.dl hD dq)
/-- [elt for tg in iter if ..] -/
theorem de_lc (hc : X.calm = true) (hN : X.N.Nodup) (hi : DI X E tg iter mi) (ok : BlkOk X.N X.env.scope scope own) (hg : ∀ (s : Shared) (H : Hp) (C : Addr) (cl : List (Str × Addr)) (fp : List Addr), DG (X.blk s H scope (compEnvC scope cl C X.env) fp) tg ws b)
    (ht : ∀ (s : Shared) (H : Hp) (C : Addr) (cl : List (Str × Addr)) (fp : List Addr), DTs (X.blk s H scope (compEnvC scope cl C X.env) fp) EF ifs mt) (he : ∀ (s : Shared) (H : Hp) (C : Addr) (cl : List (Str × Addr)) (fp : List Addr), DE (X.blk s H scope (compEnvC scope cl C X.env) fp) EF elt me)
    (hw : ∀ w ∈ ws, w ∈ own.map (·.2) := by decide) (hs : ∀ x, foldedSetIterable iter X.env x = pure x := by intro _; rfl) : DE X E (.ListComp elt [⟨tg, iter, ifs, 0⟩] scope pos) (mLc (own.map (·.2)) mi b mt me) :=
  ⟨pe_imp (pe_lc (g := GRun X.K X.mg ws b) (tt := TRun X.K X.mg mt EF) (te := ERun X.K X.mg me EF) hc hN hi.pi ok (fun s H C cl fp => (hg s H C cl fp).pg) (fun s H C cl fp => (ht s H C cl fp).pts) (fun s H C cl fp => (he s H C cl fp).pe) hs) fun σ H Q h => run_lc hw h⟩
/-- y = [elt for tg in iter if ..] -/
theorem ds_setLc {i : Nat} {y : Str} {py spos : Pos} (hc : X.calm = true) (hN : X.N.Nodup) (hy : X.N[i]? = some y) (hyl : X.env.scope.names.lookup y = some .local)
    (hsw : swapsWith (.ListComp elt [⟨tg, iter, ifs, 0⟩] scope pos) (some (.Name y py)) spos.line X.env = pure true) (hi : DI X E tg iter mi) (ok : BlkOk X.N X.env.scope scope own) (hg : ∀ (s : Shared) (H : Hp) (C : Addr) (cl : List (Str × Addr)) (fp : List Addr), DG (X.blk s H scope (compEnvC scope cl C X.env) fp) tg ws b)
    (ht : ∀ (s : Shared) (H : Hp) (C : Addr) (cl : List (Str × Addr)) (fp : List Addr), DTs (X.blk s H scope (compEnvC scope cl C X.env) fp) EF ifs mt) (he : ∀ (s : Shared) (H : Hp) (C : Addr) (cl : List (Str × Addr)) (fp : List Addr), DE (X.blk s H scope (compEnvC scope cl C X.env) fp) EF elt me)
    (hw : ∀ w ∈ ws, w ∈ own.map (·.2) := by decide) (hs : ∀ x, foldedSetIterable iter X.env x = pure x := by intro _; rfl) : DS X E (.Assign [.Name y py] (.ListComp elt [⟨tg, iter, ifs, 0⟩] scope pos) spos) (mSet i (mLc (own.map (·.2)) mi b mt me)) := by
  refine ⟨ps_imp (ps_setLc (g := GRun X.K X.mg ws b) (tt := TRun X.K X.mg mt EF) (te := ERun X.K X.mg me EF) hc hN hy hyl hsw hi.pi ok (fun s H C cl fp => (hg s H C cl fp).pg) (fun s H C cl fp => (ht s H C cl fp).pts) (fun s H C cl fp => (he s H C cl fp).pe) hs) fun D σ H h => ?_⟩
  obtain ⟨B, O, A, ρ, out, S, hm, kk⟩ := h
  refine run_lc hw ?_
  refine run_st S kk hm fun r ρ1 v H1 A1 F hk S1 rr st => ?_
  cases hk
  obtain ⟨A3, S3, s3⟩ := S1.setS rr i
  exact kk _ H1 A3 S3 ⟨st.out, st.sh.trans s3⟩
end
end XM
end
section
namespace XM
open PySem PySem.Spec PyProof.Rows L2 Tl
theorem op_mulS {X : Cx} : OpR X (binaryOp .Mult) (fun x y H Q => ∃ z n, x = .str z ∧ y = .int n ∧ MulOk z n ∧ Q (.str (Txt.mul z n)) H) := by
  intro pins s σ H x y v u Q I rx ry h
  obtain ⟨z, n, rfl, rfl, ok, q⟩ := h
  obtain ⟨t, rfl⟩ := rx
  obtain ⟨t2, rfl⟩ := ry
  exact SB.mul ok fun t' k => ⟨.str _, H, I.tok _, ⟨_, rfl⟩, q⟩
/-! ### operators by data -/
def fAdd : D → D → Option D
  | .int i, .int j => some (.int (i + j))
  | .str x, .str y => if x.length + y.length ≤ 1000000 then some (.str (x ++ y)) else none
  | _, _ => none
def fI (C : Int → Int → Bool) (g : Int → Int → Int) : D → D → Option D
  | .int i, .int j => if C i j = true then some (.int (g i j)) else none
  | _, _ => none
def fCmp (p : Int → Int → Bool) : D → D → Option D
  | .int i, .int j => some (.bool (p i j))
  | _, _ => none
abbrev fSub := fI (fun _ _ => true) fun i j => i - j
abbrev fMul := fI (fun i j => decide (-18446744073709551616 < j ∧ j < 18446744073709551616)) fun i j => i * j
abbrev fMulL := fI (fun i j => decide (-18446744073709551616 < i ∧ i < 18446744073709551616)) fun i j => i * j
abbrev fDiv := fI (fun _ j => decide (0 < j ∧ j < 1073741824)) fun i j => i / j
abbrev fMod := fI (fun _ j => decide (0 < j)) fun i j => i % j
abbrev fPow := fI (fun i j => decide (0 ≤ j ∧ j ≤ 1000000 ∧ i.natAbs < 18446744073709551616)) fun i j => i ^ j.toNat
abbrev fShr := fI (fun _ j => decide (0 ≤ j)) fun i j => i / 2 ^ j.toNat
abbrev fAnd := fI (fun _ _ => true) fun i j => Builtin.bitAnd i j
abbrev fLt := fCmp fun i j => decide (i < j)
abbrev fLe := fCmp fun i j => decide (i ≤ j)
abbrev fGt := fCmp fun i j => decide (j < i)
abbrev fGe := fCmp fun i j => decide (j ≤ i)
/-- == of scalars -/
def eqS : D → D → Option Bool
  | .int i, .int j => some (decide (i = j))
  | .str x, .str y => some (decide (x = y))
  | .bool a, .bool b => some (decide (a = b))
  | .none, .none => some true
  | .none, .int _ => some false
  | .int _, .none => some false
  | .none, .str _ => some false
  | .str _, .none => some false
  | .none, .bool _ => some false
  | .bool _, .none => some false
  | .int _, .str _ => some false
  | .str _, .int _ => some false
  | .bool _, .str _ => some false
  | .str _, .bool _ => some false
  | _, _ => none
def fEq (d e : D) : Option D := (eqS d e).map .bool
def fNe (d e : D) : Option D := (eqS d e).map fun b => .bool (!b)
/-- == of data at any depth -/
def fEqD (d e : D) : Option D := if SeqAt.shaped d = true ∧ SeqAt.shaped e = true then some (.bool (PyData.eqv d e)) else none
def fNeD (d e : D) : Option D := if SeqAt.shaped d = true ∧ SeqAt.shaped e = true then some (.bool (!PyData.eqv d e)) else none
def isNone : D → Bool
  | .none => true
  | _ => false
def fIsN (d e : D) : Option D := if isNone e = true then some (.bool (isNone d)) else none
def fNotN (d e : D) : Option D := if isNone e = true then some (.bool (!isNone d)) else none
/-- in a text -/
def fInS : D → D → Option D
  | .str x, .str y => some (.bool (!(Builtin.Str.occurrences y x 0 y.length 1).isEmpty))
  | _, _ => none
def fNotInS : D → D → Option D
  | .str x, .str y => some (.bool (!(!(Builtin.Str.occurrences y x 0 y.length 1).isEmpty)))
  | _, _ => none
/-- in a list or tuple of texts and ints -/
def flatS : D → Bool
  | .int _ | .str _ => true
  | _ => false
def eqF : D → D → Bool
  | .int i, .int j => decide (i = j)
  | .str x, .str y => decide (x = y)
  | _, _ => false
def seqOf : D → Option (List D)
  | .list l => some l
  | .tuple l => some l
  | _ => none
def fIn (d e : D) : Option D := match seqOf e with
  | some l => if flatS d = true ∧ l.all flatS = true then some (.bool (l.any fun z => eqF z d)) else none
  | none => none
def fNotIn (d e : D) : Option D := match seqOf e with
  | some l => if flatS d = true ∧ l.all flatS = true then some (.bool (!l.any fun z => eqF z d)) else none
  | none => none
def fMulS : D → D → Option D
  | .str z, .int n => if -1000000 ≤ n ∧ n ≤ 1000000 ∧ z.length * n.toNat ≤ 1000000 then some (.str (Txt.mul z n)) else none
  | _, _ => none
section
variable {K : PySem.W.Frag} {X : Cx}
theorem opa_add : OpA K (fun x y H Q => (rI0 fun i j => .int (i + j)) x y H Q ∨ ∃ i j, x = .str i ∧ y = .str j ∧ i.length + j.length ≤ sizeLine ∧ Q (.str (i ++ j)) H) fAdd := fun H x y d e z Q hx hy h k => by
  cases hx <;> cases hy <;> simp only [fAdd] at h <;> try cases h
  · exact .inl ⟨_, _, rfl, rfl, k _ (.int _)⟩
  · split at h
    · cases h; exact .inr ⟨_, _, rfl, rfl, big_line (by assumption), k _ (.str _)⟩
    · cases h
theorem opa_I {C : Int → Int → Prop} {g : Int → Int → Int} {C' : Int → Int → Bool} (hC : ∀ i j, C' i j = true → C i j) : OpA K (rI C fun i j => .int (g i j)) (fI C' g) := fun H x y d e z Q hx hy h k => by
  cases hx <;> cases hy <;> simp only [fI] at h <;> try cases h
  split at h
  · rename_i c; cases h; exact ⟨_, _, rfl, rfl, hC _ _ c, k _ (.int _)⟩
  · cases h
theorem opa_I0 {g : Int → Int → Int} : OpA K (rI0 fun i j => .int (g i j)) (fI (fun _ _ => true) g) := fun H x y d e z Q hx hy h k => by
  cases hx <;> cases hy <;> simp only [fI] at h <;> try cases h
  exact ⟨_, _, rfl, rfl, k _ (.int _)⟩
theorem opa_cmp {p : Int → Int → Bool} : OpA K (rI0 fun i j => .bl (p i j)) (fCmp p) := fun H x y d e z Q hx hy h k => by
  cases hx <;> cases hy <;> simp only [fCmp] at h <;> try cases h
  exact ⟨_, _, rfl, rfl, k _ (.bl _)⟩
theorem opa_sub : OpA K (rI0 fun i j => .int (i - j)) fSub := opa_I0
theorem opa_mul : OpA K (rI CMul fun i j => .int (i * j)) fMul := opa_I fun i j h => .inr (of_decide_eq_true h)
theorem opa_mulL : OpA K (rI CMul fun i j => .int (i * j)) fMulL := opa_I fun i j h => .inl (of_decide_eq_true h)
theorem opa_div : OpA K (rI CDiv fun i j => .int (i / j)) fDiv := opa_I fun i j h => (of_decide_eq_true h : 0 < j ∧ j < 1073741824)
theorem opa_mod : OpA K (rI (fun _ j => 0 < j) fun i j => .int (i % j)) fMod := opa_I fun i j h => of_decide_eq_true h
theorem opa_pow : OpA K (rI CPow fun i j => .int (i ^ j.toNat)) fPow := opa_I fun i j h => (of_decide_eq_true h : 0 ≤ j ∧ j ≤ 1000000 ∧ i.natAbs < 18446744073709551616)
theorem opa_shr : OpA K (rI (fun _ j => 0 ≤ j) fun i j => .int (i / 2 ^ j.toNat)) fShr := opa_I fun i j h => of_decide_eq_true h
theorem opa_and : OpA K (rI0 fun i j => .int (Builtin.bitAnd i j)) fAnd := opa_I0
theorem eqS_ok {H : Hp} {x y : V} {d e : D} {b : Bool} (hx : Dq K H x d) (hy : Dq K H y e) (h : eqS d e = some b) : scal x y = true ∧ decide (x = y) = b := by
  cases hx <;> cases hy <;> simp only [eqS] at h <;> first | (cases h; done) | (cases h; simp [scal])
theorem opa_eq : OpA K rEq fEq := fun H x y d e z Q hx hy h k => by
  unfold fEq at h
  cases e1 : eqS d e with
  | none => rw [e1] at h; cases h
  | some b => rw [e1] at h; cases h; obtain ⟨s, q⟩ := eqS_ok hx hy e1; exact ⟨s, by rw [q]; exact k _ (.bl _)⟩
theorem opa_ne : OpA K rNe fNe := fun H x y d e z Q hx hy h k => by
  unfold fNe at h
  cases e1 : eqS d e with
  | none => rw [e1] at h; cases h
  | some b => rw [e1] at h; cases h; obtain ⟨s, q⟩ := eqS_ok hx hy e1; exact ⟨s, by rw [q]; exact k _ (.bl _)⟩
theorem opa_eqD : OpA K (rEqD K) fEqD := fun H x y d e z Q hx hy h k => by
  unfold fEqD at h
  split at h
  · rename_i c; cases h; exact ⟨d, e, Dq_p hx, Dq_p hy, c.1, c.2, k _ (.bl _)⟩
  · cases h
theorem opa_neD : OpA K (rNeD K) fNeD := fun H x y d e z Q hx hy h k => by
  unfold fNeD at h
  split at h
  · rename_i c; cases h; exact ⟨d, e, Dq_p hx, Dq_p hy, c.1, c.2, k _ (.bl _)⟩
  · cases h
theorem none_ok {H : Hp} {x : V} {d : D} (h : Dq K H x d) : decide (x = .non) = isNone d := by cases h <;> simp [isNone]
theorem opa_isN : OpA K (fun x y H Q => y = .non ∧ Q (.bl (decide (x = .non))) H) fIsN := fun H x y d e z Q hx hy h k => by
  unfold fIsN at h
  split at h
  · rename_i c; cases h; refine ⟨?_, by rw [none_ok hx]; exact k _ (.bl _)⟩; cases hy <;> first | rfl | cases c
  · cases h
theorem opa_notN : OpA K (fun x y H Q => y = .non ∧ Q (.bl (!decide (x = .non))) H) fNotN := fun H x y d e z Q hx hy h k => by
  unfold fNotN at h
  split at h
  · rename_i c; cases h; refine ⟨?_, by rw [none_ok hx]; exact k _ (.bl _)⟩; cases hy <;> first | rfl | cases c
  · cases h
theorem opa_inS : OpA K (fun x y H Q => ∃ i j, x = .str i ∧ y = .str j ∧ Q (.bl (!(Builtin.Str.occurrences j i 0 j.length 1).isEmpty)) H) fInS := fun H x y d e z Q hx hy h k => by
  cases hx <;> cases hy <;> simp only [fInS] at h <;> try cases h
  exact ⟨_, _, rfl, rfl, k _ (.bl _)⟩
theorem opa_notInS : OpA K (fun x y H Q => ∃ i j, x = .str i ∧ y = .str j ∧ Q (.bl (!(!(Builtin.Str.occurrences j i 0 j.length 1).isEmpty))) H) fNotInS := fun H x y d e z Q hx hy h k => by
  cases hx <;> cases hy <;> simp only [fNotInS] at h <;> try cases h
  exact ⟨_, _, rfl, rfl, k _ (.bl _)⟩
theorem flat_ok {H : Hp} {x : V} {d : D} (h : Dq K H x d) (f : flatS d = true) : flatV x = true := by cases h <;> first | rfl | cases f
theorem flats_ok {H : Hp} : ∀ {vs : List V} {l : List D}, DqAll K H vs l → l.all flatS = true → vs.all flatV = true
  | _, _, .nil, _ => rfl
  | _, _, .cons a r, f => by
    rw [List.all_cons, Bool.and_eq_true] at f ⊢
    exact ⟨flat_ok a f.1, flats_ok r f.2⟩
theorem eqF_ok {H : Hp} {x y : V} {d e : D} (hx : Dq K H x d) (hy : Dq K H y e) (f : flatS d = true) (g : flatS e = true) : eqV x y = eqF d e := by
  cases hx <;> first | (cases f; done) | (cases hy <;> first | (cases g; done) | rfl | (simp [eqV, eqF, Bool.beq_eq_decide_eq]))
theorem inV_ok {H : Hp} {x : V} {d : D} (hx : Dq K H x d) (f : flatS d = true) : ∀ {vs : List V} {l : List D}, DqAll K H vs l → l.all flatS = true → inV x vs = l.any fun z => eqF z d
  | _, _, .nil, _ => rfl
  | _, _, .cons a r, g => by
    rw [List.all_cons, Bool.and_eq_true] at g
    have := inV_ok hx f r g.2
    unfold inV at this ⊢
    rw [List.any_cons, List.any_cons, this, eqF_ok a hx g.1 f]
theorem seq_view {H : Hp} {y : V} {e : D} {l : List D} (hy : Dq K H y e) (h : seqOf e = some l) : ∃ a vs, y = .ref a ∧ (SqL K H a vs ∨ SqT K H a vs) ∧ DqAll K H vs l := by
  cases hy with
  | lst ha r => cases h; exact ⟨_, _, rfl, .inl (.of ha), r⟩
  | tup ha r => cases h; exact ⟨_, _, rfl, .inr ha, r⟩
  | non => cases h
  | bl _ => cases h
  | int _ => cases h
  | str _ => cases h
theorem opa_in : OpA K (rIn K false) fIn := fun H x y d e z Q hx hy h k => by
  unfold fIn at h
  split at h
  · rename_i l hs
    split at h
    · rename_i c
      cases h
      obtain ⟨a, vs, rfl, sq, r⟩ := seq_view hy hs
      refine ⟨a, vs, rfl, sq, flat_ok hx c.1, flats_ok r c.2, ?_⟩
      rw [if_neg (by decide), inV_ok hx c.1 r c.2]
      exact k _ (.bl _)
    · cases h
  · cases h
theorem opa_notIn : OpA K (rIn K true) fNotIn := fun H x y d e z Q hx hy h k => by
  unfold fNotIn at h
  split at h
  · rename_i l hs
    split at h
    · rename_i c
      cases h
      obtain ⟨a, vs, rfl, sq, r⟩ := seq_view hy hs
      refine ⟨a, vs, rfl, sq, flat_ok hx c.1, flats_ok r c.2, ?_⟩
      rw [if_pos rfl, inV_ok hx c.1 r c.2]
      exact k _ (.bl _)
    · cases h
  · cases h
theorem mul_ok {z : Str} {n : Int} (c : -1000000 ≤ n ∧ n ≤ 1000000 ∧ z.length * n.toNat ≤ 1000000) : MulOk z n := by
  obtain ⟨c1, c2, c3⟩ := c
  refine ⟨?_, fun h _ q => ?_, fun h _ => ?_⟩
  · rw [decide_eq_false (by omega), decide_eq_false (by omega)]; rfl
  · have p : 0 < n := by omega
    have e : (z.length : Int) * n ≤ 1000000 := by
      have : ((z.length * n.toNat : Nat) : Int) ≤ 1000000 := Int.ofNat_le.mpr c3
      rw [Int.natCast_mul, Int.toNat_of_nonneg (by omega)] at this
      exact this
    have := Int.le_ediv_of_mul_le p (show (z.length : Int) * n ≤ 2 ^ 63 - 1 by omega)
    omega
  · show decide (z.length * n.toNat > sizeLine) = false
    rw [sizeLine_eq]
    exact decide_eq_false (by omega)
theorem opa_mulS : OpA K (fun x y H Q => ∃ z n, x = .str z ∧ y = .int n ∧ MulOk z n ∧ Q (.str (Txt.mul z n)) H) fMulS := fun H x y d e z Q hx hy h k => by
  cases hx <;> cases hy <;> simp only [fMulS] at h <;> try cases h
  split at h
  · rename_i c; cases h; exact ⟨_, _, rfl, rfl, mul_ok c, k _ (.str _)⟩
  · cases h
end
end XM
end
section
namespace XM
open PySem PySem.Spec PyProof.Rows L2 Tl
/-! ### one value -/
def mV1 (f : D → Option D) (m : M R) : M R := bnd m fun r ρ => match vw r ρ with
  | some d => match f d with
    | some z => if atomD z = true then some (.ok (.dat z) ρ) else none
    | none => none
  | none => none
section
variable {X : Cx} {E : XK} {e a b c : Expr} {es : List Expr} {pos p : Pos} {B : Bs} {O O' : Ft} {A A' A1 : Al} {ρ ρ1 : Fr} {σ : L2.St} {H H' H1 : Hp}
theorem run_v1 {f : D → Option D} {m : M R} {W : V → Hp → Prop} {Q : VK} (hW : ∀ x H d z, Dq X.K H x d → f d = some z → (∀ v, Dq X.K H v z → Q v H) → W x H) (h : ERun X.K X.mg (mV1 f m) E σ H Q) : ERun X.K X.mg m E σ H W := by
  obtain ⟨B, O, A, ρ, out, S, hm, k⟩ := h
  refine run_bnd S hm k.exc fun r ρ1 v H1 A1 F hk S1 rr1 st1 x1 => ?_
  split at hk
  · rename_i d e1
    split at hk
    · rename_i z e2
      split at hk
      · rename_i az
        cases hk
        exact hW v H1 d z (S1.view rr1 e1) e2 fun u hu => fin_dat k.oks S1 (fun a => le_add a) st1 (atom_any hu az)
      · cases hk
    · cases hk
  · cases hk
def fNeg : D → Option D
  | .int i => some (.int (-i))
  | _ => none
theorem de_neg {m : M R} (h : DE X E a m) : DE X E (.UnaryOp .USub a pos) (mV1 fNeg m) :=
  ⟨pe_imp (pe_un un_neg h.pe) fun σ H Q h => run_v1 (fun x H d z hx e k => by
    cases hx <;> simp only [fNeg] at e <;> try cases e
    exact ⟨_, rfl, k _ (.int _)⟩) h⟩
def fNotB : D → Option D
  | .bool b => some (.bool (!b))
  | _ => none
theorem de_not {m : M R} (h : DE X E a m) : DE X E (.UnaryOp .Not a pos) (mV1 fNotB m) :=
  ⟨pe_imp (pe_not h.pe) fun σ H Q h => run_v1 (fun x H d z hx e k => by
    cases hx <;> simp only [fNotB] at e <;> try cases e
    exact ⟨_, rfl, k _ (.bl _)⟩) h⟩
/-! ### built-ins -/
/-- what a built-in does with results -/
def Leaf (K : PySem.W.Frag) (mg : Str → Option Value) (r : List V → Hp → VK → Prop) (f : List R → M R) : Prop :=
  ∀ (B : Bs) (O : Ft) (A : Al) (ρ : Fr) (σ : L2.St) (H : Hp) (E : XK) (F : Ft) (rs : List R) (vs : List V) (out : Out R) (Q : VK) (A0 : Al) (H0 : Hp), StC K mg B (add O F) A ρ σ H → RRs K ⟨mg, B.η⟩ (al A) (hid (tot (add O F) A) H) H vs F rs → f rs ρ = some out →
    Stp O A0 H0 (add O F) A H → Aft K mg B O A0 σ H0 E (okE K mg B O A0 σ H0 Q) out → r vs H Q
def mB (f : List R → M R) (ms : List (M R)) : M R := bnd (mArgs ms) f
theorem run_B {ms : List (M R)} {f : List R → M R} {r : List V → Hp → VK → Prop} {σ : L2.St} {H : Hp} {Q : VK} (hl : Leaf X.K X.mg r f) (h : ERun X.K X.mg (mB f ms) E σ H Q) : tCB r (ARun X.K X.mg (mArgs ms) E) σ H Q := by
  obtain ⟨B, O, A, ρ, out, S, hm, k⟩ := h
  refine run_bndA S hm k.exc fun rs ρ1 vs H1 A1 F hk S1 rr1 st1 x1 => ?_
  exact hl B O A1 ρ1 σ H1 E F rs vs out Q A H S1 rr1 hk st1 k
theorem de_callB {x : Str} {id : String} {r : List V → Hp → VK → Prop} {f : List R → M R} {ms : List (M R)} (hc : CallR X (.builtin id) r) (hl : Leaf X.K X.mg r f) (hg : Gl X x) (hm : X.mg x = none) (hv : bootBuiltins x = some (.builtin id)) (ha : DA X E (e :: es) (mArgs ms)) (hn : x ≠ "__name__" := by decide) (hdb : (x == ("__debug__" : Str)) = false := by decide)
    (he : starEach (e :: es) X.env = (false, eval e X.env) :: starEach es X.env := by rfl) (hpl : (backTo pos (starEach es X.env)).any (·.1) = false := by rfl) : DE X E (.Call (.Name x p) (e :: es) [] pos) (mB f ms) :=
  ⟨pe_imp (pe_callB hc hg hm hv ha.pa hn hdb he hpl) fun σ H Q h => run_B hl h⟩
theorem de_callTy {x : Str} {ty : String} {r : List V → Hp → VK → Prop} {f : List R → M R} {ms : List (M R)} (hc : CallR X (.type ty) r) (hl : Leaf X.K X.mg r f) (hg : Gl X x) (hm : X.mg x = none) (hv : bootBuiltins x = some (.type ty)) (ha : DA X E (e :: es) (mArgs ms)) (hn : x ≠ "__name__" := by decide) (hdb : (x == ("__debug__" : Str)) = false := by decide)
    (he : starEach (e :: es) X.env = (false, eval e X.env) :: starEach es X.env := by rfl) (hpl : (backTo pos (starEach es X.env)).any (·.1) = false := by rfl) : DE X E (.Call (.Name x p) (e :: es) [] pos) (mB f ms) :=
  ⟨pe_imp (pe_callTy hc hg hm hv ha.pa hn hdb he hpl) fun σ H Q h => run_B hl h⟩
/-- one value, an atom as result -/
def f1 (f : D → Option D) : List R → M R := fun rs ρ => match rs with
  | [r] => match vw r ρ with
    | some d => match f d with
      | some z => if atomD z = true then some (.ok (.dat z) ρ) else none
      | none => none
    | none => none
  | _ => none
theorem leaf1 {K : PySem.W.Frag} {mg : Str → Option Value} {r : List V → Hp → VK → Prop} {f : D → Option D} (h : ∀ (H : Hp) (x : V) (d z : D) (Q : VK), Dq K H x d → f d = some z → (∀ v, Dq K H v z → Q v H) → r [x] H Q) : Leaf K mg r (f1 f) := fun B O A ρ σ H E F rs vs out Q A0 H0 S rr hf st k => by
  unfold f1 at hf
  split at hf
  · rename_i r1
    cases rr with
    | cons h1 h2 =>
    cases h2
    split at hf
    · rename_i d e1
      split at hf
      · rename_i z e2
        split at hf
        · rename_i az
          cases hf
          rw [add_zer] at S h1 st
          exact h H _ d z Q (S.view h1 e1) e2 fun u hu => fin_dat k.oks S (fun a => le_add a) st (atom_any hu az)
        · cases hf
      · cases hf
    · cases hf
  · cases hf
/-- len -/
def T.len : T → Option Nat
  | .dat (.str z) => if z.length ≤ 1000000 then some z.length else none
  | .dat (.list l) => some l.length
  | .dat (.tuple l) => some l.length
  | .dl l => some l.length
  | .ol l => some l.length
  | .ot l => some l.length
  | .dd l => some l.length
  | .od l => some l.length
  | .frz l => some l.length
  | _ => none
def lenR : R → Fr → Option Nat
  | .dat d, _ => T.len (.dat d)
  | .own t, _ => t.len
  | .ref r, ρ => (ρ.rt[r]?).bind fun t => t.t.len
  | .fn _, _ => none
def fLen : List R → M R := fun rs ρ => match rs with
  | [r] => (lenR r ρ).map fun n => .ok (.dat (.int n)) ρ
  | _ => none
def rLenA (K : PySem.W.Frag) : List V → Hp → VK → Prop := fun xs H Q => (∃ x n, xs = [x] ∧ LenV K x H n ∧ Q (.int n) H) ∨ ∃ a kvs, xs = [.ref a] ∧ H a = some (.dK kvs) ∧ Q (.int kvs.length) H
theorem CallR.or {f : Value} {r r' : List V → Hp → VK → Prop} (h : CallR X f r) (h' : CallR X f r') : CallR X f (fun xs H Q => r xs H Q ∨ r' xs H Q) := by
  intro pins s σ H xs us Q I r q
  rcases q with q | q
  · exact h pins s σ H xs us Q I r q
  · exact h' pins s σ H xs us Q I r q
theorem TR.len {K : PySem.W.Frag} {mm : Mg} {G : Hp} (sG : Same G H) {t : T} {v : V} {F : Ft} {n : Nat} (h : TR K mm G H t v F) (e : t.len = some n) : LenV K v H n ∨ ∃ a kvs, v = .ref a ∧ H a = some (.dK kvs) ∧ n = kvs.length := by
  cases h with
  | dat h =>
    cases h with
    | str x =>
      simp only [T.len] at e
      split at e
      · rename_i c; cases e; exact .inl ⟨big_line c, rfl⟩
      · cases e
    | lst ha r => cases e; exact .inl (.inl ⟨_, .of (sG _ _ ha), (DqAll_len r).symm⟩)
    | tup ha r => cases e; exact .inl (.inr ⟨_, Tl.Same.tup sG ha, (DqAll_len r).symm⟩)
    | non => cases e
    | bl _ => cases e
    | int _ => cases e
  | dl ha r => cases e; exact .inl (.inl ⟨_, .of ha, (DqAll_len r).symm⟩)
  | ol ha r => cases e; exact .inl (.inl ⟨_, .of ha, r.len⟩)
  | ot ha r => cases e; exact .inl (.inr ⟨_, .of (sG _ _ ha), r.len⟩)
  | dd ha k r =>
    cases e
    exact .inr ⟨_, _, rfl, ha, by have := congrArg List.length k; simpa using this.symm⟩
  | od ha k r =>
    cases e
    exact .inr ⟨_, _, rfl, ha, by have := congrArg List.length k; simpa using this.symm⟩
  | frz ha => cases e; exact .inl (.inl ⟨_, sG.seq ha, by simp⟩)
  | fn _ => cases e
  | ins _ _ _ _ => cases e
  | gone => cases e
  | hole => cases e
theorem StC.lenR {K : PySem.W.Frag} {mg : Str → Option Value} (S : StC K mg B O A ρ σ H) {r : R} {v : V} {F : Ft} {n : Nat} (h : RR K ⟨mg, B.η⟩ (XM.al A) (hid (tot O A) H) H v F r) (e : XM.lenR r ρ = some n) : LenV K v H n ∨ ∃ a kvs, v = .ref a ∧ H a = some (.dK kvs) ∧ n = kvs.length := by
  cases r with
  | dat d => exact TR.len (mm := ⟨mg, B.η⟩) hid_sub (.dat h.2) e
  | fn x => cases e
  | own t => exact TR.len hid_sub h e
  | ref r =>
    simp only [XM.lenR] at e
    cases e1 : ρ.rt[r]? with
    | none => rw [e1] at e; cases e
    | some t =>
      rw [e1] at e
      obtain ⟨F', _, h'⟩ := S.root e1 h.2
      exact TR.len hid_sub h' e
theorem call_lenA : CallR X (.builtin "len") (rLenA X.K) := by
  intro pins s σ H xs us Q I r q
  rcases q with q | q
  · exact call_len pins s σ H xs us Q I r q
  · obtain ⟨a, kvs, e, ha, q⟩ := q
    exact call_lenD pins s σ H xs us Q I r ⟨a, kvs, e, ha, q⟩
theorem leaf_len {K : PySem.W.Frag} {mg : Str → Option Value} : Leaf K mg (rLenA K) fLen := fun B O A ρ σ H E F rs vs out Q A0 H0 S rr hf st k => by
  unfold fLen at hf
  split at hf
  · rename_i r1
    cases rr with
    | cons h1 h2 =>
    cases h2
    rw [add_zer] at S h1 st
    cases e1 : XM.lenR r1 ρ with
    | none => rw [e1] at hf; cases hf
    | some n =>
      rw [e1] at hf
      cases hf
      have fin : Q (.int n) H := fin_dat k.oks S (fun a => le_add a) st (.int _)
      rcases S.lenR h1 e1 with h | ⟨a, kvs, rfl, ha, rfl⟩
      · exact .inl ⟨_, n, rfl, h, fin⟩
      · exact .inr ⟨a, kvs, rfl, ha, fin⟩
  · cases hf
/-- int(x), bool(x), str(n), abs, ord -/
def fInt : D → Option D
  | .int i => some (.int i)
  | .bool b => some (.int (if b = true then 1 else 0))
  | _ => none
theorem leaf_int {K : PySem.W.Frag} {mg : Str → Option Value} : Leaf K mg (fun xs H Q => (∃ i, xs = [.int i] ∧ Q (.int i) H) ∨ ∃ k, xs = [.bl k] ∧ Q (.int (if k then 1 else 0)) H) (f1 fInt) := leaf1 fun H x d z Q hx e k => by
  cases hx <;> simp only [fInt] at e <;> try cases e
  · exact .inr ⟨_, rfl, k _ (.int _)⟩
  · exact .inl ⟨_, rfl, k _ (.int _)⟩
def fIntS : D → Option D
  | .str a => match PySem.intText? a with
    | some n => if a.length ≤ 640 then some (.int n) else none
    | none => none
  | _ => none
theorem leaf_intS {K : PySem.W.Frag} {mg : Str → Option Value} : Leaf K mg (fun xs H Q => ∃ a n, xs = [.str a] ∧ PySem.intText? a = some n ∧ a.length ≤ 640 ∧ Q (.int n) H) (f1 fIntS) := leaf1 fun H x d z Q hx e k => by
  cases hx <;> simp only [fIntS] at e <;> try cases e
  split at e
  · rename_i n en
    split at e
    · cases e; exact ⟨_, _, rfl, en, by assumption, k _ (.int _)⟩
    · cases e
  · cases e
def fStrI : D → Option D
  | .int i => if i.natAbs.log2 < 1920 then some (.str (toString i)) else none
  | _ => none
theorem leaf_strI {K : PySem.W.Frag} {mg : Str → Option Value} : Leaf K mg (fun xs H Q => ∃ i, xs = [.int i] ∧ i.natAbs.log2 < 1920 ∧ Q (.str (toString i)) H) (f1 fStrI) := leaf1 fun H x d z Q hx e k => by
  cases hx <;> simp only [fStrI] at e <;> try cases e
  split at e
  · cases e; exact ⟨_, rfl, by assumption, k _ (.str _)⟩
  · cases e
def fOrd : D → Option D
  | .str x => if x.length = 1 then some (.int (x.cps.getD 0 0 : Nat)) else none
  | _ => none
theorem leaf_ord {K : PySem.W.Frag} {mg : Str → Option Value} : Leaf K mg (fun xs H Q => ∃ x, xs = [.str x] ∧ x.length = 1 ∧ Q (.int (x.cps.getD 0 0 : Nat)) H) (f1 fOrd) := leaf1 fun H x d z Q hx e k => by
  cases hx <;> simp only [fOrd] at e <;> try cases e
  split at e
  · cases e; exact ⟨_, rfl, by assumption, k _ (.int _)⟩
  · cases e
/-- list(x), tuple(x) -/
def fList : List R → M R := fun rs ρ => match rs with
  | [r] => (its false r ρ).map fun l => .ok (.own (.dl l)) ρ
  | _ => none
theorem leaf_list {K : PySem.W.Frag} {mg : Str → Option Value} : Leaf K mg (fun xs H Q => ∃ p ys, xs = [.ref p] ∧ (SqL K H p ys ∨ SqT K H p ys) ∧ ∀ l, H l = none → Q (.ref l) (upd H l (.lst ys))) fList := fun B O A ρ σ H E F rs vs out Q A0 H0 S rr hf st k => by
  unfold fList at hf
  split at hf
  · rename_i r1
    cases rr with
    | cons h1 h2 =>
    cases h2
    rw [add_zer] at S h1 st
    cases e1 : its false r1 ρ with
    | none => rw [e1] at hf; cases hf
    | some l =>
      rw [e1] at hf
      cases hf
      obtain ⟨p, ys, rfl, hp, dq⟩ := S.items h1 e1
      refine ⟨p, ys, rfl, ?_, fun u nu => fin_lst k.oks S (fun a => le_add a) st (DqAll_same (hid_weak fun a => le_add a) dq) nu⟩
      rcases hp with hp | ⟨_, hp⟩
      · exact .inl (.of hp)
      · exact hp.imp id fun hp => Tl.Same.tup hid_sub hp
  · cases hf
def fTup : List R → M R := fun rs ρ => match rs with
  | [r] => (its false r ρ).map fun l => .ok (.dat (.tuple l)) ρ
  | _ => none
theorem leaf_tup {K : PySem.W.Frag} {mg : Str → Option Value} : Leaf K mg (fun xs H Q => ∃ p ys, xs = [.ref p] ∧ ((SqL K H p ys ∧ ∀ l, H l = none → Q (.ref l) (upd H l (.tup ys))) ∨ (SqT K H p ys ∧ Q (.ref p) H))) fTup := fun B O A ρ σ H E F rs vs out Q A0 H0 S rr hf st k => by
  unfold fTup at hf
  split at hf
  · rename_i r1
    cases rr with
    | cons h1 h2 =>
    rename_i v1 F1 vs1 F2
    cases h2
    rw [add_zer] at S h1 st
    cases e1 : its false r1 ρ with
    | none => rw [e1] at hf; cases hf
    | some l =>
      rw [e1] at hf
      cases hf
      obtain ⟨p, ys, rfl, hp, dq⟩ := S.items h1 e1
      have w : Same (hid (tot (add O F1) A) H) (hid (tot O A) H) := hid_weak fun a => le_add a
      have new : ∀ u, H u = none → Q (.ref u) (upd H u (.tup ys)) := fun u nu => fin_tup k.oks S (fun a => le_add a) st (DqAll_same w dq) nu
      refine ⟨p, ys, rfl, ?_⟩
      rcases hp with hp | ⟨_, hp | hp⟩
      · exact .inl ⟨.of hp, new⟩
      · exact .inl ⟨hp, new⟩
      · exact .inr ⟨Tl.Same.tup hid_sub hp, fin_dat k.oks S (fun a => le_add a) st (.tup (Tl.Same.tup w hp) (DqAll_same w dq))⟩
  · cases hf
/-- max of ints -/
def intsOf : List D → Option (List Int)
  | [] => some []
  | .int i :: r => (intsOf r).map (i :: ·)
  | _ :: _ => none
theorem intsOf_ok {K : PySem.W.Frag} {G : Hp} : ∀ {vs : List V} {l : List D} {ns : List Int}, DqAll K G vs l → intsOf l = some ns → vs = ns.map V.int
  | _, _, _, .nil, e => by cases e; rfl
  | _, _, ns, .cons (d := d) (ds := ds) a r, e => by
    cases a <;> simp only [intsOf] at e <;> try cases e
    cases e1 : intsOf ds with
    | none => rw [e1] at e; cases e
    | some ms => rw [e1] at e; cases e; rw [List.map_cons, intsOf_ok r e1]
def strsOf : List D → Option (List Str)
  | [] => some []
  | .str i :: r => (strsOf r).map (i :: ·)
  | _ :: _ => none
theorem strsOf_ok {K : PySem.W.Frag} {G : Hp} : ∀ {vs : List V} {l : List D} {ns : List Str}, DqAll K G vs l → strsOf l = some ns → vs = ns.map V.str
  | _, _, _, .nil, e => by cases e; rfl
  | _, _, ns, .cons (d := d) (ds := ds) a r, e => by
    cases a <;> simp only [strsOf] at e <;> try cases e
    cases e1 : strsOf ds with
    | none => rw [e1] at e; cases e
    | some ms => rw [e1] at e; cases e; rw [List.map_cons, strsOf_ok r e1]
/-- ''.join(xs) -/
def fJoin (l : List D) : D → Option R := fun d => match d with
  | .str a => match strsOf l with
    | some ys => if (ys.map (·.length)).sum + ys.length * a.length ≤ 1000000 then some (.dat (.str (Txt.join a ys))) else none
    | none => none
  | _ => none
def mJoin (mo me : M R) : M R := bnd mo fun ro ρ1 => match vw ro ρ1 with
  | some (.str a) => (bnd me fun re ρ => match its false re ρ with
    | some l => (fJoin l (.str a)).map fun z => .ok z ρ
    | none => none) ρ1
  | _ => none
theorem de_join {apos : Pos} {mo me : M R} {o : Expr} (ho : DE X E o mo) (he : DE X E e me) (hs : starEach [e] X.env = [(false, eval e X.env)] := by rfl) (hbase : attributeBase o "join" X.env (eval o X.env) = eval o X.env := by rfl) (hline : (apos.endLine == pos.line) = true := by rfl) :
    DE X E (.Call (.Attribute o "join" apos) [e] [] pos) (mJoin mo me) := by
  refine ⟨pe_imp (pe_join ho.pe he.pe hs hbase hline) fun σ H Q h => ?_⟩
  obtain ⟨B, O, A, ρ, out, S, hm, k⟩ := h
  refine run_bnd S hm k.exc fun ra ρ1 v H1 A1 F hk S1 rr1 st1 x1 => ?_
  split at hk
  · rename_i a e1
    have hv := S1.view rr1 e1
    cases hv
    refine ⟨⟨a, rfl⟩, ?_⟩
    refine run_bnd S1 hk x1 fun rb ρ2 w H2 A2 F2 hk2 S2 rr2 st2 x2 => ?_
    split at hk2
    · rename_i l e2
      obtain ⟨p, vs, rfl, hp, dq⟩ := S2.items rr2 e2
      simp only [fJoin] at hk2
      cases hy : strsOf l with
      | none => rw [hy] at hk2; cases hk2
      | some ys =>
        rw [hy] at hk2
        dsimp only at hk2
        split at hk2
        · rename_i sm
          cases hk2
          have := strsOf_ok dq hy
          subst this
          refine ⟨a, p, ys, rfl, rfl, ?_, by omega, fin_dat k.oks S2 (fun a => by unfold add; omega) (st1.trans st2 fun a n => add_l n) (.str _)⟩
          rcases hp with hp | ⟨_, hp⟩
          · exact .inl (.of hp)
          · exact hp.imp id fun hp => Tl.Same.tup hid_sub hp
        · cases hk2
    · cases hk2
  · cases hk
/-! ### bools as values, chains, choices -/
def mAndV (ma mb : M R) : M R := bnd ma fun r ρ => match vw r ρ with
  | some (.bool true) => mb ρ
  | some (.bool false) => some (.ok (.dat (.bool false)) ρ)
  | _ => none
def mOrV (ma mb : M R) : M R := bnd ma fun r ρ => match vw r ρ with
  | some (.bool true) => some (.ok (.dat (.bool true)) ρ)
  | some (.bool false) => mb ρ
  | _ => none
theorem ERun.of {m : M R} {out : Out R} {Q : VK} {F : Ft} (S1 : StC X.K X.mg B (add O F) A1 ρ1 σ H1) (st : Stp O A H (add O F) A1 H1) (k : Aft X.K X.mg B O A σ H E (okE X.K X.mg B O A σ H Q) out) (h : m ρ1 = some out) : ERun X.K X.mg m E σ H1 Q :=
  ⟨B, O, A1, ρ1, out, S1.weak fun a => le_add a, h, aft_of (k.exc.later (st.weak fun a => le_add a).toSto fun _ => Nat.le_refl _) fun r ρ' e v H' A' F' S' rr st' => by subst e; exact k.oks v H' A' F' S' rr ((st.weak fun a => le_add a).trans st' fun _ n => n)⟩
theorem de_and {rest : List Expr} {ma mb : M R} (ha : DE X E a ma) (hb : DE X E (.BoolOp .And (b :: rest) pos) mb) : DE X E (.BoolOp .And (a :: b :: rest) pos) (mAndV ma mb) := by
  refine ⟨pe_imp (pe_and ha.pe hb.pe) fun σ H Q h => ?_⟩
  obtain ⟨B, O, A, ρ, out, S, hm, k⟩ := h
  refine run_bnd S hm k.exc fun ra ρ1 v H1 A1 F hk S1 rr1 st1 x1 => ?_
  split at hk
  · rename_i e1
    have := S1.view rr1 e1
    cases this
    exact ⟨true, rfl, ERun.of S1 st1 k hk⟩
  · rename_i e1
    have := S1.view rr1 e1
    cases this
    cases hk
    exact ⟨false, rfl, fin_dat k.oks S1 (fun a => le_add a) st1 (.bl _)⟩
  · cases hk
theorem de_or {rest : List Expr} {ma mb : M R} (ha : DE X E a ma) (hb : DE X E (.BoolOp .Or (b :: rest) pos) mb) : DE X E (.BoolOp .Or (a :: b :: rest) pos) (mOrV ma mb) := by
  refine ⟨pe_imp (pe_or ha.pe hb.pe) fun σ H Q h => ?_⟩
  obtain ⟨B, O, A, ρ, out, S, hm, k⟩ := h
  refine run_bnd S hm k.exc fun ra ρ1 v H1 A1 F hk S1 rr1 st1 x1 => ?_
  split at hk
  · rename_i e1
    have := S1.view rr1 e1
    cases this
    cases hk
    exact ⟨true, rfl, fin_dat k.oks S1 (fun a => le_add a) st1 (.bl _)⟩
  · rename_i e1
    have := S1.view rr1 e1
    cases this
    exact ⟨false, rfl, ERun.of S1 st1 k hk⟩
  · cases hk
theorem de_one {op} {m : M R} (h : DE X E a m) : DE X E (.BoolOp op [a] pos) m := ⟨pe_one h.pe⟩
def mIfE (mt : M Bool) (ma mb : M R) : M R := bnd mt fun c => if c = true then ma else mb
theorem de_ifE {mt : M Bool} {ma mb : M R} (ht : DT X E c mt) (ha : DE X E a ma) (hb : DE X E b mb) : DE X E (.IfExp c a b pos) (mIfE mt ma mb) := by
  refine ⟨pe_imp (pe_ifExp ht.pt ha.pe hb.pe) fun σ H Q h => ?_⟩
  obtain ⟨B, O, A, ρ, out, S, hm, k⟩ := h
  refine run_bndT S hm k.exc fun c ρ1 H1 A1 hk S1 st1 x1 => ?_
  have S1' : StC X.K X.mg B (add O zer) A1 ρ1 σ H1 := by rw [add_zer]; exact S1
  have st1' : Stp O A H (add O zer) A1 H1 := by rw [add_zer]; exact st1
  cases c with
  | true => exact ERun.of S1' st1' k hk
  | false => exact ERun.of S1' st1' k hk
/-- a op b op' c -/
def mChain (f g : D → D → Option D) (ma mb mc : M R) : M R := bnd ma fun ra => bnd mb fun rb ρ => match vw ra ρ, vw rb ρ with
  | some d, some e => match f d e with
    | some (.bool true) => (bnd mc fun rc ρ' => match vw rb ρ', vw rc ρ' with
      | some e', some d' => match g e' d' with
        | some z => if atomD z = true then some (.ok (.dat z) ρ') else none
        | none => none
      | _, _ => none) ρ
    | some (.bool false) => some (.ok (.dat (.bool false)) ρ)
    | _ => none
  | _, _ => none
theorem run_chain {r r' : R2} {f g : D → D → Option D} {ma mb mc : M R} {σ : L2.St} {H : Hp} {Q : VK} (hf : OpA X.K r f) (hg : OpA X.K r' g) (h : ERun X.K X.mg (mChain f g ma mb mc) E σ H Q) : tChain r r' (ERun X.K X.mg ma E) (ERun X.K X.mg mb E) (ERun X.K X.mg mc E) σ H Q := by
  obtain ⟨B, O, A, ρ, out, S, hm, k⟩ := h
  refine run_bnd S hm k.exc fun ra ρ1 v H1 A1 F hk S1 rr1 st1 x1 => ?_
  refine run_bnd S1 hk x1 fun rb ρ2 w H2 A2 F2 hk2 S2 rr2 st2 x2 => ?_
  have rr1' := rr1.step st2 (fun a n => add_r n)
  have st12 := st1.trans st2 fun a n => add_l n
  split at hk2
  · rename_i d e e1 e2
    split at hk2
    · rename_i e3
      refine hf H2 v w d e _ _ (S2.view rr1' e1) (S2.view rr2 e2) e3 fun u hu => ?_
      cases hu
      refine ⟨true, rfl, ?_⟩
      rw [if_pos rfl]
      refine run_bnd S2 hk2 x2 fun rc ρ3 y H3 A3 F3 hk3 S3 rr3 st3 x3 => ?_
      have rr2' := rr2.step st3 (fun a n => add_r n)
      split at hk3
      · rename_i e' d' q1 q2
        split at hk3
        · rename_i z q3
          split at hk3
          · rename_i az
            cases hk3
            exact hg H3 w y e' d' z Q (S3.view rr2' q1) (S3.view rr3 q2) q3 fun u hu => fin_dat k.oks S3 (fun a => by unfold add; omega) (st12.trans st3 fun a n => add_l (add_l n)) (atom_any hu az)
          · cases hk3
        · cases hk3
      · cases hk3
    · rename_i e3
      cases hk2
      refine hf H2 v w d e _ _ (S2.view rr1' e1) (S2.view rr2 e2) e3 fun u hu => ?_
      cases hu
      refine ⟨false, rfl, ?_⟩
      rw [if_neg (by decide)]
      exact fin_dat k.oks S2 (fun a => by unfold add; omega) st12 (.bl _)
    · cases hk2
  · cases hk2
theorem de_chain {op op' : CmpOp} {r r' : R2} {f g : D → D → Option D} {ma mb mc : M R} (ho : OpR X (compareOp op) r) (ho' : OpR X (compareOp op') r') (hf : OpA X.K r f) (hg : OpA X.K r' g) (ha : DE X E a ma) (hb : DE X E b mb) (hc : DE X E c mc)
    (hm : lastMarks [op, op'] [b, c] = false := by with_unfolding_all rfl) : DE X E (.Compare a [op, op'] [b, c] pos) (mChain f g ma mb mc) :=
  ⟨pe_imp (pe_chain ho ho' ha.pe hb.pe hc.pe hm) fun _ _ _ h => run_chain hf hg h⟩
end
end XM
end
section
/-! a call of what a local name holds, stars among its arguments -/
namespace Tl
open PySem PySem.Spec PyProof.Rows L2
/-- what is at f may be called as sp says -/
def Can (X : Cx) (f : Addr) (sp : Sp) : Prop := PySem.W.keepIn X.K (.ref f) = true ∧ ∀ (pins : List (Addr × Obj)) (s : Shared) (σ : L2.St) (H : Hp) (us : List Value) (vs : List V) (Q : VK), L2.Inv X pins σ H s → Vals vs us → sp vs H Q (fun _ _ _ => False) → wpAny (model X.prog X.w) X.A (call (.ref f) us) (EP X pins σ Q) X.xe s
section
variable {X : Cx} {k i : Nat} {x : Str} {p pos : Pos} {e : Expr} {es : List Expr} {t : TA}
theorem can_of {f : Addr} {fd : FuncData} {ps : List Str} {sp0 sp : Sp} {ds : List Value} {dvs : List V} (F : FnOk X.prog X.w X.K X.mg X.base CX0 k f fd ps sp0) (hr : Room k X.A) (kp : PySem.W.keepIn X.K (.ref f) = true) (b : L2.Binds X.K fd ps ds) (hd : Vals dvs ds)
    (h : ∀ vs H Q E, sp vs H Q E → sp0 (vs ++ dvs) H Q E) : Can X f sp := by
  refine ⟨kp, fun pins s σ H us vs Q I rv want => ?_⟩
  have w0 := h _ _ _ _ want
  have hl : (us ++ ds).length = ps.length := by
    have := F.len _ _ _ _ w0
    rw [← this]
    exact ((rv.append hd).length).symm
  refine wpAny_call (codeAny_mono (F.run X.A X.stack s H ⟨us, []⟩ (us ++ ds) (vs ++ dvs) Q _ hr I.env0 (b s us I.kIn hl) (rv.append hd) w0) fun r s' hq => ?_)
  cases r with
  | error q => exact hq.elim
  | ok fl =>
    cases fl with
    | ret u => exact I.after hq
    | next => exact hq.elim
    | brk => exact hq.elim
    | cont => exact hq.elim
theorem can_pr {sp : Sp} {ps : List Str} (c : Pr X.prog X.w X.K X.mg X.base CX0 k x ps sp) (hr : Room k X.A) : ∃ f, X.mg x = some (.ref f) ∧ Can X f sp := by
  obtain ⟨f, fd, hm, kp, b, F⟩ := c.ex
  exact ⟨f, hm, can_of F hr kp b .nil (fun vs H Q E h => by rw [List.append_nil]; exact h)⟩
/-- x(e, .., *xs), x a local name: tCallLS -/
def tCallLS (X : Cx) (i : Nat) (t : TA) : TE := fun σ H Q => ∃ f sp, σ[i]? = some (some (.ref f)) ∧ Can X f sp ∧ t σ H fun vs H1 => sp vs H1 Q (fun _ _ _ => False)
theorem pe_callLS (hv : PE X (.Name x p) (tVar i)) (ha : PA X (e :: es) t) (he : starEach (e :: es) X.env = (false, eval e X.env) :: starEach es X.env := by rfl) (hst : ((backTo pos (starEach es X.env)).any fun x => x.1) = true := by rfl) :
    PE X (.Call (.Name x p) (e :: es) [] pos) (tCallLS X i t) := by
  constructor
  intro pins s σ H Q I want
  obtain ⟨f, sp, eσ, can, want⟩ := want
  rw [arm_eval_Call_Name']
  refine wpAny_bind (wpAny_mono (hv.run pins s σ H (fun v H' => v = .ref f ∧ H' = H) I ⟨.ref f, eσ, rfl, rfl⟩) (fun u s1 q => ?_) (fun _ _ z => z))
  obtain ⟨v, H1, I1, rv, e1, e2⟩ := q
  subst e1; subst e2
  have eu : u = .ref f := rv
  subst eu
  refine PySem.W.callWith_S2 (h₀ := X.base) I1.ok.mod.kin can.1 (wpAny_mono (ha.run pos pins s1 σ H1 _ I1 want) (fun us s2 q => ?_) (fun _ _ z => z)) he hst
  obtain ⟨vs, H2, I2, rs, w2⟩ := q
  exact ⟨I2.kIn, can.2 pins s2 σ H2 us vs Q I2 rs w2⟩
end
end Tl
namespace Tl
open PySem PySem.Spec PyProof.Rows L2
/-- the def x stands in the text as st, its last parameters have defaults -/
structure DnD (K : PySem.W.Frag) (mg : Str → Option Value) (x : Str) (st : Stmt) (dvs : List V) : Prop where
  ex : ∃ f fd, mg x = some (.ref f) ∧ FunD K x x (defArgs st) (defBody st) (defScope st) dvs [] f fd
end Tl
end
section
namespace XM
open PySem PySem.Spec PyProof.Rows L2 Tl
/-! ### isinstance -/
inductive Ty where
  | int | str | bool | list | tuple | dict | none
  deriving DecidableEq
def Ty.name : Ty → String
  | .int => "int" | .str => "str" | .bool => "bool" | .list => "list" | .tuple => "tuple" | .dict => "dict" | .none => "NoneType"
def isT (a b : Ty) : Bool := decide (a = b) || (decide (a = .bool) && decide (b = .int))
theorem kit_isT (a b : Ty) (h : b ≠ .none) : kitB a.name b.name = some (isT a b) := by
  cases a <;> cases b <;> first | exact absurd rfl h | decide +kernel
def tyD : D → Option Ty
  | .none => some .none
  | .bool _ => some .bool
  | .int _ => some .int
  | .str _ => some .str
  | .list _ => some .list
  | .tuple _ => some .tuple
  | .dict _ => Option.none
def T.ty : T → Option Ty
  | .dat d => tyD d
  | .dl _ => some .list
  | .ol _ => some .list
  | .ot _ => some .tuple
  | .dd _ => some .dict
  | .od _ => some .dict
  | .frz _ => some .list
  | _ => Option.none
def tyR : R → Fr → Option Ty
  | .dat d, _ => tyD d
  | .own t, _ => t.ty
  | .ref r, ρ => (ρ.rt[r]?).bind fun t => t.t.ty
  | .fn _, _ => Option.none
section
variable {X : Cx} {E : XK} {e a b c : Expr} {es : List Expr} {pos p : Pos} {B : Bs} {O O' : Ft} {A A' A1 : Al} {ρ ρ1 : Fr} {σ : L2.St} {H H' H1 : Hp}
theorem sqt_ty {K : PySem.W.Frag} {a : Addr} {vs : List V} (h : SqT K H a vs) : TyX K H (.ref a) (.type "tuple") := by
  rcases h with (h | ⟨o, h⟩) | ⟨o, its, n, h1, h2, _⟩
  · exact .base (.tup h)
  · exact .fTuple h
  · exact .kTuple h1 h2
theorem sql_ty {K : PySem.W.Frag} {a : Addr} {vs : List V} (h : SqL K H a vs) : TyX K H (.ref a) (.type "list") := by
  rcases h with (h | ⟨o, h⟩) | ⟨o, its, n, h1, h2, _⟩
  · exact .base (.lst h)
  · exact .base (.frz h)
  · exact .kList h1 h2
theorem Dq_ty {K : PySem.W.Frag} {v : V} {d : D} {t : Ty} (h : Dq K H v d) (e : tyD d = some t) : TyX K H v (.type t.name) := by
  cases h with
  | non => cases e; exact .base .non
  | bl b => cases e; exact .base (.bl b)
  | int i => cases e; exact .base (.int i)
  | str x => cases e; exact .base (.str x)
  | lst ha r => cases e; exact .base (.lst ha)
  | tup ha r => cases e; exact sqt_ty ha
theorem TR.ty {K : PySem.W.Frag} {mm : Mg} {G : Hp} (sG : Same G H) {t : T} {v : V} {F : Ft} {y : Ty} (h : TR K mm G H t v F) (e : t.ty = some y) : TyX K H v (.type y.name) := by
  cases h with
  | dat h => exact Dq_ty (Dq_same sG h) e
  | dl ha r => cases e; exact .base (.lst ha)
  | ol ha r => cases e; exact .base (.lst ha)
  | ot ha r => cases e; exact .base (.tup (sG _ _ ha))
  | dd ha k r => cases e; exact .base (.dK ha)
  | od ha k r => cases e; exact .base (.dK ha)
  | frz ha => cases e; exact sql_ty (sG.seq ha)
  | fn _ => cases e
  | ins _ _ _ _ => cases e
  | gone => cases e
  | hole => cases e
theorem StC.tyR {K : PySem.W.Frag} {mg : Str → Option Value} (S : StC K mg B O A ρ σ H) {r : R} {v : V} {F : Ft} {y : Ty} (h : RR K ⟨mg, B.η⟩ (XM.al A) (hid (tot O A) H) H v F r) (e : XM.tyR r ρ = some y) : TyX K H v (.type y.name) := by
  cases r with
  | dat d => exact Dq_ty (Dq_same hid_sub h.2) e
  | fn x => cases e
  | own t => exact TR.ty hid_sub h e
  | ref r =>
    simp only [XM.tyR] at e
    cases e1 : ρ.rt[r]? with
    | none => rw [e1] at e; cases e
    | some t =>
      rw [e1] at e
      obtain ⟨F', _, h'⟩ := S.root e1 h.2
      exact TR.ty hid_sub h' e
def mIsi (ty : Ty) (m : M R) : M R := bnd m fun r ρ => (tyR r ρ).map fun t => .ok (.dat (.bool (isT t ty))) ρ
theorem de_isi {ty : Ty} {tn : Str} {p2 : Pos} {m : M R} (hg : Gl X "isinstance") (hm : X.mg "isinstance" = none) (hT : PE X (.Name tn p2) (tC (.ty ty.name))) (hn : ty ≠ .none) (he : DE X E a m)
    (hs : starEach [a, .Name tn p2] X.env = (false, eval a X.env) :: starEach [.Name tn p2] X.env := by rfl) (hs2 : starEach [.Name tn p2] X.env = (false, eval (.Name tn p2) X.env) :: starEach [] X.env := by rfl) (hpl : (backTo pos (starEach [.Name tn p2] X.env)).any (·.1) = false := by rfl) :
    DE X E (.Call (.Name "isinstance" p) [a, .Name tn p2] [] pos) (mIsi ty m) := by
  refine ⟨pe_imp (pe_callB call_isi hg hm boot_isinstance (pa_cons he.pe (pa_cons hT pa_nil hs2) hs) (by decide) (by decide) hs hpl) fun σ H Q h => ?_⟩
  obtain ⟨B, O, A, ρ, out, S, hm, k⟩ := h
  show ERun _ _ _ _ _ _ _
  refine run_bnd S hm k.exc fun r ρ1 v H1 A1 F hk S1 rr1 st1 x1 => ?_
  cases e1 : tyR r ρ1 with
  | none => rw [e1] at hk; cases hk
  | some t =>
    rw [e1] at hk
    cases hk
    exact ⟨v, _, _, _, isT t ty, rfl, .ty _, S1.tyR rr1 e1, kit_ty (kit_isT t ty hn), fin_dat k.oks S1 (fun a => le_add a) st1 (.bl _)⟩
/-! ### repr -/
def rRepr (K : PySem.W.Frag) : List V → Hp → VK → Prop := fun xs H Q => ∃ x d, xs = [x] ∧ Dp K H x d ∧ d.showable = true ∧ d.hasDict = false ∧ d.shown.length ≤ sizeLine ∧ d.depth ≤ 60 ∧ (∀ b, d ≠ .bool b) ∧ (∀ z, d ≠ .str z) ∧ d ≠ .none ∧ (∀ i, d = .int i → i.natAbs.log2 < 1920) ∧ Q (.str d.shown) H
theorem call_reprD (quiet : Quiet X.A) (hu : X.A.units + 64 < cLine) : CallR X (.builtin "repr") (rRepr X.K) := by
  intro pins s σ H xs us Q I r h
  obtain ⟨x, d, rfl, hd, h1, h2, h3, h4, n1, n2, n3, hi, q⟩ := h
  obtain ⟨u, rfl, rx⟩ := vals1 r
  obtain ⟨as, rd⟩ := Dp.reads I d x u hd rx
  have viaA : ∀ a, u = .ref a → wpAny (model X.prog X.w) X.A (call (.builtin "repr") [u]) (EP X pins σ Q) X.xe s := by
    rintro a rfl
    refine repr_of_reads' rd h1 (fun z => by rw [h2] at z; cases z) quiet (by omega) (fun _ _ e => e) (fun h' t tk keep => ?_) h3
    exact ⟨.str d.shown, H, I.kept (t' := tk) keep, ⟨_, rfl⟩, q⟩
  cases d with
  | none => exact absurd rfl n3
  | bool b => exact absurd rfl (n1 b)
  | str z => exact absurd rfl (n2 z)
  | int i =>
    cases hd
    obtain ⟨t, rfl⟩ := rx
    have e : (PyData.int i).shown = toString i := by simp [PyData.shown]
    rw [e] at q
    exact PySem.P.repr_of_int (hi i rfl) ⟨.str _, H, I.tok _, ⟨_, rfl⟩, q⟩
  | list l => cases hd; exact viaA _ rx
  | tuple l => cases hd; exact viaA _ rx
  | dict l => cases hd
end
end XM
end
section
namespace XM
open PySem PySem.Spec PyProof.Rows L2 Tl
/-! ### slices -/
def T.itemsL : T → Option (List D)
  | .dat (.list l) => some l
  | .dl l => some l
  | .frz ns => some (ns.map .int)
  | _ => none
def itsL : R → Fr → Option (List D)
  | .dat d, _ => T.itemsL (.dat d)
  | .own t, _ => t.itemsL
  | .ref r, ρ => (ρ.rt[r]?).bind fun t => t.t.itemsL
  | .fn _, _ => none
def T.itemsT : T → Option (List D)
  | .dat (.tuple l) => some l
  | _ => none
def itsT : R → Fr → Option (List D)
  | .dat d, _ => T.itemsT (.dat d)
  | .own t, _ => t.itemsT
  | .ref r, ρ => (ρ.rt[r]?).bind fun t => t.t.itemsT
  | .fn _, _ => none
def optM : Option (M R) → M (Option Int)
  | none => fun ρ => some (.ok none ρ)
  | some m => bnd m fun r ρ => match vw r ρ with
    | some (.int i) => some (.ok (some i) ρ)
    | _ => none
def cutD {α : Type} (xs : List α) (lo hi : Option Int) : List α := (xs.drop (HT.sIx xs.length 0 lo)).take (HT.sIx xs.length xs.length hi - HT.sIx xs.length 0 lo)
def fSl (r : R) (ρ : Fr) (lo hi : Option Int) : Option R := match itsL r ρ with
  | some l => some (.own (.dl (cutD l lo hi)))
  | none => match itsT r ρ with
    | some l => some (.dat (.tuple (cutD l lo hi)))
    | none => match vw r ρ with
      | some (.str z) => if z.length ≤ 1000000 then some (.dat (.str (cutS z lo hi))) else none
      | _ => none
def mSlice (m : M R) (lo hi : Option (M R)) : M R := bnd m fun r => bnd (optM lo) fun l => bnd (optM hi) fun h ρ => (fSl r ρ l h).map fun z => .ok z ρ
def okO (K : PySem.W.Frag) (mg : Str → Option Value) (B : Bs) (O : Ft) (A : Al) (σ : L2.St) (H : Hp) (Q : Option Int → Hp → Prop) (r : Option Int) (ρ' : Fr) : Prop := ∀ H' A', StC K mg B O A' ρ' σ H' → Stp O A H O A' H' → Q r H'
def ORun (K : PySem.W.Frag) (mg : Str → Option Value) (m : M (Option Int)) (E : XK) : TO := fun σ H Q => ∃ B O A ρ out, StC K mg B O A ρ σ H ∧ m ρ = some out ∧ Aft K mg B O A σ H E (okO K mg B O A σ H Q) out
structure DO (X : Cx) (E : XK) (oe : Option Expr) (m : M (Option Int)) : Prop where
  po : PO X oe (ORun X.K X.mg m E)
theorem po_imp {X : Cx} {oe : Option Expr} {t t' : TO} (h : PO X oe t) (i : ∀ σ H Q, t' σ H Q → t σ H Q) : PO X oe t' := ⟨fun pins s σ H Q I q => h.run pins s σ H Q I (i _ _ _ q)⟩
section
variable {X : Cx} {E : XK} {e a b c : Expr} {es : List Expr} {pos p : Pos} {B : Bs} {O O' : Ft} {A A' A1 : Al} {ρ ρ1 : Fr} {σ : L2.St} {H H' H1 : Hp}
theorem do_none : DO X E none (optM none) := ⟨po_imp po_none fun σ H Q h => by
  obtain ⟨B, O, A, ρ, out, S, hm, k⟩ := h
  cases hm
  exact k.oks H A S Stp.refl⟩
theorem do_some {m : M R} (h : DE X E e m) : DO X E (some e) (optM (some m)) := ⟨po_imp (po_some h.pe) fun σ H Q h => by
  obtain ⟨B, O, A, ρ, out, S, hm, k⟩ := h
  refine run_bnd S hm k.exc fun r ρ1 v H1 A1 F hk S1 rr1 st1 x1 => ?_
  split at hk
  · rename_i i e1
    cases hk
    have := S1.view rr1 e1
    cases this
    exact ⟨i, rfl, k.oks H1 A1 (S1.weak fun a => le_add a) (st1.weak fun a => le_add a)⟩
  · cases hk⟩
theorem run_bndO {γ : Type} {K : PySem.W.Frag} {mg : Str → Option Value} {m : M (Option Int)} {k : Option Int → M γ} {out : Out γ} {Q : Option Int → Hp → Prop} (S : StC K mg B O A ρ σ H) (h : bnd m k ρ = some out) (x : Exc K mg B O A σ H E out)
    (c : ∀ r ρ1 H1 A1, k r ρ1 = some out → StC K mg B O A1 ρ1 σ H1 → Stp O A H O A1 H1 → Exc K mg B O A1 σ H1 E out → Q r H1) : ORun K mg m E σ H Q := by
  rcases bnd_some h with ⟨c', ρ1, e, eo⟩ | ⟨r, ρ1, e, hk⟩
  · exact ⟨B, O, A, ρ, _, S, e, fun C H' A' hc S' st => x c' ρ1 eo C H' A' hc S' st⟩
  · exact ⟨B, O, A, ρ, _, S, e, fun H1 A1 S1 st => c r ρ1 H1 A1 hk S1 st (x.later st.toSto fun a => Nat.le_refl _)⟩
theorem TR.itemsL {K : PySem.W.Frag} {mm : Mg} {G : Hp} (s : Same G H) {t : T} {v : V} {F : Ft} {l : List D} (h : TR K mm G H t v F) (e : t.itemsL = some l) : ∃ a vs, v = .ref a ∧ SqL K H a vs ∧ DqAll K G vs l := by
  cases h with
  | dat h => cases h <;> first | (cases e; done) | (rename_i ha r; cases e; exact ⟨_, _, rfl, .of (s _ _ ha), r⟩)
  | dl h r => cases e; exact ⟨_, _, rfl, .of h, r⟩
  | frz h => cases e; exact ⟨_, _, rfl, s.seq h, ints_all _⟩
  | fn _ => cases e
  | ol _ _ => cases e
  | ot _ _ => cases e
  | dd _ _ _ => cases e
  | od _ _ _ => cases e
  | ins _ _ _ _ => cases e
  | gone => cases e
  | hole => cases e
theorem TR.itemsT {K : PySem.W.Frag} {mm : Mg} {G : Hp} {t : T} {v : V} {F : Ft} {l : List D} (h : TR K mm G H t v F) (e : t.itemsT = some l) : ∃ a vs, v = .ref a ∧ SqT K G a vs ∧ DqAll K G vs l := by
  cases h with
  | dat h => cases h <;> first | (cases e; done) | (rename_i ha r; cases e; exact ⟨_, _, rfl, ha, r⟩)
  | dl h r => cases e
  | frz h => cases e
  | fn _ => cases e
  | ol _ _ => cases e
  | ot _ _ => cases e
  | dd _ _ _ => cases e
  | od _ _ _ => cases e
  | ins _ _ _ _ => cases e
  | gone => cases e
  | hole => cases e
theorem StC.itsL {K : PySem.W.Frag} {mg : Str → Option Value} (S : StC K mg B O A ρ σ H) {r : R} {v : V} {F : Ft} {l : List D} (h : RR K ⟨mg, B.η⟩ (XM.al A) (hid (tot O A) H) H v F r) (e : XM.itsL r ρ = some l) : ∃ a vs, v = .ref a ∧ SqL K H a vs ∧ DqAll K (hid (tot O A) H) vs l := by
  cases r with
  | dat d => exact TR.itemsL (mm := ⟨mg, B.η⟩) hid_sub (.dat h.2) e
  | fn x => cases e
  | own t => exact TR.itemsL hid_sub h e
  | ref r =>
    simp only [XM.itsL] at e
    cases e1 : ρ.rt[r]? with
    | none => rw [e1] at e; cases e
    | some t =>
      rw [e1] at e
      obtain ⟨F', _, h'⟩ := S.root e1 h.2
      exact TR.itemsL hid_sub h' e
theorem StC.itsT {K : PySem.W.Frag} {mg : Str → Option Value} (S : StC K mg B O A ρ σ H) {r : R} {v : V} {F : Ft} {l : List D} (h : RR K ⟨mg, B.η⟩ (XM.al A) (hid (tot O A) H) H v F r) (e : XM.itsT r ρ = some l) : ∃ a vs, v = .ref a ∧ SqT K (hid (tot O A) H) a vs ∧ DqAll K (hid (tot O A) H) vs l := by
  cases r with
  | dat d => exact TR.itemsT (mm := ⟨mg, B.η⟩) (H := H) (.dat h.2) e
  | fn x => cases e
  | own t => exact TR.itemsT h e
  | ref r =>
    simp only [XM.itsT] at e
    cases e1 : ρ.rt[r]? with
    | none => rw [e1] at e; cases e
    | some t =>
      rw [e1] at e
      obtain ⟨F', _, h'⟩ := S.root e1 h.2
      exact TR.itemsT h' e
theorem DqAll_cut {K : PySem.W.Frag} {G : Hp} {vs : List V} {l : List D} (h : DqAll K G vs l) (lo hi : Option Int) : DqAll K G (cutV vs lo hi) (cutD l lo hi) := by
  unfold cutV cutD
  rw [DqAll_len h]
  exact DqAll_take _ (DqAll_drop _ h)
theorem de_slice {m : M R} {lo hi : Option Expr} {ml mh : Option (M R)} {p2 : Pos} (he : DE X E e m) (hl : DO X E lo (optM ml)) (hh : DO X E hi (optM mh)) : DE X E (.Subscript e (.Slice lo hi none p2) pos) (mSlice m ml mh) := by
  refine ⟨pe_imp (pe_slice (SlR.or sl_list (SlR.or sl_tupA sl_str)) he.pe hl.po hh.po) fun σ H Q h => ?_⟩
  obtain ⟨B, O, A, ρ, out, S, hm, k⟩ := h
  refine run_bnd S hm k.exc fun r ρ1 v H1 A1 F hk S1 rr1 st1 x1 => ?_
  refine run_bndO S1 hk x1 fun l ρ2 H2 A2 hk2 S2 st2 x2 => ?_
  refine run_bndO S2 hk2 x2 fun h ρ3 H3 A3 hk3 S3 st3 x3 => ?_
  have rr3 := (rr1.step st2 fun a n => add_r n).step st3 fun a n => add_r n
  have st := (st1.trans st2 fun a n => add_l n).trans st3 fun a n => add_l n
  have le : ∀ a, O a ≤ add O F a := fun a => le_add a
  have w := hid_weak (A := A3) (H := H3) le
  cases e1 : fSl r ρ3 l h with
  | none => rw [e1] at hk3; cases hk3
  | some z =>
    rw [e1] at hk3
    cases hk3
    unfold fSl at e1
    split at e1
    · rename_i xs e2
      cases e1
      obtain ⟨a, vs, rfl, sq, dq⟩ := S3.itsL rr3 e2
      exact .inl ⟨a, vs, rfl, sq, fun p np => fin_lst k.oks S3 le st (DqAll_same w (DqAll_cut dq l h)) np⟩
    · split at e1
      · rename_i xs e2
        cases e1
        obtain ⟨a, vs, rfl, sq, dq⟩ := S3.itsT rr3 e2
        refine .inr (.inl ⟨a, vs, rfl, Tl.Same.tup hid_sub sq, fun whole => ?_, fun _ p np => fin_tup k.oks S3 le st (DqAll_same w (DqAll_cut dq l h)) np⟩)
        have ec : cutD xs l h = xs := by
          unfold cutD
          rw [← DqAll_len dq, whole.1, whole.2, List.drop_zero, Nat.sub_zero, DqAll_len dq, List.take_length]
        rw [ec] at k
        exact fin_dat k.oks S3 le st (.tup (Tl.Same.tup w sq) (DqAll_same w dq))
      · split at e1
        · rename_i z e2
          split at e1
          · rename_i sm
            cases e1
            have := S3.view rr3 e2
            cases this
            exact .inr (.inr ⟨z, rfl, big_line sm, fin_dat k.oks S3 le st (.str _)⟩)
          · cases e1
        · cases e1
/-! ### arguments, some with stars -/
def mCons (m : M R) (mr : M (List R)) : M (List R) := bnd m fun r => bnd mr fun rs ρ => some (.ok (r :: rs) ρ)
def mStar (m : M R) (mr : M (List R)) : M (List R) := bnd m fun r ρ1 => match its false r ρ1 with
  | some l => (bnd mr fun rs ρ => some (.ok (l.map R.dat ++ rs) ρ)) ρ1
  | none => none
theorem rrs_dats {K : PySem.W.Frag} {mm : Mg} {α : Nat → Option V} {G : Hp} {ws : List V} {F : Ft} {rs : List R} (hr : RRs K mm α G H ws F rs) : ∀ {vs : List V} {l : List D}, DqAll K G vs l → RRs K mm α G H (vs ++ ws) F (l.map R.dat ++ rs)
  | _, _, .nil => hr
  | _, _, .cons a r => by
    have := RRs.cons (mm := mm) (α := α) (H := H) (r := .dat _) ⟨rfl, a⟩ (rrs_dats hr r)
    rw [zer_add] at this
    exact this
theorem da_consA {m : M R} {mr : M (List R)} (ha : DE X E e m) (hr : DA X E es mr) (hs : starEach (e :: es) X.env = (false, eval e X.env) :: starEach es X.env := by rfl) : DA X E (e :: es) (mCons m mr) := by
  refine ⟨pa_imp (pa_cons ha.pe hr.pa hs) fun σ H Q h => ?_⟩
  obtain ⟨B, O, A, ρ, out, S, hm, k⟩ := h
  refine run_bnd S hm k.exc fun r ρ1 v H1 A1 F hk S1 rr1 st1 x1 => ?_
  refine run_bndA S1 hk x1 fun rs ρ2 vs H2 A2 F2 hk2 S2 rr2 st2 x2 => ?_
  obtain rfl := Option.some.inj hk2
  have st := st1.trans st2 fun a n => add_l n
  rw [add_assoc] at S2 rr2 st
  have rr1' := rr1.step st2 (fun a n => add_r n)
  rw [add_assoc] at rr1'
  exact k.oks (v :: vs) H2 A2 (add F F2) S2 (.cons rr1' rr2) st
theorem da_star {m : M R} {mr : M (List R)} (ha : DE X E e m) (hr : DA X E es mr) (hs : starEach (.Starred e p :: es) X.env = (true, eval e X.env) :: starEach es X.env := by rfl) : DA X E (.Starred e p :: es) (mStar m mr) := by
  refine ⟨pa_imp (StX.pa_star ha.pe hr.pa hs) fun σ H Q h => ?_⟩
  obtain ⟨B, O, A, ρ, out, S, hm, k⟩ := h
  refine run_bnd S hm k.exc fun r ρ1 v H1 A1 F hk S1 rr1 st1 x1 => ?_
  split at hk
  · rename_i l e1
    obtain ⟨q, vs, rfl, hq, dq⟩ := S1.items rr1 e1
    refine ⟨q, vs, rfl, ?_, ?_⟩
    · rcases hq with hq | ⟨_, hq | hq⟩
      · exact .inr (.of hq)
      · exact .inr hq
      · exact .inl (Tl.Same.tup hid_sub hq)
    · have le : ∀ a, O a ≤ add O F a := fun a => le_add a
      have dq1 := DqAll_same (hid_weak (A := A1) (H := H1) le) dq
      rcases bnd_some hk with ⟨c', ρ2, e2, eo⟩ | ⟨rs, ρ2, e2, e3⟩
      · exact ⟨B, O, A1, ρ1, _, S1.weak le, e2, fun C H' A' hc S' st => k.exc c' ρ2 eo C H' A' hc S' ((st1.weak le).toSto.trans st fun _ n => n)⟩
      · refine ⟨B, O, A1, ρ1, _, S1.weak le, e2, fun ws H2 A2 F2 S2 rr2 st2 => ?_⟩
        cases e3
        exact k.oks (vs ++ ws) H2 A2 F2 S2 (rrs_dats rr2 (DqAll_same st2.sh dq1)) ((st1.weak le).trans st2 fun _ n => n)
  · cases hk
theorem da_nilA : DA X E [] (mArgs []) := da_nil
def mTupA (mr : M (List R)) : M R := bnd mr fun rs => bnd (toDs rs) fun ds ρ => if ds.length ≤ 1000000 then some (.ok (.dat (.tuple ds)) ρ) else none
def mLstA (mr : M (List R)) : M R := bnd mr fun rs => bnd (toDs rs) fun ds ρ => if ds.length ≤ 1000000 then some (.ok (.own (.dl ds)) ρ) else none
theorem de_tupA {mr : M (List R)} {x1} (h : DA X E es mr) : DE X E (.Tuple es x1 pos) (mTupA mr) := by
  refine ⟨pe_imp (pe_tup h.pa) fun σ H Q h => ?_⟩
  obtain ⟨B, O, A, ρ, out, S, hm, k⟩ := h
  refine run_bndA S hm k.exc fun rs ρ1 vs H1 A1 F hk S1 rr1 st1 x1 => ?_
  obtain ⟨ds, ρ2, A2, e2, S2, dq, st2⟩ := gives_bnd S1 rr1 hk
  split at e2
  · rename_i z
    cases e2
    refine ⟨by rw [DqAll_len dq]; exact big_line z, fun p np => ?_⟩
    exact fin_tup k.oks S2 (fun _ => Nat.le_refl _) (st1.trans st2 fun a n => add_l n) dq np
  · cases e2
theorem de_lstA {mr : M (List R)} (h : DA X E es mr) : DE X E (.List es pos) (mLstA mr) := by
  refine ⟨pe_imp (pe_lst h.pa) fun σ H Q h => ?_⟩
  obtain ⟨B, O, A, ρ, out, S, hm, k⟩ := h
  refine run_bndA S hm k.exc fun rs ρ1 vs H1 A1 F hk S1 rr1 st1 x1 => ?_
  obtain ⟨ds, ρ2, A2, e2, S2, dq, st2⟩ := gives_bnd S1 rr1 hk
  split at e2
  · rename_i z
    cases e2
    refine ⟨by rw [DqAll_len dq]; exact big_line z, fun p np => ?_⟩
    exact fin_lst k.oks S2 (fun _ => Nat.le_refl _) (st1.trans st2 fun a n => add_l n) dq np
  · cases e2
/-! ### methods of lists -/
/-- xs.append(e) -/
def mAppend (mo me : M R) : M R := bnd mo fun ro ρ0 => match ro with
  | .ref n => match ρ0.rt[n]? with
    | some ⟨.dl _, _⟩ => (bnd me fun re => bnd (toD re) fun d ρ => match ρ.rt[n]? with
      | some ⟨.dl l, pr⟩ => if l.length < 1000000 then some (Out.ok (R.dat .none) { ρ with rt := ρ.rt.set n ⟨.dl (l ++ [d]), pr⟩ }) else none
      | _ => none) ρ0
    | _ => none
  | _ => none
theorem StC.setL {K : PySem.W.Frag} {mg : Str → Option Value} (S : StC K mg B O A ρ σ H) {n : Nat} {l l' : List D} {pr : Option (Nat × Pl)} {v : V} (hx : ρ.rt[n]? = some ⟨.dl l, pr⟩) (ha : XM.al A n = some v) :
    ∃ a vs, v = .ref a ∧ H a = some (.lst vs) ∧ DqAll K (hid (tot O A) H) vs l ∧ ∀ vs', DqAll K (hid (tot O A) H) vs' l' → StC K mg B O A { ρ with rt := ρ.rt.set n ⟨.dl l', pr⟩ } σ (upd H a (.lst vs')) ∧ Stp O A H O A (upd H a (.lst vs')) := by
  obtain ⟨F, hA, ht⟩ := S.root hx ha
  cases ht with
  | dl h r =>
    rename_i a vs
    refine ⟨a, vs, rfl, h, r, fun vs' r' => ?_⟩
    have one1 : tot O A a ≠ 0 := by
      have := sumF_at a hA
      dsimp only at this
      rw [one_self] at this
      unfold tot add; omega
    have sh : Same (hid (tot O A) H) (hid (tot O A) (upd H a (.lst vs'))) := fun b u h => by
      obtain ⟨q, h⟩ := hid_some h
      exact hid_at q (by rw [upd_ne fun z => one1 (by rw [z] at q; exact q)]; exact h)
    have eA : A.set n (.ref a, one a) = A := by
      apply List.ext_getElem?
      intro i
      rw [List.getElem?_set]
      by_cases e : n = i
      · subst e; rw [if_pos rfl, if_pos (List.getElem?_eq_some_iff.mp hA).1, hA]
      · rw [if_neg e]
    have S2 := S.setR (O' := O) (H' := upd H a (.lst vs')) (F' := one a) (t' := .dl l') hA hx (by rw [eA]; exact sh) (fun b _ q => upd_ne fun z => by rw [z, one_self] at q; cases q) (by rw [eA]; exact S.le1) (fun b q => by
      rw [eA] at q
      by_cases z : b = a
      · rw [z, upd_same]; simp
      · rw [upd_ne z]; exact S.al b q) (by rw [eA]; exact .dl upd_same (DqAll_same sh r')) (fun c => nomatch c)
    rw [eA] at S2
    refine ⟨S2, ⟨⟨fun b q => upd_ne fun z => ?_, sh⟩, fun _ _ h => h⟩⟩
    have h1 := S.le1 a
    have h2 := sumF_at a hA
    dsimp only at h2
    rw [one_self] at h2
    rw [z] at q
    unfold tot add at h1
    omega
theorem de_append {apos : Pos} {o : Expr} {mo me : M R} (ho : DE X E o mo) (he : DE X E e me) (hbase : attributeBase o "append" X.env (eval o X.env) = eval o X.env := by rfl)
    (hfew : ((backTo pos (starEach [e] X.env)).all (fun x => !x.1) && (backToKw pos (keywordEach [] X.env)).all (fun x => x.1.isSome)
      && decide (([e] : List Expr).length + ([] : List Keyword).length + (if ([] : List Keyword).isEmpty then 0 else 1) < 30)) = true := by rfl)
    (hline : (apos.endLine == pos.line) = true := by rfl) (hs : starEach [e] X.env = (false, eval e X.env) :: starEach [] X.env := by rfl) (hplain : (backTo pos (starEach [] X.env)).any (·.1) = false := by rfl) :
    DE X E (.Call (.Attribute o "append" apos) [e] [] pos) (mAppend mo me) := by
  refine ⟨pe_imp (pe_bm PySem.F.plainAttrs_list PySem.F.slot_list_append PySem.F.type_list_append mt_append ho.pe (pa_cons he.pe pa_nil hs) hbase hfew hline hs hplain) fun σ H Q h => ?_⟩
  obtain ⟨B, O, A, ρ, out, S, hm, k⟩ := h
  refine run_bnd S hm k.exc fun ro ρ1 v H1 A1 F hk S1 rr1 st1 x1 => ?_
  cases ro with
  | ref n =>
    dsimp only at hk
    split at hk
    · rename_i l0 pr0 hx0
      obtain ⟨rfl, ha1⟩ := rr1
      rw [add_zer] at S1 st1 x1
      obtain ⟨a0, vs0, rfl, h0, _⟩ := S1.setL (l' := []) hx0 ha1
      refine ⟨.inl ⟨rfl, vs0, .of h0⟩, ?_⟩
      show ERun _ _ _ _ _ _ _
      refine run_bnd S1 hk x1 fun re ρ2 w H2 A2 F2 hk2 S2 rr2 st2 x2 => ?_
      obtain ⟨d, ρ3, A3, hk3, S3, dq, st3⟩ := give_bnd S2 rr2 hk2
      split at hk3
      · rename_i l pr hx
        split at hk3
        · rename_i sm
          cases hk3
          have ha3 := st3.al _ _ (st2.al _ _ ha1)
          obtain ⟨a, vs, ea, hH, dl, go⟩ := S3.setL (l' := l ++ [d]) hx ha3
          cases ea
          obtain ⟨S4, st4⟩ := go (vs ++ [w]) (DqAll_app dl (.cons dq .nil))
          refine ⟨a0, vs, w, rfl, rfl, hH, by rw [DqAll_len dl, sizeLine_eq]; omega, ?_⟩
          exact fin_dat k.oks S4 (fun _ => Nat.le_refl _) (((st1.trans st2 fun _ n => n).trans st3 fun a n => add_l n).trans st4 fun _ n => n) .non
        · cases hk3
      · cases hk3
    · cases hk
  | dat d => cases hk
  | fn x => cases hk
  | own t => cases hk
/-- xs.extend(list) -/
def mExtend (mo me : M R) : M R := bnd mo fun ro ρ0 => match ro with
  | .ref n => match ρ0.rt[n]? with
    | some ⟨.dl _, _⟩ => (bnd me fun re ρ => match ρ.rt[n]?, its true re ρ with
      | some ⟨.dl l, pr⟩, some l2 => if l.length + l2.length ≤ 1000000 then some (Out.ok (R.dat .none) { ρ with rt := ρ.rt.set n ⟨.dl (l ++ l2), pr⟩ }) else none
      | _, _ => none) ρ0
    | _ => none
  | _ => none
theorem de_extend {apos : Pos} {o : Expr} {mo me : M R} (ho : DE X E o mo) (he : DE X E e me) (hbase : attributeBase o "extend" X.env (eval o X.env) = eval o X.env := by rfl)
    (hfew : ((backTo pos (starEach [e] X.env)).all (fun x => !x.1) && (backToKw pos (keywordEach [] X.env)).all (fun x => x.1.isSome)
      && decide (([e] : List Expr).length + ([] : List Keyword).length + (if ([] : List Keyword).isEmpty then 0 else 1) < 30)) = true := by rfl)
    (hline : (apos.endLine == pos.line) = true := by rfl) (hs : starEach [e] X.env = (false, eval e X.env) :: starEach [] X.env := by rfl) (hplain : (backTo pos (starEach [] X.env)).any (·.1) = false := by rfl) :
    DE X E (.Call (.Attribute o "extend" apos) [e] [] pos) (mExtend mo me) := by
  refine ⟨pe_imp (pe_bm PySem.F.plainAttrs_list PySem.F.slot_list_extend PySem.F.type_list_extend mt_extend ho.pe (pa_cons he.pe pa_nil hs) hbase hfew hline hs hplain) fun σ H Q h => ?_⟩
  obtain ⟨B, O, A, ρ, out, S, hm, k⟩ := h
  refine run_bnd S hm k.exc fun ro ρ1 v H1 A1 F hk S1 rr1 st1 x1 => ?_
  cases ro with
  | ref n =>
    dsimp only at hk
    split at hk
    · rename_i l0 pr0 hx0
      obtain ⟨rfl, ha1⟩ := rr1
      rw [add_zer] at S1 st1 x1
      obtain ⟨a0, vs0, rfl, h0, _⟩ := S1.setL (l' := []) hx0 ha1
      refine ⟨.inl ⟨rfl, vs0, .of h0⟩, ?_⟩
      show ERun _ _ _ _ _ _ _
      refine run_bnd S1 hk x1 fun re ρ2 w H2 A2 F2 hk2 S2 rr2 st2 x2 => ?_
      split at hk2
      · rename_i l pr l2 hx e2
        split at hk2
        · rename_i sm
          cases hk2
          obtain ⟨b, zs, rfl, hb, dq⟩ := S2.items rr2 e2
          have hb : H2 b = some (.lst zs) := hb.elim id fun z => nomatch z.1
          have le : ∀ a, O a ≤ add O F2 a := fun a => le_add a
          have ha3 := st2.al _ _ ha1
          obtain ⟨a, vs, ea, hH, dl, go⟩ := (S2.weak le).setL (l' := l ++ l2) hx ha3
          cases ea
          obtain ⟨S4, st4⟩ := go (vs ++ zs) (DqAll_app dl (DqAll_same (hid_weak le) dq))
          refine ⟨a0, b, vs, zs, rfl, rfl, hH, hb, by rw [DqAll_len dl, DqAll_len dq]; exact big_line sm, ?_⟩
          exact fin_dat k.oks S4 (fun _ => Nat.le_refl _) ((st1.trans (st2.weak le) fun _ n => n).trans st4 fun _ n => n) .non
        · cases hk2
      · cases hk2
    · cases hk
  | dat d => cases hk
  | fn x => cases hk
  | own t => cases hk
end
end XM
end
section
namespace Tl
open PySem PySem.Spec PyProof.Rows L2
/-- (x, *rest) = a tuple of one or more: rest is a new list -/
def gStarT1 (K : PySem.W.Frag) (t : TGs) : TG := fun v σ H Q => ∃ (a : Addr) (x : V) (xs : List V), v = .ref a ∧ SqT K H a (x :: xs) ∧ xs.length ≤ 10000 ∧ ∀ p, H p = none → t [x, .ref p] σ (upd H p (.lst xs)) Q
section
variable {X : Cx} {pos : Pos}
theorem pg_starT1 {es : List Expr} {kk : Nat} {t : TGs} (quiet : X.calm = true) (hes : PGs X es t)
    (three : (assignEach es X.env).length = 2 := by rfl) (third : (assignEach es X.env).findIdx? (·.1) = some 1 := by rfl) : PG X (.Tuple es kk pos) (gStarT1 X.K t) := by
  constructor
  intro pins s σ H v u Q I r want
  obtain ⟨a, x, xs, ev, seq, small, want⟩ := want
  subst ev
  cases r
  obtain ⟨vals, rel, place, _⟩ := I.tuple seq
  have isl : s.heap.IsTuple a vals.toArray := place
  cases rel with
  | @cons _ vx _ ys rel0 rels =>
  have lens : xs.length = ys.length := rels.length
  have apart : a ≠ s.heap.objs.size := by
    obtain ⟨ob, ho, _⟩ := isl
    exact Nat.ne_of_lt (Heap.lt_size ho)
  rw [PyProof.Rows.assign_Tuple]
  refine wpAny_bind (wpAny_standAt ?_)
  unfold unpack
  rw [three, third]
  refine wpAny_bind (wpAny_holding ?_)
  unfold unpackItems notIterableAtAll
  refine wpAny_bind (wpAny_bind (wpAny_specialOf isl.typeIs PySem.F.slot_tuple_iter.lookup (wpAny_pure ?_)))
  simp only [Bool.false_eq_true, if_false]
  refine wpAny_bind (wpAny_holding (wpAny_pyIter_tuple isl ?_))
  have isl0 : (s.heap.push { cls := .type "tuple_iterator", data := .fields #[.ref a, .int 0 0] }).IsTuple a (vx :: ys).toArray := PyProof.Rows.IsTup.push isl _
  refine wpAny_bind (wpAny_holding (wpAny_draw_tuple apart 1 0 _ _ ⟨_, Heap.get?_push_size _ rfl, rfl, rfl⟩ isl0 (by simp) fun h1 it1 same1 => ?_))
  have isl1 : h1.IsTuple a (vx :: ys).toArray := PyProof.Rows.IsTup.extBut isl0 same1.extBut apart
  have hh : X.A.handled = none := I.ok.hd quiet
  obtain ⟨oi, hoi, _⟩ := id it1
  obtain ⟨ol, hol, _⟩ := id isl1
  have e1 : List.take 1 (List.drop 0 (vx :: ys).toArray.toList) = [vx] := rfl
  rw [e1, if_neg (show ¬ [vx].length < 1 from Nat.lt_irrefl 1)]
  refine wpAny_bind (wpAny_holding (PySem.W.kun_collect (s := { s with heap := h1 }) (T := "tuple_iterator") (.inr (.inr (.inr rfl))) (Walks.tuple (A := X.A.in1) hh s.heap.objs.size a apart (vx :: ys).toArray) (fun j u st => st.1.typeIs) (k := 1) (by simp) ⟨it1, isl1⟩ (Heap.lt_size hoi) (Heap.lt_size hol) (fun h2 tk keep2 => ?_) (by rw [sizeLine_eq]; simp; omega)))
  have e2 : (vx :: ys).toArray.toList.drop 1 = ys := rfl
  rw [e2]
  simp only [Nat.sub_self, Nat.not_lt_zero, if_false, Nat.sub_zero, List.take_length, List.drop_length, Nat.reduceSub]
  refine wpAny_bind (PySem.wpAny_newList ?_ ?_)
  · have old : ∀ b u, s.heap.get? b = some u → h2.get? b = some u := fun b u e =>
      keep2 b u (Nat.ne_of_lt (Heap.lt_size e)) (same1.extBut b u (Nat.ne_of_lt (Heap.lt_size e)) (Heap.get?_push_of_some _ e))
    have I2 : L2.Inv X pins σ H ⟨h2, s.gens, s.drawn, tk, s.os⟩ := I.kept (h' := h2) (t' := tk) old
    have hf : H h2.objs.size = none := I2.hok.fresh (Nat.le_refl _)
    have I3 : L2.Inv X pins σ (upd H h2.objs.size (.lst xs)) ⟨h2.push { cls := .type "list", data := .seq ys.toArray }, s.gens, s.drawn, tk, s.os⟩ :=
      I2.laid (t' := tk) (fun b u e => Heap.get?_push_of_some _ e) (Nat.le_refl _) ⟨by rw [sizeLine_eq]; omega, ys, 0, rels, Heap.get?_push_size _ rfl⟩
    exact wpAny_pure (hes.run pins _ σ _ [x, .ref h2.objs.size] _ Q I3 (.cons rel0 (.cons rfl .nil)) (want _ hf))
  · rw [sizeLine_eq]; omega
end
end Tl
end
section
namespace Tl
open PySem PySem.Spec PyProof.Rows L2
/-- (x, *rest) = a list of one or more: rest is a new list -/
def gStarOne (K : PySem.W.Frag) (t : TGs) : TG := fun v σ H Q => ∃ (a : Addr) (x : V) (xs : List V), v = .ref a ∧ SqL K H a (x :: xs) ∧ xs.length ≤ 10000 ∧ ∀ p, H p = none → t [x, .ref p] σ (upd H p (.lst xs)) Q
section
variable {X : Cx} {pos : Pos}
theorem pg_starOne {es : List Expr} {kk : Nat} {t : TGs} (quiet : X.calm = true) (hes : PGs X es t)
    (two : (assignEach es X.env).length = 2 := by rfl) (second : (assignEach es X.env).findIdx? (·.1) = some 1 := by rfl) : PG X (.Tuple es kk pos) (gStarOne X.K t) := by
  constructor
  intro pins s σ H v u Q I r want
  obtain ⟨a, x, xs, ev, seq, small, want⟩ := want
  subst ev
  cases r
  obtain ⟨vals, rel, place, _⟩ := I.list seq
  have isl : s.heap.IsList a vals.toArray := by
    obtain ⟨ob, m, e1, e2, e3, e4⟩ := place
    exact ⟨ob, e1, e2, m, e4⟩
  cases rel with
  | @cons _ y _ ys rel0 rels =>
  have lens : xs.length = ys.length := rels.length
  have apart : a ≠ s.heap.objs.size := by
    obtain ⟨ob, ho, _⟩ := isl
    exact Nat.ne_of_lt (Heap.lt_size ho)
  rw [PyProof.Rows.assign_Tuple]
  refine wpAny_bind (wpAny_standAt ?_)
  unfold unpack
  rw [two, second]
  refine wpAny_bind (wpAny_holding ?_)
  unfold unpackItems notIterableAtAll
  refine wpAny_bind (wpAny_bind (wpAny_specialOf isl.typeIs slot_list_iter.lookup (wpAny_pure ?_)))
  simp only [Bool.false_eq_true, if_false]
  refine wpAny_bind (wpAny_holding (wpAny_pyIter_list isl ?_))
  have isl0 := isl.push { cls := .type "list_iterator", data := .fields #[.ref a, .int 0 0] }
  refine wpAny_bind (wpAny_holding (PySem.W.kun_draw apart 1 0 _ _ ⟨_, Heap.get?_push_size _ rfl, rfl, rfl⟩ isl0 (by simp) fun h1 it1 same1 => ?_))
  have isl1 : h1.IsList a (y :: ys).toArray := isl0.extBut same1.extBut apart
  have hh : X.A.handled = none := I.ok.hd quiet
  obtain ⟨oi, hoi, _⟩ := id it1
  obtain ⟨ol, hol, _⟩ := id isl1
  have e1 : List.take 1 (List.drop 0 (y :: ys).toArray.toList) = [y] := rfl
  rw [e1, if_neg (show ¬ [y].length < 1 from Nat.lt_irrefl 1)]
  refine wpAny_bind (wpAny_holding (PySem.W.kun_collect (s := { s with heap := h1 }) (T := "list_iterator") (.inr (.inr (.inl rfl))) (Walks.list (A := X.A.in1) hh s.heap.objs.size a apart (y :: ys).toArray) (fun j u st => st.1.typeIs) (k := 1) (by simp) ⟨it1, isl1⟩ (Heap.lt_size hoi) (Heap.lt_size hol) (fun h2 tk keep2 => ?_) (by rw [sizeLine_eq]; simp; omega)))
  have e2 : (y :: ys).toArray.toList.drop 1 = ys := rfl
  rw [e2]
  simp only [Nat.sub_self, Nat.not_lt_zero, if_false, Nat.sub_zero, List.take_length, List.drop_length, Nat.reduceSub]
  refine wpAny_bind (PySem.wpAny_newList ?_ ?_)
  · have old : ∀ b u, s.heap.get? b = some u → h2.get? b = some u := fun b u e =>
      keep2 b u (Nat.ne_of_lt (Heap.lt_size e)) (same1.extBut b u (Nat.ne_of_lt (Heap.lt_size e)) (Heap.get?_push_of_some _ e))
    have I2 : L2.Inv X pins σ H ⟨h2, s.gens, s.drawn, tk, s.os⟩ := I.kept (h' := h2) (t' := tk) old
    have hf : H h2.objs.size = none := I2.hok.fresh (Nat.le_refl _)
    have I3 : L2.Inv X pins σ (upd H h2.objs.size (.lst xs)) ⟨h2.push { cls := .type "list", data := .seq ys.toArray }, s.gens, s.drawn, tk, s.os⟩ :=
      I2.laid (t' := tk) (fun b u e => Heap.get?_push_of_some _ e) (Nat.le_refl _) ⟨by rw [sizeLine_eq]; omega, ys, 0, rels, Heap.get?_push_size _ rfl⟩
    exact wpAny_pure (hes.run pins _ σ _ [x, .ref h2.objs.size] _ Q I3 (.cons rel0 (.cons rfl .nil)) (want _ hf))
  · rw [sizeLine_eq]; omega
end
end Tl
end
section
namespace Tl
open PySem PySem.Spec PyProof.Rows L2
section
variable {X : Cx} {pos : Pos}
/-- a starred target among several -/
theorem pgs_star {e : Expr} {p : Pos} {es : List Expr} {t : TG} {u : TGs} (h1 : PG X e t) (h2 : PGs X es u)
    (hs : (assignEach (.Starred e p :: es) X.env).map (·.2) = assign e X.env :: (assignEach es X.env).map (·.2) := by rfl) : PGs X (.Starred e p :: es) (gCons t u) := by
  constructor
  intro pins s σ H vs us Q I r h
  obtain ⟨v, vr, rfl, h⟩ := h
  cases r with
  | cons r rr =>
    rw [hs]
    exact assignInOrder_cons (thn (h1.run pins s σ H _ _ _ I r h) fun _ s1 ⟨σ1, H1, I1, q1⟩ => h2.run pins s1 σ1 H1 _ _ Q I1 rr q1)
/-- x not in (a tuple), by depth -/
def rNotInT (K : PySem.W.Frag) : R2 := fun x y H Q => ∃ d ds, Dp K H x d ∧ Dp K H y (.tuple ds) ∧ SeqAt.shaped d = true ∧ SeqAt.shaped (.tuple ds) = true ∧ Q (.bl (!ds.any fun z => PyData.eqv z d)) H
theorem op_notInT (hu : X.A.units + 65 < cLine) : OpR X (compareOp .NotIn) (rNotInT X.K) := by
  intro pins s σ H x y v u Q I rx ry h
  obtain ⟨d, ds, hd, he, sd, se, q⟩ := h
  obtain ⟨as, r1⟩ := Dp.reads I d x v hd rx
  obtain ⟨bs, r2⟩ := Dp.reads I (.tuple ds) y u he ry
  exact SeqAt.notIn_tuple_reads r2 r1 (SeqAt.canLay_of_shaped se) (SeqAt.canLay_of_shaped sd) (room_in_shaped sd hu) ⟨.bl _, H, I, rfl, q⟩
/-- D.get(k, x), D a dict of the module with text keys -/
def tKGet2 (d : Addr) (es : Array DictEntry) (td ty tx : TE) : TE := fun σ H Q => td σ H fun x H1 => x = .ref d ∧ ty σ H1 fun y H2 => tx σ H2 fun z H3 => ∃ k : Str, y = .str k ∧
  (∀ u0, findBy Value.isStrOf es k = some u0 → ∃ v0, RelV v0 u0 ∧ Q v0 H3) ∧ (findBy Value.isStrOf es k = none → Q z H3)
theorem pe_kget2 {o e f : Expr} {td ty tx : TE} {d : Addr} {es : Array DictEntry} {n : Nat} {apos cpos : Pos} (D : KDict X.K X.w d es n) (ho : PE X o td) (he : PE X e ty) (hf : PE X f tx) (m : M2 X o "get" apos e f cpos) :
    PE X (.Call (.Attribute o "get" apos) [e, f] [] cpos) (tKGet2 d es td ty tx) := by
  constructor
  intro pins s σ H Q I h
  refine wpAny_Call_method m.base m.few m.line PySem.F.plainAttrs_dict PySem.F.slot_dict_get PySem.F.type_dict_get (thn (ho.run pins s σ H _ I h) fun u s1 hh => ?_)
  obtain ⟨x, H1, I1, rx, ex, q1⟩ := hh
  subst ex
  obtain rfl : u = Value.ref d := rx
  have map1 := PySem.W.mapOf_K (prog := X.prog) (w := X.w) I1.kIn D.at_ D.lit
  refine ⟨map1.typeIs, fun b q => ?_, ?_⟩
  · cases q; exact ⟨_, I1.kIn _ _ D.at_, rfl⟩
  rw [m.trees]
  refine Calls.callWith_builtin rfl (Calls.evalArgs_plain (Calls.spliced_cons (thn (he.run pins s1 σ H1 _ I1 q1) fun iv s2 hh2 => ?_)))
  obtain ⟨y, H2, I2, ry, q2⟩ := hh2
  refine Calls.spliced_cons (thn (hf.run pins s2 σ H2 _ I2 q2) fun fv s3 hh3 => Calls.spliced_nil ?_)
  obtain ⟨z, H3, I3, rz, k, rfl, there, miss⟩ := hh3
  obtain ⟨t, rfl⟩ := ry
  have map3 := PySem.W.mapOf_K (prog := X.prog) (w := X.w) I3.kIn D.at_ D.lit
  refine call_meetsIn PySem.F.slot_dict_get map3.typeIs PySem.F.entry_dict_get (PySem.F.args_dict_get_3 _ _ _) (meets_dict_get_default (strKind X.prog X.w) d (strKind_is X.prog X.w k t) D.low fv) ⟨_, map3, ?_⟩
  cases e0 : findBy Value.isStrOf es k with
  | some u0 =>
    obtain ⟨v0, r0, q⟩ := there u0 e0
    exact ⟨v0, H3, I3.tok _, r0, q⟩
  | none => exact ⟨z, H3, I3.tok _, rz, miss e0⟩
/-- xs[-1], for xs[-1] op= e -/
def rGetLast (K : PySem.W.Frag) : V → V → Hp → VK → Prop := fun o i H Q => ∃ p xs x, o = .ref p ∧ i = .int (-1) ∧ SqL K H p (xs ++ [x]) ∧ Q x H
theorem get_last : PGet X (rGetLast X.K) := by
  intro pins s σ H o i ov iv Q I ro ri h
  obtain ⟨p, xs, x, rfl, rfl, sq, q⟩ := h
  cases ro
  obtain ⟨t, rfl⟩ := ri
  obtain ⟨its, rv, pl, hz⟩ := I.list sq
  have len := rv.length
  rw [List.length_append, List.length_singleton] at len
  obtain ⟨u, gu, ru⟩ := rv.get (i := xs.length) (x := x) (by simp)
  have e : ((-1 : Int) + (its.toArray.size : Int)).toNat = xs.length := by rw [List.size_toArray]; omega
  exact wpAny_getItem_list_neg pl.isList (by decide) (by rw [List.size_toArray]; omega) (by decide) (by rw [e]; simpa using gu) ⟨x, H, I, ru, q⟩
theorem ip_of {op : Operator} {r : R2} (h : OpR X (inplaceOp op) r) : PIp X op r := fun pins s σ H x y v u Q I rx ry q => h pins s σ H x y v u Q I rx ry q
theorem ixN_last (n : Nat) : ixN (n + 1) (-1) = some n := by
  unfold ixN
  rw [if_neg (by decide), if_pos (by omega)]
  congr 1
  omega
end
end Tl
end
section
namespace XM
open PySem PySem.Spec PyProof.Rows L2 Tl
section
variable {X : Cx} {E : XK} {e a b c o : Expr} {es : List Expr} {pos p : Pos} {B : Bs} {O O' : Ft} {A A' A1 : Al} {ρ ρ1 : Fr} {σ : L2.St} {H H' H1 : Hp}
/-! ### an item of a sequence or a text -/
def mIx (ma mb : M R) : M R := bnd ma fun ra => bnd mb fun rb ρ => match its false ra ρ, vw rb ρ with
  | some l, some (.int i) => match atI l i with
    | some d => some (.ok (.dat d) ρ)
    | none => none
  | none, some (.int i) => match vw ra ρ with
    | some (.str z) => if z.length ≤ 1000000 then match atI z.cps.toList i with
        | some c => some (.ok (.dat (.str ⟨#[c]⟩)) ρ)
        | none => none
      else none
    | _ => none
  | _, _ => none
theorem de_ixA {ma mb : M R} (ha : DE X E a ma) (hb : DE X E b mb) (hs : PlainIx b) : DE X E (.Subscript a b pos) (mIx ma mb) := by
  refine ⟨pe_imp (pe_ix ix_seq ha.pe hb.pe hs) fun σ H Q h => ?_⟩
  obtain ⟨B, O, A, ρ, out, S, hm, k⟩ := h
  refine run_bnd S hm k.exc fun ra ρ1 v H1 A1 F hk S1 rr1 st1 x1 => ?_
  refine run_bnd S1 hk x1 fun rb ρ2 w H2 A2 F2 hk2 S2 rr2 st2 x2 => ?_
  have rr1' := rr1.step st2 (fun a n => add_r n)
  have le : ∀ a, O a ≤ add (add O F) F2 a := fun a => by unfold add; omega
  have st := st1.trans st2 fun a n => add_l n
  split at hk2
  · rename_i l i e1 e2
    split at hk2
    · rename_i d e4
      cases hk2
      obtain ⟨p, vs, rfl, hp, dq⟩ := S2.items rr1' e1
      have hw := S2.view rr2 e2
      cases hw
      obtain ⟨u, h1, h2⟩ := DqAll_atI dq e4
      have fin : Q u H2 := fin_dat k.oks S2 le st (Dq_same (hid_weak le) h2)
      rcases hp with hp | ⟨_, hp | hp⟩
      · exact .inl ⟨p, vs, i, u, rfl, rfl, .of hp, h1, fin⟩
      · exact .inl ⟨p, vs, i, u, rfl, rfl, hp, h1, fin⟩
      · exact .inr (.inl ⟨p, vs, i, u, rfl, rfl, Tl.Same.tup hid_sub hp, h1, fin⟩)
    · cases hk2
  · rename_i i e1 e2
    split at hk2
    · rename_i z e3
      split at hk2
      · rename_i sm
        split at hk2
        · rename_i c e4
          cases hk2
          have hw := S2.view rr2 e2
          have hz := S2.view rr1' e3
          cases hw
          cases hz
          exact .inr (.inr ⟨z, i, c, rfl, rfl, big_line sm, e4, fin_dat k.oks S2 le st (.str _)⟩)
        · cases hk2
      · cases hk2
    · cases hk2
  · cases hk2
/-! ### list.index -/
def idxF (d : D) : List D → Option Nat
  | [] => none
  | z :: r => if eqF z d = true then some 0 else (idxF d r).map (· + 1)
theorem idxF_ok {d : D} : ∀ {l : List D} {j : Nat}, idxF d l = some j → ∃ z, l[j]? = some z ∧ eqF z d = true ∧ ∀ m z', m < j → l[m]? = some z' → eqF z' d = false
  | [], _, h => by cases h
  | z :: r, j, h => by
    unfold idxF at h
    by_cases q : eqF z d = true
    · rw [if_pos q] at h; cases h; exact ⟨z, rfl, q, fun m _ hm => absurd hm (Nat.not_lt_zero _)⟩
    · rw [if_neg q] at h
      cases e : idxF d r with
      | none => rw [e] at h; cases h
      | some i =>
        rw [e] at h
        cases h
        obtain ⟨z', h1, h2, h3⟩ := idxF_ok e
        refine ⟨z', h1, h2, fun m y hm hy => ?_⟩
        cases m with
        | zero => cases hy; exact Bool.eq_false_iff.mpr q
        | succ m => exact h3 m y (Nat.lt_of_succ_lt_succ hm) hy
def mIndex (mo me : M R) : M R := bnd mo fun ro ρ0 => match itsL ro ρ0 with
  | some _ => (bnd me fun re ρ => match itsL ro ρ, vw re ρ with
    | some l, some d => if flatS d = true ∧ l.all flatS = true then match idxF d l with
        | some j => some (.ok (.dat (.int (j : Nat))) ρ)
        | none => none
      else none
    | _, _ => none) ρ0
  | none => none
theorem de_index {apos : Pos} {mo me : M R} (ho : DE X E o mo) (he : DE X E e me) (hbase : attributeBase o "index" X.env (eval o X.env) = eval o X.env := by rfl)
    (hfew : ((backTo pos (starEach [e] X.env)).all (fun x => !x.1) && (backToKw pos (keywordEach [] X.env)).all (fun x => x.1.isSome)
      && decide (([e] : List Expr).length + ([] : List Keyword).length + (if ([] : List Keyword).isEmpty then 0 else 1) < 30)) = true := by rfl)
    (hline : (apos.endLine == pos.line) = true := by rfl) (hs : starEach [e] X.env = (false, eval e X.env) :: starEach [] X.env := by rfl) (hplain : (backTo pos (starEach [] X.env)).any (·.1) = false := by rfl) :
    DE X E (.Call (.Attribute o "index" apos) [e] [] pos) (mIndex mo me) := by
  refine ⟨pe_imp (pe_bm PySem.F.plainAttrs_list PySem.F.slot_list_index PySem.F.type_list_index mt_index ho.pe (pa_cons he.pe pa_nil hs) hbase hfew hline hs hplain) fun σ H Q h => ?_⟩
  obtain ⟨B, O, A, ρ, out, S, hm, k⟩ := h
  refine run_bnd S hm k.exc fun ro ρ1 v H1 A1 F hk S1 rr1 st1 x1 => ?_
  split at hk
  · rename_i l0 e0
    obtain ⟨q0, vs0, rfl, sq0, _⟩ := S1.itsL rr1 e0
    refine ⟨.inl ⟨rfl, vs0, sq0⟩, ?_⟩
    show ERun _ _ _ _ _ _ _
    refine run_bnd S1 hk x1 fun re ρ2 w H2 A2 F2 hk2 S2 rr2 st2 x2 => ?_
    have rr1' := rr1.step st2 (fun a n => add_r n)
    split at hk2
    · rename_i l d e1 e2
      split at hk2
      · rename_i cf
        split at hk2
        · rename_i j ej
          cases hk2
          obtain ⟨q, vs, eq, sq, dq⟩ := S2.itsL rr1' e1
          cases eq
          have hw := S2.view rr2 e2
          have dqH := DqAll_same (show Same _ H2 from hid_sub) dq
          obtain ⟨z, h1, h2, h3⟩ := idxF_ok ej
          obtain ⟨y, g1, g2⟩ := DqAll_at dqH h1
          have fz : ∀ z ∈ l, flatS z = true := fun z hz => List.all_eq_true.mp cf.2 z hz
          refine ⟨q0, vs, w, j, y, rfl, rfl, sq, flat_ok hw cf.1, flats_ok dqH cf.2, g1, by rw [eqF_ok g2 hw (fz _ (List.mem_of_getElem? h1)) cf.1]; exact h2, fun m y' hm hy' => ?_, fin_dat k.oks S2 (fun a => by unfold add; omega) (st1.trans st2 fun a n => add_l n) (.int _)⟩
          have lt : m < l.length := by rw [← DqAll_len dqH]; exact (List.getElem?_eq_some_iff.mp hy').1
          obtain ⟨y2, g3, g4⟩ := DqAll_at dqH (List.getElem?_eq_getElem lt)
          rw [hy'] at g3
          cases g3
          rw [eqF_ok g4 hw (fz _ (List.getElem_mem lt)) cf.1]
          exact h3 m _ hm (List.getElem?_eq_getElem lt)
        · cases hk2
      · cases hk2
    · cases hk2
  · cases hk
/-! ### max of a list of ints -/
def maxL : List Int → Int
  | [] => 0
  | [n] => n
  | n :: r => if maxL r ≤ n then n else maxL r
theorem maxL_ok : ∀ {ns : List Int}, ns ≠ [] → maxL ns ∈ ns ∧ ∀ y ∈ ns, y ≤ maxL ns
  | [], h => absurd rfl h
  | [n], _ => ⟨by simp [maxL], by simp [maxL]⟩
  | n :: m :: r, _ => by
    obtain ⟨h1, h2⟩ := maxL_ok (ns := m :: r) (by simp)
    have e : maxL (n :: m :: r) = if maxL (m :: r) ≤ n then n else maxL (m :: r) := rfl
    rw [e]
    by_cases q : maxL (m :: r) ≤ n
    · rw [if_pos q]
      refine ⟨by simp, fun y hy => ?_⟩
      rcases List.mem_cons.mp hy with rfl | hy
      · exact Int.le_refl _
      · exact Int.le_trans (h2 y hy) q
    · rw [if_neg q]
      refine ⟨List.mem_cons_of_mem _ h1, fun y hy => ?_⟩
      rcases List.mem_cons.mp hy with rfl | hy
      · omega
      · exact h2 y hy
def fMax : List R → M R := fun rs ρ => match rs with
  | [r] => match itsL r ρ with
    | some l => match intsOf l with
      | some (n :: ns) => some (.ok (.dat (.int (maxL (n :: ns)))) ρ)
      | _ => none
    | none => none
  | _ => none
theorem leaf_max {K : PySem.W.Frag} {mg : Str → Option Value} : Leaf K mg (rMax K) fMax := fun B O A ρ σ H E F rs vs out Q A0 H0 S rr hf st k => by
  unfold fMax at hf
  split at hf
  · rename_i r1
    cases rr with
    | cons h1 h2 =>
    cases h2
    rw [add_zer] at S h1 st
    split at hf
    · rename_i l e1
      split at hf
      · rename_i n ns e2
        cases hf
        obtain ⟨a, ws, rfl, sq, dq⟩ := S.itsL h1 e1
        have := intsOf_ok dq e2
        subst this
        have mx := maxL_ok (ns := n :: ns) (by simp)
        refine ⟨a, n :: ns, rfl, sq, by simp, fun m hm hy => ?_⟩
        have : m = maxL (n :: ns) := by
          have h1 := hy _ mx.1
          have h2 := mx.2 m hm
          omega
        rw [this]
        exact fin_dat k.oks S (fun a => le_add a) st (.int _)
      · cases hf
    · cases hf
  · cases hf
/-! ### a list's item is set -/
def mSetIx (m mo mi : M R) : SM := sBnd m fun r => sBnd (toD r) fun d => sBnd mo fun ro ρ0 => match ro with
  | .ref n => sBnd mi (fun ri ρ => match vw ri ρ with
    | some (.int i) => match ρ.rt[n]? with
      | some ⟨.dl l, pr⟩ => match ixN l.length i with
        | some j => some (.nx (tidy { ρ with rt := ρ.rt.set n ⟨.dl (l.set j d), pr⟩ }))
        | none => none
      | _ => none
    | _ => none) ρ0
  | _ => none
theorem sBnd_D {K : PySem.W.Frag} {mg : Str → Option Value} {F : Ft} {r : R} {v : V} {k : D → Fr → Option SO} {out : SO} (S : StC K mg B (add O F) A ρ σ H) (h : RR K ⟨mg, B.η⟩ (al A) (hid (tot (add O F) A) H) H v F r) (e : sBnd (toD r) k ρ = some out) :
    ∃ d ρ' A', k d ρ' = some out ∧ StC K mg B O A' ρ' σ H ∧ Dq K (hid (tot O A') H) v d ∧ Stp (add O F) A H O A' H := by
  unfold sBnd at e
  split at e
  · cases e
  · rename_i c ρ1 e1
    obtain ⟨_, _, _, z, _⟩ := give S h e1
    cases z
  · rename_i d ρ1 e1
    obtain ⟨_, _, A', z, r⟩ := give S h e1
    cases z
    exact ⟨d, ρ1, A', e, r⟩
theorem ds_setIx {apos : Pos} {m mo mi : M R} (he : DE X E e m) (ho : DE X E a mo) (hi : DE X E b mi)
    (ha : ∀ v, assign (.Subscript a b apos) X.env v = (do
      let ov ← holding [v] (eval a X.env)
      let iv ← holding [v, ov] (eval b X.env)
      standAt apos
      holding [v, ov, iv] (setItem ov iv v)
      release [v, ov, iv] []) := by intro _; rfl)
    (hs : swapsWithSole [.Subscript a b apos] e pos.line X.env = pure false := by rfl) (hw : swappedStores [.Subscript a b apos] e X.env = pure none := by rfl)
    (h1 : (assignEach [.Subscript a b apos] X.env).map (·.2) = [assign (.Subscript a b apos) X.env] := by rfl) : DS X E (.Assign [.Subscript a b apos] e pos) (mSetIx m mo mi) := by
  refine ⟨ps_imp (ps_asg he.pe (pg_sub ho.pe hi.pe set_list ha) hs hw h1) fun D σ H h => ?_⟩
  obtain ⟨B, O, A, ρ, out, S, hm, kk⟩ := h
  refine run_st S kk hm fun r ρ1 v H1 A1 F hk S1 rr st1 => ?_
  obtain ⟨d, ρ2, A2, hk2, S2, dq, st2⟩ := sBnd_D S1 rr hk
  have st12 : Stp O A H O A2 H1 := st1.trans st2 fun a n => add_l n
  have kk2 : AftS X.K X.mg B O A2 H1 E D out := kk.later st12.toSto
  refine run_st S2 kk2 hk2 fun ro ρ3 w H3 A3 F3 hk3 S3 rr3 st3 => ?_
  have le3 : ∀ a, O a ≤ add O F3 a := fun a => le_add a
  cases ro with
  | ref n =>
    obtain ⟨rfl, ha3⟩ := rr3
    rw [add_zer] at S3 st3
    have kk3 : AftS X.K X.mg B O A3 H3 E D out := kk2.later st3.toSto
    refine run_st S3 kk3 hk3 fun ri ρ4 y H4 A4 F4 hk4 S4 rr4 st4 => ?_
    split at hk4
    · rename_i i ei
      split at hk4
      · rename_i l pr hx
        split at hk4
        · rename_i j ej
          cases hk4
          have hy := S4.view rr4 ei
          cases hy
          have le4 : ∀ a, O a ≤ add O F4 a := fun a => le_add a
          obtain ⟨q, vs, eq, hH, dl, go⟩ := (S4.weak le4).setL (l' := l.set j d) hx (st4.al _ _ ha3)
          subst eq
          have dq4 := DqAll_same (K := X.K) (hid_weak (A := A4) (H := H4) le4) (.cons (Dq_same (st3.sh.trans st4.sh) dq) .nil)
          cases dq4 with
          | cons dq4 _ =>
          obtain ⟨S5, st5⟩ := go (vs.set j v) (DqAll_set dq4 j dl)
          obtain ⟨A6, S6, s6⟩ := S5.tidy
          have stf := (st3.trans (st4.weak le4) fun _ n => n).trans st5 fun _ n => n
          exact ⟨q, vs, i, j, rfl, rfl, hH, by rw [DqAll_len dl]; exact ej, kk2 _ _ A6 S6 ⟨stf.out, stf.sh.trans s6⟩⟩
        · cases hk4
      · cases hk4
    · cases hk4
  | dat d' => cases hk3
  | fn x => cases hk3
  | own t => cases hk3
/-! ### x, *rest = a list or a tuple -/
def mUnp1 (i j : Nat) (m : M R) : SM := sBnd m fun r ρ => match its false r ρ with
  | some (d :: ds) => if ds.length ≤ 10000 then some (.nx (tidy (toSl j (.own (.dl ds)) { ρ with sl := ρ.sl.set i (.dat d) }))) else none
  | _ => none
def gStarA (K : PySem.W.Frag) (t : TGs) : TG := fun v σ H Q => gStarOne K t v σ H Q ∨ gStarT1 K t v σ H Q
theorem pg_or {tg : Expr} {t t' : TG} (h : PG X tg t) (h' : PG X tg t') : PG X tg (fun v σ H Q => t v σ H Q ∨ t' v σ H Q) := ⟨fun pins s σ H v u Q I r q => q.elim (h.run pins s σ H v u Q I r) (h'.run pins s σ H v u Q I r)⟩
theorem ds_unp1 {i j : Nat} {x y : Str} {m : M R} {px py pt ps : Pos} {kk : Nat} (hc : X.calm = true) (hN : X.N.Nodup) (hi : X.N[i]? = some x) (hx : Loc X.env.scope x) (hj : X.N[j]? = some y) (hy : Loc X.env.scope y) (he : DE X E e m)
    (fx : X.fn x = true ∨ X.env.scope.names.lookup x = some .local := by first | exact .inl rfl | exact .inr rfl | assumption) (fy : X.fn y = true ∨ X.env.scope.names.lookup y = some .local := by first | exact .inl rfl | exact .inr rfl | assumption)
    (hs : swapsWithSole [.Tuple [.Name x px, .Starred (.Name y py) ps] kk pt] e pos.line X.env = pure false := by rfl) (hw : swappedStores [.Tuple [.Name x px, .Starred (.Name y py) ps] kk pt] e X.env = pure none := by rfl)
    (h1 : (assignEach [.Tuple [.Name x px, .Starred (.Name y py) ps] kk pt] X.env).map (·.2) = [assign (.Tuple [.Name x px, .Starred (.Name y py) ps] kk pt) X.env] := by rfl)
    (two : (assignEach [.Name x px, .Starred (.Name y py) ps] X.env).length = 2 := by rfl) (second : (assignEach [.Name x px, .Starred (.Name y py) ps] X.env).findIdx? (·.1) = some 1 := by rfl)
    (h2 : (assignEach [.Name x px, .Starred (.Name y py) ps] X.env).map (·.2) = assign (.Name x px) X.env :: (assignEach [.Starred (.Name y py) ps] X.env).map (·.2) := by rfl) (h3 : (assignEach [.Starred (.Name y py) ps] X.env).map (·.2) = assign (.Name y py) X.env :: (assignEach [] X.env).map (·.2) := by rfl) :
    DS X E (.Assign [.Tuple [.Name x px, .Starred (.Name y py) ps] kk pt] e pos) (mUnp1 i j m) := by
  have gs := pgs_cons (pg_name (pos := px) hN hi hx fx) (pgs_star (pg_name (pos := py) hN hj hy fy) pgs_nil h3) h2
  refine ⟨ps_imp (ps_asg he.pe (pg_or (pg_starOne hc gs two second) (pg_starT1 hc gs two second)) hs hw h1) fun D σ H h => ?_⟩
  obtain ⟨B, O, A, ρ, out, S, hm, kk⟩ := h
  refine run_st S kk hm fun r ρ1 v H1 A1 F hk S1 rr st1 => ?_
  split at hk
  · rename_i d ds e1
    split at hk
    · rename_i sm
      cases hk
      obtain ⟨q, vs, rfl, hq, dq⟩ := S1.items rr e1
      cases dq with
      | cons dx dr =>
      rename_i w ws
      have le : ∀ a, O a ≤ add O F a := fun a => le_add a
      have wk := hid_weak (A := A1) (H := H1) le
      have main : ∀ p, H1 p = none → gCons (gName i) (gCons (gName j) gNil) [w, .ref p] σ (upd H1 p (.lst ws)) D.nx := fun p np => by
        obtain ⟨S2, st2⟩ := (S1.weak le).newO (o := .lst ws) np
        refine ⟨w, [.ref p], rfl, .ref p, [], rfl, rfl, ?_⟩
        have S3 := S2.setSl (i := i) (s := .dat d) (v := w) ⟨w, rfl, Dq_same (wk.trans st2.sh) dx⟩
        have rr3 : RR X.K ⟨X.mg, B.η⟩ (al A1) (hid (tot (add O (one p)) A1) (upd H1 p (.lst ws))) (upd H1 p (.lst ws)) (.ref p) (one p) (.own (.dl ds)) := .dl upd_same (DqAll_same (wk.trans st2.sh) dr)
        obtain ⟨A4, S4, e4⟩ := S3.toSl rr3 j
        obtain ⟨A5, S5, s5⟩ := S4.tidy
        exact kk _ _ A5 S5 ⟨fun a n => by rw [st2.out a n]; exact st1.out a n, ((st1.weak le).sh.trans st2.sh).trans (by rw [← e4]; exact s5)⟩
      have small : ws.length ≤ 10000 := by rw [DqAll_len dr]; exact sm
      rcases hq with hq | ⟨_, hq | hq⟩
      · exact .inl ⟨q, w, ws, rfl, .of hq, small, main⟩
      · exact .inl ⟨q, w, ws, rfl, hq, small, main⟩
      · exact .inr ⟨q, w, ws, rfl, Tl.Same.tup hid_sub hq, small, main⟩
    · cases hk
  · cases hk
/-! ### a def by a dict's entry; a call of what a name holds -/
/-- the entries of a dict of the module: names of defs -/
def FD (K : PySem.W.Frag) (w : World) (mg : Str → Option Value) (x : Str) (tb : List (Str × Str)) : Prop := ∃ p, (∃ u, mg x = some u ∧ RelV (.ref p) u) ∧ ∀ k n, tb.lookup k = some n → ∃ f, mg n = some (.ref f) ∧ KDct K w p k (.ref f)
def mFD (tb : List (Str × Str)) (m : M R) : M R := bnd m fun r ρ => match vw r ρ with
  | some (.str k) => match tb.lookup k with
    | some n => some (.ok (.fn n) ρ)
    | none => none
  | _ => none
theorem de_fd {x : Str} {px : Pos} {tb : List (Str × Str)} {m : M R} (fd : FD X.K X.w X.mg x tb) (hg : Gl X x) (hb : DE X E b m) (hs : PlainIx b) (hd : (x == ("__debug__" : Str)) = false := by decide) : DE X E (.Subscript (.Name x px) b pos) (mFD tb m) := by
  obtain ⟨p, ⟨u, hm, ru⟩, ent⟩ := fd
  refine ⟨pe_imp (pe_ix ix_kdict (pe_glob hg hm ru hd) hb.pe hs) fun σ H Q h => ?_⟩
  obtain ⟨B, O, A, ρ, out, S, hm, k⟩ := h
  show ERun _ _ _ _ _ _ _
  refine run_bnd S hm k.exc fun r ρ1 v H1 A1 F hk S1 rr1 st1 x1 => ?_
  split at hk
  · rename_i z e1
    split at hk
    · rename_i n e2
      cases hk
      have := S1.view rr1 e1
      cases this
      obtain ⟨f, hf, kd⟩ := ent z n e2
      have le : ∀ a, O a ≤ add O F a := fun a => le_add a
      refine ⟨p, z, .ref f, rfl, rfl, kd, ?_⟩
      exact k.oks _ H1 A1 zer (by rw [add_zer]; exact S1.weak le) ⟨rfl, f, rfl, hf⟩ (by rw [add_zer]; exact st1.weak le)
    · cases hk
  · cases hk
theorem canG {k : Nat} {x : Str} {sp : Sp} {ps : List Str} (c : PrG X.prog X.w X.K X.mg X.base CX0 k x ps sp) (quiet : Quiet X.A) (hr : Room k X.A) : ∃ f, X.mg x = some (.ref f) ∧ Can X f sp := by
  obtain ⟨f, fd, hm, kp, b, F⟩ := c.ex
  refine ⟨f, hm, kp, fun pins s σ H us vs Q I rv want => ?_⟩
  have want : sp (vs ++ []) H Q fun _ _ _ => False := by rw [List.append_nil]; exact want
  exact run_fnG F quiet hr b .nil (fun _ _ _ _ _ _ _ h => h.elim) I rv want
def tCallF (X : Cx) (i : Nat) (t : TA) : TE := fun σ H Q => ∃ f sp, σ[i]? = some (some (.ref f)) ∧ Can X f sp ∧ t σ H fun vs H1 => sp vs H1 Q (fun _ _ _ => False)
theorem pe_callF {i : Nat} {x : Str} {t : TA} (hv : PE X (.Name x p) (tVar i)) (ha : PA X (e :: es) t) (he : starEach (e :: es) X.env = (false, eval e X.env) :: starEach es X.env := by rfl) (hpl : (backTo pos (starEach es X.env)).any (·.1) = false := by rfl) :
    PE X (.Call (.Name x p) (e :: es) [] pos) (tCallF X i t) := by
  constructor
  intro pins s σ H Q I want
  obtain ⟨f, sp, eσ, can, want⟩ := want
  rw [arm_eval_Call_Name']
  refine wpAny_bind (wpAny_mono (hv.run pins s σ H (fun v H' => v = .ref f ∧ H' = H) I ⟨.ref f, eσ, rfl, rfl⟩) (fun u s1 q => ?_) (fun _ _ z => z))
  obtain ⟨v, H1, I1, rv, e1, e2⟩ := q
  subst e1 e2
  have eu : u = .ref f := rv
  subst eu
  refine PySem.W.callWith_K (h₀ := X.base) I1.ok.mod.kin can.1 (wpAny_mono (ha.run pos pins s1 σ H1 _ I1 want) (fun us s2 q => ?_) (fun _ _ z => z)) he hpl
  obtain ⟨vs, H2, I2, rs, w2⟩ := q
  exact ⟨I2.kIn, can.2 pins s2 σ H2 us vs Q I2 rs w2⟩
/-- what a slot holds is called: the runs of the defs by name -/
def mCallF (i : Nat) (tb : List (Str × FM)) (ms : List (M R)) : M R := fun ρ => match ρ.sl[i]? with
  | some (.fn n) => match tb.lookup n with
    | some m => mCall0 m ms ρ
    | none => none
  | _ => none
theorem de_callF {i j n : Nat} {x : Str} {tb : List (Str × FM)} {ms : List (M R)} (hN : X.N[i]? = some x) (hv : Vis X.env.scope x) (quiet : Quiet X.A) (hr : Room j X.A)
    (ht : ∀ f m, tb.lookup f = some m → ∃ k ps, k ≤ j ∧ ps.length = n ∧ PrG X.prog X.w X.K X.mg X.base CX0 k f ps (sp0 X.K X.mg n m)) (hn : ms.length = n) (ha : DA X E (e :: es) (mArgs ms))
    (hd : (x == ("__debug__" : Str)) = false := by decide) (hcd : (x == ("__classdict__" : Str)) = false := by decide) (he : starEach (e :: es) X.env = (false, eval e X.env) :: starEach es X.env := by rfl) (hpl : (backTo pos (starEach es X.env)).any (·.1) = false := by rfl) :
    DE X E (.Call (.Name x p) (e :: es) [] pos) (mCallF i tb ms) := by
  refine ⟨pe_imp (pe_callF (pe_var hN hv hd hcd) ha.pa he hpl) fun σ H Q h => ?_⟩
  obtain ⟨B, O, A, ρ, out, S, hm, k⟩ := h
  unfold mCallF at hm
  split at hm
  · rename_i f hs
    split at hm
    · rename_i m em
      obtain ⟨kk, ps, hk, hp, c⟩ := ht f m em
      obtain ⟨fa, hf, can⟩ := canG c quiet (hr.mono hk)
      obtain ⟨o, hσ⟩ := at_len S.slen hs
      obtain ⟨fb, eo, hb⟩ := S.sls i _ _ hs hσ
      rw [hf] at hb
      cases hb
      refine ⟨fa, _, by rw [hσ, eo], can, ?_⟩
      refine run_args S hm k.exc fun rs ρ1 vs H1 A1 F hk hl S1 rr1 st1 => ?_
      obtain ⟨r, ρ', rfl, e1⟩ := noEx_some hk
      exact call_ok S1 rr1 (hl.trans hn) e1 st1 (fun c ρ' z => nomatch z) fun r ρ' z => by cases z; exact k.oks
    · cases hm
  · cases hm
end
end XM
end
section
namespace XM
open PySem PySem.Spec PyProof.Rows L2 Tl
section
variable {X : Cx} {E : XK} {e a b c o : Expr} {es : List Expr} {pos p : Pos} {B : Bs} {O O' : Ft} {A A' A1 : Al} {ρ ρ1 : Fr} {σ : L2.St} {H H' H1 : Hp}
/-! ### repr -/
def reprOk (d : D) : Bool := match d with
  | .int i => decide (i.natAbs.log2 < 1920)
  | .list _ | .tuple _ => d.showable && !d.hasDict && decide (d.depth ≤ 60)
  | _ => false
def fRepr : D → Option D := fun d => if reprOk d = true then (if d.shown.length ≤ 1000000 then some (.str d.shown) else none) else none
theorem leaf_repr {K : PySem.W.Frag} {mg : Str → Option Value} : Leaf K mg (rRepr K) (f1 fRepr) := leaf1 fun H x d z Q hx e k => by
  unfold fRepr at e
  split at e
  · rename_i ok
    split at e
    · rename_i sz
      cases e
      have fin := k _ (.str d.shown)
      have big := big_line sz
      cases d with
      | int i =>
        exact ⟨x, _, rfl, Dq_p hx, by simpa [PyData.showable, reprOk] using ok, by simp [PyData.hasDict], big, by simp [PyData.depth], fun b z => (nomatch z), fun b z => (nomatch z), fun z => (nomatch z), fun j z => by cases z; exact of_decide_eq_true ok, fin⟩
      | list l =>
        simp only [reprOk, Bool.and_eq_true, decide_eq_true_eq, Bool.not_eq_true'] at ok
        exact ⟨x, _, rfl, Dq_p hx, ok.1.1, ok.1.2, big, ok.2, fun b z => (nomatch z), fun b z => (nomatch z), fun z => (nomatch z), fun j z => (nomatch z), fin⟩
      | tuple l =>
        simp only [reprOk, Bool.and_eq_true, decide_eq_true_eq, Bool.not_eq_true'] at ok
        exact ⟨x, _, rfl, Dq_p hx, ok.1.1, ok.1.2, big, ok.2, fun b z => (nomatch z), fun b z => (nomatch z), fun z => (nomatch z), fun j z => (nomatch z), fin⟩
      | none => cases ok
      | bool b => cases ok
      | str s => cases ok
      | dict kvs => cases hx
    · cases e
  · cases e
/-! ### {..}.get(k, x) -/
def mkTrs (X : Cx) (E : XK) : List Str → List (M R) → List (TE × TE)
  | k :: ks, m :: ms => (tC (.str k), ERun X.K X.mg m E) :: mkTrs X E ks ms
  | _, _ => []
structure DPs (X : Cx) (E : XK) (pos : Pos) (keys : List (Option Expr)) (values : List Expr) (ks : List Str) (ms : List (M R)) : Prop where
  pps : PPs X pos keys values (mkTrs X E ks ms)
  len : ks.length = ms.length
theorem dps_nil : DPs X E pos [] [] [] [] := ⟨pps_nil, rfl⟩
theorem dps_cons {k : Str} {j pk} {v : Expr} {ks : List (Option Expr)} {vs : List Expr} {kt : List Str} {m : M R} {ms : List (M R)} (hv : DE X E v m) (hr : DPs X E pos ks vs kt ms) : DPs X E pos (some (.Constant (.str k) j pk) :: ks) (v :: vs) (k :: kt) (m :: ms) :=
  ⟨pps_cons pe_str hv.pe hr.pps, by simp [hr.len]⟩
theorem run_pairs : ∀ {ks : List Str} {ms : List (M R)} {O : Ft} {A : Al} {ρ : Fr} {H : Hp} {γ : Type} {k : List R → M γ} {out : Out γ} {Q : List (V × V) → Hp → Prop}, ks.length = ms.length → StC X.K X.mg B O A ρ σ H → bnd (mArgs ms) k ρ = some out → Exc X.K X.mg B O A σ H E out →
    (∀ rs ρ1 vs H1 A1 F, k rs ρ1 = some out → rs.length = ms.length → StC X.K X.mg B (add O F) A1 ρ1 σ H1 → RRs X.K ⟨X.mg, B.η⟩ (al A1) (hid (tot (add O F) A1) H1) H1 vs F rs → Stp O A H (add O F) A1 H1 → Exc X.K X.mg B (add O F) A1 σ H1 E out → Q ((ks.map V.str).zip vs) H1) → tPairs (mkTrs X E ks ms) σ H Q
  | [], [], O, A, ρ, H, γ, k, out, Q, _, S, h, x, c => by
    rcases bnd_some h with ⟨c', ρ1, e, _⟩ | ⟨r, ρ1, e, hk⟩
    · cases e
    · cases e
      exact c [] ρ [] H A zer hk rfl (by rw [add_zer]; exact S) .nil (by rw [add_zer]; exact Stp.refl) (by rw [add_zer]; exact x)
  | q :: ks, m :: ms, O, A, ρ, H, γ, k, out, Q, l, S, h, x, c => by
    have h' : bnd m (fun r => bnd (mArgs ms) fun rs => k (r :: rs)) ρ = some out := by
      unfold mArgs at h
      rcases bnd_some h with ⟨c', ρ1, e, eo⟩ | ⟨r, ρ1, e, hk⟩
      · subst eo
        rcases bnd_some e with ⟨c2, ρ2, e2, eo⟩ | ⟨r2, ρ2, e2, hk2⟩
        · cases eo; unfold bnd; rw [e2]
        · rcases bnd_some hk2 with ⟨c3, ρ3, e3, eo⟩ | ⟨r3, ρ3, e3, hk3⟩
          · cases eo; unfold bnd; rw [e2]; dsimp only; rw [e3]
          · cases hk3
      · rcases bnd_some e with ⟨c2, ρ2, e2, eo⟩ | ⟨r2, ρ2, e2, hk2⟩
        · cases eo
        · rcases bnd_some hk2 with ⟨c3, ρ3, e3, eo⟩ | ⟨r3, ρ3, e3, hk3⟩
          · cases eo
          · cases hk3; unfold bnd; rw [e2]; dsimp only; rw [e3]; exact hk
    show ERun _ _ _ _ _ _ _
    refine run_bnd S h' x fun r ρ1 v H1 A1 F hk S1 rr1 st1 x1 => ?_
    refine run_pairs (by simpa using l) S1 hk x1 fun rs ρ2 vs H2 A2 F2 hk2 l2 S2 rr2 st2 x2 => ?_
    have st := st1.trans st2 fun a n => add_l n
    have rr1' := rr1.step st2 (fun a n => add_r n)
    rw [add_assoc] at S2 rr2 st rr1' x2
    exact c (r :: rs) ρ2 (v :: vs) H2 A2 (add F F2) hk2 (by simp [l2]) S2 (.cons rr1' rr2) st x2
  | [], _ :: _, _, _, _, _, _, _, _, _, l, _, _, _, _ => by simp at l
  | _ :: _, [], _, _, _, _, _, _, _, _, l, _, _, _, _ => by simp at l
def kvsOf : List Str → List V → List (Key × V)
  | k :: ks, v :: vs => (Sum.inr k, v) :: kvsOf ks vs
  | _, _ => []
theorem kvs_zip : ∀ (ks : List Str) (vs : List V), (ks.map V.str).zip vs = (kvsOf ks vs).map fun kv => (kV kv.1, kv.2)
  | [], _ => rfl
  | _ :: _, [] => rfl
  | k :: ks, v :: vs => by show (V.str k, v) :: (ks.map V.str).zip vs = (V.str k, v) :: (kvsOf ks vs).map _; rw [kvs_zip ks vs]
theorem put_new {acc : List (Key × V)} {k : Key} {v : V} (h : k ∉ acc.map (·.1)) : putK acc k v = acc ++ [(k, v)] := by
  unfold putK
  rw [if_neg]
  intro z
  obtain ⟨x, hx, e⟩ := List.any_eq_true.mp z
  exact h (List.mem_map.mpr ⟨x, hx, of_decide_eq_true e⟩)
theorem merge_new : ∀ (more acc : List (Key × V)), ((acc ++ more).map (·.1)).Nodup → mergeK acc more = acc ++ more
  | [], acc, _ => by unfold mergeK; simp
  | p :: r, acc, h => by
    have e : mergeK acc (p :: r) = mergeK (putK acc p.1 p.2) r := rfl
    have n : p.1 ∉ acc.map (·.1) := fun z => by
      rw [List.map_append, List.map_cons] at h
      exact (List.nodup_append.mp h).2.2 _ z _ (by simp) rfl
    rw [e, put_new n, merge_new r _ (by simpa using h)]
    simp
theorem kvs_keys : ∀ {ks : List Str} {vs : List V}, ks.length = vs.length → (kvsOf ks vs).map (·.1) = ks.map Sum.inr
  | [], [], _ => rfl
  | k :: ks, v :: vs, l => by show _ :: (kvsOf ks vs).map (·.1) = _ :: ks.map _; rw [kvs_keys (by simpa using l)]
  | [], _ :: _, l => by simp at l
  | _ :: _, [], l => by simp at l
theorem kvs_len : ∀ (ks : List Str) (vs : List V), (kvsOf ks vs).length ≤ ks.length
  | [], _ => Nat.zero_le _
  | _ :: _, [] => Nat.zero_le _
  | _ :: ks, _ :: vs => Nat.succ_le_succ (kvs_len ks vs)
def lkD (k : Str) : List Str → List D → Option D
  | q :: ks, d :: ds => if q = k then some d else lkD k ks ds
  | _, _ => none
theorem kvs_val {K : PySem.W.Frag} {G : Hp} {k : Str} : ∀ {ks : List Str} {vs : List V} {ds : List D}, DqAll K G vs ds → (∀ d, lkD k ks ds = some d → ∃ v, valV (kvsOf ks vs) (Sum.inr k : Key) = some v ∧ Dq K G v d) ∧ (lkD k ks ds = none → valV (kvsOf ks vs) (Sum.inr k : Key) = none)
  | [], _, _, _ => ⟨fun d h => by simp [lkD] at h, fun _ => rfl⟩
  | q :: ks, _, _, .nil => ⟨fun d h => by simp [lkD] at h, fun _ => rfl⟩
  | q :: ks, v :: vs, d :: ds, .cons a r => by
    have ih := kvs_val (k := k) (ks := ks) r
    have e : valV (kvsOf (q :: ks) (v :: vs)) (Sum.inr k : Key) = if decide ((Sum.inr q : Key) = Sum.inr k) = true then some v else valV (kvsOf ks vs) (Sum.inr k : Key) := by
      show ((List.find? _ ((Sum.inr q, v) :: kvsOf ks vs)).map _) = _
      unfold valV
      rw [List.find?_cons]
      cases decide ((Sum.inr q : Key) = Sum.inr k) <;> rfl
    rw [e]
    unfold lkD
    by_cases z : q = k
    · rw [if_pos z, if_pos (by rw [z]; simp)]
      exact ⟨fun d' h => by cases h; exact ⟨v, rfl, a⟩, fun h => by cases h⟩
    · rw [if_neg z, if_neg (by simp [z])]
      exact ih
def mDGet2 (ks : List Str) (ms : List (M R)) (me mf : M R) : M R := bnd (mArgs ms) fun rs => bnd (toDs rs) fun ds => bnd me fun re => bnd mf fun rf ρ => match vw re ρ, vw rf ρ with
  | some (.str k), some df => match lkD k ks ds with
    | some d => some (Out.ok (R.dat d) ρ)
    | none => if atomD df = true then some (.ok (.dat df) ρ) else none
  | _, _ => none
theorem de_dget2 {apos : Pos} {keys : List (Option Expr)} {values : List Expr} {ks : List Str} {ms : List (M R)} {me mf : M R} {dp : Pos} (hu : X.A.units + 1 < cLine) (hd : DPs X E dp keys values ks ms) (hall : keys.all (·.isSome) = true) (hl : keys.length = values.length) (h0 : keys ≠ []) (hsz : keys.length ≤ 15) (nd : ks.Nodup) (hk15 : ks.length ≤ 15)
    (he : DE X E a me) (hf : DE X E b mf) (m2 : M2 X (.Dict keys values dp) "get" apos a b pos) : DE X E (.Call (.Attribute (.Dict keys values dp) "get" apos) [a, b] [] pos) (mDGet2 ks ms me mf) := by
  refine ⟨pe_imp (pe_dget2 hu (pe_disp hd.pps hall hl h0 hsz) he.pe hf.pe m2) fun σ H Q h => ?_⟩
  obtain ⟨B, O, A, ρ, out, S, hm, k⟩ := h
  intro p np
  obtain ⟨S0, st0⟩ := S.newO (o := .dK []) np
  have x0 : Exc X.K X.mg B (add O (one p)) A σ (upd H p (.dK [])) E out := k.exc.later st0.toSto fun a => le_add a
  refine run_pairs hd.len S0 hm x0 fun rs ρ1 vs H1 A1 F hk lr S1 rr1 st1 x1 => ?_
  have op : add O (one p) p ≠ 0 := by unfold add; rw [one_self]; omega
  obtain ⟨ds, ρ2, A2, hk2, S2, dq, st2⟩ := gives_bnd S1 rr1 hk
  have hp1 : H1 p = some (.dK []) := by rw [st1.out p op]; exact upd_same
  have lv : ks.length = vs.length := by rw [hd.len, ← lr, rr1.len]
  refine ⟨hp1, kvsOf ks vs, kvs_zip ks vs, Nat.le_trans (kvs_len ks vs) hk15, ?_⟩
  have em : mergeK [] (kvsOf ks vs) = kvsOf ks vs := by
    have := merge_new (kvsOf ks vs) [] (by rw [List.nil_append, kvs_keys lv]; exact List.Pairwise.map _ (fun a b n z => n (Sum.inr.inj z)) nd)
    simpa using this
  rw [em]
  have wp : tot (add O (one p)) A2 p ≠ 0 := by unfold tot; exact add_l op
  have w3 : Same (hid (tot (add O (one p)) A2) H1) (hid (tot (add O (one p)) A2) (upd H1 p (.dK (kvsOf ks vs)))) := fun a u h => by
    obtain ⟨q, h⟩ := hid_some h
    exact hid_at q (by rw [upd_ne fun z => wp (by rw [z] at q; exact q)]; exact h)
  have free : sumF A2 p = 0 := by have := S2.le1 p; unfold tot add at this; rw [one_self] at this; omega
  have S3 : StC X.K X.mg B (add O (one p)) A2 ρ2 σ (upd H1 p (.dK (kvsOf ks vs))) := S2.move w3 (fun a n => upd_ne fun z => n (by rw [z]; exact free)) S2.le1 fun a n => by
    by_cases q : a = p
    · rw [q, upd_same]; simp
    · rw [upd_ne q]; exact S2.al a n
  have st03 : Stp O A H (add O (one p)) A2 (upd H1 p (.dK (kvsOf ks vs))) := by
    have s12 : Stp (add O (one p)) A (upd H p (.dK [])) (add O (one p)) A2 H1 := st1.trans st2 fun a n => add_l n
    have s02 := st0.trans s12 fun a n => add_l n
    refine ⟨⟨fun a n => ?_, s02.sh.trans w3⟩, s02.al⟩
    have ne : a ≠ p := fun z => by
      have := S.free np
      rw [z] at n; unfold tot add at this; omega
    rw [upd_ne ne]; exact s02.out a n
  have x3 : Exc X.K X.mg B (add O (one p)) A2 σ (upd H1 p (.dK (kvsOf ks vs))) E out := k.exc.later st03.toSto fun a => le_add a
  refine ⟨p, rfl, .inl ⟨kvsOf ks vs, .inl upd_same⟩, ?_⟩
  refine run_bnd S3 hk2 x3 fun re ρ4 w H4 A4 F4 hk4 S4 rr4 st4 x4 => ?_
  refine run_bnd S4 hk4 x4 fun rf ρ5 u H5 A5 F5 hk5 S5 rr5 st5 x5 => ?_
  have rr4' := rr4.step st5 fun a n => add_r n
  have st35 := st4.trans st5 fun a n => add_l n
  have le : ∀ a, O a ≤ add (add (add O (one p)) F4) F5 a := fun a => by unfold add; omega
  have stf := st03.trans st35 fun a n => add_l n
  have hp5 : H5 p = some (.dK (kvsOf ks vs)) := by rw [st35.out p op]; exact upd_same
  split at hk5
  · rename_i q df e1 e2
    have hw := S5.view rr4' e1
    cases hw
    have hv := kvs_val (k := q) (ks := ks) (DqAll_same (w3.trans st35.sh) dq)
    refine ⟨valV (kvsOf ks vs) (Sum.inr q : Key), .inl ⟨kvsOf ks vs, Sum.inr q, .inl hp5, rfl, rfl⟩, ?_⟩
    split at hk5
    · rename_i d e3
      cases hk5
      obtain ⟨y, ey, dy⟩ := hv.1 d e3
      rw [ey]
      exact fin_dat k.oks S5 le stf (Dq_same (hid_weak le) dy)
    · rename_i e3
      rw [hv.2 e3]
      split at hk5
      · rename_i az
        cases hk5
        exact fin_dat k.oks S5 le stf (atom_any (S5.view rr5 e2) az)
      · cases hk5
  · cases hk5
end
end XM
end
section
/-! for a, b in zip(a tuple, a list) -/
namespace Tl
open PySem PySem.Spec PyProof.Rows L2
def Itzt (K : PySem.W.Frag) (a b : Addr) : It :=
  ⟨fun i H => ∃ (xs ys : List V) (x y : V), SqT K H a xs ∧ xs[i]? = some x ∧ SqL K H b ys ∧ ys[i]? = some y,
    fun i H v H' => ∃ T c y, v = .ref T ∧ H T = none ∧ H' = upd H T (.tup [c, y]) ∧ (∀ xs, SqT K H a xs → xs[i]? = some c) ∧ ∀ ys, SqL K H b ys → ys[i]? = some y,
    fun i H => ∃ xs ys : List V, SqT K H a xs ∧ SqL K H b ys ∧ i = xs.length ∧ i ≤ ys.length⟩
theorem sep_zt {z TI TO i1 i2 a b : Addr} (D : ZipApart z TI TO i1 i2 a b) : ZipSep2 z TI TO i1 i2 [i1, a] [i2, b] where
  TIz := D.TIz
  TOz := D.TOz
  TITO := D.TITO
  TIi1 := D.TIi1
  mem1 := by simp
  zf1 := by simp; exact ⟨D.i1z.symm, D.l1z.symm⟩
  Tf1 := by simp; exact ⟨D.TOi1, D.l1TO.symm⟩
  TIi2 := D.TIi2
  mem2 := by simp
  zf2 := by simp; exact ⟨D.i2z.symm, D.l2z.symm⟩
  Tf2 := by simp; exact ⟨D.TOi2, D.l2TO.symm⟩
  sep1_2 := by simp; exact ⟨D.i12, D.l2i1.symm⟩
  sep2_1 := by simp; exact ⟨D.i12.symm, D.l1i2.symm⟩
theorem turn_zt {P : Program} {w : World} {K : PySem.W.Frag} {elts : List Expr} {kk : Nat} {tpos : Pos} {a b z TI TO i1 i2 : Addr} (D : ZipApart z TI TO i1 i2 a b) :
    Turn P w K (.Tuple elts kk tpos) (Itzt K a b) [z, TI, TO, i1, i2] z (fun i h => IsZip h z TI TO .none ∧ IsTupOf2 h TI (.ref i1) (.ref i2) ∧ (∃ u v, IsTupOf2 h TO u v) ∧ h.IsTupleIter i1 a i ∧ h.IsListIter i2 b i) where
  mem := by simp
  obj := fun i h st c hc => by
    obtain ⟨zz, zI, ⟨u, v, zO⟩, ⟨o1, e1, _, d1⟩, ⟨o2, e2, _, d2⟩⟩ := st
    simp only [List.mem_cons, List.not_mem_nil, or_false] at hc
    rcases hc with rfl | rfl | rfl | rfl | rfl
    · exact ⟨_, zz, fun v q => nomatch q⟩
    · exact ⟨_, zI, fun v q => nomatch q⟩
    · exact ⟨_, zO, fun v q => nomatch q⟩
    · exact ⟨o1, e1, fun v q => by rw [d1] at q; cases q⟩
    · exact ⟨o2, e2, fun v q => by rw [d2] at q; cases q⟩
  keep := fun i h h' st k => by
    obtain ⟨zz, zI, ⟨u, v, zO⟩, s1, s2⟩ := st
    exact ⟨k z (by simp) _ zz, k TI (by simp) _ zI, ⟨u, v, k TO (by simp) _ zO⟩, s1.at fun o q => k i1 (by simp) o q, s2.at fun o q => k i2 (by simp) o q⟩
  item := by
    intro X hP hw hK hc i pins s σ H E I hf st hg
    subst hP hw hK
    obtain ⟨zz, zI, ⟨u0, v0, zO⟩, s1, s2⟩ := st
    obtain ⟨xs, ys, x, y, sx, gx, sq, gy⟩ := hg
    obtain ⟨its0, rv0, pl0, _⟩ := I.tuple sx
    obtain ⟨its, rv, pl, _⟩ := I.list sq
    have isl : s.heap.IsList b its.toArray := pl.isList
    have ist : s.heap.IsTuple a its0.toArray := pl0
    have lt1 : i < its0.length := by have := rv0.length; have := (List.getElem?_eq_some_iff.mp gx).1; omega
    have lt2 : i < its.length := by have := rv.length; have := (List.getElem?_eq_some_iff.mp gy).1; omega
    have D1 := Draws.tuple (prog := X.prog) (w := X.w) (A := X.A.in1) (I.ok.hd hc) i1 a D.l1i1 its0.toArray
    have D2 := Draws.list (prog := X.prog) (w := X.w) (A := X.A.in1) (I.ok.hd hc) i2 b D.l2i2 its.toArray
    refine wpAny_pyNext_zipD2_item (sep_zt D) D1 D2 zz zI zO ⟨s1, ist⟩ ⟨s2, isl⟩ (by simpa using lt1) (by simpa using lt2) fun x1 x2 h' tk p1 p2 zz' zO' t1 t2 nT hsz kp => ?_
    obtain ⟨u1, gu1, r1⟩ := rv0.get gx
    have e1 : x1 = u1 := by have p1' : its0[i]? = some x1 := by simpa using p1
                            exact Option.some.inj (p1'.symm.trans gu1)
    subst e1
    obtain ⟨u2, gu2, r2⟩ := rv.get gy
    have e2 : x2 = u2 := by have p2' : its[i]? = some x2 := by simpa using p2
                            exact Option.some.inj (p2'.symm.trans gu2)
    subst e2
    refine ⟨_, rfl, wpAny_letOwnedTupleGo_zip (s := ⟨h', s.gens, s.drawn, tk, s.os⟩) zz' fun h2 zz2 sb => ?_⟩
    have zlt : z < s.heap.objs.size := Heap.lt_size zz
    have nT2 : h2.get? s.heap.objs.size = some { cls := .type "tuple", data := .seq #[x1, x2] } := (sb.2 _ (Nat.ne_of_gt zlt)).trans nT
    have new : ObjOk X.prog X.w (upd H s.heap.objs.size (.tup [x, y])) h2 s.heap.objs.size (.tup [x, y]) :=
      ⟨by show 2 ≤ sizeLine; decide, [x1, x2], .cons r1 (.cons r2 .nil), ⟨_, nT2, rfl, _, rfl⟩⟩
    have I1 : L2.Inv X pins σ (upd H s.heap.objs.size (.tup [x, y])) { s with heap := h2, toks := tk } :=
      I.turnedNew (t' := tk) (ch := [z, TI, TO, i1, i2]) (fun d o hb q => (sb.2 d (fun q' => hb (by simp [q']))).trans (kp d o (fun q' => hb (by simp [q'])) (fun q' => hb (by simp [q'])) (fun q' => hb (by simp [q'])) (fun q' => hb (by simp [q'])) q)) hf (Nat.le_refl _) new
    refine ⟨.ref s.heap.objs.size, _, I1, rfl, ⟨_, x, y, rfl, I.hok.fresh (Nat.le_refl _), rfl, fun l hl => by rw [I.tuple_inj hl sx]; exact gx, fun l hl => by rw [I.list_inj hl sq]; exact gy⟩, ⟨zz2, ?_, ⟨x1, x2, ?_⟩, ?_, ?_⟩, fun d hd => ?_⟩
    · exact (sb.2 _ D.TIz).trans (kp _ _ D.TIz D.TITO D.TIi1 D.TIi2 zI)
    · exact (sb.2 _ D.TOz).trans zO'
    · exact t1.1.at fun o q => (sb.2 _ D.i1z).trans q
    · exact t2.1.at fun o q => (sb.2 _ D.i2z).trans q
    · have young : d < s.heap.objs.size := by
        have hd' := hd
        simp only [List.mem_cons, List.not_mem_nil, or_false] at hd'
        rcases hd' with rfl | rfl | rfl | rfl | rfl
        · exact zlt
        · exact Heap.lt_size zI
        · exact Heap.lt_size zO
        · obtain ⟨_, e1, _⟩ := s1; exact Heap.lt_size e1
        · obtain ⟨_, e2, _⟩ := s2; exact Heap.lt_size e2
      rw [upd_ne (Nat.ne_of_lt young)]; exact (hf d hd).1
  done := by
    intro X hP hw hK hc i pins s σ H E I hf st hg
    subst hP hw hK
    obtain ⟨zz, zI, ⟨u0, v0, zO⟩, s1, s2⟩ := st
    obtain ⟨xs, ys, sx, sq, e1, le2⟩ := hg
    obtain ⟨its0, rv0, pl0, _⟩ := I.tuple sx
    obtain ⟨its, rv, pl, _⟩ := I.list sq
    have len := rv.length
    have len0 := rv0.length
    have D1 := Draws.tuple (prog := X.prog) (w := X.w) (A := X.A.in1) (I.ok.hd hc) i1 a D.l1i1 its0.toArray
    have D2 := Draws.list (prog := X.prog) (w := X.w) (A := X.A.in1) (I.ok.hd hc) i2 b D.l2i2 its.toArray
    exact wpAny_pyNext_zipD2_end (sep_zt D) D1 D2 zz zI zO ⟨s1, pl0⟩ ⟨s2, pl.isList⟩ (by simp; omega) (by simp; omega) (.inl (by simp; omega)) fun h' tk kp => ⟨rfl, I.turnedL (t' := tk) (ch := [z, TI, TO, i1, i2]) (fun d o hb q =>
      kp d o (fun q' => hb (by simp [q'])) (fun q' => hb (by simp [q'])) (fun q' => hb (by simp [q'])) (fun q' => hb (by simp [q'])) q) hf⟩
  self := fun A i s Q E st h => wpAny_pyIter_zip st.1 h
def iZipTL (K : PySem.W.Frag) (ta : TA) : TI := fun σ H R => ta σ H fun vs H1 => ∃ a b xs ys, vs = [.ref a, .ref b] ∧ SqT K H1 a xs ∧ SqL K H1 b ys ∧ R (Itzt K a b) H1
theorem pi_zipTL {X : Cx} {e e2 : Expr} {ta : TA} {p pos tpos : Pos} {elts : List Expr} {kk : Nat} (hg : Gl X "zip") (hm : X.mg "zip" = none) (ha : PA X [e, e2] ta)
    (hs : starEach [e, e2] X.env = (false, eval e X.env) :: starEach [e2] X.env := by rfl) (hpl : (backTo pos (starEach [e2] X.env)).any (·.1) = false := by rfl) :
    PI X (.Tuple elts kk tpos) (.Call (.Name "zip" p) [e, e2] [] pos) (iZipTL X.K ta) := by
  constructor
  intro pins s σ H R I h
  refine Call_ (ld_blt I hg hm PyProof.Rows.boot_zip (PyProof.Rows.callWith_type1 (thn (ha.run pos pins s σ H _ I h) fun us s1 hh => ?_) hs hpl))
  obtain ⟨vs, H1, I1, r1, a, b, xs, ys, ex, sx, sq, q⟩ := hh
  subst ex
  cases r1 with
  | cons r rr =>
  cases rr with
  | cons r' rr =>
  cases rr
  cases r'
  cases r
  obtain ⟨its, rv, pl, _⟩ := I1.list sq
  obtain ⟨its0, rv0, pl0, _⟩ := I1.tuple sx
  have lb : b < s1.heap.objs.size := pl.lt
  have la : a < s1.heap.objs.size := by obtain ⟨o, ho, _⟩ := pl0; exact Heap.lt_size ho
  refine zip_begins2 (begins_tuple a its0.toArray) (begins_list b its.toArray) pl0 pl.isList fun h' zz zI zO g1 g2 hsz kp => wpAny_pyIter_zip zz ?_
  have I2 : L2.Inv X pins σ H1 { s1 with heap := h' } := I1.kept (t' := s1.toks) kp
  refine ⟨s1.heap.objs.size + 4, [s1.heap.objs.size + 4, s1.heap.objs.size + 2, s1.heap.objs.size + 3, s1.heap.objs.size, s1.heap.objs.size + 1], _, _, H1, rfl, I2, turn_zt (PySem.W.ktu_apart s1.heap.objs.size a b la lb), ⟨zz, zI, ⟨_, _, zO⟩, ⟨_, g1, rfl, rfl⟩, ⟨_, g2, rfl, rfl⟩⟩, fun d hd => ?_, q⟩
  simp only [List.mem_cons, List.not_mem_nil, or_false] at hd
  have old : s1.heap.objs.size ≤ d := by
    rcases hd with rfl | rfl | rfl | rfl | rfl <;> first | exact Nat.le_refl _ | exact Nat.le_add_right _ _
  exact I1.fpOk old (I1.hok.fresh old)
theorem walk_zt {K : PySem.W.Frag} {a b : Addr} {xs ys : List V} {n : Nat} (h1 : xs.length = n) (h2 : ys.length = n) : Walk (Itzt K a b) n (fun H => SqT K H a xs ∧ SqL K H b ys)
    (fun i H v H' => ∃ T c y, v = .ref T ∧ H T = none ∧ H' = upd H T (.tup [c, y]) ∧ xs[i]? = some c ∧ ys[i]? = some y) where
  goes := fun i H hi q => ⟨xs, ys, xs[i], ys[i], q.1, List.getElem?_eq_getElem (by omega), q.2, List.getElem?_eq_getElem (by omega)⟩
  stops := fun H q => ⟨xs, ys, q.1, q.2, by omega, by omega⟩
  yields := fun i H v H' hi q y => by
    obtain ⟨T, c, z, a1, a2, a3, a4, a5⟩ := y
    exact ⟨T, c, z, a1, a2, a3, a4 xs q.1, a5 ys q.2⟩
end Tl
end
section
namespace XM
open PySem PySem.Spec PyProof.Rows L2 Tl
section
variable {X : Cx} {E : XK} {e a b c o e2 : Expr} {es : List Expr} {pos p : Pos} {B : Bs} {O O' : Ft} {A A' A1 : Al} {ρ ρ1 : Fr} {σ : L2.St} {H H' H1 : Hp}
/-! ### zip of a tuple and a list, both read by all from now on -/
def mZipTL (ma mb : M R) : M (List D) := bnd ma fun ra => bnd (toD ra) fun da => bnd mb fun rb => bnd (toD rb) fun db ρ => match da, db with
  | .tuple xs, .list ys => if xs.length = ys.length then some (.ok ((xs.zip ys).map fun p => .tuple [p.1, p.2]) ρ) else none
  | _, _ => none
theorem it_zt {K : PySem.W.Frag} {G : Hp} {p q : Addr} {vs ws : List V} {xs ys : List D} (hp : SqT K G p vs) (hq : G q = some (.lst ws)) (dx : DqAll K G vs xs) (dy : DqAll K G ws ys) (l : xs.length = ys.length) : ItOk K G (Itzt K p q) ((xs.zip ys).map fun p => .tuple [p.1, p.2]) := by
  have len : ((xs.zip ys).map fun p : D × D => PyData.tuple [p.1, p.2]).length = xs.length := by simp [l]
  refine ⟨fun H => SqT K H p vs ∧ SqL K H q ws, _, by rw [len]; exact walk_zt (xs := vs) (ys := ws) (DqAll_len dx) (by rw [DqAll_len dy, l]), fun H s => ⟨Tl.Same.tup s hp, .of (s _ _ hq)⟩, fun i H x H' hi y => ?_⟩
  obtain ⟨T, u, w, rfl, nT, rfl, gu, gw⟩ := y
  rw [len] at hi
  have hx : xs[i]? = some xs[i] := List.getElem?_eq_getElem hi
  have hy : ys[i]? = some ys[i] := List.getElem?_eq_getElem (by omega)
  obtain ⟨u', e1, d1⟩ := DqAll_at dx hx
  obtain ⟨w', e2, d2⟩ := DqAll_at dy hy
  rw [gu] at e1
  rw [gw] at e2
  cases e1
  cases e2
  refine .inr ⟨T, _, [xs[i], ys[i]], rfl, nT, rfl, ?_, .cons d1 (.cons d2 .nil)⟩
  rw [List.getElem?_map, (List.getElem?_zip_eq_some (z := (xs[i], ys[i]))).mpr ⟨hx, hy⟩]
  rfl
theorem di_zipTL {elts : List Expr} {kk : Nat} {tpos : Pos} {ma mb : M R} (hg : Gl X "zip") (hm : X.mg "zip" = none) (ha : DE X E a ma) (hb : DE X E b mb) (hs : starEach [a, b] X.env = (false, eval a X.env) :: starEach [b] X.env := by rfl) (hs2 : starEach [b] X.env = (false, eval b X.env) :: starEach [] X.env := by rfl) (hpl : (backTo pos (starEach [b] X.env)).any (·.1) = false := by rfl) :
    DI X E (.Tuple elts kk tpos) (.Call (.Name "zip" p) [a, b] [] pos) (mZipTL ma mb) := by
  refine ⟨pi_imp (pi_zipTL hg hm (pa_cons ha.pe (pa_cons hb.pe pa_nil hs2) hs) hs hpl) fun σ H R h => ?_⟩
  obtain ⟨B, O, A, ρ, out, S, hm, k⟩ := h
  show ERun _ _ _ _ _ _ _
  refine run_bnd S hm k.exc fun ra ρ1 v H1 A1 F hk S1 rr1 st1 x1 => ?_
  obtain ⟨da, ρ2, A2, hk2, S2, dv, st2⟩ := give_bnd S1 rr1 hk
  have st12 : Stp O A H O A2 H1 := st1.trans st2 fun a n => add_l n
  have x2 := k.exc.later st12.toSto fun _ => Nat.le_refl _
  show ERun _ _ _ _ _ _ _
  refine run_bnd S2 hk2 x2 fun rb ρ3 w H3 A3 F3 hk3 S3 rr3 st3 x3 => ?_
  obtain ⟨db, ρ4, A4, hk4, S4, dw, st4⟩ := give_bnd S3 rr3 hk3
  have st34 : Stp O A2 H1 O A4 H3 := st3.trans st4 fun a n => add_l n
  have dv4 := Dq_same st34.sh dv
  split at hk4
  · rename_i xs ys
    split at hk4
    · rename_i l
      cases hk4
      cases dv4 with
      | tup hp dx =>
      cases dw with
      | lst hq dy =>
      exact ⟨_, _, _, _, rfl, Tl.Same.tup hid_sub hp, .of (hid_sub _ _ hq), k.oks _ H3 A4 S4 (st12.trans st34 fun _ n => n) (it_zt hp hq dx dy l)⟩
    · cases hk4
  · cases hk4
end
end XM
end
section
namespace XM
open PySem PySem.Spec PyProof.Rows L2 Tl
section
variable {X : Cx} {E : XK} {e a b c o : Expr} {es : List Expr} {pos p : Pos} {B : List V} {O O' : Ft} {A A' A1 : Al} {ρ ρ1 : Fr} {σ : L2.St} {H H' H1 : Hp}
theorem dv (i : Nat) {x : Str} (hN : X.N[i]? = some x := by rfl) (hv : Vis X.env.scope x := by first | exact .inl rfl | exact .inr (.inl rfl) | exact .inr (.inr rfl)) (hd : (x == ("__debug__" : Str)) = false := by decide) (hcd : (x == ("__classdict__" : Str)) = false := by decide) : DE X E (.Name x pos) (mSlot i) := de_slot hN hv hd hcd
theorem dt_chain {op op' : CmpOp} {r r' : R2} {f g : D → D → Option D} {ma mb mc : M R} (ho : OpR X (compareOp op) r) (ho' : OpR X (compareOp op') r') (hf : OpA X.K r f) (hg : OpA X.K r' g) (ha : DE X E a ma) (hb : DE X E b mb) (hc : DE X E c mc)
    (hm : lastMarks [op, op'] [b, c] = false := by with_unfolding_all rfl) : DT X E (.Compare a [op, op'] [b, c] pos) (asB (mChain f g ma mb mc)) := by
  refine ⟨pt_imp (pt_chain ho ho' ha.pe hb.pe hc.pe hm) fun σ H Q h => ?_⟩
  have h' : tB (ERun X.K X.mg (mChain f g ma mb mc) E) σ H Q := run_tB h
  exact run_chain hf hg h'
theorem op_addA : OpR X (binaryOp .Add) (fun x y H Q => (rI0 fun i j => .int (i + j)) x y H Q ∨ ∃ i j, x = .str i ∧ y = .str j ∧ i.length + j.length ≤ sizeLine ∧ Q (.str (i ++ j)) H) := op_add.or op_add_str
theorem hu64 {k : Nat} {A : Around} (hr : Room k A) : A.units + 64 < cLine := by have := hr.un; omega
end
end XM
end
section
namespace XM
open PySem PySem.Spec PyProof.Rows L2 Tl
section
variable {X : Cx} {E : XK} {e a b c o : Expr} {es : List Expr} {pos p : Pos} {B : Bs} {O O' : Ft} {A A' A1 : Al} {ρ ρ1 : Fr} {σ : L2.St} {H H' H1 : Hp}
/-- the first place of a text -/
def idxS (z : Str) : List Str → Option Nat
  | [] => none
  | y :: r => if y = z then some 0 else (idxS z r).map (· + 1)
theorem idxS_ok {z : Str} : ∀ {ys : List Str} {j : Nat}, idxS z ys = some j → ys[j]? = some z ∧ ∀ m, m < j → ys[m]? ≠ some z
  | [], _, h => by cases h
  | y :: r, j, h => by
    unfold idxS at h
    by_cases q : y = z
    · rw [if_pos q] at h; cases h; subst q; exact ⟨rfl, fun m hm => absurd hm (Nat.not_lt_zero _)⟩
    · rw [if_neg q] at h
      cases e : idxS z r with
      | none => rw [e] at h; cases h
      | some i =>
        rw [e] at h
        cases h
        obtain ⟨h1, h2⟩ := idxS_ok e
        refine ⟨h1, fun m hm hy => ?_⟩
        cases m with
        | zero => exact q (by simpa using hy)
        | succ m => exact h2 m (Nat.lt_of_succ_lt_succ hm) hy
/-- a tuple of texts that stands in the module -/
def KT (K : PySem.W.Frag) (mg : Str → Option Value) (x : Str) (ys : List Str) : Prop := ∃ (p : Addr) (ob : Obj), (∃ u, mg x = some u ∧ RelV (.ref p) u) ∧ K.lookup p = some ob ∧ ob.cls = .type "tuple" ∧ ob.dict = none ∧ ∀ H, SqT K H p (ys.map V.str)
def mTIndex (ys : List Str) (me : M R) : M R := bnd me fun re ρ => match vw re ρ with
  | some (.str z) => match idxS z ys with
    | some j => some (.ok (.dat (.int (j : Nat))) ρ)
    | none => none
  | _ => none
theorem de_tindex {apos px : Pos} {x : Str} {ys : List Str} {me : M R} (kt : KT X.K X.mg x ys) (hg : Gl X x) (he : DE X E e me) (hd : (x == ("__debug__" : Str)) = false := by decide) (hbase : attributeBase (.Name x px) "index" X.env (eval (.Name x px) X.env) = eval (.Name x px) X.env := by rfl)
    (hfew : ((backTo pos (starEach [e] X.env)).all (fun x => !x.1) && (backToKw pos (keywordEach [] X.env)).all (fun x => x.1.isSome)
      && decide (([e] : List Expr).length + ([] : List Keyword).length + (if ([] : List Keyword).isEmpty then 0 else 1) < 30)) = true := by rfl)
    (hline : (apos.endLine == pos.line) = true := by rfl) (hs : starEach [e] X.env = (false, eval e X.env) :: starEach [] X.env := by rfl) (hplain : (backTo pos (starEach [] X.env)).any (·.1) = false := by rfl) :
    DE X E (.Call (.Attribute (.Name x px) "index" apos) [e] [] pos) (mTIndex ys me) := by
  obtain ⟨p, ob, ⟨u, hm, ru⟩, k1, k2, k3, sq⟩ := kt
  refine ⟨pe_imp (pe_bm PySem.F.plainAttrs_tuple PySem.F.slot_tuple_index PySem.F.type_tuple_index mt_tup_index (pe_glob hg hm ru hd) (pa_cons he.pe pa_nil hs) hbase hfew hline hs hplain) fun σ H Q h => ?_⟩
  obtain ⟨B, O, A, ρ, out, S, hm, k⟩ := h
  refine ⟨.inr (.inl ⟨rfl, ob, k1, k2, k3⟩), ?_⟩
  show ERun _ _ _ _ _ _ _
  refine run_bnd S hm k.exc fun re ρ2 w H2 A2 F2 hk2 S2 rr2 st2 x2 => ?_
  split at hk2
  · rename_i z e2
    split at hk2
    · rename_i j ej
      cases hk2
      have hw := S2.view rr2 e2
      cases hw
      obtain ⟨h1, h2⟩ := idxS_ok ej
      exact ⟨p, ys, z, j, rfl, rfl, sq _, h1, h2, fin_dat k.oks S2 (fun a => by unfold add; omega) st2 (.int _)⟩
    · cases hk2
  · cases hk2
end
end XM
namespace XM
open PySem PySem.Spec PyProof.Rows L2 Tl
section
variable {X : Cx} {E : XK} {e : Expr} {pos : Pos}
/-- xs[::-1] of a list -/
def mRev (m : M R) : M R := bnd m fun r ρ => (itsL r ρ).map fun l => .ok (.own (.dl l.reverse)) ρ
theorem de_revL {m : M R} {k : Nat} {p1 p2 p3 : Pos} (he : DE X E e m) : DE X E (.Subscript e (.Slice none none (some (.UnaryOp .USub (.Constant (.int 1) k p1) p2)) p3) pos) (mRev m) := by
  refine ⟨pe_imp (pe_revL he.pe) fun σ H Q h => ?_⟩
  obtain ⟨B, O, A, ρ, out, S, hm, k⟩ := h
  refine run_bnd S hm k.exc fun ro ρ1 v H1 A1 F hk S1 rr1 st1 x1 => ?_
  cases e1 : itsL ro ρ1 with
  | none => rw [e1] at hk; cases hk
  | some l =>
    rw [e1] at hk
    cases hk
    obtain ⟨a, vs, rfl, sq, dq⟩ := S1.itsL rr1 e1
    exact ⟨a, vs, rfl, sq, fun p np => fin_lst k.oks S1 (fun a => le_add a) st1 (DqAll_same (hid_weak fun a => le_add a) (DqAll_rev dq)) np⟩
end
end XM
namespace XM
open PySem PySem.Spec PyProof.Rows L2 Tl
theorem hu1 {k : Nat} {A : Around} (hr : Room k A) : A.units + 1 < cLine := by have := hr.un; omega
end XM
namespace XM
open PySem PySem.Spec PyProof.Rows L2 Tl
section
variable {P : Program} {w : World} {K : PySem.W.Frag} {mg : Str → Option Value} {mm : Mg} {base : Heap} {x : Str} {st : Stmt} {N ps : List Str} {k n j : Nat} {m : SM}
theorem fn0n (D : Dn K mg x st ps) (S : FnScope N ps (defScope st)) (hl : ps.length ≤ N.length) (hn : N.length = n) (hj : ps.length = j)
    (hb : ∀ (f : Addr) (cdv : Value) (A : Around) (outer : List Env) (s : Shared) (H : Hp) (E : XK), Quiet (A.deeper (envOfC x (defScope st) s.heap.objs.size f cdv)) → Room k (A.deeper (envOfC x (defScope st) s.heap.objs.size f cdv)) → DSs (cxOf CX0 P w K mg base N x (defScope st) f cdv A outer s H E).nox (fun _ _ _ => False) (defBody st) m) :
    PrG P w K mg base CX0 (k + 1) x ps (sp0 K mg j (mDef n m)) := by
  subst hn hj
  exact fn0 D S hl hb
end
end XM
end
section
/-! lists that stay with their owner while they are walked -/
namespace XM
open PySem PySem.Spec PyProof.Rows L2 Tl
def ownL (r : R) (ρ : Fr) : Option (Nat × Nat) := match r with
  | .ref n => match ρ.rt[n]? with
    | some ⟨.dl l, _⟩ => some (n, l.length)
    | _ => none
  | _ => none
def curO (n tot i : Nat) (ρ : Fr) : Option D := match ρ.rt[n]? with
  | some ⟨.dl l, _⟩ => if l.length = tot then l[i]? else none
  | _ => none
def endO (n tot : Nat) (ρ : Fr) : Bool := match ρ.rt[n]? with
  | some ⟨.dl l, _⟩ => decide (l.length = tot)
  | _ => false
section
variable {K : PySem.W.Frag} {mg : Str → Option Value} {mm : Mg} {B B' : Bs} {O O' : Ft} {A A' A1 : Al} {ρ ρ1 : Fr} {σ σ1 : L2.St} {H H' H1 : Hp} {E : XK}
end
end XM
namespace XM
open PySem PySem.Spec PyProof.Rows L2 Tl
section
variable {K : PySem.W.Frag} {mg : Str → Option Value} {mm : Mg} {B B' : Bs} {O O' F : Ft} {A A' A1 : Al} {ρ ρ1 : Fr} {σ σ1 : L2.St} {H H' H1 : Hp} {E : XK}
/-- the list at a root, as it stands -/
theorem StC.dlAt (S : StC K mg B O A ρ σ H) {n : Nat} {l : List D} {pr : Option (Nat × Pl)} {a : Addr} (hx : ρ.rt[n]? = some ⟨.dl l, pr⟩) (ha : XM.al A n = some (.ref a)) : ∃ vs, H a = some (.lst vs) ∧ DqAll K (hid (tot O A) H) vs l := by
  obtain ⟨F, _, ht⟩ := S.root hx ha
  cases ht with
  | dl h r => exact ⟨_, h, r⟩
theorem curO_some {n k i : Nat} {d : D} (h : curO n k i ρ = some d) : ∃ l pr, ρ.rt[n]? = some ⟨.dl l, pr⟩ ∧ l.length = k ∧ l[i]? = some d := by
  unfold curO at h
  split at h
  · rename_i l pr e
    split at h
    · rename_i q; exact ⟨l, pr, e, q, h⟩
    · cases h
  · cases h
theorem endO_true {n k : Nat} (h : endO n k ρ = true) : ∃ l pr, ρ.rt[n]? = some ⟨.dl l, pr⟩ ∧ l.length = k := by
  unfold endO at h
  split at h
  · rename_i l pr e; exact ⟨l, pr, e, of_decide_eq_true h⟩
  · cases h
/-- all roots so far are pinned -/
def pin (ρ : Fr) : Fr := { ρ with np := ρ.rt.length }
def unpin (n : Nat) (ρ : Fr) : Fr := { ρ with np := n }
theorem StC.pin (S : StC K mg B O A ρ σ H) : StC K mg ⟨A.map (·.1), B.η⟩ O A (XM.pin ρ) σ H :=
  ⟨S.le1, S.al, S.len, S.rts, S.par, S.parL, fun r v h => by unfold XM.al; rw [List.getElem?_map] at h; exact h, by rw [List.length_map]; exact S.len, S.slen, S.sls⟩
theorem StC.unpin {L : List V} (S : StC K mg ⟨L, B.η⟩ O A ρ σ H) (h : ∀ (r : Nat) (v : V), B.l[r]? = some v → L[r]? = some v) : StC K mg B O A (XM.unpin B.l.length ρ) σ H :=
  ⟨S.le1, S.al, S.len, S.rts, S.par, S.parL, fun r v q => S.bas r v (h r v q), rfl, S.slen, S.sls⟩
/-- a list that may change its items but not their number -/
theorem walk_own {a : Addr} {n : Nat} : Walk (Itl K a) n (fun H => ∃ vs, H a = some (.lst vs) ∧ vs.length = n) (fun i H x H' => H' = H ∧ ∃ vs, H a = some (.lst vs) ∧ vs[i]? = some x) where
  goes := fun i H hi h => by
    obtain ⟨vs, e, l⟩ := h
    exact ⟨vs, vs[i], .of e, List.getElem?_eq_getElem (by omega)⟩
  stops := fun H h => by
    obtain ⟨vs, e, l⟩ := h
    exact ⟨vs, .of e, by omega⟩
  yields := fun i H x H' hi h y => by
    obtain ⟨vs, e, l⟩ := h
    exact ⟨y.1, vs, e, y.2 vs (.of e)⟩
end
def unpinO (n : Nat) : SO → SO
  | .nx ρ => .nx (unpin n ρ)
  | .ct ρ => .ct (unpin n ρ)
  | .bk ρ => .bk (unpin n ρ)
  | .rt r ρ => .rt r (unpin n ρ)
  | .ex c ρ => .ex c (unpin n ρ)
def forO (b : D → Fr → Option Fr) (m : SM) (n k : Nat) : Nat → SM
  | 0, ρ => if endO n k ρ = true then some (.nx ρ) else none
  | j + 1, ρ => match curO n k (k - (j + 1)) ρ with
    | none => none
    | some d => match b d ρ with
      | none => none
      | some ρ1 => match m ρ1 with
        | some (.nx ρ2) => forO b m n k j ρ2
        | some (.ct ρ2) => forO b m n k j ρ2
        | some (.bk ρ2) => some (.nx ρ2)
        | o => o
def lcO (n k : Nat) (vs : List Nat) (b : D → Fr → Option Fr) (mt : M Bool) (me : M R) (sl : List Sl) : Nat → List D → Fr → Option (List D × Fr)
  | 0, acc, ρ => if endO n k ρ = true then some (acc, { ρ with sl := sl }) else none
  | j + 1, acc, ρ => match curO n k (k - (j + 1)) ρ with
    | none => none
    | some d => match b d { ρ with sl := wipeS sl vs } with
      | none => none
      | some ρ1 => match mt ρ1 with
        | some (.ok true ρ2) => match me ρ2 with
          | some (.ok r ρ3) => match toD r ρ3 with
            | some (.ok z ρ4) => if acc.length < 1000000 then lcO n k vs b mt me sl j (acc ++ [z]) ρ4 else none
            | _ => none
          | _ => none
        | some (.ok false ρ2) => lcO n k vs b mt me sl j acc ρ2
        | _ => none
def mLcO (vs : List Nat) (ms : M R) (b : D → Fr → Option Fr) (mt : M Bool) (me : M R) : M R := bnd ms fun r ρ => match ownL r ρ with
  | some p => (lcO p.1 p.2 vs b mt me ρ.sl p.2 [] ρ).map fun p => .ok (.own (.dl p.1)) p.2
  | none => bnd (seqD r) (fun l ρ => (lcL vs b mt me ρ.sl l [] ρ).map fun p => .ok (.own (.dl p.1)) p.2) ρ
def mForO (me : M R) (b : D → Fr → Option Fr) (m : SM) : SM := sBnd me fun r ρ => match ownL r ρ with
  | some p => (forO b m p.1 p.2 p.2 (pin ρ)).map (unpinO ρ.np)
  | none => sBnd (seqD r) (fun l => forL b m l) ρ
end XM
namespace XM
open PySem PySem.Spec PyProof.Rows L2 Tl
section
variable {X : Cx} {E : XK} {e elt tg iter : Expr} {ifs : List Expr} {pos : Pos} {scope : Scope} {own : List (Str × Nat)} {ws : List Nat} {b : D → Fr → Option Fr} {mt : M Bool} {me : M R} {m : SM} {B : Bs} {O : Ft} {A1 : Al} {ρ1 : Fr} {σ : L2.St} {H1 : Hp} {D : Ends} {out : SO}
/-- the rest of a walk -/
def ForW (K : PySem.W.Frag) (mg : Str → Option Value) (J : It) (ws : List Nat) (b : XM.D → Fr → Option Fr) (m : SM) (E : XK) (D : Ends) (σ : L2.St) (H1 : Hp) : Prop := ∃ W : Nat → Nat → L2.St → Hp → Prop, (∃ m, W 0 m σ H1) ∧ ∀ i n σ H, W i n σ H →
  (J.stop i H ∧ D.nx σ H) ∨ (J.go i H ∧ ∃ N : L2.St → Hp → Prop, (∀ σ' H', N σ' H' → ∃ m', m' < n ∧ W (i + 1) m' σ' H') ∧ ∀ x H', J.yld i H x H' → GRun K mg ws b x σ H' fun σ2 H2 => SRun K mg m E { D with nx := N, ct := N, bk := D.nx } σ2 H2)
theorem for_core {J : It} {l : List XM.D} (S1 : StC X.K X.mg B O A1 ρ1 σ H1) (it : ItOk X.K (hid (tot O A1) H1) J l) (hm : forL b m l ρ1 = some out) (kk : AftS X.K X.mg B O A1 H1 E D out) : ForW X.K X.mg J ws b m E D σ H1 := by
  obtain ⟨Gd, Y, wk, gd, yl⟩ := it
  refine for_it wk (fun i σ' H' => ∃ A' ρ', StC X.K X.mg B O A' ρ' σ' H' ∧ Sto O A1 H1 O A' H' ∧ forL b m (l.drop i) ρ' = some out) ⟨A1, ρ1, S1, Sto.refl, hm⟩ (fun i σ' H' _ z => ?_) (fun i x σ' H' H2 hi z y => ?_) fun σ' H' z => ?_
  · obtain ⟨A', ρ', _, st, _⟩ := z
    exact gd H' (st.sh.trans hid_sub)
  · obtain ⟨A', ρ', S', st, hf⟩ := z
    obtain ⟨d, ed, S2, st2, dq⟩ := S'.yield st.sh (yl i H' x H2 hi y)
    have eq : l.drop i = d :: l.drop (i + 1) := by
      obtain ⟨h1, h2⟩ := List.getElem?_eq_some_iff.mp ed
      rw [← h2]; exact List.drop_eq_getElem_cons h1
    rw [eq] at hf
    unfold forL at hf
    split at hf
    · cases hf
    · rename_i ρ2 eb
      refine ⟨B, O, A', ρ', ρ2, d, S2, dq, eb, fun σ3 _ S3 => ?_⟩
      have st3 : Sto O A1 H1 O A' H2 := st.trans st2.toSto fun _ n => n
      have later : ∀ {P : L2.St → Hp → Prop} {ρ3 : Fr}, forL b m (l.drop (i + 1)) ρ3 = some out → (∀ σ4 H4 A4, StC X.K X.mg B O A4 ρ3 σ4 H4 → Sto O A' H2 O A4 H4 → ∃ A5 ρ5, StC X.K X.mg B O A5 ρ5 σ4 H4 ∧ Sto O A1 H1 O A5 H4 ∧ forL b m (l.drop (i + 1)) ρ5 = some out) := fun hf σ4 H4 A4 S4 st4 => ⟨A4, _, S4, st3.trans st4 fun _ n => n, hf⟩
      cases em : m ρ2 with
      | none => rw [em] at hf; cases hf
      | some o =>
        rw [em] at hf
        refine ⟨B, O, A', ρ2, o, S3, em, ?_⟩
        cases o with
        | nx ρ3 => exact fun σ4 H4 A4 S4 st4 => later (P := fun _ _ => True) hf σ4 H4 A4 S4 st4
        | ct ρ3 => exact fun σ4 H4 A4 S4 st4 => later (P := fun _ _ => True) hf σ4 H4 A4 S4 st4
        | bk ρ3 =>
          cases hf
          exact fun σ4 H4 A4 S4 st4 => kk σ4 H4 A4 S4 (st3.trans st4 fun _ n => n)
        | rt r ρ3 =>
          cases hf
          exact fun σ4 v H4 A4 F4 S4 rr st4 => kk σ4 v H4 A4 F4 S4 rr (st3.trans st4 fun _ n => n)
        | ex c ρ3 =>
          cases hf
          exact fun C σ4 H4 A4 hc S4 st4 => kk C σ4 H4 A4 hc S4 (st3.trans st4 fun _ n => n)
  · obtain ⟨A', ρ', S', st, hf⟩ := z
    rw [List.drop_length] at hf
    cases hf
    exact kk σ' H' A' S' st
theorem forO_core {n k : Nat} {a : Addr} (S1 : StC X.K X.mg B O A1 ρ1 σ H1) (hB : B.l[n]? = some (.ref a)) (hm : forO b m n k k ρ1 = some out) (kk : AftS X.K X.mg B O A1 H1 E D out) : ForW X.K X.mg (Itl X.K a) ws b m E D σ H1 := by
  have at' : ∀ {A' : Al} {ρ' : Fr} {σ' : L2.St} {H' : Hp} {l : List XM.D} {pr : Option (Nat × Pl)}, StC X.K X.mg B O A' ρ' σ' H' → ρ'.rt[n]? = some ⟨.dl l, pr⟩ → ∃ vs, H' a = some (.lst vs) ∧ DqAll X.K (hid (tot O A') H') vs l := fun S' hx => S'.dlAt hx (S'.bas _ _ hB)
  refine for_it (walk_own (K := X.K) (a := a) (n := k)) (fun i σ' H' => ∃ A' ρ', StC X.K X.mg B O A' ρ' σ' H' ∧ Sto O A1 H1 O A' H' ∧ forO b m n k (k - i) ρ' = some out) ⟨A1, ρ1, S1, Sto.refl, hm⟩ (fun i σ' H' _ z => ?_) (fun i x σ' H' H2 hi z y => ?_) fun σ' H' z => ?_
  · obtain ⟨A', ρ', S', st, hf⟩ := z
    have : ∃ l pr, ρ'.rt[n]? = some ⟨.dl l, pr⟩ ∧ l.length = k := by
      cases hk : k - i with
      | zero =>
        rw [hk] at hf
        unfold forO at hf
        split at hf
        · rename_i c; exact endO_true c
        · cases hf
      | succ j =>
        rw [hk] at hf
        unfold forO at hf
        split at hf
        · cases hf
        · rename_i d ed
          obtain ⟨l, pr, h1, h2, _⟩ := curO_some ed
          exact ⟨l, pr, h1, h2⟩
    obtain ⟨l, pr, h1, h2⟩ := this
    obtain ⟨vs, h3, h4⟩ := at' S' h1
    exact ⟨vs, h3, by rw [DqAll_len h4]; exact h2⟩
  · obtain ⟨A', ρ', S', st, hf⟩ := z
    obtain ⟨rfl, vs, hv, hx⟩ := y
    have hk : k - i = (k - (i + 1)) + 1 := by omega
    rw [hk] at hf
    unfold forO at hf
    rw [show k - (k - (i + 1) + 1) = i by omega] at hf
    split at hf
    · cases hf
    · rename_i d ed
      obtain ⟨l, pr, h1, h2, h3⟩ := curO_some ed
      obtain ⟨vs', hv', dqs⟩ := at' S' h1
      rw [hv] at hv'
      cases hv'
      obtain ⟨v, ev, dq⟩ := DqAll_at dqs h3
      rw [hx] at ev
      cases ev
      split at hf
      · cases hf
      · rename_i ρ2 eb
        refine ⟨B, O, A', ρ', ρ2, d, S', dq, eb, fun σ3 _ S3 => ?_⟩
        have later : ∀ {ρ3 : Fr}, forO b m n k (k - (i + 1)) ρ3 = some out → (∀ σ4 H4 A4, StC X.K X.mg B O A4 ρ3 σ4 H4 → Sto O A' H2 O A4 H4 → ∃ A5 ρ5, StC X.K X.mg B O A5 ρ5 σ4 H4 ∧ Sto O A1 H1 O A5 H4 ∧ forO b m n k (k - (i + 1)) ρ5 = some out) := fun hf σ4 H4 A4 S4 st4 => ⟨A4, _, S4, st.trans st4 fun _ n => n, hf⟩
        cases em : m ρ2 with
        | none => rw [em] at hf; cases hf
        | some o =>
          rw [em] at hf
          refine ⟨B, O, A', ρ2, o, S3, em, ?_⟩
          cases o with
          | nx ρ3 => exact fun σ4 H4 A4 S4 st4 => later hf σ4 H4 A4 S4 st4
          | ct ρ3 => exact fun σ4 H4 A4 S4 st4 => later hf σ4 H4 A4 S4 st4
          | bk ρ3 =>
            cases hf
            exact fun σ4 H4 A4 S4 st4 => kk σ4 H4 A4 S4 (st.trans st4 fun _ n => n)
          | rt r ρ3 =>
            cases hf
            exact fun σ4 v H4 A4 F4 S4 rr st4 => kk σ4 v H4 A4 F4 S4 rr (st.trans st4 fun _ n => n)
          | ex c ρ3 =>
            cases hf
            exact fun C σ4 H4 A4 hc S4 st4 => kk C σ4 H4 A4 hc S4 (st.trans st4 fun _ n => n)
  · obtain ⟨A', ρ', S', st, hf⟩ := z
    rw [Nat.sub_self] at hf
    unfold forO at hf
    split at hf
    · cases hf
      exact kk σ' H' A' S' st
    · cases hf
theorem AftS.unpin {L : List V} {A : Al} {H : Hp} {out : SO} (h : ∀ (r : Nat) (v : V), B.l[r]? = some v → L[r]? = some v) (kk : AftS X.K X.mg B O A H E D (unpinO B.l.length out)) : AftS X.K X.mg ⟨L, B.η⟩ O A H E D out := by
  cases out with
  | nx ρ' => exact fun σ4 H4 A4 S4 st4 => kk σ4 H4 A4 (S4.unpin h) st4
  | ct ρ' => exact fun σ4 H4 A4 S4 st4 => kk σ4 H4 A4 (S4.unpin h) st4
  | bk ρ' => exact fun σ4 H4 A4 S4 st4 => kk σ4 H4 A4 (S4.unpin h) st4
  | rt r ρ' => exact fun σ4 v H4 A4 F4 S4 rr st4 => kk σ4 v H4 A4 F4 (S4.unpin h) rr st4
  | ex c ρ' => exact fun C σ4 H4 A4 hc S4 st4 => kk C σ4 H4 A4 hc (S4.unpin h) st4
theorem ownL_some {r : R} {ρ : Fr} {p : Nat × Nat} (h : ownL r ρ = some p) : ∃ l pr, r = .ref p.1 ∧ ρ.rt[p.1]? = some ⟨.dl l, pr⟩ ∧ l.length = p.2 := by
  unfold ownL at h
  split at h
  · rename_i n
    split at h
    · rename_i l pr e
      cases h
      exact ⟨l, pr, rfl, e, rfl⟩
    · cases h
  · cases h
/-- for tg in a list or a tuple; a list of one's own stays one's own -/
theorem ds_forO {body : List Stmt} (hp : PassesOwn (model X.prog X.w) X.A X.env X.xe) (hc : X.calm = true) (he : DE X E iter me) (hg : DG X tg ws b) (hb : DSs X E body m)
    (hs : ∀ x, foldedSetIterable iter X.env x = pure x := by intro _; rfl) : DS X E (.For tg iter body [] pos) (mForO me b m) := by
  refine ⟨ps_imp (ps_for hp hc (pi_seq he.pe) hg.pg hb.pss hs) fun D σ H h => ?_⟩
  obtain ⟨B, O, A, ρ, out, S, hm, kk⟩ := h
  unfold mForO sBnd at hm
  split at hm
  · cases hm
  · rename_i c' ρ1 e
    cases hm
    exact ⟨B, O, A, ρ, _, S, e, fun C H' A' hc S' st => kk C σ H' A' hc S' st⟩
  · rename_i r ρ1 e
    refine ⟨B, O, A, ρ, _, S, e, fun v H1 A1 F S1 rr st1 => ?_⟩
    dsimp only at hm
    split at hm
    · rename_i p ep
      obtain ⟨l, pr, rfl, hx, hl⟩ := ownL_some ep
      obtain ⟨rfl, ha⟩ := rr
      rw [add_zer] at S1 st1
      obtain ⟨F1, hA, ht⟩ := S1.root hx ha
      cases ht with
      | dl h1 r1 =>
      rename_i a vs
      refine ⟨a, rfl, .inl ⟨⟨vs, .of h1⟩, ?_⟩⟩
      cases ho : forO b m p.1 p.2 p.2 (pin ρ1) with
      | none => rw [ho] at hm; cases hm
      | some o =>
      rw [ho] at hm
      have hm := Option.some.inj hm
      subst hm
      have hB : (A1.map (·.1))[p.1]? = some (V.ref a) := by rw [List.getElem?_map, hA]; rfl
      have up : ∀ (r : Nat) (v : V), B.l[r]? = some v → (A1.map (·.1))[r]? = some v := fun r v h => by
        have := S1.bas r v h
        unfold XM.al at this
        rw [List.getElem?_map]
        exact this
      have en : B.l.length = ρ1.np := S1.bnp
      rw [← en] at kk
      exact forO_core (E := E) S1.pin hB ho (AftS.unpin up (kk.later st1.toSto))
    · rcases hq : seqD r ρ1 with _ | o
      · rw [hq] at hm; cases hm
      · obtain ⟨l, ρ', A', a, vs, rfl, rfl, S', sq, dq, st⟩ := seq_ok S1 rr hq
        rw [hq] at hm
        have st' := st1.trans st fun a n => add_l n
        rcases sq with sq | sq
        · exact ⟨a, rfl, .inl ⟨⟨vs, (show Same _ H1 from hid_sub).seq sq⟩, for_core (E := E) S' (it_list sq dq) hm (kk.later st'.toSto)⟩⟩
        · exact ⟨a, rfl, .inr ⟨⟨vs, Tl.Same.tup hid_sub sq⟩, for_core (E := E) S' (it_tup sq dq) hm (kk.later st'.toSto)⟩⟩
end
end XM
namespace XM
open PySem PySem.Spec PyProof.Rows L2 Tl
section
variable {X : Cx} {E : XK} {e elt tg iter : Expr} {ifs : List Expr} {pos : Pos} {scope : Scope} {own : List (Str × Nat)} {ws vs : List Nat} {b : XM.D → Fr → Option Fr} {mt : M Bool} {me : M R} {B : Bs} {O : Ft} {A1 : Al} {ρ1 : Fr} {σ : L2.St} {H1 : Hp} {Q : VK} {p : List XM.D × Fr}
def LcW (K : PySem.W.Frag) (mg : Str → Option Value) (J : It) (ws vs : List Nat) (b : XM.D → Fr → Option Fr) (mt : M Bool) (me : M R) (σ : L2.St) (H1 : Hp) (D : Addr) (Qd : Hp → Prop) : Prop := ∃ W : Nat → Nat → Hp → Prop, (∃ m, W 0 m (upd H1 D (.lst []))) ∧ ∀ i m H, W i m H →
  (J.stop i H ∧ Qd H) ∨ (J.go i H ∧ ∃ Nx : Hp → Prop, (∀ H', Nx H' → ∃ m', m' < m ∧ W (i + 1) m' H') ∧ ∀ x H', J.yld i H x H' → GRun K mg ws b x (wipe σ vs) H' fun σ2 H2 => wipe σ2 vs = wipe σ vs ∧ TRun K mg mt EF σ2 H2 fun b H3 =>
    if b = true then ERun K mg me EF σ2 H3 fun y H4 => ∃ acc, H4 D = some (.lst acc) ∧ acc.length < sizeLine ∧ Nx (upd H4 D (.lst (acc ++ [y]))) else Nx H3)
theorem lc_core {J : It} {l : List XM.D} {D : Addr} {Qd : Hp → Prop} (hw : ∀ w ∈ ws, w ∈ vs) (S1 : StC X.K X.mg B O A1 ρ1 σ H1) (it : ItOk X.K (hid (tot O A1) H1) J l) (nD : H1 D = none) (hp : lcL vs b mt me ρ1.sl l [] ρ1 = some p)
    (fin : ∀ (A' : Al) (ρ' : Fr) (acc : List XM.D) (xs : List V) (H' : Hp), StC X.K X.mg B (add O (one D)) A' { ρ' with sl := ρ1.sl } σ H' → Stp O A1 H1 (add O (one D)) A' H' → H' D = some (.lst xs) → DqAll X.K (hid (tot (add O (one D)) A') H') xs acc → p = (acc, { ρ' with sl := ρ1.sl }) → Qd H') :
    LcW X.K X.mg J ws vs b mt me σ H1 D Qd := by
  obtain ⟨Gd, Y, wk, gd, yl⟩ := it
  obtain ⟨S2, st2⟩ := S1.newO (o := .lst []) nD
  have free : tot O A1 D = 0 := S1.free nD
  refine lc_it wk (Qd := Qd) (fun i H' => ∃ A' ρ' acc xs, StC X.K X.mg B (add O (one D)) A' { ρ' with sl := ρ1.sl } σ H' ∧ Stp O A1 H1 (add O (one D)) A' H' ∧ H' D = some (.lst xs) ∧ DqAll X.K (hid (tot (add O (one D)) A') H') xs acc ∧ lcL vs b mt me ρ1.sl (l.drop i) acc ρ' = some p)
    ⟨A1, ρ1, [], [], S2, st2, upd_same, .nil, hp⟩ (fun i H' _ z => ?_) (fun i x H' H2 hi z y => ?_) fun H' z => ?_
  · obtain ⟨A', ρ', acc, xs, S', st', _⟩ := z
    exact gd H' (st'.sh.trans hid_sub)
  · obtain ⟨A', ρ', acc, xs, S', st', hD, dq, hl⟩ := z
    obtain ⟨d, ed, S3, st3, dx⟩ := S'.yield st'.sh (yl i H' x H2 hi y)
    have eq : l.drop i = d :: l.drop (i + 1) := by
      obtain ⟨h1, h2⟩ := List.getElem?_eq_some_iff.mp ed
      rw [← h2]; exact List.drop_eq_getElem_cons h1
    rw [eq] at hl
    unfold lcL at hl
    have oD : add O (one D) D ≠ 0 := by unfold add; rw [one_self]; omega
    have st13 := st'.trans st3 fun a n => add_l n
    split at hl
    · cases hl
    · rename_i ρ2 eb
      refine ⟨B, add O (one D), A', _, ρ2, d, S3.wiped vs, dx, eb, fun σ3 o3 S4 => ⟨(o3 vs hw).trans wipe_wipe, ?_⟩⟩
      split at hl
      · rename_i ρ3 et
        refine ⟨B, add O (one D), A', ρ2, _, S4, et, fun H5 A5 S5 st5 => ?_⟩
        dsimp only
        rw [if_pos rfl]
        split at hl
        · rename_i r ρ4 ee
          refine ⟨B, add O (one D), A5, ρ3, _, S5, ee, fun v H6 A6 F6 S6 rr st6 => ?_⟩
          split at hl
          · rename_i zz ρ5 ez
            split at hl
            · rename_i sm
              obtain ⟨d', ρ5', A7, eo, S7, dz, st7⟩ := give S6 rr ez
              cases eo
              have st37 : Stp (add O (one D)) A' H2 (add O (one D)) A7 H6 := (st5.trans st6 fun _ n => n).trans ⟨⟨fun _ _ => rfl, st7.sh⟩, st7.al⟩ fun a n => add_l n
              have hD6 : H6 D = some (.lst xs) := by rw [st37.out D oD, st3.out D oD]; exact hD
              have dq6 : DqAll X.K (hid (tot (add O (one D)) A7) H6) xs acc := DqAll_same (st3.sh.trans st37.sh) dq
              have zD : sumF A7 D = 0 := by have := S7.le1 D; unfold tot add at this; rw [one_self] at this; omega
              have S8 := S3.reslot S7 st37
              have pD : tot (add O (one D)) A7 D ≠ 0 := by unfold tot; exact add_l oD
              have w8 : Same (hid (tot (add O (one D)) A7) H6) (hid (tot (add O (one D)) A7) (upd H6 D (.lst (xs ++ [v])))) := fun a u h => by
                obtain ⟨q, h⟩ := hid_some h
                exact hid_at q (by rw [upd_ne fun z => pD (by rw [z] at q; exact q)]; exact h)
              have S9 : StC X.K X.mg B (add O (one D)) A7 { ρ5 with sl := ρ1.sl } σ (upd H6 D (.lst (xs ++ [v]))) := S8.move w8 (fun a n => upd_ne fun z => n (by rw [z]; exact zD)) S8.le1 fun a n => by
                by_cases q : a = D
                · rw [q, upd_same]; simp
                · rw [upd_ne q]; exact S8.al a n
              refine ⟨xs, hD6, by rw [DqAll_len dq, sizeLine_eq]; omega, A7, ρ5, acc ++ [zz], xs ++ [v], S9, ⟨⟨fun a n => ?_, ?_⟩, fun r u q => st37.al r u (st13.al r u q)⟩, upd_same, DqAll_same w8 (DqAll_app dq6 (.cons dz .nil)), hl⟩
              · have ne : a ≠ D := fun z => by rw [z] at n; unfold tot add at free; omega
                rw [upd_ne ne, st37.out a (add_l n)]
                exact st13.out a n
              · exact (st13.sh.trans st37.sh).trans w8
            · cases hl
          · cases hl
        · cases hl
      · rename_i ρ3 et
        refine ⟨B, add O (one D), A', ρ2, _, S4, et, fun H5 A5 S5 st5 => ?_⟩
        dsimp only
        rw [if_neg (by decide)]
        have st35 : Stp (add O (one D)) A' H2 (add O (one D)) A5 H5 := st5
        exact ⟨A5, ρ3, acc, xs, S3.reslot S5 st35, st13.trans st5 fun a n => add_l n, by rw [st5.out D oD, st3.out D oD]; exact hD, DqAll_same (st3.sh.trans st5.sh) dq, hl⟩
      · cases hl
  · obtain ⟨A', ρ', acc, xs, S', st', hD, dq, hl⟩ := z
    rw [List.drop_length] at hl
    cases hl
    exact fin A' ρ' _ xs H' S' st' hD dq rfl
theorem lcO_core {n k : Nat} {a : Addr} {D : Addr} {Qd : Hp → Prop} (hw : ∀ w ∈ ws, w ∈ vs) (S1 : StC X.K X.mg B O A1 ρ1 σ H1) (ha : XM.al A1 n = some (.ref a)) (nD : H1 D = none) (hp : lcO n k vs b mt me ρ1.sl k [] ρ1 = some p)
    (fin : ∀ (A' : Al) (ρ' : Fr) (acc : List XM.D) (xs : List V) (H' : Hp), StC X.K X.mg B (add O (one D)) A' { ρ' with sl := ρ1.sl } σ H' → Stp O A1 H1 (add O (one D)) A' H' → H' D = some (.lst xs) → DqAll X.K (hid (tot (add O (one D)) A') H') xs acc → p = (acc, { ρ' with sl := ρ1.sl }) → Qd H') :
    LcW X.K X.mg (Itl X.K a) ws vs b mt me σ H1 D Qd := by
  have at' : ∀ {A' : Al} {ρ' : Fr} {H' : Hp} {l : List XM.D} {pr : Option (Nat × Pl)} {sl : List Sl}, StC X.K X.mg B (add O (one D)) A' { ρ' with sl := sl } σ H' → Stp O A1 H1 (add O (one D)) A' H' → ρ'.rt[n]? = some ⟨.dl l, pr⟩ → ∃ ys, H' a = some (.lst ys) ∧ DqAll X.K (hid (tot (add O (one D)) A') H') ys l := fun S' st hx => S'.dlAt hx (st.al _ _ ha)
  obtain ⟨S2, st2⟩ := S1.newO (o := .lst []) nD
  have free : tot O A1 D = 0 := S1.free nD
  refine lc_it (walk_own (K := X.K) (a := a) (n := k)) (Qd := Qd) (fun i H' => ∃ A' ρ' acc xs, StC X.K X.mg B (add O (one D)) A' { ρ' with sl := ρ1.sl } σ H' ∧ Stp O A1 H1 (add O (one D)) A' H' ∧ H' D = some (.lst xs) ∧ DqAll X.K (hid (tot (add O (one D)) A') H') xs acc ∧ lcO n k vs b mt me ρ1.sl (k - i) acc ρ' = some p)
    ⟨A1, ρ1, [], [], S2, st2, upd_same, .nil, hp⟩ (fun i H' _ z => ?_) (fun i x H' H2 hi z y => ?_) fun H' z => ?_
  · obtain ⟨A', ρ', acc, xs, S', st', _, _, hl⟩ := z
    have : ∃ l pr, ρ'.rt[n]? = some ⟨.dl l, pr⟩ ∧ l.length = k := by
      cases hk : k - i with
      | zero =>
        rw [hk] at hl
        unfold lcO at hl
        split at hl
        · rename_i c; exact endO_true c
        · cases hl
      | succ j =>
        rw [hk] at hl
        unfold lcO at hl
        split at hl
        · cases hl
        · rename_i d ed
          obtain ⟨l, pr, h1, h2, _⟩ := curO_some ed
          exact ⟨l, pr, h1, h2⟩
    obtain ⟨l, pr, h1, h2⟩ := this
    obtain ⟨ys, h3, h4⟩ := at' S' st' h1
    exact ⟨ys, h3, by rw [DqAll_len h4]; exact h2⟩
  · obtain ⟨A', ρ', acc, xs, S', st', hD, dq, hl⟩ := z
    obtain ⟨rfl, ys, hv, hx⟩ := y
    have hk : k - i = (k - (i + 1)) + 1 := by omega
    rw [hk] at hl
    unfold lcO at hl
    rw [show k - (k - (i + 1) + 1) = i by omega] at hl
    split at hl
    · cases hl
    rename_i d ed
    obtain ⟨l, pr, h1, h2, h3⟩ := curO_some ed
    obtain ⟨ys', hv', dqs⟩ := at' S' st' h1
    rw [hv] at hv'
    cases hv'
    obtain ⟨v0, ev, dx⟩ := DqAll_at dqs h3
    rw [hx] at ev
    cases ev
    have S3 := S'
    have st3 : Stp (add O (one D)) A' H2 (add O (one D)) A' H2 := Stp.refl
    have oD : add O (one D) D ≠ 0 := by unfold add; rw [one_self]; omega
    have st13 := st'.trans st3 fun a n => add_l n
    split at hl
    · cases hl
    · rename_i ρ2 eb
      refine ⟨B, add O (one D), A', _, ρ2, d, S3.wiped vs, dx, eb, fun σ3 o3 S4 => ⟨(o3 vs hw).trans wipe_wipe, ?_⟩⟩
      split at hl
      · rename_i ρ3 et
        refine ⟨B, add O (one D), A', ρ2, _, S4, et, fun H5 A5 S5 st5 => ?_⟩
        dsimp only
        rw [if_pos rfl]
        split at hl
        · rename_i r ρ4 ee
          refine ⟨B, add O (one D), A5, ρ3, _, S5, ee, fun v H6 A6 F6 S6 rr st6 => ?_⟩
          split at hl
          · rename_i zz ρ5 ez
            split at hl
            · rename_i sm
              obtain ⟨d', ρ5', A7, eo, S7, dz, st7⟩ := give S6 rr ez
              cases eo
              have st37 : Stp (add O (one D)) A' H2 (add O (one D)) A7 H6 := (st5.trans st6 fun _ n => n).trans ⟨⟨fun _ _ => rfl, st7.sh⟩, st7.al⟩ fun a n => add_l n
              have hD6 : H6 D = some (.lst xs) := by rw [st37.out D oD, st3.out D oD]; exact hD
              have dq6 : DqAll X.K (hid (tot (add O (one D)) A7) H6) xs acc := DqAll_same (st3.sh.trans st37.sh) dq
              have zD : sumF A7 D = 0 := by have := S7.le1 D; unfold tot add at this; rw [one_self] at this; omega
              have S8 := S3.reslot S7 st37
              have pD : tot (add O (one D)) A7 D ≠ 0 := by unfold tot; exact add_l oD
              have w8 : Same (hid (tot (add O (one D)) A7) H6) (hid (tot (add O (one D)) A7) (upd H6 D (.lst (xs ++ [v])))) := fun a u h => by
                obtain ⟨q, h⟩ := hid_some h
                exact hid_at q (by rw [upd_ne fun z => pD (by rw [z] at q; exact q)]; exact h)
              have S9 : StC X.K X.mg B (add O (one D)) A7 { ρ5 with sl := ρ1.sl } σ (upd H6 D (.lst (xs ++ [v]))) := S8.move w8 (fun a n => upd_ne fun z => n (by rw [z]; exact zD)) S8.le1 fun a n => by
                by_cases q : a = D
                · rw [q, upd_same]; simp
                · rw [upd_ne q]; exact S8.al a n
              refine ⟨xs, hD6, by rw [DqAll_len dq, sizeLine_eq]; omega, A7, ρ5, acc ++ [zz], xs ++ [v], S9, ⟨⟨fun a n => ?_, ?_⟩, fun r u q => st37.al r u (st13.al r u q)⟩, upd_same, DqAll_same w8 (DqAll_app dq6 (.cons dz .nil)), hl⟩
              · have ne : a ≠ D := fun z => by rw [z] at n; unfold tot add at free; omega
                rw [upd_ne ne, st37.out a (add_l n)]
                exact st13.out a n
              · exact (st13.sh.trans st37.sh).trans w8
            · cases hl
          · cases hl
        · cases hl
      · rename_i ρ3 et
        refine ⟨B, add O (one D), A', ρ2, _, S4, et, fun H5 A5 S5 st5 => ?_⟩
        dsimp only
        rw [if_neg (by decide)]
        have st35 : Stp (add O (one D)) A' H2 (add O (one D)) A5 H5 := st5
        exact ⟨A5, ρ3, acc, xs, S3.reslot S5 st35, st13.trans st5 fun a n => add_l n, by rw [st5.out D oD, st3.out D oD]; exact hD, DqAll_same (st3.sh.trans st5.sh) dq, hl⟩
      · cases hl
  · obtain ⟨A', ρ', acc, xs, S', st', hD, dq, hl⟩ := z
    rw [Nat.sub_self] at hl
    unfold lcO at hl
    split at hl
    · cases hl
      exact fin A' ρ' _ xs H' S' st' hD dq rfl
    · cases hl
theorem run_lcO {H : Hp} {ms : M R} (hw : ∀ w ∈ ws, w ∈ vs) (h : ERun X.K X.mg (mLcO vs ms b mt me) E σ H Q) : tLc (iSeq X.K (ERun X.K X.mg ms E)) (GRun X.K X.mg ws b) (TRun X.K X.mg mt EF) (ERun X.K X.mg me EF) vs σ H Q := by
  obtain ⟨B, O, A, ρ, out, S, hm, k⟩ := h
  rcases bnd_some hm with ⟨c, ρ1, e, eo⟩ | ⟨r, ρ1, e, hk⟩
  · exact ⟨B, O, A, ρ, _, S, e, fun C H' A' hc S' st => k.exc c ρ1 eo C H' A' hc S' st⟩
  · refine ⟨B, O, A, ρ, _, S, e, fun v H1 A1 F S1 rr st1 => ?_⟩
    split at hk
    · rename_i q eq
      obtain ⟨l, pr, rfl, hx, hl⟩ := ownL_some eq
      obtain ⟨rfl, ha⟩ := rr
      rw [add_zer] at S1 st1
      obtain ⟨F1, hA, ht⟩ := S1.root hx ha
      cases ht with
      | dl h1 r1 =>
      rename_i a ys
      refine ⟨a, rfl, .inl ⟨⟨ys, .of h1⟩, fun D nD => ?_⟩⟩
      cases hp : lcO q.1 q.2 vs b mt me ρ1.sl q.2 [] ρ1 with
      | none => rw [hp] at hk; cases hk
      | some p =>
      rw [hp] at hk
      have hk := Option.some.inj hk
      subst hk
      exact lcO_core (Qd := fun H' => Q (.ref D) H') hw S1 ha nD hp fun A' ρ' acc xs H' S' st' hD dq ep => by
        subst ep
        exact fin_own k.oks (F := one D) S' (st1.trans st' fun _ n => n) (.dl hD dq)
    · rcases bnd_some hk with ⟨c, ρ2, e2, eo⟩ | ⟨l, ρ2, e2, hk2⟩
      · obtain ⟨_, _, _, _, _, z, _⟩ := seq_ok S1 rr e2
        cases z
      · obtain ⟨l', ρ', A', a, ys, z, rfl, S', sq, dq, st⟩ := seq_ok S1 rr e2
        cases z
        have st' := st1.trans st fun a n => add_l n
        cases hp : lcL vs b mt me ρ2.sl l [] ρ2 with
        | none => rw [hp] at hk2; cases hk2
        | some p =>
        rw [hp] at hk2
        have hk2 := Option.some.inj hk2
        subst hk2
        have go : ∀ J, ItOk X.K (hid (tot O A') H1) J l → ∀ D, H1 D = none → LcW X.K X.mg J ws vs b mt me σ H1 D (fun H' => Q (.ref D) H') := fun J it D nD =>
          lc_core hw S' it nD hp fun A5 ρ5 acc xs H5 S5 st5 hD dq5 ep => by
            subst ep
            exact fin_own k.oks (F := one D) S5 (st'.trans st5 fun _ n => n) (.dl hD dq5)
        rcases sq with sq | sq
        · exact ⟨a, rfl, .inl ⟨⟨ys, (show Same _ H1 from hid_sub).seq sq⟩, go _ (it_list sq dq)⟩⟩
        · exact ⟨a, rfl, .inr ⟨⟨ys, Tl.Same.tup hid_sub sq⟩, go _ (it_tup sq dq)⟩⟩
theorem de_lcO {ms : M R} (hc : X.calm = true) (hN : X.N.Nodup) (hi : DE X E iter ms) (ok : BlkOk X.N X.env.scope scope own) (hg : ∀ (s : Shared) (H : Hp) (C : Addr) (cl : List (Str × Addr)) (fp : List Addr), DG (X.blk s H scope (compEnvC scope cl C X.env) fp) tg ws b)
    (ht : ∀ (s : Shared) (H : Hp) (C : Addr) (cl : List (Str × Addr)) (fp : List Addr), DTs (X.blk s H scope (compEnvC scope cl C X.env) fp) EF ifs mt) (he : ∀ (s : Shared) (H : Hp) (C : Addr) (cl : List (Str × Addr)) (fp : List Addr), DE (X.blk s H scope (compEnvC scope cl C X.env) fp) EF elt me)
    (hw : ∀ w ∈ ws, w ∈ own.map (·.2) := by decide) (hs : ∀ x, foldedSetIterable iter X.env x = pure x := by intro _; rfl) : DE X E (.ListComp elt [⟨tg, iter, ifs, 0⟩] scope pos) (mLcO (own.map (·.2)) ms b mt me) :=
  ⟨pe_imp (pe_lc (g := GRun X.K X.mg ws b) (tt := TRun X.K X.mg mt EF) (te := ERun X.K X.mg me EF) hc hN (pi_seq hi.pe) ok (fun s H C cl fp => (hg s H C cl fp).pg) (fun s H C cl fp => (ht s H C cl fp).pts) (fun s H C cl fp => (he s H C cl fp).pe) hs) fun σ H Q h => run_lcO hw h⟩
theorem ds_setLcO {i : Nat} {y : Str} {py spos : Pos} {ms : M R} (hc : X.calm = true) (hN : X.N.Nodup) (hy : X.N[i]? = some y) (hyl : X.env.scope.names.lookup y = some .local)
    (hsw : swapsWith (.ListComp elt [⟨tg, iter, ifs, 0⟩] scope pos) (some (.Name y py)) spos.line X.env = pure true) (hi : DE X E iter ms) (ok : BlkOk X.N X.env.scope scope own) (hg : ∀ (s : Shared) (H : Hp) (C : Addr) (cl : List (Str × Addr)) (fp : List Addr), DG (X.blk s H scope (compEnvC scope cl C X.env) fp) tg ws b)
    (ht : ∀ (s : Shared) (H : Hp) (C : Addr) (cl : List (Str × Addr)) (fp : List Addr), DTs (X.blk s H scope (compEnvC scope cl C X.env) fp) EF ifs mt) (he : ∀ (s : Shared) (H : Hp) (C : Addr) (cl : List (Str × Addr)) (fp : List Addr), DE (X.blk s H scope (compEnvC scope cl C X.env) fp) EF elt me)
    (hw : ∀ w ∈ ws, w ∈ own.map (·.2) := by decide) (hs : ∀ x, foldedSetIterable iter X.env x = pure x := by intro _; rfl) : DS X E (.Assign [.Name y py] (.ListComp elt [⟨tg, iter, ifs, 0⟩] scope pos) spos) (mSet i (mLcO (own.map (·.2)) ms b mt me)) := by
  refine ⟨ps_imp (ps_setLc (g := GRun X.K X.mg ws b) (tt := TRun X.K X.mg mt EF) (te := ERun X.K X.mg me EF) hc hN hy hyl hsw (pi_seq hi.pe) ok (fun s H C cl fp => (hg s H C cl fp).pg) (fun s H C cl fp => (ht s H C cl fp).pts) (fun s H C cl fp => (he s H C cl fp).pe) hs) fun D σ H h => ?_⟩
  obtain ⟨B, O, A, ρ, out, S, hm, kk⟩ := h
  refine run_lcO hw ?_
  refine run_st S kk hm fun r ρ1 v H1 A1 F hk S1 rr st => ?_
  cases hk
  obtain ⟨A3, S3, s3⟩ := S1.setS rr i
  exact kk _ H1 A3 S3 ⟨st.out, st.sh.trans s3⟩
end
end XM
end
section
namespace Cm
open PySem PySem.Spec PyProof.Rows L2 Tl XM
/-! number_bytes : 0 number, 1 size, 2 place -/
def b_number_bytes : SM :=
  (mRet (mLc [2] (mRev1 (mSlot 1)) (bName 2) mYes (mOp fAnd (mOp fShr (mSlot 0) (mOp fMulL (mC (.int 8)) (mSlot 2))) (mC (.int 255)))))
def m_number_bytes : FM := mDef 3 b_number_bytes
/-! write_byte : 0 number -/
def b_write_byte : SM :=
  (mRet (mCall0 m_number_bytes [(mSlot 0), (mC (.int 1))]))
def m_write_byte : FM := mDef 1 b_write_byte
/-! write_short : 0 number -/
def b_write_short : SM :=
  (mRet (mCall0 m_number_bytes [(mSlot 0), (mC (.int 2))]))
def m_write_short : FM := mDef 1 b_write_short
/-! write_long : 0 number -/
def b_write_long : SM :=
  (mRet (mCall0 m_number_bytes [(mSlot 0), (mC (.int 4))]))
def m_write_long : FM := mDef 1 b_write_long
/-! write_flag : 0 flag -/
def b_write_flag : SM :=
  (mRet (mIfE (asB (mSlot 0)) (mLst [(mC (.int 1))]) (mLst [(mC (.int 0))])))
def m_write_flag : FM := mDef 1 b_write_flag
/-! write_state : 0 state -/
def b_write_state : SM :=
  (mRet (mCall0 m_write_byte [(mTIndex ["none", "open", "failed"] (mSlot 0))]))
def m_write_state : FM := mDef 1 b_write_state
/-! write_string : 0 string, 1 character -/
def b_write_string : SM :=
  (mRet (mLstA (mStar (mCall0 m_write_byte [(mB fLen [(mSlot 0)])]) (mStar (mLc [1] (mStrI (mSlot 0)) (bName 1) mYes (mB (f1 fOrd) [(mSlot 1)])) (mArgs [])))))
def m_write_string : FM := mDef 2 b_write_string
/-! write_value : 0 value -/
def b_write_value : SM :=
  (mSeq (mIf (asB (mIsi .str (mSlot 0)))
    (mRet (mLstA (mCons (mC (.int 1)) (mStar (mCall0 m_write_string [(mSlot 0)]) (mArgs []))))) mNx)
  (mRet (mLstA (mCons (mC (.int 0)) (mStar (mCall0 m_write_long [(mSlot 0)]) (mArgs []))))))
def m_write_value : FM := mDef 1 b_write_value
/-! write_values : 0 values, 1 data, 2 value -/
def b_write_values : SM :=
  (mSeq (mSet 1 (mCall0 m_write_byte [(mB fLen [(mSlot 0)])]))
  (mSeq (mForO (mSlot 0) (bName 2)
    (mExpr (mExtend (mSlot 1) (mCall0 m_write_value [(mSlot 2)]))))
  (mRet (mSlot 1))))
def m_write_values : FM := mDef 3 b_write_values
/-! write_rows : 0 rows, 1 data, 2 row -/
def b_write_rows : SM :=
  (mSeq (mSet 1 (mCall0 m_write_byte [(mB fLen [(mSlot 0)])]))
  (mSeq (mForO (mSlot 0) (bName 2)
    (mExpr (mExtend (mSlot 1) (mCall0 m_write_values [(mSlot 2)]))))
  (mRet (mSlot 1))))
def m_write_rows : FM := mDef 3 b_write_rows
/-! swap_rows : 0 word, 1 fields -/
def b_swap_rows : SM :=
  (mRet (mIfE (asB (mOp fEq (mSlot 0) (mC (.str "rows")))) (mRev (mSlot 1)) (mSlot 1)))
def m_swap_rows : FM := mDef 2 b_swap_rows
def tb_WRITERS : List (Str × Str) := [("long", "write_long"), ("most", "write_short"), ("parameters", "write_byte"), ("count", "write_byte"), ("flag", "write_flag"), ("state", "write_state"), ("name", "write_string"), ("statement", "write_string"), ("reason", "write_string"), ("values", "write_values"), ("rows", "write_rows")]
def fm_WRITERS : List (Str × FM) := [("write_byte", m_write_byte), ("write_short", m_write_short), ("write_long", m_write_long), ("write_flag", m_write_flag), ("write_state", m_write_state), ("write_string", m_write_string), ("write_values", m_write_values), ("write_rows", m_write_rows)]
/-! message_bytes : 0 forms, 1 message, 2 word, 3 fields, 4 kind, 5 names, 6 body, 7 name, 8 field, 9 write, 10 form -/
def b_message_bytes : SM :=
  (mSeq (mUnp1 2 3 (mSlot 1))
  (mSeq (mSet 4 (mOp fAdd (mIndex (mLcO [10] (mSlot 0) (bName 10) mYes (mItems false fIx (mSlot 10) (mC (.int 0)))) (mSlot 2)) (mC (.int 1))))
  (mSeq (mSet 5 (mSlice (mItems false fIx (mSlot 0) (mOp fSub (mSlot 4) (mC (.int 1)))) (some (mC (.int 1))) none))
  (mSeq (mSet 6 (mLst []))
  (mSeq (mFor (mZipTL (mSlot 5) (mCall0 m_swap_rows [(mSlot 2), (mSlot 3)])) (bTup 2 (bCons (bName 7) (bCons (bName 8) bNil)))
    (mSeq (mSet 9 (mFD tb_WRITERS (mSlot 7)))
    (mExpr (mExtend (mSlot 6) (mCallF 9 fm_WRITERS [(mSlot 8)])))))
  (mRet (mLstA (mCons (mSlot 4) (mStar (mCall0 m_number_bytes [(mB fLen [(mSlot 6)]), (mC (.int 2))]) (mStar (mSlot 6) (mArgs [])))))))))))
def m_message_bytes : FM := mDef 11 b_message_bytes
/-! client_bytes : 0 message -/
def b_client_bytes : SM :=
  (mRet (mCall0 m_message_bytes [(mC (.tuple [(.tuple [(.str "hello"), (.str "long"), (.str "long")]), (.tuple [(.str "prepare"), (.str "name"), (.str "statement")]), (.tuple [(.str "bind"), (.str "name"), (.str "name"), (.str "values")]), (.tuple [(.str "run"), (.str "name"), (.str "most")]), (.tuple [(.str "forget"), (.str "name")]), (.tuple [(.str "close"), (.str "name")]), (.tuple [(.str "sync"), (.str "long"), (.str "long")])])), (mSlot 0)]))
def m_client_bytes : FM := mDef 1 b_client_bytes
/-! server_bytes : 0 message -/
def b_server_bytes : SM :=
  (mRet (mCall0 m_message_bytes [(mC (.tuple [(.tuple [(.str "welcome"), (.str "long"), (.str "long")]), (.tuple [(.str "refused"), (.str "name")]), (.tuple [(.str "ready"), (.str "long"), (.str "state")]), (.tuple [(.str "prepared"), (.str "parameters")]), (.tuple [(.str "bound")]), (.tuple [(.str "closed")]), (.tuple [(.str "skipped")]), (.tuple [(.str "rows"), (.str "flag"), (.str "rows")]), (.tuple [(.str "complete"), (.str "count")]), (.tuple [(.str "wrong"), (.str "reason")])])), (mSlot 0)]))
def m_server_bytes : FM := mDef 1 b_server_bytes
/-! _law_cell : 0 script, 1 k -/
def b_law_cell : SM :=
  (mSeq (mIf (asB (mOp fLt (mSlot 1) (mB fLen [(mSlot 0)])))
    (mRet (mItems false fIx (mSlot 0) (mSlot 1))) mNx)
  (mRet (mC (.int 0))))
def m_law_cell : FM := mDef 2 b_law_cell
/-! _law_row : 0 cell, 1 count, 2 row, 3 rest, 4 seed, 5 k -/
def b_law_row : SM :=
  (mSeq (mSet 2 (mLst []))
  (mSeq (mSet 3 (mSlot 0))
  (mSeq (mSet 4 (mOp fAdd (mOp fMod (mB (f1 fInt) [(mSlot 0)]) (mC (.int 2147483629))) (mC (.int 1))))
  (mSeq (mFor (mRng1 (mSlot 1)) (bName 5)
    (mIf (asB (mOp fGe (mSlot 0) (mOp fPow (mC (.int 10)) (mC (.int 18)))))
      (mSeq (mExpr (mAppend (mSlot 2) (mOp fMod (mB (f1 fInt) [(mSlot 3)]) (mC (.int 840)))))
      (mSet 3 (mOp fDiv (mSlot 3) (mC (.int 840)))))
      (mSeq (mSet 4 (mOp fMod (mB (f1 fInt) [(mOp fAdd (mOp fMul (mSlot 4) (mC (.int 48271))) (mSlot 5))]) (mC (.int 2147483647))))
      (mExpr (mAppend (mSlot 2) (mOp fMod (mOp fDiv (mOp fMod (mB (f1 fInt) [(mOp fMul (mSlot 4) (mC (.int 69621)))]) (mC (.int 2147483629))) (mC (.int 7))) (mC (.int 840))))))))
  (mRet (mSlot 2))))))
def m_law_row : FM := mDef 6 b_law_row
/-! _law_name : 0 number, 1 letters, 2 k -/
def b_law_name : SM :=
  (mSeq (mSet 1 (mC (.str "abcdefghijklmnopqrstuvwxyz")))
  (mRet (mJoin (mC (.str "")) (mLc [2] (mRng1 (mOp fAdd (mC (.int 1)) (mOp fMod (mSlot 0) (mC (.int 8))))) (bName 2) mYes (mIx (mSlot 1) (mOp fMod (mOp fDiv (mSlot 0) (mOp fAdd (mC (.int 1)) (mOp fMulL (mC (.int 3)) (mSlot 2)))) (mC (.int 26))))))))
def m_law_name : FM := mDef 3 b_law_name
/-! _law_text : 0 number, 1 signs, 2 texts, 3 count, 4 k -/
def b_law_text : SM :=
  (mSeq (mSet 1 (mOp fAdd (mC (.str " !#$&()*+,-./0123456789:;<=>?@ABCDEFGHIJKLMNOPQRSTUVWXYZ[\\]^_`abcdefghijklmnopqrstuvwxyz{|}~")) (mC (.str "\""))))
  (mSeq (mSet 2 (mLst [(mC (.str "")), (mC (.str " ")), (mC (.str "a b")), (mC (.str "it")), (mC (.str "$1")), (mC (.str "-5")), (mC (.str "~!#")), (mOp fMulS (mC (.str "x")) (mC (.int 40))), (mC (.str "Ab 9")), (mC (.str "  ")), (mC (.str "7")), (mC (.str "put"))]))
  (mSeq (mIf (asB (mOp fEq (mOp fMod (mSlot 0) (mC (.int 3))) (mC (.int 0))))
    (mSeq (mSet 3 (mOp fAdd (mC (.int 1)) (mOp fMod (mOp fDiv (mSlot 0) (mC (.int 3))) (mC (.int 40)))))
    (mRet (mJoin (mC (.str "")) (mLc [4] (mRng1 (mSlot 3)) (bName 4) mYes (mIx (mSlot 1) (mOp fMod (mOp fAdd (mOp fMulL (mC (.int 7)) (mOp fDiv (mSlot 0) (mC (.int 3)))) (mOp fMul (mSlot 4) (mOp fAdd (mC (.int 1)) (mOp fMod (mSlot 0) (mC (.int 5)))))) (mC (.int 93)))))))) mNx)
  (mSeq (mIf (asB (mOp fEq (mOp fMod (mSlot 0) (mC (.int 13))) (mC (.int 12))))
    (mRet (mCall0 m_law_name [(mOp fDiv (mSlot 0) (mC (.int 13)))])) mNx)
  (mRet (mItems false fIx (mSlot 2) (mOp fMod (mOp fMod (mSlot 0) (mC (.int 13))) (mC (.int 12)))))))))
def m_law_text : FM := mDef 5 b_law_text
/-! _law_value : 0 number -/
def b_law_value : SM :=
  (mSeq (mIf (asB (mOp fLt (mOp fMod (mSlot 0) (mC (.int 5))) (mC (.int 2))))
    (mRet (mOp fSub (mOp fMod (mOp fDiv (mSlot 0) (mC (.int 5))) (mC (.int 7))) (mC (.int 3)))) mNx)
  (mSeq (mIf (asB (mOp fEq (mOp fMod (mSlot 0) (mC (.int 5))) (mC (.int 2))))
    (mRet (mOp fSub (mOp fMod (mOp fAdd (mOp fMul (mOp fMul (mSlot 0) (mC (.int 5113))) (mC (.int 40503))) (mC (.int 12345))) (mC (.int 4294967296))) (mC (.int 2147483648)))) mNx)
  (mSeq (mIf (asB (mOp fEq (mOp fMod (mSlot 0) (mC (.int 5))) (mC (.int 3))))
    (mRet (mItems false fIx (mLst [(mC (.int 2147483647)), (mV1 fNeg (mC (.int 2147483648))), (mC (.int 1000000)), (mC (.int 0)), (mC (.int 255)), (mC (.int 256)), (mV1 fNeg (mC (.int 1)))]) (mOp fMod (mOp fDiv (mSlot 0) (mC (.int 5))) (mC (.int 7))))) mNx)
  (mRet (mCall0 m_law_text [(mOp fDiv (mSlot 0) (mC (.int 5)))])))))
def m_law_value : FM := mDef 1 b_law_value
/-! _law_term : 0 number, 1 used, 2 value -/
def b_law_term : SM :=
  (mSeq (mIf (mAndT (asB (mOp fEq (mOp fMod (mSlot 0) (mC (.int 7))) (mC (.int 0)))) (asB (mOp fLt (mSlot 1) (mC (.int 4)))))
    (mRet (mTup [(mC (.str "parameter")), (mOp fAdd (mSlot 1) (mC (.int 1)))])) mNx)
  (mSeq (mIf (mAndT (asB (mOp fEq (mOp fMod (mSlot 0) (mC (.int 7))) (mC (.int 1)))) (asB (mOp fGt (mSlot 1) (mC (.int 0)))))
    (mRet (mTup [(mC (.str "parameter")), (mOp fAdd (mC (.int 1)) (mOp fMod (mOp fDiv (mSlot 0) (mC (.int 7))) (mSlot 1)))])) mNx)
  (mSeq (mSet 2 (mCall0 m_law_value [(mOp fDiv (mSlot 0) (mC (.int 7)))]))
  (mSeq (mIf (asB (mIsi .str (mSlot 2)))
    (mRet (mTup [(mC (.str "text")), (mSlot 2)])) mNx)
  (mRet (mSlot 2))))))
def m_law_term : FM := mDef 3 b_law_term
/-! _law_used : 0 parts, 1 numbers, 2 part -/
def b_law_used : SM :=
  (mSeq (mSet 1 (mLcO [2] (mSlot 0) (bName 2) (mAndT (asB (mIsi .tuple (mSlot 2))) (asB (mOp fEq (mItems false fIx (mSlot 2) (mC (.int 0))) (mC (.str "parameter"))))) (mItems false fIx (mSlot 2) (mC (.int 1)))))
  (mRet (mB fMax [(mCat (mLst [(mC (.int 0))]) (mSlot 1))])))
def m_law_used : FM := mDef 3 b_law_used
/-! _law_statement : 0 row, 1 names, 2 words, 3 word, 4 parts, 5 count, 6 k -/
def b_law_statement : SM :=
  (mSeq (mSet 2 (mLst [(mC (.str "create")), (mC (.str "put")), (mC (.str "put")), (mC (.str "scan")), (mC (.str "begin")), (mC (.str "commit")), (mC (.str "put")), (mC (.str "get")), (mC (.str "delete")), (mC (.str "total")), (mC (.str "scan")), (mC (.str "save")), (mC (.str "undo"))]))
  (mSeq (mSet 2 (mCat (mSlot 2) (mLst [(mC (.str "rollback")), (mC (.str "drop")), (mC (.str "create")), (mC (.str "put")), (mC (.str "begin")), (mC (.str "save")), (mC (.str "undo")), (mC (.str "scan"))])))
  (mSeq (mSet 3 (mItems false fIx (mSlot 2) (mOp fMod (mItems false fIx (mSlot 0) (mC (.int 0))) (mB fLen [(mSlot 2)]))))
  (mSeq (mIf (asB (mOp fIn (mSlot 3) (mLst [(mC (.str "begin")), (mC (.str "commit")), (mC (.str "rollback"))])))
    (mRet (mTup [(mSlot 3)])) mNx)
  (mSeq (mSet 4 (mLst [(mSlot 3), (mItems false fIx (mSlot 1) (mOp fMod (mItems false fIx (mSlot 0) (mC (.int 1))) (mB fLen [(mSlot 1)])))]))
  (mSeq (mSet 5 (mDGet2 ["put", "get", "delete", "scan"] [(mC (.int 2)), (mC (.int 1)), (mC (.int 1)), (mOp fMulL (mC (.int 2)) (mOp fMod (mItems false fIx (mSlot 0) (mC (.int 2))) (mC (.int 2))))] (mSlot 3) (mC (.int 0))))
  (mSeq (mIf (mAndT (asB (mOp fEq (mSlot 5) (mC (.int 2)))) (asB (mOp fEq (mOp fMod (mItems false fIx (mSlot 0) (mC (.int 5))) (mC (.int 3))) (mC (.int 0)))))
    (mRet (mTup [(mSlot 3), (mItems false fIx (mSlot 4) (mC (.int 1))), (mTup [(mC (.str "parameter")), (mC (.int 2))]), (mTup [(mC (.str "parameter")), (mC (.int 1))])])) mNx)
  (mSeq (mFor (mRng1 (mSlot 5)) (bName 6)
    (mExpr (mAppend (mSlot 4) (mCall0 m_law_term [(mOp fAdd (mItems false fIx (mSlot 0) (mOp fAdd (mC (.int 3)) (mSlot 6))) (mOp fMulL (mC (.int 840)) (mItems false fIx (mSlot 0) (mOp fSub (mC (.int 5)) (mOp fMulL (mC (.int 3)) (mSlot 6)))))), (mCall0 m_law_used [(mSlot 4)])]))))
  (mRet (mB fTup [(mSlot 4)]))))))))))
def m_law_statement : FM := mDef 7 b_law_statement
/-! _law_written : 0 parts, 1 words, 2 part -/
def b_law_written : SM :=
  (mSeq (mSet 1 (mLst []))
  (mSeq (mForO (mSlot 0) (bName 2)
    (mIf (asB (mIsi .str (mSlot 2)))
      (mExpr (mAppend (mSlot 1) (mSlot 2)))
      (mIf (asB (mIsi .int (mSlot 2)))
        (mExpr (mAppend (mSlot 1) (mB (f1 fStrI) [(mSlot 2)])))
        (mIf (asB (mOp fEq (mItems false fIx (mSlot 2) (mC (.int 0))) (mC (.str "text"))))
          (mExpr (mAppend (mSlot 1) (mOp fAdd (mOp fAdd (mC (.str "'")) (mItems false fIx (mSlot 2) (mC (.int 1)))) (mC (.str "'")))))
          (mExpr (mAppend (mSlot 1) (mOp fAdd (mC (.str "$")) (mB (f1 fStrI) [(mItems false fIx (mSlot 2) (mC (.int 1)))]))))))))
  (mRet (mJoin (mC (.str " ")) (mSlot 1)))))
def m_law_written : FM := mDef 3 b_law_written
/-! _law_unit : 0 row, 1 name, 2 portal, 3 menu, 4 parts, 5 values, 6 most, 7 commands, 8 k -/
def b_law_unit : SM :=
  (mSeq (mSet 1 (mItems false fIx (mLst [(mC (.str "stmta")), (mC (.str "stmtb")), (mC (.str "stmt")), (mC (.str "savexabc")), (mC (.str "savexabd")), (mC (.str "begin"))]) (mOp fMod (mItems false fIx (mSlot 0) (mC (.int 0))) (mC (.int 6)))))
  (mSeq (mSet 2 (mItems false fIx (mLst [(mC (.str "porta")), (mC (.str "portb")), (mC (.str "port")), (mC (.str "savexabc")), (mSlot 1), (mSlot 1)]) (mOp fMod (mItems false fIx (mSlot 0) (mC (.int 1))) (mC (.int 6)))))
  (mSeq (mSet 3 (mItems false fIx (mLst [(mLst [(mC (.str "tab")), (mC (.str "tax")), (mC (.str "tabb"))]), (mLst [(mC (.str "tab")), (mC (.str "begin")), (mC (.str "put"))]), (mLst [(mC (.str "tablelow")), (mC (.str "tablelox")), (mC (.str "tab"))])]) (mItems false fIx (mLst [(mC (.int 0)), (mC (.int 0)), (mC (.int 1)), (mC (.int 2))]) (mOp fMod (mOp fDiv (mItems false fIx (mSlot 0) (mC (.int 14))) (mC (.int 18))) (mC (.int 4))))))
  (mSeq (mSet 4 (mCall0 m_law_statement [(mSlice (mSlot 0) (some (mC (.int 2))) (some (mC (.int 8)))), (mSlot 3)]))
  (mSeq (mSet 5 (mLc [8] (mRng1 (mCall0 m_law_used [(mSlot 4)])) (bName 8) mYes (mCall0 m_law_value [(mItems false fIx (mSlot 0) (mOp fAdd (mC (.int 8)) (mSlot 8)))])))
  (mSeq (mIf (asB (mOp fEq (mOp fMod (mItems false fIx (mSlot 0) (mC (.int 12))) (mC (.int 9))) (mC (.int 0))))
    (mSet 5 (mSlice (mCat (mSlice (mSlot 5) (some (mC (.int 1))) none) (mRep (mLst [(mC (.int 5)), (mC (.str "x"))]) (mOp fMod (mOp fDiv (mItems false fIx (mSlot 0) (mC (.int 12))) (mC (.int 9))) (mC (.int 3))))) none (some (mC (.int 4))))) mNx)
  (mSeq (mSet 6 (mItems false fIx (mLst [(mC (.int 0)), (mOp fMod (mOp fDiv (mItems false fIx (mSlot 0) (mC (.int 13))) (mC (.int 4))) (mC (.int 24))), (mC (.int 0)), (mC (.int 1000))]) (mOp fMod (mItems false fIx (mSlot 0) (mC (.int 13))) (mC (.int 4)))))
  (mSeq (mSet 7 (mLst [(mTup [(mC (.str "close")), (mSlot 2)]), (mTup [(mC (.str "forget")), (mSlot 1)]), (mTup [(mC (.str "prepare")), (mSlot 1), (mCall0 m_law_written [(mSlot 4)])])]))
  (mSeq (mSet 7 (mCat (mSlot 7) (mLst [(mTup [(mC (.str "bind")), (mSlot 2), (mSlot 1), (mB fTup [(mSlot 5)])]), (mTup [(mC (.str "run")), (mSlot 2), (mSlot 6)])])))
  (mSeq (mIf (asB (mOp fEq (mOp fMod (mItems false fIx (mSlot 0) (mC (.int 14))) (mC (.int 6))) (mC (.int 0))))
    (mExpr (mAppend (mSlot 7) (mTup [(mC (.str "run")), (mSlot 2), (mOp fMod (mItems false fIx (mSlot 0) (mC (.int 15))) (mC (.int 3)))]))) mNx)
  (mSeq (mIf (asB (mOp fEq (mOp fMod (mItems false fIx (mSlot 0) (mC (.int 14))) (mC (.int 6))) (mC (.int 1))))
    (mSet 7 (mSlice (mSlot 7) (some (mOp fMod (mItems false fIx (mSlot 0) (mC (.int 15))) (mC (.int 5)))) none)) mNx)
  (mSeq (mIf (asB (mOp fEq (mOp fMod (mItems false fIx (mSlot 0) (mC (.int 14))) (mC (.int 18))) (mC (.int 2))))
    (mSetIx (mTup [(mC (.str "prepare")), (mSlot 1), (mItems false fIx (mLst [(mC (.str "put t 1")), (mC (.str "scan t $2 1")), (mC (.str "PUT t 1 1")), (mC (.str "")), (mOp fMulS (mC (.str "y")) (mOp fAdd (mC (.int 99)) (mOp fMod (mItems false fIx (mSlot 0) (mC (.int 15))) (mC (.int 102)))))]) (mOp fMod (mItems false fIx (mSlot 0) (mC (.int 15))) (mC (.int 5))))]) (mSlot 7) (mC (.int 2))) mNx)
  (mRet (mSlot 7))))))))))))))
def m_law_unit : FM := mDef 9 b_law_unit
/-! _law_units : 0 cell, 1 count, 2 row, 3 commands, 4 k -/
def b_law_units : SM :=
  (mSeq (mSet 2 (mCall0 m_law_row [(mSlot 0), (mOp fMulL (mC (.int 16)) (mSlot 1))]))
  (mSeq (mSet 3 (mLst []))
  (mSeq (mFor (mRng1 (mSlot 1)) (bName 4)
    (mSet 3 (mCat (mSlot 3) (mCall0 m_law_unit [(mSlice (mSlot 2) (some (mOp fMulL (mC (.int 16)) (mSlot 4))) (some (mOp fAdd (mOp fMulL (mC (.int 16)) (mSlot 4)) (mC (.int 16)))))]))))
  (mRet (mSlice (mSlot 3) none (some (mC (.int 20))))))))
def m_law_units : FM := mDef 5 b_law_units
/-! _law_big : 0 number, 1 count, 2 data, 3 k -/
def b_law_big : SM :=
  (mSeq (mSet 2 (mLst []))
  (mSeq (mFor (mRng1 (mSlot 1)) (bName 3)
    (mSeq (mSet 2 (mCat (mLst [(mOp fMod (mB (f1 fInt) [(mSlot 0)]) (mC (.int 256)))]) (mSlot 2)))
    (mSet 0 (mOp fDiv (mSlot 0) (mC (.int 256))))))
  (mRet (mSlot 2))))
def m_law_big : FM := mDef 4 b_law_big
/-! _law_code : 0 sign, 1 signs, 2 k -/
def b_law_code : SM :=
  (mSeq (mSet 1 (mC (.str " !\"#$&'()*+,-./0123456789:;<=>?@ABCDEFGHIJKLMNOPQRSTUVWXYZ[\\]^_`abcdefghijklmnopqrstuvwxyz{|}~")))
  (mSeq (mFor (mRng1 (mC (.int 94))) (bName 2)
    (mIf (asB (mOp fEq (mIx (mSlot 1) (mSlot 2)) (mSlot 0)))
      (mRet (mOp fAdd (mOp fAdd (mC (.int 32)) (mSlot 2)) (mB (f1 fInt) [(mOp fGt (mSlot 2) (mC (.int 4)))]))) mNx))
  (mRet (mC (.int 0)))))
def m_law_code : FM := mDef 3 b_law_code
/-! _law_string : 0 string, 1 sign -/
def b_law_string : SM :=
  (mRet (mCat (mLst [(mB fLen [(mSlot 0)])]) (mLc [1] (mStrI (mSlot 0)) (bName 1) mYes (mCall0 m_law_code [(mSlot 1)]))))
def m_law_string : FM := mDef 2 b_law_string
/-! _law_values : 0 values, 1 data, 2 value -/
def b_law_values : SM :=
  (mSeq (mSet 1 (mLst [(mB fLen [(mSlot 0)])]))
  (mSeq (mForO (mSlot 0) (bName 2)
    (mIf (asB (mIsi .str (mSlot 2)))
      (mSet 1 (mCat (mCat (mSlot 1) (mLst [(mC (.int 1))])) (mCall0 m_law_string [(mSlot 2)])))
      (mSet 1 (mCat (mCat (mSlot 1) (mLst [(mC (.int 0))])) (mCall0 m_law_big [(mOp fMod (mSlot 2) (mOp fPow (mC (.int 2)) (mC (.int 32)))), (mC (.int 4))])))))
  (mRet (mSlot 1))))
def m_law_values : FM := mDef 3 b_law_values
/-! _law_client_bytes : 0 message, 1 word, 2 kind, 3 body -/
def b_law_client_bytes : SM :=
  (mSeq (mSet 1 (mItems false fIx (mSlot 0) (mC (.int 0))))
  (mSeq (mSet 2 (mIndex (mLst [(mC (.str "")), (mC (.str "hello")), (mC (.str "prepare")), (mC (.str "bind")), (mC (.str "run")), (mC (.str "forget")), (mC (.str "close")), (mC (.str "sync"))]) (mSlot 1)))
  (mSeq (mIf (asB (mOp fIn (mSlot 1) (mLst [(mC (.str "hello")), (mC (.str "sync"))])))
    (mSet 3 (mCat (mCall0 m_law_big [(mItems false fIx (mSlot 0) (mC (.int 1))), (mC (.int 4))]) (mCall0 m_law_big [(mItems false fIx (mSlot 0) (mC (.int 2))), (mC (.int 4))])))
    (mSet 3 (mCall0 m_law_string [(mItems false fIx (mSlot 0) (mC (.int 1)))])))
  (mSeq (mIf (asB (mOp fEq (mSlot 1) (mC (.str "prepare"))))
    (mSet 3 (mCat (mSlot 3) (mCall0 m_law_string [(mItems false fIx (mSlot 0) (mC (.int 2)))]))) mNx)
  (mSeq (mIf (asB (mOp fEq (mSlot 1) (mC (.str "bind"))))
    (mSet 3 (mCat (mCat (mSlot 3) (mCall0 m_law_string [(mItems false fIx (mSlot 0) (mC (.int 2)))])) (mCall0 m_law_values [(mItems false fIx (mSlot 0) (mC (.int 3)))]))) mNx)
  (mSeq (mIf (asB (mOp fEq (mSlot 1) (mC (.str "run"))))
    (mSet 3 (mCat (mSlot 3) (mCall0 m_law_big [(mItems false fIx (mSlot 0) (mC (.int 2))), (mC (.int 2))]))) mNx)
  (mRet (mCat (mCat (mLst [(mSlot 2)]) (mCall0 m_law_big [(mB fLen [(mSlot 3)]), (mC (.int 2))])) (mSlot 3)))))))))
def m_law_client_bytes : FM := mDef 4 b_law_client_bytes
/-! _law_server_bytes : 0 message, 1 words, 2 word, 3 body, 4 row -/
def b_law_server_bytes : SM :=
  (mSeq (mSet 1 (mLst [(mC (.str "")), (mC (.str "welcome")), (mC (.str "refused")), (mC (.str "ready")), (mC (.str "prepared")), (mC (.str "bound")), (mC (.str "closed")), (mC (.str "skipped")), (mC (.str "rows")), (mC (.str "complete")), (mC (.str "wrong"))]))
  (mSeq (mSet 2 (mItems false fIx (mSlot 0) (mC (.int 0))))
  (mSeq (mSet 3 (mLst []))
  (mSeq (mIf (asB (mOp fEq (mSlot 2) (mC (.str "welcome"))))
    (mSet 3 (mCat (mCall0 m_law_big [(mItems false fIx (mSlot 0) (mC (.int 1))), (mC (.int 4))]) (mCall0 m_law_big [(mItems false fIx (mSlot 0) (mC (.int 2))), (mC (.int 4))]))) mNx)
  (mSeq (mIf (asB (mOp fEq (mSlot 2) (mC (.str "ready"))))
    (mSet 3 (mCat (mCall0 m_law_big [(mItems false fIx (mSlot 0) (mC (.int 1))), (mC (.int 4))]) (mLst [(mIndex (mLst [(mC (.str "none")), (mC (.str "open")), (mC (.str "failed"))]) (mItems false fIx (mSlot 0) (mC (.int 2))))]))) mNx)
  (mSeq (mIf (asB (mOp fIn (mSlot 2) (mLst [(mC (.str "refused")), (mC (.str "wrong"))])))
    (mSet 3 (mCall0 m_law_string [(mItems false fIx (mSlot 0) (mC (.int 1)))])) mNx)
  (mSeq (mIf (asB (mOp fIn (mSlot 2) (mLst [(mC (.str "prepared")), (mC (.str "complete"))])))
    (mSet 3 (mLst [(mItems false fIx (mSlot 0) (mC (.int 1)))])) mNx)
  (mSeq (mIf (asB (mOp fEq (mSlot 2) (mC (.str "rows"))))
    (mSeq (mSet 3 (mLst [(mB (f1 fInt) [(mItems false fIx (mSlot 0) (mC (.int 2)))]), (mB fLen [(mItems false fIx (mSlot 0) (mC (.int 1)))])]))
    (mForO (mItems false fIx (mSlot 0) (mC (.int 1))) (bName 4)
      (mSet 3 (mCat (mSlot 3) (mCall0 m_law_values [(mSlot 4)]))))) mNx)
  (mRet (mCat (mCat (mLst [(mIndex (mSlot 1) (mSlot 2))]) (mCall0 m_law_big [(mB fLen [(mSlot 3)]), (mC (.int 2))])) (mSlot 3)))))))))))
def m_law_server_bytes : FM := mDef 5 b_law_server_bytes
/-! _law_reply : 0 row, 1 words, 2 rows, 3 replies, 4 k, 5 j -/
def b_law_reply : SM :=
  (mSeq (mSet 1 (mLst [(mC (.str "taken")), (mC (.str "crowded")), (mC (.str "unreadable")), (mC (.str "no statement")), (mC (.str "values")), (mC (.str "no portal")), (mC (.str "failed")), (mC (.str "at end")), (mC (.str "exists")), (mC (.str "no table"))]))
  (mSeq (mSet 1 (mCat (mSlot 1) (mLst [(mC (.str "full")), (mC (.str "in transaction")), (mC (.str "no transaction")), (mC (.str "rolled back")), (mC (.str "no savepoint"))])))
  (mSeq (mSet 2 (mLc [4] (mRng1 (mOp fMod (mItems false fIx (mSlot 0) (mC (.int 2))) (mC (.int 21)))) (bName 4) mYes (mB fTup [(mLc [5] (mRng1 (mOp fAdd (mC (.int 1)) (mOp fMod (mItems false fIx (mSlot 0) (mC (.int 1))) (mC (.int 2))))) (bName 5) mYes (mCall0 m_law_value [(mItems false fIx (mSlot 0) (mOp fAdd (mSlot 4) (mOp fMulL (mC (.int 2)) (mSlot 5))))]))])))
  (mSeq (mSet 3 (mLst [(mTup [(mC (.str "prepared")), (mOp fMod (mItems false fIx (mSlot 0) (mC (.int 1))) (mC (.int 5)))]), (mTup [(mC (.str "bound"))]), (mTup [(mC (.str "closed"))]), (mTup [(mC (.str "skipped"))]), (mTup [(mC (.str "rows")), (mSlot 2), (mOp fEq (mOp fMod (mItems false fIx (mSlot 0) (mC (.int 3))) (mC (.int 2))) (mC (.int 0)))])]))
  (mSeq (mSet 3 (mCat (mSlot 3) (mLst [(mTup [(mC (.str "rows")), (mSlot 2), (mC (.bool false))]), (mTup [(mC (.str "complete")), (mOp fMod (mItems false fIx (mSlot 0) (mC (.int 1))) (mC (.int 21)))]), (mTup [(mC (.str "wrong")), (mItems false fIx (mSlot 1) (mOp fMod (mItems false fIx (mSlot 0) (mC (.int 1))) (mB fLen [(mSlot 1)])))])])))
  (mRet (mItems false fIx (mSlot 3) (mOp fMod (mItems false fIx (mSlot 0) (mC (.int 0))) (mC (.int 8))))))))))
def m_law_reply : FM := mDef 6 b_law_reply
/-! _law_large : 0 row -/
def b_law_large : SM :=
  (mRet (mOp fDiv (mItems false fIx (mLst [(mC (.int 0)), (mC (.int 1)), (mC (.int 255)), (mC (.int 256)), (mC (.int 65535)), (mC (.int 65536)), (mC (.int 4294967295)), (mC (.int 16777216))]) (mOp fMod (mItems false fIx (mSlot 0) (mC (.int 0))) (mC (.int 8)))) (mOp fAdd (mC (.int 1)) (mOp fMod (mItems false fIx (mSlot 0) (mC (.int 1))) (mC (.int 3))))))
def m_law_large : FM := mDef 1 b_law_large
/-! _law_pure : 0 data, 1 byte -/
def b_law_pure : SM :=
  (mRet (mAndV (mIsi .list (mSlot 0)) (mOp fEq (mB fLen [(mLcO [1] (mSlot 0) (bName 1) (mOrT (asB (mIsi .bool (mSlot 1))) (mNotT (asB (mIsi .int (mSlot 1))))) (mSlot 1))]) (mC (.int 0)))))
def m_law_pure : FM := mDef 2 b_law_pure
/-! _law_holds : 0 of_client, 1 message, 2 kept, 3 due, 4 told -/
def b_law_holds : SM :=
  (mSeq (mSet 2 (mB (f1 fRepr) [(mSlot 1)]))
  (mSeq (mIf (asB (mSlot 0))
    (mSeq (mSet 3 (mCall0 m_law_client_bytes [(mSlot 1)]))
    (mSet 4 (mCall0 m_client_bytes [(mSlot 1)])))
    (mSeq (mSet 3 (mCall0 m_law_server_bytes [(mSlot 1)]))
    (mSet 4 (mCall0 m_server_bytes [(mSlot 1)]))))
  (mRet (mAndV (mCall0 m_law_pure [(mSlot 4)]) (mAndV (mOp fEqD (mSlot 4) (mSlot 3)) (mOp fEq (mB (f1 fRepr) [(mSlot 1)]) (mSlot 2)))))))
def m_law_holds : FM := mDef 5 b_law_holds
/-! _law_listed : 0 message, 1 row -/
def b_law_listed : SM :=
  (mSeq (mIf (asB (mOp fEq (mItems false fIx (mSlot 0) (mC (.int 0))) (mC (.str "bind"))))
    (mRet (mLst [(mItems false fIx (mSlot 0) (mC (.int 0))), (mItems false fIx (mSlot 0) (mC (.int 1))), (mItems false fIx (mSlot 0) (mC (.int 2))), (mB fList [(mItems false fIx (mSlot 0) (mC (.int 3)))])])) mNx)
  (mSeq (mIf (asB (mOp fEq (mItems false fIx (mSlot 0) (mC (.int 0))) (mC (.str "rows"))))
    (mRet (mTup [(mItems false fIx (mSlot 0) (mC (.int 0))), (mB fTup [(mLcO [1] (mItems false fIx (mSlot 0) (mC (.int 1))) (bName 1) mYes (mB fList [(mSlot 1)]))]), (mItems false fIx (mSlot 0) (mC (.int 2)))])) mNx)
  (mRet (mB fList [(mSlot 0)]))))
def m_law_listed : FM := mDef 2 b_law_listed
/-! law : 0 script, 1 commands, 2 command, 3 cell, 4 row, 5 word, 6 messages, 7 message -/
def b_law : SM :=
  (mSeq (mSet 1 (mCall0 m_law_units [(mCall0 m_law_cell [(mSlot 0), (mC (.int 0))]), (mC (.int 4))]))
  (mSeq (mExpr (mAppend (mSlot 1) (mTup [(mC (.str "prepare")), (mC (.str "s")), (mOp fMulS (mC (.str "xy z")) (mOp fMod (mOp fDiv (mCall0 m_law_cell [(mSlot 0), (mC (.int 0))]) (mC (.int 3))) (mC (.int 51))))])))
  (mSeq (mExpr (mAppend (mSlot 1) (mTup [(mC (.str "bind")), (mC (.str "p")), (mC (.str "q")), (mSlice (mTup [(mC (.int 1)), (mC (.str "two")), (mV1 fNeg (mC (.int 3))), (mC (.str ""))]) none (some (mOp fMod (mOp fDiv (mCall0 m_law_cell [(mSlot 0), (mC (.int 0))]) (mC (.int 5))) (mC (.int 5)))))])))
  (mSeq (mForO (mSlot 1) (bName 2)
    (mIf (mOrT (mNotT (asB (mCall0 m_law_holds [(mC (.bool true)), (mSlot 2)]))) (mNotT (asB (mCall0 m_law_holds [(mC (.bool true)), (mCall0 m_law_listed [(mSlot 2)])]))))
      (mRet (mC (.bool false))) mNx))
  (mSeq (mForO (mCat (mLst [(mCall0 m_law_cell [(mSlot 0), (mC (.int 1))]), (mCall0 m_law_cell [(mSlot 0), (mC (.int 2))])]) (mSlice (mSlot 0) (some (mC (.int 3))) (some (mC (.int 13))))) (bName 3)
    (mSeq (mSet 4 (mCall0 m_law_row [(mSlot 3), (mC (.int 30))]))
    (mSeq (mForO (mLst [(mC (.str "hello")), (mC (.str "sync"))]) (bName 5)
      (mIf (mNotT (asB (mCall0 m_law_holds [(mC (.bool true)), (mTup [(mSlot 5), (mCall0 m_law_large [(mSlice (mSlot 4) none (some (mC (.int 2))))]), (mCall0 m_law_large [(mSlice (mSlot 4) (some (mC (.int 2))) (some (mC (.int 4))))])])])))
        (mRet (mC (.bool false))) mNx))
    (mSeq (mSet 6 (mLst [(mTup [(mC (.str "welcome")), (mCall0 m_law_large [(mSlice (mSlot 4) (some (mC (.int 5))) (some (mC (.int 7))))]), (mCall0 m_law_large [(mSlice (mSlot 4) (some (mC (.int 7))) (some (mC (.int 9))))])]), (mTup [(mC (.str "refused")), (mCall0 m_law_name [(mItems false fIx (mSlot 4) (mC (.int 4)))])]), (mCall0 m_law_reply [(mSlot 4)])]))
    (mSeq (mExpr (mAppend (mSlot 6) (mTup [(mC (.str "ready")), (mCall0 m_law_large [(mSlice (mSlot 4) (some (mC (.int 9))) (some (mC (.int 11))))]), (mItems false fIx (mLst [(mC (.str "none")), (mC (.str "open")), (mC (.str "failed"))]) (mOp fMod (mItems false fIx (mSlot 4) (mC (.int 11))) (mC (.int 3))))])))
    (mForO (mSlot 6) (bName 7)
      (mIf (mOrT (mNotT (asB (mCall0 m_law_holds [(mC (.bool false)), (mSlot 7)]))) (mNotT (asB (mCall0 m_law_holds [(mC (.bool false)), (mCall0 m_law_listed [(mSlot 7)])]))))
        (mRet (mC (.bool false))) mNx)))))))
  (mRet (mC (.bool true))))))))
def m_law : FM := mDef 8 b_law
end Cm
end
section
/-! keys (0, a number) and (1, a text), mixed: their order, and that the sort finds it -/
namespace SM
open PySem PySem.Spec PyProof.Rows
/-- a key's second part -/
inductive KV where
  | n (i : Int) | s (x : Str)
def tagOf : KV → Int
  | .n _ => 0
  | .s _ => 1
def datOf : KV → PyData
  | .n i => .int i
  | .s x => .str x
def keyD (k : KV) : PyData := .tuple [.int (tagOf k), datOf k]
theorem alike_same {k j : KV} (h : tagOf k = tagOf j) : W.alike (datOf k) (datOf j) = true := by
  cases k <;> cases j <;> first | rfl | (simp [tagOf] at h)
theorem dat_ne (k : KV) : datOf k ≠ PyData.none ∧ ∀ xs, datOf k ≠ PyData.tuple xs := by
  cases k <;> exact ⟨(fun h => by cases h), (fun xs h => by cases h)⟩
theorem dat_depth (k : KV) : (datOf k).depth = 0 := by cases k <;> rfl
theorem reads_dat {h : Heap} {v : Value} {k j : KV} {as bs : List Addr} (a : Reads h v (datOf k) as) (b : Reads h v (datOf j) bs) : datOf k = datOf j := by
  cases k <;> cases j <;> cases a <;> cases b <;> rfl
theorem reads_key {h : Heap} {v : Value} {k : KV} {as : List Addr} (a : Reads h v (keyD k) as) : ∃ p o n x y xs ys, v = .ref p ∧ h.get? p = some o ∧ o.cls = Value.type "tuple" ∧ o.data = Data.seq #[x, y] n ∧ Reads h x (.int (tagOf k)) xs ∧ Reads h y (datOf k) ys := by
  cases a with
  | @tuple p o vs n _ _ e1 e2 e3 e4 =>
    obtain ⟨l⟩ := vs
    cases e4 with
    | @cons v1 _ _ _ r1 _ q1 q2 =>
      cases q2 with
      | @cons v2 _ _ _ r2 _ q3 q4 =>
        cases q4
        exact ⟨p, o, n, v1, v2, _, _, rfl, e1, e2, e3, q1, q3⟩
theorem key_inj {k j : KV} (h : keyD k = keyD j) : k = j := by
  cases k <;> cases j <;> simp [keyD, tagOf, datOf] at h <;> simp [h]
theorem key_uniq {h : Heap} {v : Value} {k j : KV} {as bs : List Addr} (a : Reads h v (keyD k) as) (b : Reads h v (keyD j) bs) : k = j := by
  obtain ⟨p, o, n, x, y, xs, ys, e, o1, _, d1, r1, r2⟩ := reads_key a
  obtain ⟨p', o', n', x', y', xs', ys', e', o1', _, d1', r1', r2'⟩ := reads_key b
  rw [e] at e'
  cases e'
  rw [o1] at o1'
  cases o1'
  rw [d1] at d1'
  cases d1'
  have z : datOf k = datOf j := reads_dat r2 r2'
  cases k <;> cases j <;> first | (cases z; rfl) | cases z
/-- the order of keys, as the sort's own -/
noncomputable def kind (h : Heap) : KeyKind := { toKeyOrd := listOrd itemOrd, keyOf := fun v => open Classical in if q : ∃ k : KV, ∃ as, Reads h v (keyD k) as then some (W.keyToks (keyD q.choose)) else none, dflt := [] }
theorem kind_at {h : Heap} {v : Value} {k : KV} {as : List Addr} (a : Reads h v (keyD k) as) : (kind h).keyOf v = some (W.keyToks (keyD k)) := by
  unfold kind
  dsimp only
  have q : ∃ k : KV, ∃ as, Reads h v (keyD k) as := ⟨k, as, a⟩
  rw [dif_pos q]
  obtain ⟨bs, b⟩ := q.choose_spec
  rw [key_uniq b a]
theorem kind_back {h : Heap} {v : Value} {t : (kind h).α} (e : (kind h).keyOf v = some t) : ∃ k : KV, ∃ as, Reads h v (keyD k) as ∧ t = W.keyToks (keyD k) := by
  unfold kind at e
  dsimp only at e
  by_cases q : ∃ k : KV, ∃ as, Reads h v (keyD k) as
  · rw [dif_pos q] at e
    obtain ⟨bs, b⟩ := q.choose_spec
    exact ⟨q.choose, bs, b, (Option.some.inj e).symm⟩
  · rw [dif_neg q] at e
    cases e
theorem lt_at {prog : Program} {w : World} {A : Around} {s : Shared} (hu : A.units + 4 < cLine) : H.LtAt prog w A s (kind s.heap) (tuples' true) := by
  intro E x y a b Q ea eb want
  obtain ⟨k, as, rk, rfl⟩ := kind_back ea
  obtain ⟨j, bs, rj, rfl⟩ := kind_back eb
  obtain ⟨p, o, n, x1, x2, xs1, xs2, rfl, o1, _, d1, t1, v1⟩ := reads_key rk
  obtain ⟨p', o', n', y1, y2, ys1, ys2, rfl, o2, _, d2, t2, v2⟩ := reads_key rj
  replace want : Q (W.dataLt (keyD k) (keyD j)) s := want
  refine W.kat_lt o1 d1 o2 d2 ?_
  show W.KatLex prog w A true (decide ((2 : Nat) < 2)) Q [(x1, y1), (x2, y2)] 0 s
  have first : W.alike (.int (tagOf k)) (.int (tagOf j)) = true := rfl
  have d0 : min (PyData.int (tagOf k)).depth (PyData.int (tagOf j)).depth = 0 := rfl
  refine W.kat_cons (W.eqAt_alike (.int (tagOf k)) (.int (tagOf j)) A s x1 y1 xs1 ys1 t1 t2 first (by rw [d0]; omega) prog w _ _ ?_)
  rw [show W.dataLt (keyD k) (keyD j) = lexLt itemOrd (W.keyToksAll [.int (tagOf k), datOf k]) (W.keyToksAll [.int (tagOf j), datOf j]) from W.dataLt_tuple _ _] at want
  by_cases h : tagOf k = tagOf j
  · have ev : (PyData.int (tagOf k)).eqv (PyData.int (tagOf j)) = true := by rw [h]; exact W.eqv_refl_alike _ rfl
    rw [ev]
    rw [W.dataLt_all_yes first ev] at want
    have al := alike_same h
    have dm : min (datOf k).depth (datOf j).depth = 0 := by rw [dat_depth, dat_depth]; rfl
    refine W.kat_yes (W.kat_cons (W.eqAt_alike _ _ A s x2 y2 xs2 ys2 v1 v2 al (by rw [dm]; omega) prog w _ _ ?_))
    cases e2 : (datOf k).eqv (datOf j) with
    | true =>
      rw [W.dataLt_all_yes al e2] at want
      refine W.kat_yes (W.kat_nil ?_)
      exact want
    | false =>
      rw [W.dataLt_all_no al e2] at want
      exact W.kat_no (W.oneLt_alike (fun q => by cases q) v1 v2 al (dat_ne k).1 (by rw [dm]; omega) want)
  · have ev : (PyData.int (tagOf k)).eqv (PyData.int (tagOf j)) = false := by
      cases k <;> cases j <;> first | rfl | (exact absurd rfl h)
    rw [ev]
    rw [W.dataLt_all_no first ev] at want
    exact W.kat_no (W.oneLt_alike (fun _ xs q => by cases q) t1 t2 first (by intro q; cases q) (by rw [d0]; omega) want)
theorem looks_int {M : Model} {h : Heap} {i : Int} {t : Tok} : W.Looks M h (typeOf (.int i t)) (.type "int") := W.looks_reads (Reads.int (h := h) i t)
theorem tups : ∀ {h : Heap} {ks : List Value} {kz : List KV}, W.EachIs (fun v k => ∃ as, Reads h v (keyD k) as) ks kz → ∃ fs : List Value, W.KatTups h ks fs ∧ fs.length = ks.length ∧ ∀ f ∈ fs, ∃ i t, f = .int i t
  | _, _, _, .nil => ⟨[], .nil, rfl, fun f q => by cases q⟩
  | h, _, _, .cons ⟨as, a⟩ rest => by
    obtain ⟨fs, t, l, all⟩ := tups rest
    obtain ⟨p, o, n, x, y, xs, ys, rfl, o1, c1, d1, r1, r2⟩ := reads_key a
    cases r1 with
    | int i tk =>
      refine ⟨.int _ tk :: fs, .cons o1 c1 d1 rfl t, by rw [List.length_cons, List.length_cons, l], fun f q => ?_⟩
      rcases List.mem_cons.mp q with e | e
      · exact ⟨_, tk, e⟩
      · exact all f e
theorem sorts {prog : Program} {w : World} {A : Around} {s : Shared} {ks : List Value} {kz : List KV} (hu : A.units + 4 < cLine) (each : W.EachIs (fun v k => ∃ as, Reads s.heap v (keyD k) as) ks kz) : W.SortsAt prog w A s (kind s.heap) ks := by
  refine ⟨fun v hv => ?_, tuples' true, lt_at hu, fun two E Q want => ?_⟩
  · clear hu
    induction each with
    | nil => cases hv
    | cons a _ ih =>
      rcases List.mem_cons.mp hv with e | e
      · subst e
        obtain ⟨as, a⟩ := a
        exact ⟨_, kind_at a⟩
      · exact ih e
  · obtain ⟨fs, t, l, all⟩ := tups each
    refine W.kat_kind (T := .type "int") t (by omega) (fun f q => ?_) rfl want
    obtain ⟨i, tk, rfl⟩ := all f q
    exact looks_int
end SM
end
section
/-! sorted(xs, key=a def that makes a pair) -/
namespace SM
open PySem PySem.Spec PyProof.Rows L2
def kvV : KV → V
  | .n i => .int i
  | .s x => .str x
def keyV (k : KV) : List V := [.int (tagOf k), kvV k]
def leK (p q : V × KV) : Bool := W.dataLe false (fun x : V × KV => keyD x.2) p q
def rSortKey (K : PySem.W.Frag) (f : Addr) (sp : Sp) : List V → List V → Hp → VK → Prop := fun xs zs H Q => ∃ (a : Addr) (bs : List (V × KV)), xs = [.ref a] ∧ zs = [.ref f] ∧ SqL K H a (bs.map (·.1)) ∧
  (∀ x ∈ bs, ∀ H1, Same H H1 → sp [x.1] H1 (fun u H2 => Same H1 H2 ∧ ∃ p, u = .ref p ∧ H2 p = some (.tup (keyV x.2))) (fun _ _ _ => False)) ∧
  ∀ H' p, Same H H' → H p = none → H' p = some (.lst ((bs.mergeSort leK).map (·.1))) → Q (.ref p) H'
theorem each_of_vals : ∀ {bs : List (V × KV)} {us : List Value}, Vals (bs.map (·.1)) us → W.EachIs (fun u (x : V × KV) => RelV x.1 u) us bs
  | [], _, .nil => .nil
  | _ :: _, _, .cons a r => .cons a (each_of_vals r)
theorem vals_of_each : ∀ {bs : List (V × KV)} {us : List Value}, W.EachIs (fun u (x : V × KV) => RelV x.1 u) us bs → Vals (bs.map (·.1)) us
  | [], _, .nil => .nil
  | _ :: _, _, .cons a r => .cons a (vals_of_each r)
theorem each_mono {α β : Type} {R S : α → β → Prop} (h : ∀ a b, R a b → S a b) : ∀ {as : List α} {bs : List β}, W.EachIs R as bs → W.EachIs S as bs
  | _, _, .nil => .nil
  | _, _, .cons a r => .cons (h _ _ a) (each_mono h r)
theorem each_len {α β : Type} {R : α → β → Prop} : ∀ {as : List α} {bs : List β}, W.EachIs R as bs → as.length = bs.length
  | _, _, .nil => rfl
  | _, _, .cons _ r => by rw [List.length_cons, List.length_cons, each_len r]
/-- a key as the heap holds it -/
def KeyAt (H : Hp) (u : Value) (x : V × KV) : Prop := ∃ p, u = .ref p ∧ H p = some (.tup (keyV x.2))
theorem KeyAt.same {H H' : Hp} (s : Same H H') {u : Value} {x : V × KV} (h : KeyAt H u x) : KeyAt H' u x := by
  obtain ⟨p, e, h⟩ := h
  exact ⟨p, e, s _ _ h⟩
theorem KeyAt.reads {P : Program} {w : World} {H : Hp} {h : Heap} (ok : HOk P w H h) {u : Value} {x : V × KV} (k : KeyAt H u x) : ∃ as, Reads h u (keyD x.2) as := by
  obtain ⟨p, rfl, e⟩ := k
  obtain ⟨_, its, rel, o, g, c, n, d⟩ := ok p _ e
  unfold keyV at rel
  cases rel with
  | @cons _ v1 _ _ r1 rest =>
    cases rest with
    | @cons _ v2 _ _ r2 rest =>
      cases rest
      obtain ⟨t1, rfl⟩ := r1
      have r : Reads h v2 (datOf x.2) [] := by
        cases ex : x.2 with
        | n i =>
          rw [ex] at r2
          obtain ⟨t2, rfl⟩ := r2
          exact Reads.int _ _
        | s z =>
          rw [ex] at r2
          obtain ⟨t2, rfl⟩ := r2
          exact Reads.str _ _
      exact ⟨_, Reads.tuple g c d (ReadsAll.cons (Reads.int _ _) (ReadsAll.cons r ReadsAll.nil))⟩
/-- an object of the machine's own, told to the heap -/
theorem track {X : Cx} {pins : List (Addr × Obj)} {σ : L2.St} {H : Hp} {s : Shared} {a : Addr} {out : List V} {its : List Value} {n : Nat} (I : L2.Inv X pins σ H s) (fp : FpOk X pins H a)
    (e : s.heap.get? a = some { cls := .type "list", data := .seq its.toArray n }) (r : Vals out its) (small : out.length ≤ sizeLine) : L2.Inv X pins σ (upd H a (.lst out)) s := by
  obtain ⟨f0, f1, f2, f3, f4, f5⟩ := fp
  have ne : ∀ {b : Addr} {o : HO}, H b = some o → b ≠ a := fun h q => by rw [q, f0] at h; cases h
  have z := I.step (H' := upd H a (.lst out)) (h' := s.heap) (g' := s.gens) (t' := s.toks) (d' := s.drawn) (ch := [a])
    (fun b hb => by
      rcases List.mem_singleton.mp hb with rfl
      exact ⟨f3, f1, f4, f5⟩)
    (fun b o _ _ _ g _ => g) (fun b o _ _ _ g _ => ⟨o.slots, g⟩)
    (fun b o hb _ h0 => by rw [upd_ne (fun q => hb (by rw [q]; exact List.mem_singleton.mpr rfl))]; exact h0)
    (fun b o _ g => ⟨o, g⟩)
    (fun b xs h => by rw [upd_ne (ne h)]; exact h) (fun b o u h => by rw [upd_ne (ne h)]; exact h) (fun b ps h => ⟨#[], by rw [upd_ne (ne h), Array.append_empty]; exact h⟩)
    (fun m h => h)
    (fun b o h => by
      by_cases q : b = a
      · subst q
        rw [upd_same] at h
        cases h
        exact ⟨small, its, n, r, e⟩
      · rw [upd_ne q] at h
        exact (I.hok b o h).stay (fun _ _ _ g => g) (fun c hc => by rw [upd_ne (ne hc)]; exact hc) (fun c xs hc => by rw [upd_ne (ne hc)]; exact hc))
    I.bare
  exact z
end SM
end
section
namespace SM
open PySem PySem.Spec PyProof.Rows L2
/-- two lists of the machine's own, pinned for a while -/
theorem two_pins {h : Heap} {a c : Addr} {oa oc : Obj} (ea : h.get? a = some oa) (ec : h.get? c = some oc) : pinsAt [a, c] h = [(a, oa), (c, oc)] := by
  unfold pinsAt
  rw [List.filterMap_cons, ea, List.filterMap_cons, ec]
  rfl
def Loop (X : Cx) (pins : List (Addr × Obj)) (σ : L2.St) (H : Hp) (a kS : Addr) (n1 : Nat) (bs : List (V × KV)) (rest : List Value) (s' : Shared) : Prop :=
  ∃ (bd br : List (V × KV)) (ks : List Value) (e : Nat) (H' : Hp), bs = bd ++ br ∧ Vals (br.map (·.1)) rest ∧ Same H H' ∧ L2.Inv X pins σ H' s' ∧ FpOk X pins H' a ∧ FpOk X pins H' kS ∧
    s'.heap.get? a = some (seqObj "list" #[] n1) ∧ s'.heap.get? kS = some (seqObj "list" ks.toArray e) ∧ W.EachIs (KeyAt H') ks bd
section
variable {X : Cx} {k : Nat} {f : Addr} {fd : FuncData} {x : Str} {sp : Sp}
theorem turn {pins : List (Addr × Obj)} {σ : L2.St} {H : Hp} {a kS : Addr} {n1 : Nat} {bs : List (V × KV)} {u : Value} {rest : List Value} {s' : Shared} {E : Value → Shared → Prop} (F : FnOk X.prog X.w X.K X.mg X.base CX0 k f fd [x] sp) (b : L2.Binds X.K fd [x] []) (hr : Room (k + 2) X.A)
    (na : kS ≠ a) (small : bs.length ≤ sizeLine) (key : ∀ x ∈ bs, ∀ H1, Same H H1 → sp [x.1] H1 (fun u H2 => Same H1 H2 ∧ ∃ p, u = .ref p ∧ H2 p = some (.tup (keyV x.2))) (fun _ _ _ => False))
    (L : Loop X pins σ H a kS n1 bs (u :: rest) s') : wpAny (model X.prog X.w) X.A.in1.in1 (call (.ref f) [u]) (fun kv s2 => ∃ (bd br : List (V × KV)) (y : V × KV) (ks : List Value) (e : Nat) (H2 : Hp), bs = bd ++ y :: br ∧ Vals (br.map (·.1)) rest ∧ Same H H2 ∧ L2.Inv X pins σ H2 s2 ∧ FpOk X pins H2 a ∧ FpOk X pins H2 kS ∧
      s2.heap.get? a = some (seqObj "list" #[] n1) ∧ s2.heap.get? kS = some (seqObj "list" ks.toArray e) ∧ W.EachIs (KeyAt H2) ks bd ∧ KeyAt H2 kv y) E s' := by
  obtain ⟨bd, br, ks, e, H', rfl, rl, sm, I, fa, fk, ea, ek, each⟩ := L
  cases br with
  | nil => cases rl
  | cons y br =>
  cases rl with
  | cons r0 rl =>
  have p2 := two_pins ea ek
  have Ip : L2.Inv X (pins ++ [(a, seqObj "list" #[] n1), (kS, seqObj "list" ks.toArray e)]) σ H' s' := by
    rw [← p2]
    refine I.pinned (fp := [a, kS]) (fun c hc => ?_) (fun c hc => ?_)
    · rcases List.mem_cons.mp hc with rfl | hc
      · exact fa
      · rcases List.mem_singleton.mp hc with rfl
        exact fk
    · rcases List.mem_cons.mp hc with rfl | hc
      · exact ⟨_, ea, fun v q => by cases q⟩
      · rcases List.mem_singleton.mp hc with rfl
        exact ⟨_, ek, fun v q => by cases q⟩
  have want := key y (List.mem_append_right _ (List.mem_cons_self ..)) H' sm
  refine wpAny_call (codeAny_mono (F.run X.A.in1.in1 X.stack s' H' ⟨[u], []⟩ [u] [y.1] _ _ hr.in1.in1 I.env0.in1.in1 (b s' [u] I.kIn rfl) (.cons r0 .nil) want) fun r s2 hq => ?_)
  cases r with
  | error q => exact hq.elim
  | ok fl =>
    cases fl with
    | next => exact hq.elim
    | brk => exact hq.elim
    | cont => exact hq.elim
    | ret kv =>
      obtain ⟨v, H2, I2, rv, sm2, p, ep, hp⟩ := Ip.after hq
      subst ep
      have q1 := I2.pin (a, seqObj "list" #[] n1) (by simp)
      have q2 := I2.pin (kS, seqObj "list" ks.toArray e) (by simp)
      refine ⟨bd, br, y, ks, e, H2, rfl, rl, sm.trans sm2, I2.unpinned, ⟨q1.2.1, fa.2⟩, ⟨q2.2.1, fk.2⟩, q1.1, q2.1, each_mono (fun _ _ z => z.same sm2) each, p, rv, hp⟩
theorem cr_sortKey (F : FnOk X.prog X.w X.K X.mg X.base CX0 k f fd [x] sp) (b : L2.Binds X.K fd [x] []) (hr : Room (k + 2) X.A) : CallRK X (.builtin "sorted") ["key"] (rSortKey X.K f sp) := by
  intro pins s σ H xs zs us ws Q I rx rz want
  obtain ⟨a0, bs, rfl, rfl, sq, key, fin⟩ := want
  obtain ⟨its, rel, place, small⟩ := I.list sq
  rw [List.length_map] at small
  have lenI : its.length = bs.length := by
    have z := rel.length
    rw [List.length_map] at z
    exact z.symm
  cases rx with
  | cons r1 rx =>
  cases rx
  cases rz with
  | cons r2 rz =>
  cases rz
  have e1 : _ = Value.ref a0 := r1
  have e2 : _ = Value.ref f := r2
  subst e1; subst e2
  show wpAny (model X.prog X.w) X.A (call (.builtin "sorted") [.ref a0] [("key", .ref f)]) (EP X pins σ Q) X.xe s
  refine W.sorted_of_sort place.isList (by rw [lenI]; exact small) (ksk_s1 _ _) (fun _ => ksk_l1 _ _) (fun E' => ?_)
  rw [ksk_t1]
  generalize ea' : s.heap.objs.size + 1 = a
  have at0 : (W.copyHeap s.heap its).get? a = some (seqObj "list" its.toArray 0) := by rw [← ea']; exact W.copyHeap_at _ _
  have old0 : ∀ c o, s.heap.get? c = some o → (W.copyHeap s.heap its).get? c = some o := fun c o => W.copyHeap_old
  unfold ksk_tree
  refine wpAny_bind (listItems_at at0 rfl ?_)
  have sz : its.toArray.size ≤ sizeLine := by rw [List.size_toArray, lenI]; exact small
  refine wpAny_bind (listUpdate_at at0 rfl ?_ sz (Nat.zero_le _))
  have at1 := get?_update_seq at0 (fun _ => #[])
  generalize hn : (if ((#[] : Array Value).size == its.toArray.size) = true then 0 else 0 + 1) = n1 at at1
  have old1 : ∀ c o, s.heap.get? c = some o → ((W.copyHeap s.heap its).update a (Obj.mapSeq fun _ => #[])).get? c = some o := fun c o g => by
    rw [Heap.get?_update_other _ _ (by rw [← ea']; exact Nat.ne_of_gt (Nat.lt_succ_of_lt (Heap.lt_size g)))]
    exact old0 c o g
  generalize (W.copyHeap s.heap its).update a (Obj.mapSeq fun _ => #[]) = h1 at at1 old1
  refine wpAny_bind (seqEpoch_at at1 rfl (wpAny_bind (wpAny_newTuple ?_ (by rw [lenI]; exact small))))
  have at2 := Heap.get?_push_of_some { cls := .type "tuple", data := .seq its.toArray.toList.toArray } at1
  have old2 : ∀ c o, s.heap.get? c = some o → (h1.push { cls := .type "tuple", data := .seq its.toArray.toList.toArray }).get? c = some o := fun c o g => Heap.get?_push_of_some _ (old1 c o g)
  refine wpAny_bind (wpAny_newList ?_ (Nat.zero_le _))
  dsimp only
  generalize h1.push { cls := .type "tuple", data := .seq its.toArray.toList.toArray } = h2 at at2 old2
  have at3 := Heap.get?_push_of_some { cls := .type "list", data := .seq ([] : List Value).toArray } at2
  have kS0 : (h2.push { cls := .type "list", data := .seq ([] : List Value).toArray }).get? h2.objs.size = some (seqObj "list" ([] : List Value).toArray 0) := Heap.get?_push_size h2 rfl
  have old3 : ∀ c o, s.heap.get? c = some o → (h2.push { cls := .type "list", data := .seq ([] : List Value).toArray }).get? c = some o := fun c o g => Heap.get?_push_of_some _ (old2 c o g)
  have na : h2.objs.size ≠ a := Nat.ne_of_gt (Heap.lt_size at2)
  have bigA : s.heap.objs.size ≤ a := by rw [← ea']; exact Nat.le_succ _
  have bigK : s.heap.objs.size ≤ h2.objs.size := Nat.le_trans bigA (Nat.le_of_lt (Heap.lt_size at2))
  generalize h2.objs.size = kS at kS0 na bigK
  generalize h2.push { cls := .type "list", data := .seq ([] : List Value).toArray } = h3 at at3 kS0 old3
  refine wpAny_holding ?_
  unfold ksk_rest
  refine wpAny_bind (wpAny_rule (wpAny_bind ?_))
  have start : Loop X pins σ H a kS n1 bs its.toArray.toList ⟨h3, s.gens, s.drawn, s.toks, s.os⟩ := by
    refine ⟨[], bs, [], 0, H, rfl, rel, fun _ _ z => z, I.kept old3, I.fpOk bigA (I.hok.fresh bigA), I.fpOk bigK (I.hok.fresh bigK), at3, kS0, .nil⟩
  refine forIn_array_ _ (fun rest _ s' => Loop X pins σ H a kS n1 bs rest s') _ (fun u rest _ s' L => ?_) (fun _ s' L => ?_) its.toArray _ start
  · refine wpAny_bind (wpAny_attempt (wpAny_mono (turn (E := fun _ _ => False) F b hr na small key L) (fun kv s2 q => ?_) (fun _ _ q => q.elim)))
    obtain ⟨bd, br, y, ks, e, H2, eb, rl, sm, I2, fa, fk, ea, ek, each, ky⟩ := q
    have lk : ks.length = bd.length := each_len each
    have lb : bs.length = bd.length + (br.length + 1) := by rw [eb, List.length_append, List.length_cons]
    refine wpAny_bind (listUpdate_at ek rfl ?_ (by rw [List.size_toArray]; omega) (by rw [Array.size_push, List.size_toArray]; omega))
    have ek2 := get?_update_seq ek (fun z => z.push kv)
    have ek3 : (s2.heap.update kS (Obj.mapSeq fun z => z.push kv)).get? kS = some (seqObj "list" (ks ++ [kv]).toArray (if ((ks.toArray.push kv).size == ks.toArray.size) = true then e else e + 1)) := by
      rw [ek2, List.push_toArray]
    refine wpAny_pure ?_
    have other : ∀ c o, ¬ c ∈ [kS] → s2.heap.get? c = some o → (s2.heap.update kS (Obj.mapSeq fun z => z.push kv)).get? c = some o := fun c o hc g => by
      rw [Heap.get?_update_other _ _ (fun q => hc (by rw [← q]; exact List.mem_singleton.mpr rfl))]
      exact g
    have I3 := I2.turnedL (ch := [kS]) (t' := s2.toks) other (fun c hc => by
      rcases List.mem_singleton.mp hc with rfl
      exact fk)
    refine ⟨bd ++ [y], br, ks ++ [kv], _, H2, by rw [eb, List.append_assoc]; rfl, rl, sm, I3, fa, fk, other a _ (fun q => na (List.mem_singleton.mp q).symm) ea, ek3, W.each_snoc ky each⟩
  · obtain ⟨bd, br, ks, e, H', eb, rl, sm, I3, fa, fk, ea, ek, each⟩ := L
    cases br with
    | cons _ _ => cases rl
    | nil =>
    rw [List.append_nil] at eb
    subst eb
    refine wpAny_bind (listItems_at ek rfl ?_)
    have lk : ks.length = bs.length := each_len each
    let gone : Heap := s'.heap.update kS (fun o => { o with data := .freed })
    have g1 : gone.get? kS = none := by
      show (s'.heap.update kS _).get? kS = none
      have lt := Heap.lt_size ek
      unfold Heap.get? Heap.update
      dsimp only
      rw [Array.getElem?_modify]
      rw [if_pos rfl]
      have ek' := ek
      unfold Heap.get? at ek'
      cases q : s'.heap.objs[kS]? with
      | none => rfl
      | some o => rfl
    have g2 : W.KeepsBut a gone s'.heap := fun c o hc g => by
      by_cases q : c = kS
      · rw [q, g1] at g
        cases g
      · rw [← Heap.get?_update_other s'.heap (fun o => { o with data := .freed }) (fun z => q z.symm)]
        exact g
    have hu : X.A.in1.in1.units + 4 < cLine := by
      have := hr.units
      show X.A.units + 1 + 1 + 4 < cLine
      omega
    have reads : W.EachIs (fun v (x : V × KV) => ∃ as, Reads s'.heap v (keyD x.2) as) ks bs := each_mono (fun _ _ z => z.reads I3.hok) each
    have readsK : ∀ {ks : List Value} {bs : List (V × KV)}, W.EachIs (fun v (x : V × KV) => ∃ as, Reads s'.heap v (keyD x.2) as) ks bs → W.EachIs (fun v k => ∃ as, Reads s'.heap v (keyD k) as) ks (bs.map (·.2)) := by
      intro ks bs z
      induction z with
      | nil => exact .nil
      | cons q _ ih => exact .cons q ih
    refine W.keyH_end (κ := kind s'.heap) g2 g1 ek ea na (sorts (by exact hu) (readsK reads)) (by rw [List.size_toArray, lk, lenI]) (by rw [lenI]; exact small) (fun h' tk c kb at' => ⟨rfl, ?_⟩)
    have out : W.EachIs (fun u (x : V × KV) => RelV x.1 u) (W.sortVals (kind s'.heap) false ks its) (bs.mergeSort (W.sortLe (kind s'.heap).toKeyOrd false fun x => W.keyToks (keyD x.2))) :=
      W.sortVals_each (κ := kind s'.heap) (fun x : V × KV => W.keyToks (keyD x.2)) (each_of_vals rel) (each_mono (fun v x ⟨as, z⟩ => kind_at z) reads)
    have other : ∀ c o, ¬ c ∈ [a, kS] → s'.heap.get? c = some o → h'.get? c = some o := fun c o hc g => by
      have c1 : c ≠ a := fun q => hc (by rw [q]; exact List.mem_cons_self ..)
      have c2 : c ≠ kS := fun q => hc (by rw [q]; exact List.mem_cons_of_mem _ (List.mem_singleton.mpr rfl))
      refine kb c o c1 ?_
      show (s'.heap.update kS _).get? c = some o
      rw [Heap.get?_update_other _ _ (fun z => c2 z.symm)]
      exact g
    have I4 := I3.turnedL (ch := [a, kS]) (t' := tk) other (fun c hc => by
      rcases List.mem_cons.mp hc with rfl | hc
      · exact fa
      · rcases List.mem_singleton.mp hc with rfl
        exact fk)
    have vals := vals_of_each out
    have I5 := track I4 fa at' vals (by rw [List.length_map, List.length_mergeSort]; exact small)
    refine ⟨.ref a, _, I5, rfl, fin _ a (fun c o g => ?_) (I.hok.fresh bigA) upd_same⟩
    have nc : c ≠ a := fun q => by
      rw [q, I.hok.fresh bigA] at g
      cases g
    rw [upd_ne nc]
    exact sm c o g
end
end SM
end
section
/-! parts of an object: read -/
namespace XM
open PySem PySem.Spec PyProof.Rows L2 Tl
/-- the root that was taken out of root n at p -/
def findPar (n : Nat) (p : Pl) : Nat → List Rt → Option Nat
  | _, [] => none
  | i, x :: xs => if x.par = some (n, p) then some i else findPar n p (i + 1) xs
theorem findPar_at {n : Nat} {p : Pl} : ∀ {l : List Rt} {i k : Nat}, findPar n p i l = some k → ∃ x, i ≤ k ∧ l[k - i]? = some x ∧ x.par = some (n, p)
  | [], _, _, h => by cases h
  | x :: xs, i, k, h => by
    unfold findPar at h
    split at h
    · rename_i c
      cases h
      exact ⟨x, Nat.le_refl _, by rw [Nat.sub_self]; rfl, c⟩
    · obtain ⟨y, h1, h2, h3⟩ := findPar_at h
      refine ⟨y, by omega, ?_, h3⟩
      have : k - i = (k - (i + 1)) + 1 := by omega
      rw [this]
      exact h2
def borrow (n : Nat) (p : Pl) (ρ : Fr) : Option (R × Fr) := match ρ.rt[n]? with
  | some ⟨t, pr⟩ => match getc p t with
    | some (.dat d) => some (.dat d, ρ)
    | some (.fn x) => some (.fn x, ρ)
    | some .gone => (findPar n p 0 ρ.rt).map fun k => (.ref k, ρ)
    | some c => some (.ref ρ.rt.length, { ρ with rt := ρ.rt.set n ⟨setc .gone p t, pr⟩ ++ [⟨c, some (n, p)⟩] })
    | none => none
  | none => none
section
variable {K : PySem.W.Frag} {mg : Str → Option Value} {mm : Mg} {B : Bs} {O O' : Ft} {A A' A1 : Al} {ρ ρ1 : Fr} {σ : L2.St} {H H' H1 : Hp} {E : XK}
theorem cont_of {p : Pl} {t c : T} (h : getc p t = some c) : t.cont = true := by
  cases t <;> cases p <;> first | rfl | cases h
theorem setc_cont {p : Pl} {t s : T} (h : t.cont = true) : (setc s p t).cont = true := by
  cases t <;> cases p <;> first | rfl | cases h
/-- a part is taken out of its root -/
theorem StC.borrow (S : StC K mg B O A ρ σ H) {n : Nat} {p : Pl} {v : V} {r : R} {ρ' : Fr} (ha : XM.al A n = some v) (e : XM.borrow n p ρ = some (r, ρ')) :
    ∃ vc A', chAt H v p = some vc ∧ StC K mg B O A' ρ' σ H ∧ RR K ⟨mg, B.η⟩ (XM.al A') (hid (tot O A') H) H vc zer r ∧ Stp O A H O A' H := by
  unfold XM.borrow at e
  cases hx : ρ.rt[n]? with
  | none => rw [hx] at e; cases e
  | some x =>
  obtain ⟨t, pr⟩ := x
  rw [hx] at e
  dsimp only at e
  obtain ⟨F, hA, ht⟩ := S.root hx ha
  cases hg : getc p t with
  | none => rw [hg] at e; cases e
  | some c =>
  obtain ⟨vc, Fc, Fr, c1, c2, c3, c4⟩ := TR.child hid_sub ht hg
  have new : c.isGone = false → ∃ A', StC K mg B O A' { ρ with rt := ρ.rt.set n ⟨setc .gone p t, pr⟩ ++ [⟨c, some (n, p)⟩] } σ H ∧ RR K ⟨mg, B.η⟩ (XM.al A') (hid (tot O A') H) H vc zer (.ref ρ.rt.length) ∧ Stp O A H O A' H := fun _ => by
    have e1 : tot (add O Fc) (A.set n (v, Fr)) = tot O A := tot_set hA fun a => by rw [c3]; unfold add; omega
    have ct : t.cont = true := cont_of hg
    have S1 : StC K mg B (add O Fc) (A.set n (v, Fr)) { ρ with rt := ρ.rt.set n ⟨setc .gone p t, pr⟩ } σ H :=
      S.setR (x := ⟨t, pr⟩) hA hx (by rw [e1]; exact Same.refl _) (fun _ _ _ => rfl) (by rw [e1]; exact S.le1) (by rw [e1]; exact S.al) (by rw [e1]; have := c4 .gone zer .gone; rw [add_zer] at this; exact this) fun _ => S.par0 hA hx ct
    obtain ⟨S2, e2⟩ := S1.push (t := c) (v := vc) (pr := some (n, p)) (by rw [e1]; exact c2) (fun j p' xj z q h3 h4 h5 => by
      cases q
      rw [List.getElem?_set, if_pos rfl, if_pos (List.getElem?_eq_some_iff.mp hA).1] at h5
      cases h5
      exact c1) (fun j p' q => by
      cases q
      dsimp only
      rw [List.length_set]
      exact (List.getElem?_eq_some_iff.mp hx).1)
    have len : (A.set n (v, Fr)).length = ρ.rt.length := by rw [List.length_set, S.len]
    have alE : ∀ r u, XM.al A r = some u → XM.al (A.set n (v, Fr) ++ [(vc, Fc)]) r = some u := fun r u q => al_push (by rw [al_set hA]; exact q)
    refine ⟨_, S2, ⟨rfl, ?_⟩, ⟨⟨fun _ _ => rfl, ?_⟩, alE⟩⟩
    · unfold XM.al
      rw [← len, List.getElem?_append_right (Nat.le_refl _), Nat.sub_self]
      rfl
    · rw [e2, e1]
      exact Same.refl _
  rw [hg] at e
  cases c with
  | dat d =>
    cases e
    cases c2 with
    | dat h => exact ⟨vc, A, c1, S, ⟨rfl, h⟩, Stp.refl⟩
  | fn x =>
    cases e
    cases c2 with
    | fn h => exact ⟨_, A, c1, S, ⟨rfl, _, rfl, h⟩, Stp.refl⟩
  | gone =>
    dsimp only at e
    cases hf : findPar n p 0 ρ.rt with
    | none => rw [hf] at e; cases e
    | some k =>
      rw [hf] at e
      cases e
      obtain ⟨y, _, hy, py⟩ := findPar_at hf
      rw [Nat.sub_zero] at hy
      obtain ⟨z, hz⟩ := at_len S.len hy
      have := S.par k n p y ⟨t, pr⟩ z (v, F) hy py hx (cont_of hg) hz hA
      refine ⟨z.1, A, this, S, ⟨rfl, ?_⟩, Stp.refl⟩
      unfold XM.al
      rw [hz]
      rfl
  | dl l => cases e; obtain ⟨A', h⟩ := new rfl; exact ⟨vc, A', c1, h⟩
  | ol l => cases e; obtain ⟨A', h⟩ := new rfl; exact ⟨vc, A', c1, h⟩
  | ot l => cases e; obtain ⟨A', h⟩ := new rfl; exact ⟨vc, A', c1, h⟩
  | dd l => cases e; obtain ⟨A', h⟩ := new rfl; exact ⟨vc, A', c1, h⟩
  | od l => cases e; obtain ⟨A', h⟩ := new rfl; exact ⟨vc, A', c1, h⟩
  | ins c fs => cases e; obtain ⟨A', h⟩ := new rfl; exact ⟨vc, A', c1, h⟩
  | frz ns => cases e; obtain ⟨A', h⟩ := new rfl; exact ⟨vc, A', c1, h⟩
  | hole i => cases e; obtain ⟨A', h⟩ := new rfl; exact ⟨vc, A', c1, h⟩
theorem getA_lookup {β : Type} {k : Str} : ∀ {l : List (Str × β)}, getA k l = l.lookup k
  | [] => rfl
  | p :: r => by
    unfold getA
    rw [List.lookup_cons, getA_lookup (l := r)]
    by_cases h : p.1 = k
    · subst h; simp
    · have : (k == p.1) = false := beq_eq_false_iff_ne.mpr fun z => h z.symm
      rw [if_neg h, this]
end
/-! ### fields -/
/-- what the class named c must be for its field f -/
def FldK (K : PySem.W.Frag) (mg : Str → Option Value) (f : Str) (c : Str) : Prop := ∀ C, mg c = some (.ref C) → Cls K C ∧ NoAttr K C f
def clsAt (r : R) (ρ : Fr) : Option (Nat × Str × List (Str × T)) := match r with
  | .ref n => match ρ.rt[n]? with
    | some ⟨.ins c fs, _⟩ => some (n, c, fs)
    | _ => none
  | _ => none
def mFld (cs : List Str) (f : Str) (m : M R) : M R := bnd m fun r ρ => match clsAt r ρ with
  | some (n, c, _) => if c ∈ cs then (borrow n (.fld f) ρ).map fun p => .ok p.1 p.2 else none
  | none => none
section
variable {X : Cx} {E : XK} {e : Expr} {pos : Pos} {K : PySem.W.Frag} {mg : Str → Option Value} {mm : Mg} {B : Bs} {O : Ft} {A A1 : Al} {ρ : Fr} {σ : L2.St} {H H1 : Hp}
theorem clsAt_ok {r : R} {v : V} {F : Ft} {n : Nat} {c : Str} {fs : List (Str × T)} (S : StC K mg B O A ρ σ H) (h : RR K ⟨mg, B.η⟩ (al A) (hid (tot O A) H) H v F r) (e : clsAt r ρ = some (n, c, fs)) :
    ∃ a C dx fvs Fn pr, r = .ref n ∧ F = zer ∧ v = .ref a ∧ al A n = some (.ref a) ∧ mg c = some (.ref C) ∧ H a = some (.ins C dx fvs) ∧ fvs.map (·.1) = fs.map (·.1) ∧ TRs K ⟨mg, B.η⟩ (hid (tot O A) H) H (fs.map (·.2)) (fvs.map (·.2)) Fn ∧ A[n]? = some (.ref a, add (one a) Fn) ∧ ρ.rt[n]? = some ⟨.ins c fs, pr⟩ := by
  cases r with
  | ref m =>
    unfold clsAt at e
    dsimp only at e
    split at e
    · rename_i c' fs' pr hx
      cases e
      obtain ⟨z, ha⟩ := h
      obtain ⟨F', hA, ht⟩ := S.root hx ha
      cases ht with
      | ins hc ho hk r => exact ⟨_, _, _, _, _, pr, rfl, z, rfl, ha, hc, ho, hk, r, hA, hx⟩
    · cases e
  | dat d => cases e
  | fn x => cases e
  | own t => cases e
theorem de_fld {m : M R} {cs : List Str} {f : Str} (hc : ∀ c ∈ cs, FldK X.K X.mg f c) (he : DE X E e m) (hb : attributeBase e f X.env (eval e X.env) = eval e X.env := by rfl) : DE X E (.Attribute e f pos) (mFld cs f m) := by
  refine ⟨pe_imp (pe_fld he.pe hb) fun σ H Q h => ?_⟩
  obtain ⟨B, O, A, ρ, out, S, hm, k⟩ := h
  refine run_bnd S hm k.exc fun r ρ1 v H1 A1 F hk S1 rr1 st1 x1 => ?_
  split at hk
  · rename_i n c fs e1
    split at hk
    · rename_i hcs
      cases hb : borrow n (.fld f) ρ1 with
      | none => rw [hb] at hk; cases hk
      | some p =>
        obtain ⟨r', ρ'⟩ := p
        rw [hb] at hk
        cases hk
        obtain ⟨a, C, dx, fvs, Fn, pr, rfl, rfl, rfl, ha, hC, ho, hkk, tr, hA, hx⟩ := clsAt_ok S1 rr1 e1
        rw [add_zer] at S1 st1
        obtain ⟨vc, A', c1, S', rr', st'⟩ := S1.borrow ha hb
        obtain ⟨q1, q2⟩ := hc c hcs C hC
        refine ⟨a, C, dx, fvs, vc, rfl, ho, q1, q2, ?_, ?_⟩
        · rw [← getA_lookup]
          simpa [chAt, ho, chO] using c1
        · exact k.oks vc H1 A' zer (by rw [add_zer]; exact S') (by rw [add_zer]; exact rr') (by rw [add_zer]; exact st1.trans st' fun _ n => n)
    · cases hk
  · cases hk
end
end XM
end
section
/-! parts of an object: written -/
namespace XM
open PySem PySem.Spec PyProof.Rows L2 Tl
def putT (f : Str) (t : T) : List (Str × T) → List (Str × T)
  | [] => [(f, t)]
  | (g, x) :: r => if g = f then (g, t) :: r else (g, x) :: putT f t r
/-- what is handed over, as a tree -/
def takeR (r : R) (ρ : Fr) : Option (T × Fr) := match r with
  | .dat d => some (.dat d, ρ)
  | .fn x => some (.fn x, ρ)
  | .own t => some (t, ρ)
  | .ref k => match ρ.rt[k]? with
    | some x => some (x.t, { ρ with rt := ρ.rt.set k ⟨.gone, x.par⟩ })
    | none => none
section
variable {K : PySem.W.Frag} {mg : Str → Option Value} {mm : Mg} {B : Bs} {O O' : Ft} {A A' A1 : Al} {ρ ρ1 : Fr} {σ : L2.St} {H H' H1 G : Hp} {E : XK}
theorem StC.takeR {F : Ft} {r : R} {v : V} {t : T} {ρ' : Fr} (S : StC K mg B (add O F) A ρ σ H) (h : RR K ⟨mg, B.η⟩ (XM.al A) (hid (tot (add O F) A) H) H v F r) (e : XM.takeR r ρ = some (t, ρ')) :
    ∃ A' F', StC K mg B (add O F') A' ρ' σ H ∧ TR K ⟨mg, B.η⟩ (hid (tot (add O F') A') H) H t v F' ∧ tot (add O F') A' = tot (add O F) A ∧ XM.al A' = XM.al A := by
  cases r with
  | dat d =>
    cases e
    obtain ⟨z, h⟩ := h
    exact ⟨A, F, S, by rw [z] at h ⊢; exact .dat h, rfl, rfl⟩
  | fn x =>
    cases e
    obtain ⟨z, f, rfl, h⟩ := h
    exact ⟨A, F, S, by rw [z]; exact .fn h, rfl, rfl⟩
  | own t' => cases e; exact ⟨A, F, S, h, rfl, rfl⟩
  | ref k =>
    unfold XM.takeR at e
    dsimp only at e
    cases hx : ρ.rt[k]? with
    | none => rw [hx] at e; cases e
    | some x =>
      rw [hx] at e
      cases e
      obtain ⟨z, ha⟩ := h
      subst z
      rw [add_zer] at S ⊢
      obtain ⟨Fk, hA⟩ := al_at ha
      obtain ⟨S1, e1, ht⟩ := S.take hA hx
      exact ⟨_, Fk, S1, by rw [e1]; exact ht, e1, al_set hA⟩
theorem TRs.putF {f : Str} {t : T} {y : V} {Ft : XM.Ft} (ht : TR K mm G H t y Ft) : ∀ {fs : List (Str × T)} {fvs : List (Str × V)} {Fn : XM.Ft}, fvs.map (·.1) = fs.map (·.1) → TRs K mm G H (fs.map (·.2)) (fvs.map (·.2)) Fn →
    ∃ F', (L2.putF f y fvs).map (·.1) = (putT f t fs).map (·.1) ∧ TRs K mm G H ((putT f t fs).map (·.2)) ((L2.putF f y fvs).map (·.2)) F' ∧ ∀ b, F' b ≤ Fn b + Ft b
  | [], [], _, _, _ => ⟨add Ft zer, rfl, .cons ht .nil, fun b => by unfold add zer; omega⟩
  | [], _ :: _, _, e, _ => by simp at e
  | _ :: _, [], _, e, _ => by simp at e
  | (g, x) :: fs, (g', x') :: fvs, Fn, e, r => by
    obtain ⟨e1, e2⟩ : g' = g ∧ fvs.map (·.1) = fs.map (·.1) := by simpa using e
    subst e1
    cases r with
    | cons a r =>
    rename_i F1 F2
    unfold L2.putF putT
    by_cases z : g' = f
    · rw [if_pos z, if_pos z]
      exact ⟨add Ft F2, by simp [e2], .cons ht r, fun b => by unfold add; omega⟩
    · rw [if_neg z, if_neg z]
      obtain ⟨F', q1, q2, q3⟩ := TRs.putF ht e2 r
      exact ⟨add F1 F', by simp [q1], .cons a q2, fun b => by have := q3 b; unfold add; omega⟩
/-- a field of an object anew -/
theorem StC.putFld {F Fn : Ft} {n : Nat} {a C dx : Addr} {c f : Str} {fs : List (Str × T)} {fvs : List (Str × V)} {pr : Option (Nat × Pl)} {t : T} {y : V} (S : StC K mg B (add O F) A ρ σ H)
    (hA : A[n]? = some (.ref a, add (one a) Fn)) (hx : ρ.rt[n]? = some ⟨.ins c fs, pr⟩) (hC : mg c = some (.ref C)) (ho : H a = some (.ins C dx fvs)) (hk : fvs.map (·.1) = fs.map (·.1))
    (tr : TRs K ⟨mg, B.η⟩ (hid (tot (add O F) A) H) H (fs.map (·.2)) (fvs.map (·.2)) Fn) (ht : TR K ⟨mg, B.η⟩ (hid (tot (add O F) A) H) H t y F) (np : ∀ (m : Nat) (x : Rt), ρ.rt[m]? = some x → x.par ≠ some (n, .fld f)) :
    ∃ A', StC K mg B O A' { ρ with rt := ρ.rt.set n ⟨.ins c (putT f t fs), pr⟩ } σ (upd H a (.ins C dx (L2.putF f y fvs))) ∧ (∀ b, O b ≠ 0 → (upd H a (.ins C dx (L2.putF f y fvs))) b = H b) ∧
      Same (hid (tot (add O F) A) H) (hid (tot O A') (upd H a (.ins C dx (L2.putF f y fvs)))) ∧ XM.al A' = XM.al A := by
  obtain ⟨F', k1, k2, k3⟩ := TRs.putF (f := f) ht hk tr
  have own1 : ∀ b, (add (one a) Fn) b + (O b + F b) ≤ 1 := fun b => by
    have h1 := S.le1 b
    have h2 := sumF_at b hA
    dsimp only at h2
    unfold tot add at h1
    unfold add at h2 ⊢
    omega
  have aa : Fn a = 0 ∧ O a = 0 ∧ F a = 0 := by
    have := own1 a
    unfold add at this
    rw [one_self] at this
    omega
  have fa : F' a = 0 := by have := k3 a; omega
  have le : ∀ b, tot O (A.set n (.ref a, add (one a) F')) b ≤ tot (add O F) A b := fun b => by
    have h1 := sumF_set (y := ((.ref a : V), add (one a) F')) b hA
    have h2 := k3 b
    dsimp only at h1
    unfold tot add at *
    omega
  have sub : ∀ b, tot (add O F) A b = 0 → tot O (A.set n (.ref a, add (one a) F')) b = 0 := fun b z => by have := le b; omega
  have na : ∀ b, tot (add O F) A b = 0 → b ≠ a := fun b z e => by
    subst e
    have h2 := sumF_at b hA
    dsimp only at h2
    have h3 : add (one b) Fn b = 1 + Fn b := by unfold add; rw [one_self]
    unfold tot add at z
    unfold add at h2 h3
    omega
  have sh : Same (hid (tot (add O F) A) H) (hid (tot O (A.set n (.ref a, add (one a) F'))) (upd H a (.ins C dx (L2.putF f y fvs)))) := fun b u q => by
    obtain ⟨z, q⟩ := hid_some q
    exact hid_at (sub b z) (by rw [upd_ne (na b z)]; exact q)
  refine ⟨A.set n (.ref a, add (one a) F'), ?_, fun b z => upd_ne fun e => by subst e; exact z aa.2.1, sh, al_set hA⟩
  refine S.setR (x := ⟨.ins c fs, pr⟩) hA hx sh (fun b _ z => upd_ne fun e => ?_) (fun b => Nat.le_trans (le b) (S.le1 b)) (fun b z => ?_) ?_ fun _ m p z w h1 h2 h3 => ?_
  · subst e
    unfold add at z
    rw [one_self] at z
    omega
  · by_cases e : b = a
    · subst e; rw [upd_same]; simp
    · rw [upd_ne e]
      exact S.al b (by have := le b; omega)
  · refine .ins hC upd_same k1 (k2.step sh fun b z => upd_ne fun e => by subst e; exact z fa)
  · have old := S.par0 hA hx rfl m p z w h1 h2 h3
    simp only [chAt, ho, upd_same, Option.bind_some] at old ⊢
    cases p with
    | fld g =>
      have ng : g ≠ f := fun e => by subst e; exact np m z h1 h2
      simp only [chO] at old ⊢
      rw [getA_lookup, lookup_putF, if_neg ng, ← getA_lookup]
      exact old
    | idx _ => simp only [chO] at old; cases old
    | key _ => simp only [chO] at old; cases old
end
def isIns (x : Option Rt) : Option (Str × List (Str × T) × Option (Nat × Pl)) := match x with
  | some ⟨.ins c fs, pr⟩ => some (c, fs, pr)
  | _ => none
/-- root n's field f is t from now on -/
def storeF (cs : List Str) (n : Nat) (f : Str) (t : T) (ρ : Fr) : Option Fr := match isIns (clr (fun jp => jp.1 == n && decide (jp.2 = .fld f)) ρ).rt[n]? with
  | some (c, fs, pr) => if c ∈ cs ∧ fs.length < 1000 then some { clr (fun jp => jp.1 == n && decide (jp.2 = .fld f)) ρ with rt := (clr (fun jp => jp.1 == n && decide (jp.2 = .fld f)) ρ).rt.set n ⟨.ins c (putT f t fs), pr⟩ } else none
  | none => none
def refN (r : R) : Option Nat := match r with
  | .ref n => some n
  | _ => none
def mSetFld (cs : List Str) (f : Str) (m mo : M R) : SM := sBnd m fun r => sBnd mo fun ro ρ => match refN ro with
  | some n => match takeR r ρ with
    | some p => (storeF cs n f p.1 p.2).map fun ρ' => .nx (tidy ρ')
    | none => none
  | none => none
section
variable {X : Cx} {E : XK} {e o value : Expr} {pos pos' : Pos} {K : PySem.W.Frag} {mg : Str → Option Value} {mm : Mg} {B : Bs} {O : Ft} {A A1 : Al} {ρ : Fr} {σ : L2.St} {H H1 : Hp}
theorem storeF_ok {F : Ft} {cs : List Str} {n : Nat} {f : Str} {t : T} {y v : V} {ρ' : Fr} (S : StC K mg B (add O F) A ρ σ H) (ht : TR K ⟨mg, B.η⟩ (hid (tot (add O F) A) H) H t y F) (ha : al A n = some v) (e : storeF cs n f t ρ = some ρ') :
    ∃ a C dx fvs c A', v = .ref a ∧ mg c = some (.ref C) ∧ c ∈ cs ∧ fvs.length < 1000 ∧ H a = some (.ins C dx fvs) ∧ StC K mg B O A' ρ' σ (upd H a (.ins C dx (L2.putF f y fvs))) ∧ (∀ b, O b ≠ 0 → (upd H a (.ins C dx (L2.putF f y fvs))) b = H b) ∧
      Same (hid (tot (add O F) A) H) (hid (tot O A') (upd H a (.ins C dx (L2.putF f y fvs)))) ∧ al A' = al A := by
  have S1 := S.clr (fun jp => jp.1 == n && decide (jp.2 = .fld f))
  unfold storeF at e
  unfold isIns at e
  split at e
  · rename_i c fs pr hi
    split at hi
    · rename_i c' fs' pr' hx
      cases hi
      split at e
      · rename_i q
        cases e
        obtain ⟨F', hA, tr⟩ := S1.root hx ha
        cases tr with
        | ins hC ho hk r =>
        obtain ⟨A', S', out, sh, l⟩ := S1.putFld (f := f) hA hx hC ho hk r ht (fun m x hm z => by
          obtain ⟨x', _, rfl⟩ := clr_at hm
          have := (clrR_par z).2
          simp at this)
        have len := congrArg List.length hk
        rw [List.length_map, List.length_map] at len
        exact ⟨_, _, _, _, _, A', rfl, hC, q.1, by rw [len]; exact q.2, ho, S', out, sh, l⟩
      · cases e
    · cases hi
  · cases e
theorem ds_setFld {m mo : M R} {cs : List Str} {f : Str} (hc : ∀ c ∈ cs, FldK X.K X.mg f c) (ho : DE X E o mo) (hv : DE X E value m) (hs : swapsWith value (some (.Attribute o f pos')) pos.line X.env = pure false := by rfl) : DS X E (.Assign [.Attribute o f pos'] value pos) (mSetFld cs f m mo) := by
  refine ⟨ps_imp (ps_fld ho.pe hv.pe hs) fun D σ H h => ?_⟩
  obtain ⟨B, O, A, ρ, out, S, hm, kk⟩ := h
  refine run_st S kk hm fun r ρ1 y H1 A1 F hk S1 rr1 st1 => ?_
  have kk1 : AftS X.K X.mg B O A H E D out := kk
  unfold sBnd at hk
  cases em : mo ρ1 with
  | none => rw [em] at hk; cases hk
  | some o1 =>
    rw [em] at hk
    cases o1 with
    | ex c ρ2 =>
      cases hk
      exact ⟨B, add O F, A1, ρ1, _, S1, em, fun C H' A' hc S' st => kk C σ H' A' hc (S'.weak fun a => le_add a) ((st1.toSto.trans st fun a n => add_l n).weak fun a => le_add a)⟩
    | ok ro ρ2 =>
      dsimp only at hk
      refine ⟨B, add O F, A1, ρ1, _, S1, em, fun x H2 A2 F2 S2 rr2 st2 => ?_⟩
      cases hr : refN ro with
      | none => rw [hr] at hk; cases hk
      | some n =>
      rw [hr] at hk
      dsimp only at hk
      cases ht : takeR r ρ2 with
      | none => rw [ht] at hk; cases hk
      | some p =>
      obtain ⟨t, ρ3⟩ := p
      rw [ht] at hk
      dsimp only at hk
      cases hst : storeF cs n f t ρ3 with
      | none => rw [hst] at hk; cases hk
      | some ρ4 =>
      rw [hst] at hk
      cases hk
      obtain ⟨rfl, ha⟩ : F2 = zer ∧ al A2 n = some x := by
        cases ro with
        | ref m => cases hr; exact rr2
        | dat d => cases hr
        | fn x => cases hr
        | own t => cases hr
      rw [add_zer] at S2 st2
      have rr1' := rr1.step st2 (fun a n => add_r n)
      obtain ⟨A3, F3, S3, tr, e3, l3⟩ := S2.takeR rr1' ht
      obtain ⟨a, C, dx, fvs, c, A4, rfl, hC, hcs, hl, ho, S4, out4, sh4, _⟩ := storeF_ok S3 tr (by rw [l3]; exact ha) hst
      obtain ⟨q1, q2⟩ := hc c hcs C hC
      refine ⟨a, C, dx, fvs, rfl, ho, q1, q2, hl, ?_⟩
      obtain ⟨A5, S5, s5⟩ := S4.tidy
      refine kk σ _ A5 S5 ⟨fun b z => (out4 b z).trans ((st2.out b (add_l z)).trans (st1.out b z)), ?_⟩
      rw [e3] at sh4
      exact ((st1.sh.trans st2.sh).trans sh4).trans s5
end
end XM
end
section
/-! methods and constructors -/
namespace XM
open PySem PySem.Spec PyProof.Rows L2 Tl
/-- the method m of the class named c stands in the text as st; defaults dts -/
structure MDnG (K : PySem.W.Frag) (mg : Str → Option Value) (c m qual : Str) (st : Stmt) (ps : List Str) (dts : List D) : Prop where
  ex : ∃ C f fd ds dvs, mg c = some (.ref C) ∧ Cls K C ∧ Meth K C m f ∧ Fun K m qual st f fd ∧ L2.Binds K fd ps ds ∧ Vals dvs ds ∧ ∀ G, DqAll K G dvs dts
/-- .. its promise -/
structure MetG (P : Program) (w : World) (K : PySem.W.Frag) (mg : Str → Option Value) (base : Heap) (CX : CXT) (k : Nat) (c m : Str) (n : Nat) (dts : List D) (sp : Sp) : Prop where
  ex : ∃ C f fd ps ds dvs, mg c = some (.ref C) ∧ Cls K C ∧ Meth K C m f ∧ FnG P w K mg base CX k f fd ps sp ∧ L2.Binds K fd ps ds ∧ Vals dvs ds ∧ (∀ G, DqAll K G dvs dts) ∧ ps.length = n
/-- the class named c is made by its name; its __init__ -/
structure IniD (K : PySem.W.Frag) (mg : Str → Option Value) (c qual : Str) (st : Stmt) (ps : List Str) (dts : List D) : Prop where
  ex : ∃ C f fd ds dvs, mg c = some (.ref C) ∧ Mk K C f ∧ Fun K "__init__" qual st f fd ∧ L2.Binds K fd ps ds ∧ Vals dvs ds ∧ ∀ G, DqAll K G dvs dts
structure IniG (P : Program) (w : World) (K : PySem.W.Frag) (mg : Str → Option Value) (base : Heap) (CX : CXT) (k : Nat) (c : Str) (n : Nat) (dts : List D) (sp : Sp) : Prop where
  ex : ∃ C f fd ps ds dvs, mg c = some (.ref C) ∧ Mk K C f ∧ FnG P w K mg base CX k f fd ps sp ∧ L2.Binds K fd ps ds ∧ Vals dvs ds ∧ (∀ G, DqAll K G dvs dts) ∧ ps.length = n
section
variable {P : Program} {w : World} {K : PySem.W.Frag} {mg : Str → Option Value} {base : Heap} {c m qual : Str} {st : Stmt} {N ps : List Str} {k n j : Nat} {b : SM} {dts : List D}
theorem mt0n (D : MDnG K mg c m qual st ps dts) (S : FnScope N ps (defScope st)) (hl : ps.length ≤ N.length) (hn : N.length = n) (hj : ps.length = j)
    (hb : ∀ (f : Addr) (cdv : Value) (A : Around) (outer : List Env) (s : Shared) (H : Hp) (E : XK), Quiet (A.deeper (envOfC qual (defScope st) s.heap.objs.size f cdv)) → Room k (A.deeper (envOfC qual (defScope st) s.heap.objs.size f cdv)) → DSs (cxOf CX0 P w K mg base N qual (defScope st) f cdv A outer s H E).nox (fun _ _ _ => False) (defBody st) b) :
    MetG P w K mg base CX0 (k + 1) c m j dts (sp0 K mg j (mDef n b)) := by
  subst hn hj
  obtain ⟨C, f, fd, ds, dvs, hc, cl, me, F, bi, vd, dq⟩ := D.ex
  refine ⟨C, f, fd, ps, ds, dvs, hc, cl, me, fnG_of F S (fun vs H Q E h => sp_len h) fun cdv A outer s H vs Q E hq hr h => ?_, bi, vd, dq, rfl⟩
  obtain ⟨η, O, F, as, out, e, p1, p2, p3, hm, kk⟩ := h
  exact ⟨_, (hb f cdv A outer s H E hq hr).pss.nox, body_run p1 p2 p3 (by rw [e]; exact hl) hm kk⟩
theorem in0n (D : IniD K mg c qual st ps dts) (S : FnScope N ps (defScope st)) (hl : ps.length ≤ N.length) (hn : N.length = n) (hj : ps.length = j)
    (hb : ∀ (f : Addr) (cdv : Value) (A : Around) (outer : List Env) (s : Shared) (H : Hp) (E : XK), Quiet (A.deeper (envOfC qual (defScope st) s.heap.objs.size f cdv)) → Room k (A.deeper (envOfC qual (defScope st) s.heap.objs.size f cdv)) → DSs (cxOf CX0 P w K mg base N qual (defScope st) f cdv A outer s H E).nox (fun _ _ _ => False) (defBody st) b) :
    IniG P w K mg base CX0 (k + 1) c j dts (sp0 K mg j (mDef n b)) := by
  subst hn hj
  obtain ⟨C, f, fd, ds, dvs, hc, me, F, bi, vd, dq⟩ := D.ex
  refine ⟨C, f, fd, ps, ds, dvs, hc, me, fnG_of F S (fun vs H Q E h => sp_len h) fun cdv A outer s H vs Q E hq hr h => ?_, bi, vd, dq, rfl⟩
  obtain ⟨η, O, F, as, out, e, p1, p2, p3, hm, kk⟩ := h
  exact ⟨_, (hb f cdv A outer s H E hq hr).pss.nox, body_run p1 p2 p3 (by rw [e]; exact hl) hm kk⟩
end
/-! ### the rules -/
section
variable {X : Cx} {CX : CXT} {k j : Nat} {C f : Addr} {fd : FuncData} {ps : List Str} {m x : Str} {sp : Sp} {dvs : List V} {ds : List Value} {E : XK} {o e : Expr} {es : List Expr} {ta : TE} {t : TA} {p apos pos : Pos} {pl : Sem Bool}
theorem pe_methG (F : FnG X.prog X.w X.K X.mg X.base CX k f fd ps sp) (c : Cls X.K C) (hm : Meth X.K C m f) (hb : L2.Binds X.K fd ps ds) (hd : Vals dvs ds) (quiet : Quiet X.A) (hr : Room k X.A) (hx : Passes CX X E)
    (he : PE X o ta) (ha : PA X es t)
    (ht : ∀ {pins : List (Addr × Obj)} {s : Shared} {σ : L2.St} {H : Hp} {Q : Value → Shared → Prop}, Inv X pins σ H s → wpAny (model X.prog X.w) X.A (eval o X.env) (fun ov s1 => wpAny (model X.prog X.w) X.A (getMethod ov m pl) (fun fx s2 => ∃ us0, fx = (Value.ref f, us0) ∧ X.K.In s2.heap ∧
        wpAny (model X.prog X.w) X.A (spliced (backTo pos (starEach es X.env))) (fun us s3 => X.K.In s3.heap ∧ wpAny (model X.prog X.w) X.A (call (.ref f) (us0 ++ us)) Q X.xe s3) X.xe s2) X.xe s1) X.xe s →
      wpAny (model X.prog X.w) X.A (eval (.Call (.Attribute o m apos) es [] pos) X.env) Q X.xe s) :
    PE X (.Call (.Attribute o m apos) es [] pos) (tMeth C m sp dvs E ta t) := by
  refine ⟨fun pins s σ H Q I h => ht I ?_⟩
  refine thn (he.run pins s σ H _ I h) fun u s1 ⟨x, H1, I1, rx, a, dx, fs, ex, ea, l, q⟩ => ?_
  subst ex
  obtain rfl : u = Value.ref a := rx
  refine getmeth_ok I1 ea c hm l ⟨[.ref a], rfl, I1.kIn, ?_⟩
  refine thn (ha.run pos pins s1 σ H1 _ I1 q) fun us s2 ⟨vs, H2, I2, r, q2⟩ => ⟨I2.kIn, ?_⟩
  exact run_fnG (us := .ref a :: us) (vs := .ref a :: vs) F quiet hr hb hd hx I2 (.cons rfl r) q2
theorem run_makeG {pins : List (Addr × Obj)} {σ : L2.St} {H : Hp} {s : Shared} {Q : VK} {us : List Value} {vs : List V} (M : Mk X.K C f) (F : FnG X.prog X.w X.K X.mg X.base CX k f fd ps sp) (quiet : Quiet X.A) (hr : Room (k + 1) X.A)
    (hb : L2.Binds X.K fd ps ds) (hd : Vals dvs ds) (hx : Passes CX X E) (I : Inv X pins σ H s) (r : Vals vs us)
    (h : ∀ x dx, H x = none → H dx = none → dx ≠ x → sp (.ref x :: (vs ++ dvs)) (upd (upd H dx (.own x)) x (.ins C dx [])) (fun v H2 => v = .non ∧ Q (.ref x) H2) E) :
    wpAny (model X.prog X.w) X.A (call (.ref C) us) (EP X pins σ Q) X.xe s := by
  have want := h (s.heap.objs.size + 1) s.heap.objs.size (I.hok.fresh (Nat.le_succ _)) (I.hok.fresh (Nat.le_refl _)) (Nat.ne_of_lt (Nat.lt_succ_self _))
  have made := Inv.made (C := C) I
  have both : Vals (V.ref (s.heap.objs.size + 1) :: (vs ++ dvs)) (Value.ref (s.heap.objs.size + 1) :: (us ++ ds)) := .cons rfl (r.append hd)
  have size : (Value.ref (s.heap.objs.size + 1) :: us ++ ds).length = ps.length := both.length.symm.trans (F.len _ _ _ _ want)
  have run := F.run (A := X.A.under (.builtin "type.__call__" ⟨.ref C :: us, []⟩)) X.stack _ _ ⟨Value.ref (s.heap.objs.size + 1) :: us, []⟩ (Value.ref (s.heap.objs.size + 1) :: (us ++ ds)) _ _ E quiet (hr.make C us [])
    (made.env0.make C us []) (hb _ (Value.ref (s.heap.objs.size + 1) :: us) made.kIn size) both want
  refine wpAny_call (make_map (f := f) I.kIn M.makes M.init (beq_iff_eq.mp M.fn) (codeAny_mono run fun r s' got => ?_))
  match r, got with
  | .error e, got => exact hx pins σ _ _ e s' made got
  | .ok .next, got => exact got.elim
  | .ok .brk, got => exact got.elim
  | .ok .cont, got => exact got.elim
  | .ok (.ret u), got =>
    obtain ⟨v, H', I3, rv, ev, q3⟩ := made.after got
    subst ev
    exact ⟨rv, V.ref (s.heap.objs.size + 1), H', I3, rfl, q3⟩
theorem pe_makeG (M : Mk X.K C f) (F : FnG X.prog X.w X.K X.mg X.base CX k f fd ps sp) (quiet : Quiet X.A) (hr : Room (k + 1) X.A) (hg : Gl X x) (hm : X.mg x = some (.ref C)) (hb : L2.Binds X.K fd ps ds) (hd : Vals dvs ds) (hx : Passes CX X E) (ha : PA X (e :: es) t)
    (hdb : (x == ("__debug__" : Str)) = false := by decide) (he : starEach (e :: es) X.env = (false, eval e X.env) :: starEach es X.env := by rfl) (hpl : (backTo pos (starEach es X.env)).any (·.1) = false := by rfl) :
    PE X (.Call (.Name x p) (e :: es) [] pos) (tMake C sp dvs E t) := ⟨fun pins s σ H Q I h =>
  wpAny_Call_Name_kw (ld_glob I hg hm (PySem.W.callWith_K (h₀ := X.base) I.ok.mod.kin M.kp (thn (ha.run pos pins s σ H _ I h) fun us s1 ⟨vs, H1, I1, r, q⟩ => ⟨I1.kIn, run_makeG M F quiet hr hb hd hx I1 r q⟩) he hpl) hdb)⟩
theorem pe_makeG0 (M : Mk X.K C f) (F : FnG X.prog X.w X.K X.mg X.base CX k f fd ps sp) (quiet : Quiet X.A) (hr : Room (k + 1) X.A) (hg : Gl X x) (hm : X.mg x = some (.ref C)) (hb : L2.Binds X.K fd ps ds) (hd : Vals dvs ds) (hx : Passes CX X E)
    (hdb : (x == ("__debug__" : Str)) = false := by decide) : PE X (.Call (.Name x p) [] [] pos) (tMake C sp dvs E tNil) := ⟨fun pins s σ H Q I h =>
  wpAny_Call_Name_kw (ld_glob I hg hm (PySem.W.callWith_K0 I.kIn M.kp (run_makeG (us := []) M F quiet hr hb hd hx I .nil h)) hdb)⟩
end
end XM
end
section
/-! calls of methods and of classes, read -/
namespace XM
open PySem PySem.Spec PyProof.Rows L2 Tl
/-- o.m(..), o an object of class c; f the method's run, dts its defaults -/
def mMeth (c m : Str) (f : FM) (dts : List D) (mo : M R) (ms : List (M R)) : M R := bnd mo fun ro ρ0 => match clsAt ro ρ0 with
  | some (_, c', fs) => if c' = c ∧ getA m fs = none then (bnd (mArgs ms) fun rs => noEx (callM f (ro :: (rs ++ dts.map R.dat)))) ρ0 else none
  | none => none
/-- c(..) -/
def newM (c : Str) (f : FM) (rs : List R) : M R := fun ρ =>
  let ρ1 := gathers rs ρ
  let p := takes rs ρ1
  match f (.ins c [] :: p.1) with
  | some (.ret (.dat .none) (s :: ts)) => some (.ok (toR s) (puts rs ts p.2))
  | _ => none
def mNew (c : Str) (f : FM) (dts : List D) (ms : List (M R)) : M R := bnd (mArgs ms) fun rs => newM c f (rs ++ dts.map R.dat)
section
variable {K : PySem.W.Frag} {mg : Str → Option Value} {mm : Mg} {B : Bs} {O O' : Ft} {A A' A1 : Al} {ρ ρ1 : Fr} {σ : L2.St} {H H' H1 G : Hp} {E : XK} {α : Nat → Option V}
theorem RRs.dats : ∀ {vs : List V} {ds : List D}, DqAll K G vs ds → RRs K mm α G H vs zer (ds.map R.dat)
  | _, _, .nil => .nil
  | _, _, .cons h r => by
    have := RRs.cons (K := K) (mm := mm) (α := α) (H := H) (r := R.dat _) ⟨rfl, h⟩ (RRs.dats r)
    rw [add_zer] at this
    exact this
theorem RRs.app : ∀ {vs ws : List V} {F F' : Ft} {rs ss : List R}, RRs K mm α G H vs F rs → RRs K mm α G H ws F' ss → RRs K mm α G H (vs ++ ws) (add F F') (rs ++ ss)
  | _, _, _, _, _, _, .nil, s => by rw [zer_add]; exact s
  | _, _, _, _, _, _, .cons h r, s => by
    rw [add_assoc]
    exact .cons h (RRs.app r s)
theorem RRs.defs {vs dvs : List V} {F : Ft} {rs : List R} {dts : List D} (h : RRs K mm α G H vs F rs) (d : ∀ G, DqAll K G dvs dts) : RRs K mm α G H (vs ++ dvs) F (rs ++ dts.map R.dat) := by
  have := h.app (RRs.dats (H := H) (mm := mm) (α := α) (d G))
  rw [add_zer] at this
  exact this
/-- an empty object is made, its __init__ run -/
theorem new_ok {f : FM} {n : Nat} {c : Str} {C : Addr} {rs : List R} {vs : List V} {F : Ft} {out : Out R} {Q : VK} {A0 : Al} {H0 : Hp} (S : StC K mg B (add O F) A ρ σ H) (h : RRs K ⟨mg, B.η⟩ (al A) (hid (tot (add O F) A) H) H vs F rs) (hn : rs.length + 1 = n) (hC : mg c = some (.ref C))
    (e : newM c f rs ρ = some out) (st1 : Stp O A0 H0 (add O F) A H) (k : ∀ r ρ', out = .ok r ρ' → okE K mg B O A0 σ H0 Q r ρ') :
    ∀ x dx, H x = none → H dx = none → dx ≠ x → spM K mg n f (.ref x :: vs) (upd (upd H dx (.own x)) x (.ins C dx [])) (fun v H2 => v = .non ∧ Q (.ref x) H2) E := by
  intro x dx nx ndx ne
  obtain ⟨A1, S1, s1, l1⟩ := StC.gathers rs S
  have h1 := h.weakG (α' := al A1) s1 (fun r v q => by rw [l1]; exact q)
  obtain ⟨A2, F2, S2, tr, l2, t2, n2⟩ := takes_ok S1 h1
  -- the heap with the new object
  obtain ⟨S3, st3, _⟩ := S2.newS (o := .own x) ndx
  have nx3 : (upd H dx (.own x)) x = none := by rw [upd_ne (fun q => ne q.symm)]; exact nx
  obtain ⟨S4, st4⟩ := S3.newO (o := .ins C dx []) nx3
  generalize hH : upd (upd H dx (.own x)) x (HO.ins C dx []) = Hn at S4 st4
  have hx4 : Hn x = some (.ins C dx []) := by rw [← hH]; exact upd_same
  have tr4 : TRs K ⟨mg, B.η⟩ (hid (tot (add (add O F2) (one x)) A2) Hn) Hn (takes rs (XM.gathers rs ρ)).1 vs F2 := by
    refine tr.step (st3.sh.trans st4.sh) fun a z => ?_
    have z2 : add O F2 a ≠ 0 := add_r z
    rw [st4.out a z2, st3.out a z2]
  have so : TR K ⟨mg, B.η⟩ (hid (tot (add (add O F2) (one x)) A2) Hn) Hn (.ins c []) (.ref x) (add (one x) zer) := .ins hC hx4 rfl .nil
  rw [add_zer] at so
  have eO : add (add O (sumF A2)) (add (one x) F2) = tot (add (add O F2) (one x)) A2 := by funext a; show O a + sumF A2 a + (one x a + F2 a) = O a + F2 a + one x a + sumF A2 a; omega
  unfold newM at e
  dsimp only at e
  generalize hρ : (takes rs (XM.gathers rs ρ)).2 = ρ2 at e S2 S3 S4
  cases em : f (.ins c [] :: (takes rs (XM.gathers rs ρ)).1) with
  | none => rw [em] at e; cases e
  | some fo =>
  rw [em] at e
  refine ⟨B.η, add O (sumF A2), add (one x) F2, _, fo, by rw [List.length_cons, n2, hn], by rw [eO]; exact .cons so tr4, by rw [eO]; exact S4.le1, by rw [eO]; exact S4.al, em, ?_⟩
  cases fo with
  | ex c' ts => cases e
  | ret t ts =>
    cases ts with
    | nil =>
      have : ¬ ∃ o, some o = some out ∧ False := fun ⟨_, _, z⟩ => z
      cases t with
      | dat d => cases d <;> cases e
      | _ => cases e
    | cons s ts =>
    have et : t = .dat .none ∧ out = .ok (toR s) (XM.puts rs ts ρ2) := by
      cases t with
      | dat d => cases d <;> first | (cases e; exact ⟨rfl, rfl⟩) | cases e
      | _ => cases e
    obtain ⟨rfl, rfl⟩ := et
    rintro v H' F' Ft ⟨p1, p2, p3, p4, p5, p6⟩
    have z0 : v = .non ∧ Ft = zer := by cases p2 with | dat h => cases h; exact ⟨rfl, rfl⟩
    obtain ⟨rfl, rfl⟩ := z0
    refine ⟨rfl, ?_⟩
    rw [add_zer] at p1 p3 p4 p6
    cases p1 with
    | cons ps pr =>
    rename_i Fs Fr
    have e3 : add (add O (sumF A2)) (add Fs Fr) = tot (add (add O Fs) Fr) A2 := by funext a; show O a + sumF A2 a + (Fs a + Fr a) = O a + Fs a + Fr a + sumF A2 a; omega
    rw [e3] at ps pr p3 p4 p6
    rw [eO] at p6
    have keepA : ∀ a, sumF A2 a ≠ 0 → H' a = H a := fun a z => by
      have w1 : tot (add O F2) A2 a ≠ 0 := by unfold tot add; omega
      have w2 : H a ≠ none := S2.al a w1
      rw [p5 a (by unfold add; omega), ← hH, upd_ne (fun q => by subst q; exact w2 nx), upd_ne (fun q => by subst q; exact w2 ndx)]
    have keepO : ∀ a, O a ≠ 0 → H' a = H a := fun a z => by
      have w1 : tot (add O F2) A2 a ≠ 0 := by unfold tot add; omega
      have w2 : H a ≠ none := S2.al a w1
      rw [p5 a (by unfold add; omega), ← hH, upd_ne (fun q => by subst q; exact w2 nx), upd_ne (fun q => by subst q; exact w2 ndx)]
    have sh : Same (hid (tot (add O F2) A2) H) (hid (tot (add (add O Fs) Fr) A2) H') := (st3.sh.trans st4.sh).trans p6
    have S5 : StC K mg B (add (add O Fs) Fr) A2 ρ2 σ H' := S2.move sh keepA p3 p4
    obtain ⟨A3, S6, l6, s6⟩ := S5.puts (rs := rs) pr (fun i n v q1 q2 => by rw [l2]; exact h1.nth_ref i n v q1 q2)
    rw [t2] at sh
    exact k _ _ rfl (.ref x) H' A3 Fs S6 (toR_ok (ps.step s6 fun _ _ => rfl)) ⟨⟨fun a z => (keepO a z).trans (st1.out a z), ((st1.sh.trans s1).trans sh).trans s6⟩, fun r u q => by rw [l6, l2, l1]; exact st1.al r u q⟩
end
section
variable {X : Cx} {E : XK} {o e : Expr} {es : List Expr} {c m x : Str} {f : FM} {mo : M R} {dts : List D} {k j n : Nat} {p apos pos : Pos} {pl : Sem Bool}
theorem arun_nil {K : PySem.W.Frag} {mg : Str → Option Value} {σ : L2.St} {H : Hp} {Q : List V → Hp → Prop} (h : ARun K mg (mArgs []) E σ H Q) : Q [] H := by
  obtain ⟨B, O, A, ρ, out, S, hm, kk⟩ := h
  cases hm
  exact kk.oks [] H A zer (by rw [add_zer]; exact S) .nil (by rw [add_zer]; exact Stp.refl)
theorem Aft.imp {β : Type} {K : PySem.W.Frag} {mg : Str → Option Value} {B : Bs} {O : Ft} {A : Al} {σ : L2.St} {H : Hp} {ok ok' : β → Fr → Prop} {out : Out β} (h : Aft K mg B O A σ H E ok out) (i : ∀ r ρ', ok r ρ' → ok' r ρ') : Aft K mg B O A σ H E ok' out := by
  cases out with
  | ok r ρ' => exact i r ρ' h
  | ex c ρ' => exact h
theorem run_meth {C : Addr} {dvs : List V} {ms : List (M R)} {σ : L2.St} {H : Hp} {Q : VK} (hC : X.mg c = some (.ref C)) (dq : ∀ G, DqAll X.K G dvs dts) (hn : ms.length + 1 + dts.length = n) (h : ERun X.K X.mg (mMeth c m f dts mo ms) E σ H Q) :
    tMeth C m (sp0 X.K X.mg n f) dvs E (ERun X.K X.mg mo E) (ARun X.K X.mg (mArgs ms) E) σ H Q := by
  obtain ⟨B, O, A, ρ, out, S, hm, kk⟩ := h
  refine run_bnd S hm kk.exc fun ro ρ1 v H1 A1 F1 hk S1 rr1 st1 x1 => ?_
  split at hk
  · rename_i i c' fs e1
    split at hk
    · rename_i q
      obtain ⟨rfl, q2⟩ := q
      obtain ⟨a, C', dx, fvs, Fn, pr, rfl, rfl, rfl, ha, hC', ho, hkk, _, _, _⟩ := clsAt_ok S1 rr1 e1
      rw [add_zer] at S1 st1
      have : C' = C := by have z := hC.symm.trans hC'; cases z; rfl
      subst this
      refine ⟨a, dx, fvs, rfl, ho, ?_, ?_⟩
      · cases z : List.lookup m fvs with
        | none => rfl
        | some u =>
          exfalso
          have : ∀ {fs : List (Str × T)} {fvs : List (Str × V)}, fvs.map (·.1) = fs.map (·.1) → getA m fs = none → List.lookup m fvs = none := by
            intro fs
            induction fs with
            | nil => intro fvs e _; cases fvs with | nil => rfl | cons _ _ => simp at e
            | cons p fs ih =>
              intro fvs e g
              cases fvs with
              | nil => simp at e
              | cons q fvs =>
                obtain ⟨e1, e2⟩ : q.1 = p.1 ∧ fvs.map (·.1) = fs.map (·.1) := by simpa using e
                unfold getA at g
                split at g
                · cases g
                · rename_i ne
                  obtain ⟨q1, q2⟩ := q
                  dsimp only at e1
                  subst e1
                  rw [List.lookup_cons, show (m == p.1) = false from beq_eq_false_iff_ne.mpr fun z => ne z.symm]
                  exact ih e2 g
          rw [this hkk q2] at z
          cases z
      · rw [add_zer] at x1
        refine run_args S1 hk x1 fun rs ρ2 vs H2 A2 F2 hk2 hl S2 rr2 st2 => ?_
        obtain ⟨r, ρ', rfl, e2⟩ := noEx_some hk2
        have self : RR X.K ⟨X.mg, B.η⟩ (al A2) (hid (tot (add O F2) A2) H2) H2 (.ref a) zer (.ref i) := ⟨rfl, st2.al _ _ ha⟩
        have rrs := RRs.cons self (rr2.defs dq)
        rw [zer_add] at rrs
        refine call_ok S2 rrs (by simp [hl]; omega) e2 (st1.trans st2 fun _ n => n) (fun c ρ' z => nomatch z) fun r ρ' z => by cases z; exact kk.oks
    · cases hk
  · cases hk
theorem de_meth {ms : List (M R)} (c0 : MetG X.prog X.w X.K X.mg X.base CX0 k c m n dts (sp0 X.K X.mg n f)) (quiet : Quiet X.A) (hr : Room j X.A) (hk : k ≤ j) (hn : ms.length + 1 + dts.length = n) (ho : DE X E o mo) (ha : DA X E (e :: es) (mArgs ms))
    (he : starEach (e :: es) X.env = (false, eval e X.env) :: starEach es X.env := by rfl) (hpl : (backTo pos (starEach es X.env)).any (·.1) = false := by rfl)
    (ht : eval (.Call (.Attribute o m apos) (e :: es) [] pos) X.env = (do
      let ov ← eval o X.env
      standAt apos.atName
      let (f, first) ← holding [ov] (getMethod ov m pl)
      callWith pos f first (backTo pos (starEach (e :: es) X.env)) (backToKw pos (keywordEach [] X.env))) := by rfl) :
    DE X E (.Call (.Attribute o m apos) (e :: es) [] pos) (mMeth c m f dts mo ms) := by
  obtain ⟨C, g, fd, ps, ds, dvs, hC, cl, me, F, bi, vd, dq, rfl⟩ := c0.ex
  refine ⟨pe_imp (pe_methG (pl := pl) (E := E) F cl me bi vd quiet (hr.mono hk) (fun _ _ _ _ _ _ _ h => h.elim) ho.pe ha.pa fun I h => ?_) fun σ H Q h => run_meth hC dq hn h⟩
  refine PySem.W.methodCall_KW (pl := pl) (wpAny_mono h (fun ov s1 h1 => wpAny_mono h1 (fun fx s2 h2 => ?_) fun _ _ q => q) fun _ _ q => q) ht
  obtain ⟨us0, rfl, kin, h3⟩ := h2
  exact PySem.W.callWith_K (first := us0) (h₀ := X.base) I.ok.mod.kin me.kp h3 he hpl
theorem de_meth0 (c0 : MetG X.prog X.w X.K X.mg X.base CX0 k c m n dts (sp0 X.K X.mg n f)) (quiet : Quiet X.A) (hr : Room j X.A) (hk : k ≤ j) (hn : 1 + dts.length = n) (ho : DE X E o mo)
    (ht : eval (.Call (.Attribute o m apos) [] [] pos) X.env = (do
      let ov ← eval o X.env
      standAt apos.atName
      let (f, first) ← holding [ov] (getMethod ov m pl)
      callWith pos f first (backTo pos (starEach [] X.env)) (backToKw pos (keywordEach [] X.env))) := by rfl) :
    DE X E (.Call (.Attribute o m apos) [] [] pos) (mMeth c m f dts mo []) := by
  obtain ⟨C, g, fd, ps, ds, dvs, hC, cl, me, F, bi, vd, dq, hps⟩ := c0.ex
  refine ⟨pe_imp (t := tMeth C m (sp0 X.K X.mg n f) dvs E (ERun X.K X.mg mo E) tNil) ⟨fun pins s σ H Q I h => ?_⟩ fun σ H Q h => ?_⟩
  · refine PySem.W.methodCall_KW (pl := pl) (thn (ho.pe.run pins s σ H _ I h) fun u s1 ⟨x, H1, I1, rx, a, dx, fs, ex, ea, l, q⟩ => ?_) ht
    subst ex
    obtain rfl : u = Value.ref a := rx
    exact getmeth_ok I1 ea cl me l (PySem.W.callWith_K0 (first := [.ref a]) I1.kIn me.kp (run_fnG (E := E) (us := [.ref a]) (vs := [.ref a]) F quiet (hr.mono hk) bi vd (fun _ _ _ _ _ _ _ h => h.elim) I1 (.cons rfl .nil) q))
  · have q := run_meth (n := n) (ms := []) hC dq (by rw [List.length_nil, Nat.zero_add]; exact hn) h
    obtain ⟨B, O, A, ρ, out, S, hm, kk⟩ := q
    exact ⟨B, O, A, ρ, out, S, hm, kk.imp fun r ρ' q v H' A' F' S' rr st => by
      obtain ⟨a, dx, fs, e1, e2, e3, q⟩ := q v H' A' F' S' rr st
      exact ⟨a, dx, fs, e1, e2, e3, arun_nil q⟩⟩
theorem run_new {C : Addr} {dvs : List V} {ms : List (M R)} {σ : L2.St} {H : Hp} {Q : VK} (hC : X.mg c = some (.ref C)) (dq : ∀ G, DqAll X.K G dvs dts) (hn : ms.length + 1 + dts.length = n) (h : ERun X.K X.mg (mNew c f dts ms) E σ H Q) :
    tMake C (sp0 X.K X.mg n f) dvs E (ARun X.K X.mg (mArgs ms) E) σ H Q := by
  obtain ⟨B, O, A, ρ, out, S, hm, kk⟩ := h
  refine run_args S hm kk.exc fun rs ρ1 vs H1 A1 F hk hl S1 rr1 st1 => ?_
  exact new_ok S1 (rr1.defs dq) (by simp [hl]; omega) hC hk st1 fun r ρ' e => by subst e; exact kk.oks
theorem de_new {ms : List (M R)} (c0 : IniG X.prog X.w X.K X.mg X.base CX0 k c n dts (sp0 X.K X.mg n f)) (quiet : Quiet X.A) (hr : Room j X.A) (hk : k + 1 ≤ j) (hg : Gl X c) (hn : ms.length + 1 + dts.length = n) (ha : DA X E (e :: es) (mArgs ms))
    (hdb : (c == ("__debug__" : Str)) = false := by decide) (he : starEach (e :: es) X.env = (false, eval e X.env) :: starEach es X.env := by rfl) (hpl : (backTo pos (starEach es X.env)).any (·.1) = false := by rfl) :
    DE X E (.Call (.Name c p) (e :: es) [] pos) (mNew c f dts ms) := by
  obtain ⟨C, g, fd, ps, ds, dvs, hC, me, F, bi, vd, dq, rfl⟩ := c0.ex
  exact ⟨pe_imp (pe_makeG (E := E) me F quiet (hr.mono hk) hg hC bi vd (fun _ _ _ _ _ _ _ h => h.elim) ha.pa hdb he hpl) fun σ H Q h => run_new hC dq hn h⟩
theorem de_new0 (c0 : IniG X.prog X.w X.K X.mg X.base CX0 k c n dts (sp0 X.K X.mg n f)) (quiet : Quiet X.A) (hr : Room j X.A) (hk : k + 1 ≤ j) (hg : Gl X c) (hn : 1 + dts.length = n) (hdb : (c == ("__debug__" : Str)) = false := by decide) :
    DE X E (.Call (.Name c p) [] [] pos) (mNew c f dts []) := by
  obtain ⟨C, g, fd, ps, ds, dvs, hC, me, F, bi, vd, dq, rfl⟩ := c0.ex
  refine ⟨pe_imp (pe_makeG0 (E := E) me F quiet (hr.mono hk) hg hC bi vd (fun _ _ _ _ _ _ _ h => h.elim) hdb) fun σ H Q h => ?_⟩
  exact arun_nil (run_new (n := ps.length) (ms := []) hC dq (by rw [List.length_nil, Nat.zero_add]; exact hn) h)
end
end XM
end
section
/-! max(list of ints, default=d) -/
namespace Tl
open PySem PySem.Spec PyProof.Rows L2
def biggest (m : Int) (ns : List Int) : Int := ns.foldl (fun a b => if b > a then b else a) m
def bestKw (d : Value) : List (Str × Value) := [(Str.ofString "default", d)]
theorem args_maxD (a d : Value) : argsOk "max" ⟨[a], bestKw d⟩ := by unfold argsOk bestKw; kernel_rfl
theorem maxLoopName : (toString "max" ++ toString ".loop" : String) = "max.loop" := by decide
theorem gt_ints {prog : Program} {w : World} {A : Around} {E : Value → Shared → Prop} {s : Shared} {a b : Int} {t u : Tok} {Q : Value → Shared → Prop} (h : Q (.bool (decide (a > b))) s) : wpAny (model prog w) A (richCompare .Gt (.int a t) (.int b u)) Q E s :=
  CmpOf.ints_gt (P := fun i v => if i = 0 then v = .int a t else v = .int b u) (fun i => if i = 0 then a else b) (fun i v hv => by by_cases z : i = 0 <;> simp only [z, if_true, if_false] at hv ⊢ <;> exact ⟨_, hv⟩) 0 1 _ _ s Q E rfl rfl h
section
variable {prog : Program} {w : World} {A : Around} {R : Result → Shared → Prop} {I : Addr} {fp wr : List Addr} {St : Nat → Heap → Prop} {d : Value} {its : List Value} {ns : List Int}
theorem maxD_turns (W : Walks prog w A.in1 I fp wr its.length (fun i v => its[i]? = some v) St) (hi : Vals (ns.map V.int) its) (S : Addr) (off : S ∉ fp) : ∀ (left j : Nat) (s : Shared) (m : Int) (t : Tok) (c : Nat),
    its.length - j = left → j ≤ its.length → St j s.heap → s.heap.get? S = some { cls := .type "list", dict := none, data := .seq #[.int m t, .int m t] c, slots := #[] } →
    (∀ t' h' tk, (∀ b o, b ∉ wr → b ≠ S → s.heap.get? b = some o → h'.get? b = some o) → R (.ok (.ret (.int (biggest m (ns.drop j)) t'))) { s with heap := h', toks := tk }) →
    codeAny (model prog w) A (.builtin "max.loop" ⟨[.ref I, .none, .ref S], bestKw d⟩) R s := by
  have off2 : S ∉ wr := fun z => off (W.sub _ z)
  have len : ns.length = its.length := by have := hi.length; rwa [List.length_map] at this
  intro left
  induction left with
  | zero =>
    intro j s m t c e1 e2 st at1 fin
    have e3 : j = its.length := by omega
    subst e3
    refine codeAny_builtin F.entry_max_loop ?_
    rw [Around.under_plainId F.plain_max_loop _]; show wpAny (model prog w) A.in1 (seqItems? (.ref S) >>= _) _ _ s; refine wpAny_bind (wpAny_seqItems at1 rfl ?_)
    show wpAny (model prog w) A.in1 (tryCatch (pyNext (.ref I)) _ >>= _) _ _ s
    refine wpAny_bind (wpAny_tryCatch (W.done s _ _ st fun h' tk keep => ?_))
    have at2 := keep S _ off2 at1
    show wpAny (model prog w) A.in1 (updateSeq S (fun _ => #[]) >>= _) _ _ _
    refine wpAny_bind (wpAny_updateSeq at2 rfl (wpAny_bind (wpAny_letGo (wpAny_pure ?_))))
    have e4 : ns.drop its.length = [] := List.drop_eq_nil_of_le (by omega)
    rw [e4] at fin
    exact fin t _ tk fun b o hw hS e => (Heap.get?_update_other _ _ (Ne.symm hS)).trans (keep b o hw e)
  | succ left ih =>
    intro j s m t c e1 e2 st at1 fin
    have lt : j < its.length := by omega
    refine codeAny_builtin F.entry_max_loop ?_
    rw [Around.under_plainId F.plain_max_loop _]; show wpAny (model prog w) A.in1 (seqItems? (.ref S) >>= _) _ _ s; refine wpAny_bind (wpAny_seqItems at1 rfl ?_)
    show wpAny (model prog w) A.in1 (tryCatch (pyNext (.ref I)) _ >>= _) _ _ s
    refine wpAny_bind (wpAny_tryCatch (W.item j s _ _ lt st fun v h' tk gv st' keep => ?_))
    have at2 := keep S _ off2 at1
    have gn : ns[j]? = some ns[j] := List.getElem?_eq_getElem (by omega)
    obtain ⟨v', gv', t1, rfl⟩ := hi.get (i := j) (x := .int ns[j]) (by rw [List.getElem?_map, gn]; rfl)
    have ev : v = .int ns[j] t1 := Option.some.inj (gv.symm.trans gv')
    subst ev
    have e4 : ns.drop j = ns[j] :: ns.drop (j + 1) := List.drop_eq_getElem_cons (by omega)
    rw [e4] at fin
    show wpAny (model prog w) A.in1 (tryCatch (holding [_, _] (richCompare .Gt _ (.int m t) >>= _)) _ >>= _) _ _ _
    refine wpAny_bind (wpAny_tryCatch (wpAny_holding (wpAny_bind ?cmp)))
    case cmp =>
      refine gt_ints ?_
      refine wpAny_bind (wpAny_holding (wpAny_truthy_bool (wpAny_bind (wpAny_letGo (wpAny_pure ?_)))))
      by_cases bt : ns[j] > m
      · rw [decide_eq_true bt]
        simp only [if_true]
        refine wpAny_bind (wpAny_updateSeq at2 rfl (wpAny_bind (wpAny_letGo ?_)))
        rw [maxLoopName]
        refine wpAny_pure ⟨plainId_quiet F.plain_max_loop _, ih (j + 1) _ ns[j] t1 _ (by omega) lt (W.frame _ _ _ st' fun b hb o e => (Heap.get?_update_other _ _ (fun z : S = b => off (by rw [z]; exact hb))).trans e) (Heap.get?_update_self _ at2 rfl) fun t' h2 tk2 keep2 => ?_⟩
        rw [show biggest m (ns[j] :: ns.drop (j + 1)) = biggest ns[j] (ns.drop (j + 1)) by unfold biggest; rw [List.foldl_cons, if_pos bt]] at fin
        exact fin t' h2 tk2 fun b o hw hS e => keep2 b o hw hS ((Heap.get?_update_other _ _ (Ne.symm hS)).trans (keep b o hw e))
      · rw [decide_eq_false bt]
        simp only [Bool.false_eq_true, if_false]
        refine wpAny_bind (wpAny_letGo ?_)
        rw [maxLoopName]
        refine wpAny_pure ⟨plainId_quiet F.plain_max_loop _, ih (j + 1) _ m t c (by omega) lt st' at2 fun t' h2 tk2 keep2 => ?_⟩
        rw [show biggest m (ns[j] :: ns.drop (j + 1)) = biggest m (ns.drop (j + 1)) by unfold biggest; rw [List.foldl_cons, if_neg bt]] at fin
        exact fin t' h2 tk2 fun b o hw hS e => keep2 b o hw hS (keep b o hw e)
/-- the whole loop: it begins with an empty list of the best -/
theorem maxD_first (W : Walks prog w A.in1 I fp wr its.length (fun i v => its[i]? = some v) St) (hi : Vals (ns.map V.int) its) (S : Addr) (off : S ∉ fp) {s : Shared} {c : Nat} (st : St 0 s.heap) (at1 : s.heap.get? S = some { cls := .type "list", dict := none, data := .seq #[] c, slots := #[] })
    (none' : ns = [] → ∀ h' tk, (∀ b o, b ∉ wr → b ≠ S → s.heap.get? b = some o → h'.get? b = some o) → R (.ok (.ret d)) { s with heap := h', toks := tk })
    (some' : ∀ m r, ns = m :: r → ∀ t' h' tk, (∀ b o, b ∉ wr → b ≠ S → s.heap.get? b = some o → h'.get? b = some o) → R (.ok (.ret (.int (biggest m r) t'))) { s with heap := h', toks := tk }) :
    codeAny (model prog w) A (.builtin "max.loop" ⟨[.ref I, .none, .ref S], bestKw d⟩) R s := by
  have off2 : S ∉ wr := fun z => off (W.sub _ z)
  have len : ns.length = its.length := by have := hi.length; rwa [List.length_map] at this
  refine codeAny_builtin F.entry_max_loop ?_
  rw [Around.under_plainId F.plain_max_loop _]; show wpAny (model prog w) A.in1 (seqItems? (.ref S) >>= _) _ _ s; refine wpAny_bind (wpAny_seqItems at1 rfl ?_)
  show wpAny (model prog w) A.in1 (tryCatch (pyNext (.ref I)) _ >>= _) _ _ s
  cases ns with
  | nil =>
    have e0 : its.length = 0 := len.symm
    refine wpAny_bind (wpAny_tryCatch (W.done s _ _ (by rw [e0]; exact st) fun h' tk keep => ?_))
    show wpAny (model prog w) A.in1 (rule _ >>= fun _ => ret d) _ _ _
    exact wpAny_bind (wpAny_rule (wpAny_pure (none' rfl h' tk fun b o hw _ e => keep b o hw e)))
  | cons m r =>
    have lt : 0 < its.length := by rw [← len]; exact Nat.succ_pos _
    refine wpAny_bind (wpAny_tryCatch (W.item 0 s _ _ lt st fun v h' tk gv st' keep => ?_))
    obtain ⟨v', gv', t1, rfl⟩ := hi.get (i := 0) (x := .int m) rfl
    have ev : v = .int m t1 := Option.some.inj (gv.symm.trans gv')
    subst ev
    have at2 := keep S _ off2 at1
    show wpAny (model prog w) A.in1 (updateSeq S (fun _ => #[Value.int m t1, Value.int m t1]) >>= _) _ _ _
    refine wpAny_bind (wpAny_updateSeq at2 rfl ?_)
    rw [maxLoopName]
    refine wpAny_pure ⟨plainId_quiet F.plain_max_loop _, maxD_turns W hi S off _ 1 _ m t1 _ rfl lt (W.frame _ _ _ st' fun b hb o e => (Heap.get?_update_other _ _ (fun z : S = b => off (by rw [z]; exact hb))).trans e) (Heap.get?_update_self _ at2 rfl) fun t' h2 tk2 keep2 => ?_⟩
    exact some' m r rfl t' h2 tk2 fun b o hw hS e => keep2 b o hw hS ((Heap.get?_update_other _ _ (Ne.symm hS)).trans (keep b o hw e))
end
/-- max(a list of ints, default=d): an int -/
def rMaxD (K : PySem.W.Frag) : List V → List V → Hp → VK → Prop := fun vs zs H Q => ∃ (a : Addr) (ns : List Int) (d : Int), vs = [V.ref a] ∧ zs = [.int d] ∧ SqL K H a (ns.map V.int) ∧
  Q (.int (match ns with | [] => d | m :: r => biggest m r)) H
theorem cr_maxD {X : Cx} (hc : X.calm = true) : CallRK X (.builtin "max") [Str.ofString "default"] (rMaxD X.K) := by
  intro pins s σ H vs zs us ws Q I r rz h
  obtain ⟨a, ns, d, rfl, rfl, hs, q⟩ := h
  obtain ⟨its, rv, place, _⟩ := I.list hs
  rw [Vals.ref1 r]
  cases rz with
  | cons rd rn =>
  cases rn
  obtain ⟨td, rfl⟩ := rd
  have isl : s.heap.IsList a its.toArray := by
    obtain ⟨ob, m, e1, e2, e3, e4⟩ := place
    exact ⟨ob, e1, e2, m, e4⟩
  have apart : a ≠ s.heap.objs.size := by
    obtain ⟨ob, ho, _⟩ := isl
    exact Nat.ne_of_lt (Heap.lt_size ho)
  have small : a < s.heap.objs.size := by
    obtain ⟨ob, ho, _⟩ := isl
    exact Heap.lt_size ho
  refine kmk_tree F.kind_max F.plain_max F.entry_max (args_maxD _ _) ?_
  show wpAny _ X.A.in1 (Builtin.Builtins.bindParams "max" ["key", "default"] 0 ⟨[], bestKw (.int d td)⟩ >>= _) _ _ s
  refine wpAny_bind (wpAny_of_eq (show Builtin.Builtins.bindParams "max" ["key", "default"] 0 ⟨[], bestKw (.int d td)⟩ = pure [none, some (.int d td)] from rfl) (wpAny_bind (wpAny_pure ?_)))
  refine wpAny_bind (wpAny_pyIter_list isl (wpAny_bind (wpAny_newObj_type ?_)))
  rw [maxLoopName]
  have W : Walks X.prog X.w X.A.in1 s.heap.objs.size [s.heap.objs.size, a] [s.heap.objs.size] its.length (fun i v => its[i]? = some v) (fun i h => h.IsListIter s.heap.objs.size a i ∧ h.IsList a its.toArray) := by
    simpa using Walks.list (prog := X.prog) (w := X.w) (A := X.A.in1) (I.ok.hd hc) s.heap.objs.size a apart its.toArray
  have z1 : (s.heap.push { cls := .type "list_iterator", data := .fields #[.ref a, .int 0 0] }).objs.size = s.heap.objs.size + 1 := Heap.size_push ..
  have off : (s.heap.push { cls := .type "list_iterator", data := .fields #[.ref a, .int 0 0] }).objs.size ∉ [s.heap.objs.size, a] := by
    rw [z1]; simp only [List.mem_cons, List.not_mem_nil, or_false, not_or]; exact ⟨Nat.succ_ne_self _, (Nat.ne_of_lt (Nat.lt_succ_of_lt small)).symm⟩
  have done : ∀ (z : Int) (t' : Tok) (h' : Heap) (tk : Nat), Q (.int z) H → (∀ b o, b ∉ [s.heap.objs.size] → b ≠ (s.heap.push { cls := .type "list_iterator", data := .fields #[.ref a, .int 0 0] }).objs.size →
      ((s.heap.push { cls := .type "list_iterator", data := .fields #[.ref a, .int 0 0] }).push { cls := .type "list", data := .seq #[] }).get? b = some o → h'.get? b = some o) → EP X pins σ Q (.int z t') ⟨h', s.gens, s.drawn, tk, s.os⟩ := fun z t' h' tk q keep => by
    refine ⟨.int z, H, I.kept (h' := h') (t' := tk) fun b o e => keep b o ?_ ?_ (Heap.get?_push_of_some _ (Heap.get?_push_of_some _ e)), ⟨_, rfl⟩, q⟩
    · simp only [List.mem_cons, List.not_mem_nil, or_false]; exact Nat.ne_of_lt (Heap.lt_size e)
    · rw [z1]; exact Nat.ne_of_lt (Nat.lt_succ_of_lt (Heap.lt_size e))
  refine wpAny_pure ⟨plainId_quiet F.plain_max_loop _, maxD_first (d := .int d td) W rv _ off ⟨⟨_, Heap.get?_push_of_some _ (Heap.get?_push_size _ rfl), rfl, rfl⟩, (isl.push _).push _⟩ (Heap.get?_push_size _ rfl) (fun e h' tk keep => ?_) (fun m r e t' h' tk keep => ?_)⟩
  · subst e; exact done d td h' tk q keep
  · subst e; exact done (biggest m r) t' h' tk q keep
end Tl
end
section
/-! what is never reached; more built-ins -/
namespace XM
open PySem PySem.Spec PyProof.Rows L2 Tl
def mDead {β : Type} : M β := fun _ => none
def sDead : SM := fun _ => none
section
variable {X : Cx} {E : XK} {e o : Expr} {es : List Expr} {st : Stmt} {sts : List Stmt} {p pos apos : Pos}
theorem de_dead : DE X E e mDead := ⟨⟨fun _ _ _ _ _ _ h => by obtain ⟨_, _, _, _, _, _, hm, _⟩ := h; cases hm⟩⟩
theorem dt_dead : DT X E e mDead := ⟨⟨fun _ _ _ _ _ _ h => by obtain ⟨_, _, _, _, _, _, hm, _⟩ := h; cases hm⟩⟩
theorem ds_dead : DS X E st sDead := ⟨⟨fun _ _ _ _ _ _ h => by obtain ⟨_, _, _, _, _, _, hm, _⟩ := h; cases hm⟩⟩
theorem dss_dead : DSs X E sts sDead := ⟨⟨fun _ _ _ _ _ _ h => by obtain ⟨_, _, _, _, _, _, hm, _⟩ := h; cases hm⟩⟩
end
/-! ### all(..) -/
def boolsOf : List D → Option (List Bool)
  | [] => some []
  | .bool i :: r => (boolsOf r).map (i :: ·)
  | _ :: _ => none
theorem boolsOf_ok {K : PySem.W.Frag} {G : Hp} : ∀ {vs : List V} {l : List D} {ns : List Bool}, DqAll K G vs l → boolsOf l = some ns → vs = ns.map V.bl
  | _, _, _, .nil, e => by cases e; rfl
  | _, _, ns, .cons (d := d) (ds := ds) a r, e => by
    cases a <;> simp only [boolsOf] at e <;> try cases e
    cases e1 : boolsOf ds with
    | none => rw [e1] at e; cases e
    | some ms => rw [e1] at e; cases e; rw [List.map_cons, boolsOf_ok r e1]
def fAll : List R → M R := fun rs ρ => match rs with
  | [r] => match itsL r ρ with
    | some l => match boolsOf l with
      | some bs => some (.ok (.dat (.bool (bs.all id))) ρ)
      | none => none
    | none => none
  | _ => none
theorem leaf_all {K : PySem.W.Frag} {mg : Str → Option Value} : Leaf K mg (rAll K) fAll := fun B O A ρ σ H E F rs vs out Q A0 H0 S rr hf st k => by
  unfold fAll at hf
  split at hf
  · cases rr with
    | cons h1 h2 =>
    cases h2
    rw [add_zer] at S h1 st
    split at hf
    · rename_i l e1
      split at hf
      · rename_i bs e2
        cases hf
        obtain ⟨a, ws, rfl, sq, dq⟩ := S.itsL h1 e1
        have := boolsOf_ok dq e2
        subst this
        exact ⟨a, bs, rfl, sq, fin_dat k.oks S (fun a => le_add a) st (.bl _)⟩
      · cases hf
    · cases hf
  · cases hf
/-! ### min(a, b) -/
def fMin2 : List R → M R := fun rs ρ => match rs with
  | [r, r2] => match vw r ρ, vw r2 ρ with
    | some (.int i), some (.int j) => some (.ok (.dat (.int (if j < i then j else i))) ρ)
    | _, _ => none
  | _ => none
theorem leaf_min2 {K : PySem.W.Frag} {mg : Str → Option Value} : Leaf K mg (fun xs H Q => ∃ i j, xs = [.int i, .int j] ∧ Q (.int (if j < i then j else i)) H) fMin2 := fun B O A ρ σ H E F rs vs out Q A0 H0 S rr hf st k => by
  unfold fMin2 at hf
  split at hf
  · cases rr with
    | cons h1 h2 =>
    cases h2 with
    | cons h2 h3 =>
    cases h3
    split at hf
    · rename_i i j e1 e2
      cases hf
      have v1 := S.view h1 e1
      have v2 := S.view h2 e2
      cases v1
      cases v2
      exact ⟨i, j, rfl, fin_dat k.oks S (fun a => le_add a) st (.int _)⟩
    · cases hf
  · cases hf
/-! ### int of a text -/
theorem leaf_intStr {K : PySem.W.Frag} {mg : Str → Option Value} : Leaf K mg (fun xs H Q => ∃ a n, xs = [.str a] ∧ PySem.intText? a = some n ∧ a.length ≤ 640 ∧ Q (.int n) H) (f1 fIntS) := leaf1 fun H x d z Q hx e k => by
  cases hx <;> simp only [fIntS] at e <;> try cases e
  split at e
  · rename_i n en
    split at e
    · cases e; exact ⟨_, _, rfl, en, by assumption, k _ (.int _)⟩
    · cases e
  · cases e
/-! ### max(.., default=0) -/
def fMaxD (d : Int) (r : R) : M R := fun ρ => match itsL r ρ with
  | some l => match intsOf l with
    | some ns => some (.ok (.dat (.int (match ns with | [] => d | m :: r => biggest m r))) ρ)
    | none => none
  | none => none
def mMaxD (d : Int) (m : M R) : M R := bnd m fun r => fMaxD d r
section
variable {X : Cx} {E : XK} {e o : Expr} {es : List Expr} {p pos apos kpos : Pos} {m mo : M R}
theorem de_maxD {d : Int} {kk : Nat} {p2 : Pos} (hc : X.calm = true) (hg : Gl X "max") (hm : X.mg "max" = none) (he : DE X E e m) (hs : starEach [e] X.env = (false, eval e X.env) :: starEach [] X.env := by rfl)
    (h1 : backTo pos (starEach [e] X.env) = (false, eval e X.env) :: backTo pos (starEach [] X.env) := by rfl) (h2 : (backTo pos (starEach [e] X.env)).any (·.1) = false := by rfl)
    (h3 : (backToKw pos (keywordEach [⟨some "default", .Constant (.int d) kk p2, kpos⟩] X.env)).all (·.1.isSome) = true := by rfl) (h4 : (backToKw pos (keywordEach [⟨some "default", .Constant (.int d) kk p2, kpos⟩] X.env)).any (·.1.isNone) = false := by rfl)
    (h5 : (backToKw pos (keywordEach [⟨some "default", .Constant (.int d) kk p2, kpos⟩] X.env)).filterMap (·.1) = [Str.ofString "default"] := by rfl) :
    DE X E (.Call (.Name "max" p) [e] [⟨some "default", .Constant (.int d) kk p2, kpos⟩] pos) (mMaxD d m) := by
  refine ⟨pe_imp (pe_callBK (cr_maxD hc) hg hm boot_max (pa_cons he.pe pa_nil hs) (pk_cons pe_int pk_nil) (by decide) (by decide) h1 h2 h3 h4 h5) fun σ H Q h => ?_⟩
  obtain ⟨B, O, A, ρ, out, S, hm, k⟩ := h
  show ERun _ _ _ _ _ _ _
  refine run_bnd S hm k.exc fun r ρ1 v H1 A1 F hk S1 rr1 st1 x1 => ?_
  unfold fMaxD at hk
  split at hk
  · rename_i l e1
    split at hk
    · rename_i ns e2
      cases hk
      obtain ⟨a, ws, rfl, sq, dq⟩ := S1.itsL rr1 e1
      have := intsOf_ok dq e2
      subst this
      exact ⟨a, ns, d, rfl, rfl, sq, fin_dat k.oks S1 (fun a => le_add a) st1 (.int _)⟩
    · cases hk
  · cases hk
/-! ### isinstance(x, (tuple, list)) -/
def tyTL : Ty → Option Bool
  | .tuple => some true
  | .list => some true
  | .int => some false
  | .str => some false
  | _ => none
def mIsTL (m : M R) : M R := bnd m fun r ρ => match tyR r ρ with
  | some t => (tyTL t).map fun b => .ok (.dat (.bool b)) ρ
  | none => none
theorem kitTL {K : PySem.W.Frag} {t : Ty} {b : Bool} (h : tyTL t = some b) : PySem.W.kitAny K (.type t.name) [.type "tuple", .type "list"] = some b := by
  cases t <;> cases h
  · exact kitAny_cons (kit_ty (r := false) (by decide +kernel)) (fun _ => kitAny_cons (kit_ty (r := false) (by decide +kernel)) (fun _ => kitAny_nil) (fun z => by cases z)) (fun z => by cases z)
  · exact kitAny_cons (kit_ty (r := false) (by decide +kernel)) (fun _ => kitAny_cons (kit_ty (r := false) (by decide +kernel)) (fun _ => kitAny_nil) (fun z => by cases z)) (fun z => by cases z)
  · exact kitAny_cons (kit_ty (r := false) (by decide +kernel)) (fun _ => kitAny_cons (kit_ty (r := true) (by decide +kernel)) (fun z => by cases z) (fun _ => rfl)) (fun z => by cases z)
  · exact kitAny_cons (kit_ty (r := true) (by decide +kernel)) (fun z => by cases z) (fun _ => rfl)
theorem de_isTL {kk : Nat} {p1 p2 p3 : Pos} (hg : Gl X "isinstance") (hm : X.mg "isinstance" = none) (h1 : PE X (.Name "tuple" p1) (tC (.ty "tuple"))) (h2 : PE X (.Name "list" p2) (tC (.ty "list"))) (he : DE X E e m)
    (hs : starEach [e, .Tuple [.Name "tuple" p1, .Name "list" p2] kk p3] X.env = (false, eval e X.env) :: starEach [.Tuple [.Name "tuple" p1, .Name "list" p2] kk p3] X.env := by rfl)
    (hs2 : starEach [.Tuple [.Name "tuple" p1, .Name "list" p2] kk p3] X.env = (false, eval (.Tuple [.Name "tuple" p1, .Name "list" p2] kk p3) X.env) :: starEach [] X.env := by rfl)
    (hs3 : starEach [.Name "tuple" p1, .Name "list" p2] X.env = (false, eval (.Name "tuple" p1) X.env) :: starEach [.Name "list" p2] X.env := by rfl) (hs4 : starEach [.Name "list" p2] X.env = (false, eval (.Name "list" p2) X.env) :: starEach [] X.env := by rfl)
    (hpl : (backTo pos (starEach [.Tuple [.Name "tuple" p1, .Name "list" p2] kk p3] X.env)).any (·.1) = false := by rfl) :
    DE X E (.Call (.Name "isinstance" p) [e, .Tuple [.Name "tuple" p1, .Name "list" p2] kk p3] [] pos) (mIsTL m) := by
  refine ⟨pe_imp (pe_callB call_isiT hg hm boot_isinstance (pa_cons he.pe (pa_cons (pe_tup (pa_cons h1 (pa_cons h2 pa_nil hs4) hs3)) pa_nil hs2) hs) (by decide) (by decide) hs hpl) fun σ H Q h => ?_⟩
  obtain ⟨B, O, A, ρ, out, S, hm, k⟩ := h
  show ERun _ _ _ _ _ _ _
  refine run_bnd S hm k.exc fun r ρ1 v H1 A1 F hk S1 rr1 st1 x1 => ?_
  split at hk
  · rename_i t e1
    cases e2 : tyTL t with
    | none => rw [e2] at hk; cases hk
    | some b =>
      rw [e2] at hk
      cases hk
      refine ⟨by show 2 ≤ sizeLine; decide, fun q nq => ?_⟩
      obtain ⟨S2, st2, _⟩ := S1.newS (o := .tup [.ty "tuple", .ty "list"]) nq
      have rr2 := rr1.step st2 fun a n => add_r n
      exact ⟨v, q, _, _, _, b, rfl, upd_same, .cons (.ty _) (.cons (.ty _) .nil), S2.tyR rr2 e1, kitTL e2, fin_dat k.oks S2 (fun a => le_add a) (st1.trans st2 fun a n => add_l n) (.bl _)⟩
  · cases hk
/-! ### methods of texts -/
def mSM0 (f : Str → Option D) (mo : M R) : M R := bnd mo fun r ρ => match vw r ρ with
  | some (.str a) => match f a with
    | some z => if atomD z = true then some (.ok (.dat z) ρ) else none
    | none => none
  | _ => none
def mSM1 (f : Str → Str → Option D) (mo me : M R) : M R := bnd mo fun r ρ1 => match vw r ρ1 with
  | some (.str a) => (bnd me fun r2 ρ => match vw r2 ρ with
    | some (.str b) => match f a b with
      | some z => if atomD z = true then some (.ok (.dat z) ρ) else none
      | none => none
    | _ => none) ρ1
  | _ => none
theorem de_sm0 {name : Str} {id : String} {r : V → List V → Hp → VK → Prop} {f : Str → Option D} (slot : Slot "str" name id) (hty : typeOf (.builtin id) = pure (.type "method_descriptor")) (hm : MtR X id r)
    (hf : ∀ (a : Str) (z : D) (H : Hp) (Q : VK), f a = some z → (∀ v, Dq X.K H v z → Q v H) → r (.str a) [] H Q) (ho : DE X E o mo) (hbase : attributeBase o name X.env (eval o X.env) = eval o X.env := by rfl) (hline : (apos.endLine == pos.line) = true := by rfl) :
    DE X E (.Call (.Attribute o name apos) [] [] pos) (mSM0 f mo) := by
  refine ⟨pe_imp (pe_bm0 PySem.F.plainAttrs_str slot hty hm ho.pe hbase hline) fun σ H Q h => ?_⟩
  obtain ⟨B, O, A, ρ, out, S, hm, k⟩ := h
  refine run_bnd S hm k.exc fun r ρ1 v H1 A1 F hk S1 rr1 st1 x1 => ?_
  split at hk
  · rename_i a e1
    have hv := S1.view rr1 e1
    cases hv
    split at hk
    · rename_i z e2
      split at hk
      · rename_i az
        cases hk
        exact ⟨rfl, hf a z H1 Q e2 fun v hv => fin_dat k.oks S1 (fun a => le_add a) st1 (atom_any hv az)⟩
      · cases hk
    · cases hk
  · cases hk
theorem de_sm1 {me : M R} {name : Str} {id : String} {r : V → List V → Hp → VK → Prop} {f : Str → Str → Option D} (slot : Slot "str" name id) (hty : typeOf (.builtin id) = pure (.type "method_descriptor")) (hm : MtR X id r)
    (hf : ∀ (a b : Str) (z : D) (H : Hp) (Q : VK), f a b = some z → (∀ v, Dq X.K H v z → Q v H) → r (.str a) [.str b] H Q) (ho : DE X E o mo) (he : DE X E e me) (hbase : attributeBase o name X.env (eval o X.env) = eval o X.env := by rfl) (hline : (apos.endLine == pos.line) = true := by rfl)
    (hfew : ((backTo pos (starEach [e] X.env)).all (fun x => !x.1) && (backToKw pos (keywordEach [] X.env)).all (fun x => x.1.isSome) && decide (([e] : List Expr).length + ([] : List Keyword).length + (if ([] : List Keyword).isEmpty then 0 else 1) < 30)) = true := by rfl)
    (hs : starEach [e] X.env = (false, eval e X.env) :: starEach [] X.env := by rfl) (hpl : (backTo pos (starEach [] X.env)).any (·.1) = false := by rfl) :
    DE X E (.Call (.Attribute o name apos) [e] [] pos) (mSM1 f mo me) := by
  refine ⟨pe_imp (pe_bm PySem.F.plainAttrs_str slot hty hm ho.pe (pa_cons he.pe pa_nil hs) hbase hfew hline hs hpl) fun σ H Q h => ?_⟩
  obtain ⟨B, O, A, ρ, out, S, hm, k⟩ := h
  refine run_bnd S hm k.exc fun r ρ1 v H1 A1 F hk S1 rr1 st1 x1 => ?_
  split at hk
  · rename_i a e1
    have hv := S1.view rr1 e1
    cases hv
    refine ⟨rfl, ?_⟩
    show ERun _ _ _ _ _ _ _
    refine run_bnd S1 hk x1 fun r2 ρ2 v2 H2 A2 F2 hk2 S2 rr2 st2 x2 => ?_
    split at hk2
    · rename_i b e2
      have hv2 := S2.view rr2 e2
      cases hv2
      split at hk2
      · rename_i z e3
        split at hk2
        · rename_i az
          cases hk2
          exact hf a b z H2 Q e3 fun v hv => fin_dat k.oks S2 (fun a => by unfold add; omega) (st1.trans st2 fun a n => add_l n) (atom_any hv az)
        · cases hk2
      · cases hk2
    · cases hk2
  · cases hk
theorem de_isdigit (ho : DE X E o mo) (hbase : attributeBase o "isdigit" X.env (eval o X.env) = eval o X.env := by rfl) (hline : (apos.endLine == pos.line) = true := by rfl) : DE X E (.Call (.Attribute o "isdigit" apos) [] [] pos) (mSM0 (fun a => some (.bool (Txt.isdigit a))) mo) :=
  de_sm0 PySem.F.slot_str_isdigit PySem.F.type_str_isdigit mt_isdigit (fun a z H Q e k => by cases e; exact ⟨a, rfl, rfl, trivial, k _ (.bl _)⟩) ho hbase hline
end
section
variable {X : Cx} {E : XK} {e o : Expr} {p pos apos : Pos} {mo me : M R}
theorem de_startswith (ho : DE X E o mo) (he : DE X E e me) (hbase : attributeBase o "startswith" X.env (eval o X.env) = eval o X.env := by rfl) (hline : (apos.endLine == pos.line) = true := by rfl)
    (hfew : ((backTo pos (starEach [e] X.env)).all (fun x => !x.1) && (backToKw pos (keywordEach [] X.env)).all (fun x => x.1.isSome) && decide (([e] : List Expr).length + ([] : List Keyword).length + (if ([] : List Keyword).isEmpty then 0 else 1) < 30)) = true := by rfl)
    (hs : starEach [e] X.env = (false, eval e X.env) :: starEach [] X.env := by rfl) : DE X E (.Call (.Attribute o "startswith" apos) [e] [] pos) (mSM1 (fun a b => some (.bool (Txt.startswith a b))) mo me) :=
  de_sm1 PySem.F.slot_str_startswith PySem.F.type_str_startswith mt_startswith (fun a b z H Q e k => by cases e; exact ⟨a, b, rfl, rfl, k _ (.bl _)⟩) ho he hbase hline hfew hs
theorem de_endswith (ho : DE X E o mo) (he : DE X E e me) (hbase : attributeBase o "endswith" X.env (eval o X.env) = eval o X.env := by rfl) (hline : (apos.endLine == pos.line) = true := by rfl)
    (hfew : ((backTo pos (starEach [e] X.env)).all (fun x => !x.1) && (backToKw pos (keywordEach [] X.env)).all (fun x => x.1.isSome) && decide (([e] : List Expr).length + ([] : List Keyword).length + (if ([] : List Keyword).isEmpty then 0 else 1) < 30)) = true := by rfl)
    (hs : starEach [e] X.env = (false, eval e X.env) :: starEach [] X.env := by rfl) : DE X E (.Call (.Attribute o "endswith" apos) [e] [] pos) (mSM1 (fun a b => some (.bool (Txt.endswith a b))) mo me) :=
  de_sm1 PySem.F.slot_str_endswith PySem.F.type_str_endswith mt_endswith (fun a b z H Q e k => by cases e; exact ⟨a, b, rfl, rfl, k _ (.bl _)⟩) ho he hbase hline hfew hs
theorem de_removeprefix (ho : DE X E o mo) (he : DE X E e me) (hbase : attributeBase o "removeprefix" X.env (eval o X.env) = eval o X.env := by rfl) (hline : (apos.endLine == pos.line) = true := by rfl)
    (hfew : ((backTo pos (starEach [e] X.env)).all (fun x => !x.1) && (backToKw pos (keywordEach [] X.env)).all (fun x => x.1.isSome) && decide (([e] : List Expr).length + ([] : List Keyword).length + (if ([] : List Keyword).isEmpty then 0 else 1) < 30)) = true := by rfl)
    (hs : starEach [e] X.env = (false, eval e X.env) :: starEach [] X.env := by rfl) : DE X E (.Call (.Attribute o "removeprefix" apos) [e] [] pos) (mSM1 (fun a b => if a.length ≤ 1000000 then some (.str (Txt.removeprefix a b)) else none) mo me) :=
  de_sm1 PySem.F.slot_str_removeprefix PySem.F.type_str_removeprefix mt_removeprefix (fun a b z H Q e k => by
    split at e
    · cases e; exact ⟨a, b, rfl, rfl, by rw [sizeLine_eq]; omega, k _ (.str _)⟩
    · cases e) ho he hbase hline hfew hs
end
end XM
end
section
/-! dicts that belong to somebody -/
namespace XM
open PySem PySem.Spec PyProof.Rows L2 Tl
section
variable {K : PySem.W.Frag} {mg : Str → Option Value} {mm : Mg} {B : Bs} {O O' : Ft} {A A' A1 : Al} {ρ ρ1 : Fr} {σ : L2.St} {H H' H1 G : Hp} {E : XK}
/-- an object of one's own anew, with another tree -/
theorem StC.putObj {F F' Fn : Ft} {n : Nat} {a : Addr} {x : Rt} {t' : T} {o : HO} (S : StC K mg B (add O F) A ρ σ H) (hA : A[n]? = some (.ref a, add (one a) Fn)) (hx : ρ.rt[n]? = some x) (le : ∀ b, F' b ≤ Fn b + F b)
    (ht : ∀ G' H', Same (hid (tot (add O F) A) H) G' → (∀ b, b ≠ a → H' b = H b) → H' a = some o → Fn a = 0 → F a = 0 → TR K ⟨mg, B.η⟩ G' H' t' (.ref a) (add (one a) F'))
    (hp : t'.cont = true → ∀ (m : Nat) (p : Pl) (y : Rt) (z : V × Ft), ρ.rt[m]? = some y → y.par = some (n, p) → A[m]? = some z → chAt (upd H a o) (.ref a) p = some z.1) :
    ∃ A', StC K mg B O A' { ρ with rt := ρ.rt.set n ⟨t', x.par⟩ } σ (upd H a o) ∧ (∀ b, O b ≠ 0 → (upd H a o) b = H b) ∧ Same (hid (tot (add O F) A) H) (hid (tot O A') (upd H a o)) ∧ XM.al A' = XM.al A := by
  have own1 : ∀ b, (add (one a) Fn) b + (O b + F b) ≤ 1 := fun b => by
    have h1 := S.le1 b
    have h2 := sumF_at b hA
    dsimp only at h2
    unfold tot add at h1
    unfold add at h2 ⊢
    omega
  have aa : Fn a = 0 ∧ O a = 0 ∧ F a = 0 := by
    have := own1 a
    unfold add at this
    rw [one_self] at this
    omega
  have le2 : ∀ b, tot O (A.set n (.ref a, add (one a) F')) b ≤ tot (add O F) A b := fun b => by
    have h1 := sumF_set (y := ((.ref a : V), add (one a) F')) b hA
    have h2 := le b
    dsimp only at h1
    unfold tot add at *
    omega
  have na : ∀ b, tot (add O F) A b = 0 → b ≠ a := fun b z e => by
    subst e
    have h2 := sumF_at b hA
    dsimp only at h2
    have h3 : add (one b) Fn b = 1 + Fn b := by unfold add; rw [one_self]
    unfold tot add at z
    unfold add at h2 h3
    omega
  have sh : Same (hid (tot (add O F) A) H) (hid (tot O (A.set n (.ref a, add (one a) F'))) (upd H a o)) := fun b u q => by
    obtain ⟨z, q⟩ := hid_some q
    exact hid_at (by have := le2 b; omega) (by rw [upd_ne (na b z)]; exact q)
  refine ⟨A.set n (.ref a, add (one a) F'), ?_, fun b z => upd_ne fun e => by subst e; exact z aa.2.1, sh, al_set hA⟩
  refine S.setR hA hx sh (fun b _ z => upd_ne fun e => ?_) (fun b => Nat.le_trans (le2 b) (S.le1 b)) (fun b z => ?_) (ht _ _ sh (fun b n => upd_ne n) upd_same aa.1 aa.2.2) hp
  · subst e
    unfold add at z
    rw [one_self] at z
    omega
  · by_cases e : b = a
    · subst e; rw [upd_same]; simp
    · rw [upd_ne e]
      exact S.al b (by have := le2 b; omega)
theorem valV_getA {k : Key} : ∀ {kvs : List (Key × V)}, valV kvs k = getA k kvs
  | [] => rfl
  | p :: r => by
    unfold getA
    by_cases h : p.1 = k
    · rw [if_pos h, valV_pos h]
    · rw [if_neg h, valV_neg h]; exact valV_getA
theorem getA_keys {κ β γ : Type} [DecidableEq κ] {k : κ} : ∀ {l : List (κ × β)} {m : List (κ × γ)}, l.map (·.1) = m.map (·.1) → (getA k l).isSome = (getA k m).isSome
  | [], [], _ => rfl
  | [], _ :: _, e => by simp at e
  | _ :: _, [], e => by simp at e
  | p :: l, q :: m, e => by
    obtain ⟨e1, e2⟩ : p.1 = q.1 ∧ l.map (·.1) = m.map (·.1) := by simpa using e
    unfold getA
    rw [e1]
    by_cases h : q.1 = k
    · rw [if_pos h, if_pos h]; rfl
    · rw [if_neg h, if_neg h]; exact getA_keys e2
theorem getA_contains {κ β : Type} [DecidableEq κ] {k : κ} : ∀ {l : List (κ × β)}, (getA k l).isSome = (l.map (·.1)).any fun j => decide (j = k)
  | [] => rfl
  | p :: l => by
    unfold getA
    rw [List.map_cons, List.any_cons]
    by_cases h : p.1 = k
    · rw [if_pos h, decide_eq_true h]; rfl
    · rw [if_neg h, getA_contains (l := l), decide_eq_false h, Bool.false_or]
def T.dkeys : T → Option (List Key)
  | .dd l => some (l.map (·.1))
  | .od l => some (l.map (·.1))
  | _ => none
def keysR : R → Fr → Option (List Key)
  | .ref n, ρ => (ρ.rt[n]?).bind fun t => t.t.dkeys
  | .own t, _ => t.dkeys
  | _, _ => none
theorem TR.dkeys {t : T} {v : V} {F : Ft} {ks : List Key} (h : TR K mm G H t v F) (e : t.dkeys = some ks) : ∃ a kvs, v = .ref a ∧ H a = some (.dK kvs) ∧ kvs.map (·.1) = ks := by
  cases h with
  | dd ha hk _ => cases e; exact ⟨_, _, rfl, ha, hk⟩
  | od ha hk _ => cases e; exact ⟨_, _, rfl, ha, hk⟩
  | _ => cases e
theorem StC.keysR (S : StC K mg B O A ρ σ H) {r : R} {v : V} {F : Ft} {ks : List Key} (h : RR K ⟨mg, B.η⟩ (XM.al A) (hid (tot O A) H) H v F r) (e : XM.keysR r ρ = some ks) : ∃ a kvs, v = .ref a ∧ H a = some (.dK kvs) ∧ kvs.map (·.1) = ks := by
  cases r with
  | dat d => cases e
  | fn x => cases e
  | own t => exact TR.dkeys h e
  | ref n =>
    simp only [XM.keysR] at e
    cases hx : ρ.rt[n]? with
    | none => rw [hx] at e; cases e
    | some x =>
      rw [hx] at e
      obtain ⟨F', _, ht⟩ := S.root hx h.2
      exact TR.dkeys ht e
end
/-! ### in, len, new -/
def mDIn (neg : Bool) (mk md : M R) : M R := bnd mk fun rk => bnd md fun rd ρ => match vw rk ρ, keysR rd ρ with
  | some (.str z), some ks => some (.ok (.dat (.bool (neg != ks.any fun j => decide (j = .inr z)))) ρ)
  | _, _ => none
def fLenD : List R → M R := fun rs ρ => match rs with
  | [r] => match keysR r ρ with
    | some ks => some (.ok (.dat (.int (ks.length : Nat))) ρ)
    | none => none
  | _ => none
theorem leaf_lenD {K : PySem.W.Frag} {mg : Str → Option Value} : Leaf K mg (fun xs H Q => ∃ a kvs, xs = [V.ref a] ∧ H a = some (.dK kvs) ∧ Q (.int kvs.length) H) fLenD := fun B O A ρ σ H E F rs vs out Q A0 H0 S rr hf st k => by
  unfold fLenD at hf
  split at hf
  · cases rr with
    | cons h1 h2 =>
    cases h2
    rw [add_zer] at S h1 st
    split at hf
    · rename_i ks e1
      cases hf
      obtain ⟨a, kvs, rfl, ha, hk⟩ := S.keysR h1 e1
      refine ⟨a, kvs, rfl, ha, ?_⟩
      have : kvs.length = ks.length := by rw [← hk, List.length_map]
      rw [this]
      exact fin_dat k.oks S (fun a => le_add a) st (.int _)
    · cases hf
  · cases hf
def mDNew : M R := fun ρ => some (.ok (.own (.dd [])) ρ)
section
variable {X : Cx} {E : XK} {e i o f value : Expr} {pos pos' apos : Pos} {mk md mv mx : M R}
theorem run_din {b : Bool} {σ : L2.St} {H : Hp} {Q : VK} (h : ERun X.K X.mg (mDIn b mk md) E σ H Q) : (if b = true then tDNotIn (ERun X.K X.mg mk E) (ERun X.K X.mg md E) else tDIn (ERun X.K X.mg mk E) (ERun X.K X.mg md E)) σ H Q := by
  obtain ⟨B, O, A, ρ, out, S, hm, k⟩ := h
  have main : ERun X.K X.mg mk E σ H fun y H1 => ERun X.K X.mg md E σ H1 fun x H2 => ∃ a o, x = .ref a ∧ DGet H2 a y o ∧ Q (.bl (b != o.isSome)) H2 := by
    refine run_bnd S hm k.exc fun rk ρ1 v H1 A1 F hk S1 rr1 st1 x1 => ?_
    refine run_bnd S1 hk x1 fun rd ρ2 w H2 A2 F2 hk2 S2 rr2 st2 x2 => ?_
    split at hk2
    · rename_i z ks e1 e2
      cases hk2
      have rr1' := rr1.step st2 (fun a n => add_r n)
      have hv := S2.view rr1' e1
      cases hv
      obtain ⟨a, kvs, rfl, ha, hkk⟩ := S2.keysR rr2 e2
      refine ⟨a, _, rfl, DGet.k (k := .inr z) ha, ?_⟩
      rw [valV_getA, getA_contains, hkk]
      exact fin_dat k.oks S2 (fun a => by unfold add; omega) (st1.trans st2 fun a n => add_l n) (.bl _)
    · cases hk2
  cases b with
  | true =>
    rw [if_pos rfl]
    obtain ⟨B, O, A, ρ, out, S, hm, k⟩ := main
    refine ⟨B, O, A, ρ, out, S, hm, k.imp fun r ρ' q v H' A' F S' rr st => ?_⟩
    obtain ⟨B, O, A, ρ, out, S, hm, k⟩ := q v H' A' F S' rr st
    refine ⟨B, O, A, ρ, out, S, hm, k.imp fun r ρ' q v H' A' F S' rr st => ?_⟩
    obtain ⟨a, o, e1, e2, e3⟩ := q v H' A' F S' rr st
    exact ⟨a, o, e1, e2, by simpa using e3⟩
  | false =>
    rw [if_neg Bool.false_ne_true]
    obtain ⟨B, O, A, ρ, out, S, hm, k⟩ := main
    refine ⟨B, O, A, ρ, out, S, hm, k.imp fun r ρ' q v H' A' F S' rr st => ?_⟩
    obtain ⟨B, O, A, ρ, out, S, hm, k⟩ := q v H' A' F S' rr st
    refine ⟨B, O, A, ρ, out, S, hm, k.imp fun r ρ' q v H' A' F S' rr st => ?_⟩
    obtain ⟨a, o, e1, e2, e3⟩ := q v H' A' F S' rr st
    exact ⟨a, o, e1, e2, by simpa using e3⟩
theorem dt_din (hu : X.A.units + 1 < cLine) (hi : DE X E i mk) (ho : DE X E o md) (h1 : behindInMarks .In o = false := by rfl) : DT X E (.Compare i [.In] [o] pos) (asB (mDIn false mk md)) := by
  refine ⟨pt_imp (pt_cmp (pc_din hu hi.pe ho.pe) h1) fun σ H Q h => ?_⟩
  have h' : tB (ERun X.K X.mg (mDIn false mk md) E) σ H Q := run_tB h
  have := run_din (b := false) h'
  rwa [if_neg Bool.false_ne_true] at this
theorem dt_dnotin (hu : X.A.units + 1 < cLine) (hi : DE X E i mk) (ho : DE X E o md) (h1 : behindInMarks .NotIn o = false := by rfl) : DT X E (.Compare i [.NotIn] [o] pos) (asB (mDIn true mk md)) := by
  refine ⟨pt_imp (pt_cmp (pc_dnotin hu hi.pe ho.pe) h1) fun σ H Q h => ?_⟩
  have h' : tB (ERun X.K X.mg (mDIn true mk md) E) σ H Q := run_tB h
  have := run_din (b := true) h'
  rwa [if_pos rfl] at this
theorem de_dnew : DE X E (.Dict [] [] pos) mDNew := by
  refine ⟨pe_imp pe_dnewK fun σ H Q h => ?_⟩
  obtain ⟨B, O, A, ρ, out, S, hm, k⟩ := h
  cases hm
  intro p np
  obtain ⟨S1, st1⟩ := S.newO (o := .dK []) np
  exact k.oks (.ref p) _ A (one p) S1 (.dd upd_same rfl .nil) st1
end
end XM
end
section
/-! dicts that belong to somebody: get, put, pop -/
namespace XM
open PySem PySem.Spec PyProof.Rows L2 Tl
section
variable {K : PySem.W.Frag} {mg : Str → Option Value} {mm : Mg} {B : Bs} {O O' : Ft} {A A' A1 : Al} {ρ ρ1 : Fr} {σ : L2.St} {H H' H1 G : Hp} {E : XK}
theorem dq_getA {k : Key} {d : D} : ∀ {l : List (Key × D)} {kvs : List (Key × V)}, kvs.map (·.1) = l.map (·.1) → DqAll K G (kvs.map (·.2)) (l.map (·.2)) → getA k l = some d → ∃ v, getA k kvs = some v ∧ Dq K G v d
  | [], _, _, _, e => by cases e
  | _ :: _, [], e, _, _ => by simp at e
  | p :: l, q :: kvs, e, r, g => by
    obtain ⟨e1, e2⟩ : q.1 = p.1 ∧ kvs.map (·.1) = l.map (·.1) := by simpa using e
    cases r with
    | cons a r =>
    unfold getA at g ⊢
    rw [e1]
    by_cases h : p.1 = k
    · rw [if_pos h] at g ⊢; cases g; exact ⟨_, rfl, a⟩
    · rw [if_neg h] at g ⊢; exact dq_getA e2 r g
theorem putK_new {k : Key} {v : V} {kvs : List (Key × V)} (h : (kvs.map (·.1)).any (fun j => decide (j = k)) = false) : putK kvs k v = kvs ++ [(k, v)] := by
  unfold putK
  rw [if_neg]
  rw [List.any_map] at h
  show ¬ (kvs.any fun kv => decide (kv.1 = k)) = true
  rw [show (kvs.any fun kv => decide (kv.1 = k)) = false from h]
  decide
theorem TRs.snoc {t : T} {v : V} {Ft : XM.Ft} (h : TR K mm G H t v Ft) : ∀ {ts : List T} {vs : List V} {F : XM.Ft}, TRs K mm G H ts vs F → TRs K mm G H (ts ++ [t]) (vs ++ [v]) (add F Ft)
  | _, _, _, .nil => by
    have := TRs.cons h (.nil (K := K) (mg := mm) (G := G) (H := H))
    rw [add_zer] at this
    rw [zer_add]
    exact this
  | _, _, _, .cons a r => by
    rw [add_assoc]
    exact .cons a (TRs.snoc h r)
theorem TRs.dropK {k : Key} : ∀ {l : List (Key × T)} {kvs : List (Key × V)} {F : XM.Ft}, kvs.map (·.1) = l.map (·.1) → TRs K mm G H (l.map (·.2)) (kvs.map (·.2)) F →
    ∃ F', (L2.dropK kvs k).map (·.1) = (l.filter fun q => decide (q.1 ≠ k)).map (·.1) ∧ TRs K mm G H ((l.filter fun q => decide (q.1 ≠ k)).map (·.2)) ((L2.dropK kvs k).map (·.2)) F' ∧ ∀ b, F' b ≤ F b
  | [], [], _, _, _ => ⟨zer, rfl, .nil, fun b => Nat.zero_le _⟩
  | [], _ :: _, _, e, _ => by simp at e
  | _ :: _, [], _, e, _ => by simp at e
  | p :: l, q :: kvs, F, e, r => by
    obtain ⟨e1, e2⟩ : q.1 = p.1 ∧ kvs.map (·.1) = l.map (·.1) := by simpa using e
    cases r with
    | cons a r =>
    rename_i F1 F2
    obtain ⟨F', k1, k2, k3⟩ := TRs.dropK (k := k) e2 r
    unfold L2.dropK at k1 k2 ⊢
    rw [List.filter_cons, List.filter_cons, e1]
    cases decide (p.1 ≠ k) with
    | true => exact ⟨add F1 F', by rw [if_pos rfl, if_pos rfl, List.map_cons, List.map_cons, k1, e1], .cons a k2, fun b => by have := k3 b; unfold add; omega⟩
    | false => exact ⟨F', k1, k2, fun b => by have := k3 b; unfold add; omega⟩
theorem DqAll.dropK {k : Key} : ∀ {l : List (Key × D)} {kvs : List (Key × V)}, kvs.map (·.1) = l.map (·.1) → DqAll K G (kvs.map (·.2)) (l.map (·.2)) →
    (L2.dropK kvs k).map (·.1) = (l.filter fun q => decide (q.1 ≠ k)).map (·.1) ∧ DqAll K G ((L2.dropK kvs k).map (·.2)) ((l.filter fun q => decide (q.1 ≠ k)).map (·.2))
  | [], [], _, _ => ⟨rfl, .nil⟩
  | [], _ :: _, e, _ => by simp at e
  | _ :: _, [], e, _ => by simp at e
  | p :: l, q :: kvs, e, r => by
    obtain ⟨e1, e2⟩ : q.1 = p.1 ∧ kvs.map (·.1) = l.map (·.1) := by simpa using e
    cases r with
    | cons a r =>
    obtain ⟨k1, k2⟩ := DqAll.dropK (k := k) e2 r
    unfold L2.dropK at k1 k2 ⊢
    rw [List.filter_cons, List.filter_cons, e1]
    cases decide (p.1 ≠ k) with
    | true => exact ⟨by rw [if_pos rfl, if_pos rfl, List.map_cons, List.map_cons, k1, e1], .cons a k2⟩
    | false => exact ⟨k1, k2⟩
theorem getA_app {k j : Key} {v : V} (n : j ≠ k) : ∀ {l : List (Key × V)}, getA j (l ++ [(k, v)]) = getA j l
  | [] => by
    show getA j [(k, v)] = none
    unfold getA
    rw [if_neg fun e => n e.symm]
    rfl
  | p :: l => by
    rw [List.cons_append]
    unfold getA
    rw [getA_app n (l := l)]
theorem getA_drop {k j : Key} (n : j ≠ k) : ∀ {l : List (Key × V)}, getA j (L2.dropK l k) = getA j l
  | [] => rfl
  | p :: l => by
    unfold L2.dropK
    rw [List.filter_cons]
    by_cases h : p.1 = k
    · rw [decide_eq_false (by simpa using h), if_neg Bool.false_ne_true]
      conv => rhs; unfold getA
      rw [if_neg fun e => n (e.symm.trans h)]
      exact getA_drop n (l := l)
    · rw [decide_eq_true (by simpa using h), if_pos rfl]
      unfold getA
      rw [show getA j (l.filter fun kv => decide (kv.1 ≠ k)) = getA j l from getA_drop n (l := l)]
end
/-! ### d[k] -/
def dget (n : Nat) (z : Str) (ρ : Fr) : Option (R × Fr) := match ρ.rt[n]? with
  | some ⟨.dd l, _⟩ => (getA (Sum.inr z : Key) l).map fun d => (.dat d, ρ)
  | some ⟨.od _, _⟩ => borrow n (.key (.inr z)) ρ
  | _ => none
def mDGet (md mk : M R) : M R := bnd md fun rd => bnd mk fun rk ρ => match refN rd, vw rk ρ with
  | some n, some (.str z) => (dget n z ρ).map fun p => .ok p.1 p.2
  | _, _ => none
/-! ### d[k] = v -/
def noPar (n : Nat) (x : Rt) : Bool := match x.par with
  | some (j, _) => !(j == n)
  | none => true
/-- k, which is not there, gets this tree -/
def dput (n : Nat) (z : Str) (t : T) (ρ : Fr) : Option Fr := match ρ.rt[n]? with
  | some ⟨.dd l, pr⟩ => if (l.map (·.1)).any (fun j => decide (j = (Sum.inr z : Key))) = false ∧ l.length < 1000 then (match t with
    | .dat d => some { ρ with rt := ρ.rt.set n ⟨.dd (l ++ [(.inr z, d)]), pr⟩ }
    | .ins c fs => match l with
      | [] => if (ρ.rt.all fun x => noPar n x) = true then some { ρ with rt := ρ.rt.set n ⟨.od [(.inr z, .ins c fs)], pr⟩ } else none
      | _ => none
    | _ => none) else none
  | some ⟨.od l, pr⟩ => if (l.map (·.1)).any (fun j => decide (j = (Sum.inr z : Key))) = false ∧ l.length < 1000 ∧ (ρ.rt.all fun x => decide (x.par ≠ some (n, .key (.inr z)))) = true then some { ρ with rt := ρ.rt.set n ⟨.od (l ++ [(.inr z, t)]), pr⟩ } else none
  | _ => none
def mDPut (mv md mk : M R) : SM := sBnd mv fun r => sBnd md fun rd => sBnd mk fun rk ρ => match refN rd, vw rk ρ with
  | some n, some (.str z) => match takeR r ρ with
    | some p => (dput n z p.1 p.2).map fun ρ' => .nx (tidy ρ')
    | none => none
  | _, _ => none
/-! ### d.pop(k, x), for its effect -/
def dpop (n : Nat) (z : Str) (ρ : Fr) : Option Fr := match (clr (fun jp => jp.1 == n && decide (jp.2 = .key (.inr z))) ρ).rt[n]? with
  | some ⟨.dd l, pr⟩ => some { clr (fun jp => jp.1 == n && decide (jp.2 = .key (.inr z))) ρ with rt := (clr (fun jp => jp.1 == n && decide (jp.2 = .key (.inr z))) ρ).rt.set n ⟨.dd (l.filter fun q => decide (q.1 ≠ Sum.inr z)), pr⟩ }
  | some ⟨.od l, pr⟩ => some { clr (fun jp => jp.1 == n && decide (jp.2 = .key (.inr z))) ρ with rt := (clr (fun jp => jp.1 == n && decide (jp.2 = .key (.inr z))) ρ).rt.set n ⟨.od (l.filter fun q => decide (q.1 ≠ Sum.inr z)), pr⟩ }
  | _ => none
def isDict (x : Option Rt) : Bool := match x with
  | some ⟨.dd _, _⟩ => true
  | some ⟨.od _, _⟩ => true
  | _ => false
def mDPop (md mk mx : M R) : M R := bnd md fun rd ρ0 => match refN rd with
  | some n => if isDict ρ0.rt[n]? = true then (bnd mk fun rk => bnd mx fun _ ρ => match vw rk ρ with
    | some (.str z) => (dpop n z ρ).map fun ρ' => .ok (.own .gone) ρ'
    | _ => none) ρ0 else none
  | none => none
section
variable {K : PySem.W.Frag} {mg : Str → Option Value} {mm : Mg} {B : Bs} {O O' : Ft} {A A' A1 : Al} {ρ ρ1 : Fr} {σ : L2.St} {H H' H1 G : Hp} {E : XK}
theorem dget_ok {n : Nat} {z : Str} {v : V} {r : R} {ρ' : Fr} (S : StC K mg B O A ρ σ H) (ha : al A n = some v) (e : dget n z ρ = some (r, ρ')) :
    ∃ a kvs vc A', v = .ref a ∧ H a = some (.dK kvs) ∧ valV kvs (Sum.inr z : Key) = some vc ∧ StC K mg B O A' ρ' σ H ∧ RR K ⟨mg, B.η⟩ (al A') (hid (tot O A') H) H vc zer r ∧ Stp O A H O A' H := by
  unfold dget at e
  split at e
  · rename_i l pr hx
    cases hg : getA (Sum.inr z : Key) l with
    | none => rw [hg] at e; cases e
    | some d =>
      rw [hg] at e
      cases e
      obtain ⟨F', _, ht⟩ := S.root hx ha
      cases ht with
      | dd h1 h2 h3 =>
        obtain ⟨vc, g1, g2⟩ := dq_getA h2 h3 hg
        exact ⟨_, _, vc, A, rfl, h1, by rw [valV_getA]; exact g1, S, ⟨rfl, g2⟩, Stp.refl⟩
  · rename_i l pr hx
    obtain ⟨F', _, ht⟩ := S.root hx ha
    obtain ⟨vc, A', c1, S', rr, st⟩ := S.borrow ha e
    cases ht with
    | od h1 h2 h3 =>
      refine ⟨_, _, vc, A', rfl, h1, ?_, S', rr, st⟩
      rw [valV_getA]
      simpa [chAt, h1, chO] using c1
  · cases e
theorem dput_ok {F : Ft} {n : Nat} {z : Str} {v y : V} {t : T} {ρ' : Fr} (S : StC K mg B (add O F) A ρ σ H) (ht : TR K ⟨mg, B.η⟩ (hid (tot (add O F) A) H) H t y F) (ha : al A n = some v) (e : dput n z t ρ = some ρ') :
    ∃ a kvs A', v = .ref a ∧ H a = some (.dK kvs) ∧ kvs.length < sizeLine ∧ StC K mg B O A' ρ' σ (upd H a (.dK (putK kvs (.inr z) y))) ∧ (∀ b, O b ≠ 0 → (upd H a (.dK (putK kvs (.inr z) y))) b = H b) ∧
      Same (hid (tot (add O F) A) H) (hid (tot O A') (upd H a (.dK (putK kvs (.inr z) y)))) ∧ al A' = al A := by
  unfold dput at e
  split at e
  · rename_i l pr hx
    obtain ⟨F', hA, tr⟩ := S.root hx ha
    cases tr with
    | dd h1 h2 h3 =>
    rename_i a kvs
    split at e
    · rename_i q
      have len := congrArg List.length h2
      rw [List.length_map, List.length_map] at len
      have np := putK_new (k := .inr z) (v := y) (kvs := kvs) (by rw [h2]; exact q.1)
      have hA' : A[n]? = some (.ref a, add (one a) zer) := by rw [add_zer]; exact hA
      cases t with
      | dat d =>
        cases e
        cases ht with
        | dat hd =>
        obtain ⟨A', S', o', s', l'⟩ := S.putObj (F' := zer) (Fn := zer) (x := ⟨.dd l, pr⟩) (t' := .dd (l ++ [(.inr z, d)])) (o := .dK (kvs ++ [(.inr z, y)])) hA' hx (fun b => Nat.zero_le _) (fun G' H' sm _ ho _ _ => by
          rw [add_zer]
          refine .dd ho (by simp [h2]) ?_
          rw [List.map_append, List.map_append]
          exact DqAll_app (DqAll_same sm h3) (.cons (Dq_same sm hd) .nil)) (fun c => nomatch c)
        refine ⟨a, kvs, A', rfl, h1, by rw [len, sizeLine_eq]; omega, ?_⟩
        rw [np]
        exact ⟨S', o', s', l'⟩
      | ins c fs =>
        dsimp only at e
        split at e
        · split at e <;> try cases e
          rename_i qn
          cases kvs with
          | cons _ _ => simp at h2
          | nil =>
          obtain ⟨A', S', o', s', l'⟩ := S.putObj (F' := F) (Fn := zer) (x := ⟨.dd [], pr⟩) (t' := .od [(.inr z, .ins c fs)]) (o := .dK ([] ++ [(.inr z, y)])) hA' hx (fun b => by show F b ≤ 0 + F b; omega) (fun G' H' sm k ho _ fa => by
            have := TRs.cons (ht.step sm fun b nz => k b fun e => by subst e; exact nz fa) (.nil (K := K) (mg := ⟨mg, B.η⟩) (G := G') (H := H'))
            rw [add_zer] at this
            exact .od ho rfl this) (fun _ m p x w h1 h2 h3 => by
            have := List.all_eq_true.mp qn x (List.mem_of_getElem? h1)
            unfold noPar at this
            rw [h2] at this
            simp at this)
          refine ⟨a, [], A', rfl, h1, by rw [sizeLine_eq]; decide, ?_⟩
          rw [np]
          exact ⟨S', o', s', l'⟩
        · cases e
      | fn _ => cases e
      | dl _ => cases e
      | ol _ => cases e
      | ot _ => cases e
      | dd _ => cases e
      | od _ => cases e
      | gone => cases e
      | hole => cases e
      | frz _ => cases e
    · cases e
  · rename_i l pr hx
    obtain ⟨F', hA, tr⟩ := S.root hx ha
    cases tr with
    | od h1 h2 h3 =>
    rename_i a kvs Fn
    split at e
    · rename_i q
      cases e
      have len := congrArg List.length h2
      rw [List.length_map, List.length_map] at len
      have np := putK_new (k := .inr z) (v := y) (kvs := kvs) (by rw [h2]; exact q.1)
      obtain ⟨A', S', o', s', l'⟩ := S.putObj (F' := add Fn F) (x := ⟨.od l, pr⟩) (t' := .od (l ++ [(.inr z, t)])) (o := .dK (kvs ++ [(.inr z, y)])) hA hx (fun b => Nat.le_refl _) (fun G' H' sm k ho fn fa => by
        refine .od ho (by simp [h2]) ?_
        rw [List.map_append, List.map_append]
        exact TRs.snoc (ht.step sm fun b nz => k b fun e => by subst e; exact nz fa) (h3.step sm fun b nz => k b fun e => by subst e; exact nz fn)) (fun _ m p x w g1 g2 g3 => by
        have old := S.par0 hA hx rfl m p x w g1 g2 g3
        simp only [chAt, h1, upd_same, Option.bind_some] at old ⊢
        cases p with
        | key j =>
          have nj : j ≠ .inr z := fun e => by
            subst e
            have := List.all_eq_true.mp q.2.2 x (List.mem_of_getElem? g1)
            rw [g2] at this
            simp at this
          simp only [chO] at old ⊢
          rw [getA_app nj]
          exact old
        | idx _ => simp only [chO] at old; cases old
        | fld _ => simp only [chO] at old; cases old)
      refine ⟨a, kvs, A', rfl, h1, by rw [len, sizeLine_eq]; omega, ?_⟩
      rw [np]
      exact ⟨S', o', s', l'⟩
    · cases e
  · cases e
end
end XM
end
section
/-! dicts that belong to somebody: the rules -/
namespace XM
open PySem PySem.Spec PyProof.Rows L2 Tl
section
variable {K : PySem.W.Frag} {mg : Str → Option Value} {mm : Mg} {B : Bs} {O O' : Ft} {A A' A1 : Al} {ρ ρ1 : Fr} {σ : L2.St} {H H' H1 G : Hp} {E : XK}
theorem dpop_ok {n : Nat} {z : Str} {v : V} {ρ' : Fr} (S : StC K mg B O A ρ σ H) (ha : al A n = some v) (e : dpop n z ρ = some ρ') :
    ∃ a kvs A', v = .ref a ∧ H a = some (.dK kvs) ∧ StC K mg B O A' ρ' σ (upd H a (.dK (dropK kvs (Sum.inr z : Key)))) ∧ Stp O A H O A' (upd H a (.dK (dropK kvs (Sum.inr z : Key)))) ∧
      (valV kvs (Sum.inr z : Key) = none → StC K mg B O A' ρ' σ H ∧ Stp O A H O A' H) := by
  have S1 := S.clr (fun jp => jp.1 == n && decide (jp.2 = .key (.inr z)))
  have S0 : StC K mg B (add O zer) A (clr (fun jp => jp.1 == n && decide (jp.2 = .key (.inr z))) ρ) σ H := by rw [add_zer]; exact S1
  have dropSame : ∀ {kvs : List (Key × V)}, valV kvs (Sum.inr z : Key) = none → dropK kvs (Sum.inr z : Key) = kvs := fun {kvs} h => by
    refine List.filter_eq_self.mpr fun q hq => decide_eq_true fun e => ?_
    have := valV_any (Sum.inr z : Key) kvs
    rw [h] at this
    have h2 : (kvs.any fun kv => decide (kv.1 = (Sum.inr z : Key))) = true := List.any_eq_true.mpr ⟨q, hq, decide_eq_true e⟩
    rw [h2] at this
    cases this
  have updSame : ∀ {a : Addr} {o : HO}, H a = some o → upd H a o = H := fun {a o} h => by
    funext b
    by_cases e : b = a
    · subst e; rw [upd_same, h]
    · rw [upd_ne e]
  unfold dpop at e
  split at e
  · rename_i l pr hx
    cases e
    obtain ⟨F', hA, tr⟩ := S1.root hx ha
    cases tr with
    | dd h1 h2 h3 =>
    rename_i a kvs
    have hA' : A[n]? = some (.ref a, add (one a) zer) := by rw [add_zer]; exact hA
    obtain ⟨k1, k2⟩ := DqAll.dropK (k := Sum.inr z) h2 h3
    obtain ⟨A', S', o', s', l'⟩ := S0.putObj (F' := zer) (Fn := zer) (x := ⟨.dd l, pr⟩) (t' := .dd (l.filter fun q => decide (q.1 ≠ Sum.inr z))) (o := .dK (dropK kvs (Sum.inr z : Key))) hA' hx (fun b => Nat.zero_le _) (fun G' H' sm _ ho _ _ => by
      rw [add_zer]
      rw [add_zer] at sm
      exact .dd ho k1 (DqAll_same sm k2)) (fun c => nomatch c)
    rw [add_zer] at s'
    have st : Stp O A H O A' (upd H a (.dK (dropK kvs (Sum.inr z : Key)))) := ⟨⟨o', s'⟩, fun r v q => by rw [l']; exact q⟩
    refine ⟨a, kvs, A', rfl, h1, S', st, fun nn => ?_⟩
    have := updSame (a := a) (o := .dK (dropK kvs (Sum.inr z : Key))) (by rw [dropSame nn]; exact h1)
    rw [this] at S' st
    exact ⟨S', st⟩
  · rename_i l pr hx
    cases e
    obtain ⟨F', hA, tr⟩ := S1.root hx ha
    cases tr with
    | od h1 h2 h3 =>
    rename_i a kvs Fn
    obtain ⟨F2, k1, k2, k3⟩ := TRs.dropK (k := Sum.inr z) h2 h3
    obtain ⟨A', S', o', s', l'⟩ := S0.putObj (F' := F2) (x := ⟨.od l, pr⟩) (t' := .od (l.filter fun q => decide (q.1 ≠ Sum.inr z))) (o := .dK (dropK kvs (Sum.inr z : Key))) hA hx (fun b => by have := k3 b; omega) (fun G' H' sm k ho fn _ => by
      rw [add_zer] at sm
      exact .od ho k1 (k2.step sm fun b nz => k b fun e => by subst e; have := k3 b; omega)) (fun _ m p x w g1 g2 g3 => by
      have old := S1.par0 hA hx rfl m p x w g1 g2 g3
      simp only [chAt, h1, upd_same, Option.bind_some] at old ⊢
      cases p with
      | key j =>
        have nj : j ≠ .inr z := fun e => by
          subst e
          obtain ⟨x', _, rfl⟩ := clr_at g1
          have := (clrR_par g2).2
          simp at this
        simp only [chO] at old ⊢
        rw [getA_drop nj]
        exact old
      | idx _ => simp only [chO] at old; cases old
      | fld _ => simp only [chO] at old; cases old)
    rw [add_zer] at s'
    have st : Stp O A H O A' (upd H a (.dK (dropK kvs (Sum.inr z : Key)))) := ⟨⟨o', s'⟩, fun r v q => by rw [l']; exact q⟩
    refine ⟨a, kvs, A', rfl, h1, S', st, fun nn => ?_⟩
    have := updSame (a := a) (o := .dK (dropK kvs (Sum.inr z : Key))) (by rw [dropSame nn]; exact h1)
    rw [this] at S' st
    exact ⟨S', st⟩
  · cases e
theorem refN_ok {r : R} {v : V} {F : Ft} {n : Nat} (h : RR K mm (al A) G H v F r) (e : refN r = some n) : F = zer ∧ al A n = some v ∧ r = .ref n := by
  cases r with
  | ref m => cases e; exact ⟨h.1, h.2, rfl⟩
  | dat d => cases e
  | fn x => cases e
  | own t => cases e
end
section
variable {X : Cx} {E : XK} {e i o f value : Expr} {pos pos' apos : Pos} {mk md mv mx : M R}
theorem de_dget (hu : X.A.units + 1 < cLine) (ho : DE X E o md) (hi : DE X E i mk) (hs : NoSl i) : DE X E (.Subscript o i pos) (mDGet md mk) := by
  refine ⟨pe_imp (pe_dget hu ho.pe hi.pe hs) fun σ H Q h => ?_⟩
  obtain ⟨B, O, A, ρ, out, S, hm, k⟩ := h
  refine run_bnd S hm k.exc fun rd ρ1 v H1 A1 F hk S1 rr1 st1 x1 => ?_
  refine run_bnd S1 hk x1 fun rk ρ2 w H2 A2 F2 hk2 S2 rr2 st2 x2 => ?_
  split at hk2
  · rename_i n z e1 e2
    have rr1' := rr1.step st2 (fun a n => add_r n)
    have hv := S2.view rr2 e2
    cases hv
    obtain ⟨rfl, ha, rfl⟩ := refN_ok rr1' e1
    have le : ∀ a, O a ≤ add (add O zer) F2 a := fun a => by unfold add; omega
    have st := (st1.trans st2 fun a n => add_l n).weak le
    have S2 := S2.weak le
    cases hd : dget n z ρ2 with
    | none => rw [hd] at hk2; cases hk2
    | some p =>
      obtain ⟨r, ρ3⟩ := p
      rw [hd] at hk2
      cases hk2
      obtain ⟨a, kvs, vc, A3, rfl, h1, h2, S3, rr3, st3⟩ := dget_ok S2 ha hd
      refine ⟨a, vc, rfl, ?_, k.oks vc H2 A3 zer (by rw [add_zer]; exact S3) (by rw [add_zer]; exact rr3) (by rw [add_zer]; exact st.trans st3 fun _ n => n)⟩
      have := DGet.k (k := .inr z) h1
      rw [h2] at this
      exact this
  · cases hk2
theorem ds_dput (hu : X.A.units + 1 < cLine) (ho : DE X E o md) (hi : DE X E i mk) (hv : DE X E value mv) (hs : swapsWith value (some (.Subscript o i pos')) pos.line X.env = pure false := by rfl) : DS X E (.Assign [.Subscript o i pos'] value pos) (mDPut mv md mk) := by
  refine ⟨ps_imp (ps_dput hu ho.pe hi.pe hv.pe hs) fun D σ H h => ?_⟩
  obtain ⟨B, O, A, ρ, out, S, hm, kk⟩ := h
  refine run_st S kk hm fun r ρ1 y H1 A1 F hk S1 rr1 st1 => ?_
  unfold sBnd at hk
  cases em : md ρ1 with
  | none => rw [em] at hk; cases hk
  | some o1 =>
    rw [em] at hk
    cases o1 with
    | ex c ρ2 =>
      cases hk
      exact ⟨B, add O F, A1, ρ1, _, S1, em, fun C H' A' hc S' st => kk C σ H' A' hc (S'.weak fun a => le_add a) ((st1.toSto.trans st fun a n => add_l n).weak fun a => le_add a)⟩
    | ok rd ρ2 =>
      dsimp only at hk
      refine ⟨B, add O F, A1, ρ1, _, S1, em, fun x H2 A2 F2 S2 rr2 st2 => ?_⟩
      cases ek : mk ρ2 with
      | none => rw [ek] at hk; cases hk
      | some o2 =>
        rw [ek] at hk
        have st12 := st1.trans st2 fun a n => add_l n
        have le2 : ∀ a, O a ≤ add (add O F) F2 a := fun a => by unfold add; omega
        cases o2 with
        | ex c ρ3 =>
          cases hk
          exact ⟨B, add (add O F) F2, A2, ρ2, _, S2, ek, fun C H' A' hc S' st => kk C σ H' A' hc (S'.weak le2) ((st12.toSto.trans st fun a n => by have := le2 a; omega).weak le2)⟩
        | ok rk ρ3 =>
          dsimp only at hk
          refine ⟨B, add (add O F) F2, A2, ρ2, _, S2, ek, fun yk H3 A3 F3 S3 rr3 st3 => ?_⟩
          split at hk
          · rename_i n z e1 e2
            have hz := S3.view rr3 e2
            cases hz
            obtain ⟨rfl, ha2, rfl⟩ := refN_ok rr2 e1
            have ha := st3.al _ _ ha2
            have rr1' := (rr1.step st2 (fun a n => add_r n)).step st3 (fun a n => by unfold add at *; omega)
            have st13 := st12.trans st3 fun a n => by have := le2 a; omega
            have le3 : ∀ a, add O F a ≤ add (add (add O F) zer) F3 a := fun a => by unfold add; omega
            have S4 := S3.weak le3
            have rr4 : RR X.K ⟨X.mg, B.η⟩ (al A3) (hid (tot (add O F) A3) H3) H3 y F r := by
              cases r with
              | dat d => exact ⟨rr1'.1, Dq_same (hid_weak le3) rr1'.2⟩
              | fn x => exact rr1'
              | own t => exact TR.step (hid_weak le3) rr1' fun _ _ => rfl
              | ref n => exact rr1'
            split at hk
            · rename_i p ht
              obtain ⟨t, ρ4⟩ := p
              obtain ⟨A4, F4, S5, tr, e5, l5⟩ := S4.takeR rr4 ht
              cases hd : dput n z t ρ4 with
              | none => rw [hd] at hk; cases hk
              | some ρ5 =>
                rw [hd] at hk
                cases hk
                obtain ⟨a, kvs, A6, rfl, h1, hl, S6, o6, s6, _⟩ := dput_ok S5 tr (by rw [l5]; exact ha) hd
                refine ⟨a, _, rfl, .inl ⟨kvs, .inr z, h1, rfl, hl, rfl⟩, ?_⟩
                obtain ⟨A7, S7, s7⟩ := S6.tidy
                have st4 := st13.weak le3
                rw [e5] at s6
                exact kk σ _ A7 S7 ⟨fun b nz => (o6 b nz).trans (st4.out b nz), (st4.sh.trans s6).trans s7⟩
            · cases hk
          · cases hk
theorem de_dpop (ho : DE X E o md) (he : DE X E e mk) (hf : DE X E f mx) (m : M2 X o "pop" apos e f pos) : DE X E (.Call (.Attribute o "pop" apos) [e, f] [] pos) (mDPop md mk mx) := by
  refine ⟨pe_imp (pe_dpop2 ho.pe he.pe hf.pe m) fun σ H Q h => ?_⟩
  obtain ⟨B, O, A, ρ, out, S, hm, k⟩ := h
  refine run_bnd S hm k.exc fun rd ρ1 v H1 A1 F hk S1 rr1 st1 x1 => ?_
  split at hk
  · rename_i n e1
    obtain ⟨rfl, ha, rfl⟩ := refN_ok rr1 e1
    split at hk
    · rename_i hd
      obtain ⟨a, kvs0, rfl, h0⟩ : ∃ a kvs, v = .ref a ∧ H1 a = some (.dK kvs) := by
        cases hx : ρ1.rt[n]? with
        | none => rw [hx] at hd; cases hd
        | some x =>
          obtain ⟨t, pr⟩ := x
          rw [hx] at hd
          obtain ⟨F', _, ht⟩ := S1.root hx ha
          cases ht with
          | dd h1 _ _ => exact ⟨_, _, rfl, h1⟩
          | od h1 _ _ => exact ⟨_, _, rfl, h1⟩
          | _ => cases hd
      refine ⟨a, rfl, .inl ⟨kvs0, .of h0⟩, ?_⟩
      refine run_bnd S1 hk x1 fun rk ρ2 yk H2 A2 F2 hk2 S2 rr2 st2 x2 => ?_
      refine run_bnd S2 hk2 x2 fun rx ρ3 yx H3 A3 F3 hk3 S3 rr3 st3 x3 => ?_
      split at hk3
      · rename_i z e2
        have hz := S3.view (rr2.step st3 fun a n => add_r n) e2
        cases hz
        have ha3 := st3.al _ _ (st2.al _ _ ha)
        have le : ∀ a, O a ≤ add (add (add O zer) F2) F3 a := fun a => by unfold add; omega
        have st := ((st1.trans st2 fun a n => add_l n).trans st3 fun a n => by unfold add at *; omega).weak le
        have S4 := S3.weak le
        cases hp : dpop n z ρ3 with
        | none => rw [hp] at hk3; cases hk3
        | some ρ4 =>
          rw [hp] at hk3
          cases hk3
          obtain ⟨a', kvs, A5, ea, h1, S5, st5, nn⟩ := dpop_ok S4 ha3 hp
          cases ea
          refine ⟨kvs, .inr z, h1, rfl, fun u _ => ?_, fun h2 => ?_⟩
          · exact k.oks u _ A5 zer (by rw [add_zer]; exact S5) .gone (by rw [add_zer]; exact st.trans st5 fun _ n => n)
          · obtain ⟨S6, st6⟩ := nn h2
            exact k.oks yx H3 A5 zer (by rw [add_zer]; exact S6) .gone (by rw [add_zer]; exact st.trans st6 fun _ n => n)
      · cases hk3
    · cases hk
  · cases hk
end
end XM
end
section
/-! a field as a target among others -/
namespace Tl
open PySem PySem.Spec PyProof.Rows L2
def gFld (K : PySem.W.Frag) (to : TE) (f : Str) : TG := fun v σ H Q => to σ H fun o H1 => ∃ a C dx fs, o = .ref a ∧ H1 a = some (.ins C dx fs) ∧ Cls K C ∧ NoAttr K C f ∧ fs.length < 1000 ∧ Q σ (upd H1 a (.ins C dx (putF f v fs)))
theorem pg_fld {X : Cx} {o : Expr} {f : Str} {pos : Pos} {to : TE} (ho : PE X o to)
    (ha : ∀ v, assign (.Attribute o f pos) X.env v = (do
      let ov ← holding [v] (eval o X.env)
      standAt pos.atName
      holding [v, ov] (setAttr ov f v)
      release [v, ov] []) := by intro _; rfl) : PG X (.Attribute o f pos) (gFld X.K to f) := by
  refine ⟨fun pins s σ H v u Q I r h => ?_⟩
  rw [ha]
  refine wpAny_bind (wpAny_holding (thn (ho.run pins s σ H _ I h) fun ov s1 ⟨x, H1, I1, r1, a, C, dx, fs, ex, ea, c, n, l, q⟩ => ?_))
  subst ex
  obtain rfl : ov = Value.ref a := r1
  refine wpAny_bind (wpAny_standAt (wpAny_bind (wpAny_holding ?_)))
  refine setattr_ok I1 ea c n l r fun s3 I3 => ?_
  exact wpAny_release ⟨σ, _, I3, q⟩
end Tl
end
section
namespace Tl
open PySem PySem.Spec PyProof.Rows L2
/-- (x, y, *rest) = a tuple of two or more: rest is a new list -/
def gStarT2 (K : PySem.W.Frag) (t : TGs) : TG := fun v σ H Q => ∃ (a : Addr) (x y : V) (xs : List V), v = .ref a ∧ SqT K H a (x :: y :: xs) ∧ xs.length ≤ 10000 ∧ ∀ p, H p = none → t [x, y, .ref p] σ (upd H p (.lst xs)) Q
section
variable {X : Cx} {pos : Pos}
theorem pg_starT2 {es : List Expr} {kk : Nat} {t : TGs} (quiet : X.calm = true) (hes : PGs X es t)
    (three : (assignEach es X.env).length = 3 := by rfl) (third : (assignEach es X.env).findIdx? (·.1) = some 2 := by rfl) : PG X (.Tuple es kk pos) (gStarT2 X.K t) := by
  constructor
  intro pins s σ H v u Q I r want
  obtain ⟨a, x, y, xs, ev, seq, small, want⟩ := want
  subst ev
  cases r
  obtain ⟨vals, rel, place, _⟩ := I.tuple seq
  have isl : s.heap.IsTuple a vals.toArray := place
  cases rel with
  | @cons _ vx _ _ rel0 rels =>
  cases rels with
  | @cons _ vy _ ys rel1 rels =>
  have lens : xs.length = ys.length := rels.length
  have apart : a ≠ s.heap.objs.size := by
    obtain ⟨ob, ho, _⟩ := isl
    exact Nat.ne_of_lt (Heap.lt_size ho)
  rw [PyProof.Rows.assign_Tuple]
  refine wpAny_bind (wpAny_standAt ?_)
  unfold unpack
  rw [three, third]
  refine wpAny_bind (wpAny_holding ?_)
  unfold unpackItems notIterableAtAll
  refine wpAny_bind (wpAny_bind (wpAny_specialOf isl.typeIs PySem.F.slot_tuple_iter.lookup (wpAny_pure ?_)))
  simp only [Bool.false_eq_true, if_false]
  refine wpAny_bind (wpAny_holding (wpAny_pyIter_tuple isl ?_))
  have isl0 : (s.heap.push { cls := .type "tuple_iterator", data := .fields #[.ref a, .int 0 0] }).IsTuple a (vx :: vy :: ys).toArray := PyProof.Rows.IsTup.push isl _
  refine wpAny_bind (wpAny_holding (wpAny_draw_tuple apart 2 0 _ _ ⟨_, Heap.get?_push_size _ rfl, rfl, rfl⟩ isl0 (by simp) fun h1 it1 same1 => ?_))
  have isl1 : h1.IsTuple a (vx :: vy :: ys).toArray := PyProof.Rows.IsTup.extBut isl0 same1.extBut apart
  have hh : X.A.handled = none := I.ok.hd quiet
  obtain ⟨oi, hoi, _⟩ := id it1
  obtain ⟨ol, hol, _⟩ := id isl1
  have e1 : List.take 2 (List.drop 0 (vx :: vy :: ys).toArray.toList) = [vx, vy] := rfl
  rw [e1, if_neg (show ¬ [vx, vy].length < 2 from Nat.lt_irrefl 2)]
  refine wpAny_bind (wpAny_holding (PySem.W.kun_collect (s := { s with heap := h1 }) (T := "tuple_iterator") (.inr (.inr (.inr rfl))) (Walks.tuple (A := X.A.in1) hh s.heap.objs.size a apart (vx :: vy :: ys).toArray) (fun j u st => st.1.typeIs) (k := 2) (by simp) ⟨it1, isl1⟩ (Heap.lt_size hoi) (Heap.lt_size hol) (fun h2 tk keep2 => ?_) (by rw [sizeLine_eq]; simp; omega)))
  have e2 : (vx :: vy :: ys).toArray.toList.drop 2 = ys := rfl
  rw [e2]
  simp only [Nat.sub_self, Nat.not_lt_zero, if_false, Nat.sub_zero, List.take_length, List.drop_length, Nat.reduceSub]
  refine wpAny_bind (PySem.wpAny_newList ?_ ?_)
  · have old : ∀ b u, s.heap.get? b = some u → h2.get? b = some u := fun b u e =>
      keep2 b u (Nat.ne_of_lt (Heap.lt_size e)) (same1.extBut b u (Nat.ne_of_lt (Heap.lt_size e)) (Heap.get?_push_of_some _ e))
    have I2 : L2.Inv X pins σ H ⟨h2, s.gens, s.drawn, tk, s.os⟩ := I.kept (h' := h2) (t' := tk) old
    have hf : H h2.objs.size = none := I2.hok.fresh (Nat.le_refl _)
    have I3 : L2.Inv X pins σ (upd H h2.objs.size (.lst xs)) ⟨h2.push { cls := .type "list", data := .seq ys.toArray }, s.gens, s.drawn, tk, s.os⟩ :=
      I2.laid (t' := tk) (fun b u e => Heap.get?_push_of_some _ e) (Nat.le_refl _) ⟨by rw [sizeLine_eq]; omega, ys, 0, rels, Heap.get?_push_size _ rfl⟩
    exact wpAny_pure (hes.run pins _ σ _ [x, y, .ref h2.objs.size] _ Q I3 (.cons rel0 (.cons rel1 (.cons rfl .nil))) (want _ hf))
  · rw [sizeLine_eq]; omega
end
end Tl
end
section
/-! more statements: try, augmented assignment, while, targets -/
namespace XM
open PySem PySem.Spec PyProof.Rows L2 Tl
section
variable {X : Cx} {E : XK} {e o : Expr} {body : List Stmt} {h0 : ExceptHandler} {hs : List ExceptHandler} {pos pos' : Pos} {m : SM}
/-- a body that raises nothing -/
theorem ds_try (hb : DSs X.nox E body m) : DS X E (.Try body (h0 :: hs) [] [] pos) m := ⟨ps_imp (ps_try_thru0 hb.pss) fun _ _ _ h => h⟩
end
/-! ### i op= e -/
def mAugI (f : Int → Int → Int) (i : Nat) (m : M R) : SM := fun ρ => match ρ.sl[i]? with
  | some (.dat (.int a)) => (sBnd m fun r ρ1 => match vw r ρ1 with
    | some (.int b) => some (.nx (setS i (.dat (.int (f a b))) ρ1))
    | _ => none) ρ
  | _ => none
def fAddI (a b : Int) : Int := a + b
def fSubI (a b : Int) : Int := a - b
/-- xs[-1] += s -/
def mAugLast (mo me : M R) : SM := sBnd mo fun ro ρ0 => match refN ro with
  | some n => match ρ0.rt[n]? with
    | some ⟨.dl l, _⟩ => match l.getLast? with
      | some (.str a) => (sBnd me fun re ρ => match vw re ρ with
        | some (.str b) => match ρ.rt[n]? with
          | some ⟨.dl l2, pr⟩ => if l2.length = l.length ∧ a.length + b.length ≤ 1000000 then some (.nx (tidy { ρ with rt := ρ.rt.set n ⟨.dl (l2.set (l2.length - 1) (.str (a ++ b))), pr⟩ })) else none
          | _ => none
        | _ => none) ρ0
      | _ => none
    | _ => none
  | none => none
/-! ### while -/
def mWhile (mt : M Bool) (b : SM) : Nat → SM
  | 0, _ => none
  | n + 1, ρ => match mt ρ with
    | none => none
    | some (.ex c ρ1) => some (.ex c ρ1)
    | some (.ok false ρ1) => some (.nx ρ1)
    | some (.ok true ρ1) => match b ρ1 with
      | some (.nx ρ2) => mWhile mt b n ρ2
      | some (.ct ρ2) => mWhile mt b n ρ2
      | some (.bk ρ2) => some (.nx ρ2)
      | r => r
section
variable {X : Cx} {E : XK} {e o c value : Expr} {body : List Stmt} {pos pos' tpos : Pos} {m : M R} {K : PySem.W.Frag} {mg : Str → Option Value} {mm : Mg} {B : Bs} {O : Ft} {A A1 : Al} {ρ : Fr} {σ : L2.St} {H H1 : Hp}
theorem ds_augI {op : Operator} {f : Int → Int → Int} {i : Nat} {x : Str} (hp : PIp X op (ipI f)) (hN : X.N.Nodup) (hi : X.N[i]? = some x) (hx : Loc X.env.scope x) (he : DE X E e m) (hf : X.fn x = true ∨ X.env.scope.names.lookup x = some .local := by first | exact .inl rfl | exact .inr rfl | assumption) :
    DS X E (.AugAssign (.Name x pos') op e pos) (mAugI f i m) := by
  refine ⟨ps_imp (ps_aug hN hi hx he.pe hp hf) fun D σ H h => ?_⟩
  obtain ⟨B, O, A, ρ, out, S, hm, kk⟩ := h
  unfold mAugI at hm
  split at hm
  · rename_i a hs
    obtain ⟨o, hσ⟩ := at_len S.slen hs
    obtain ⟨v, rfl, hv⟩ := S.sls i _ _ hs hσ
    cases hv
    refine ⟨_, hσ, ?_⟩
    refine run_st S kk hm fun r ρ1 y H1 A1 F hk S1 rr1 st1 => ?_
    split at hk
    · rename_i b e1
      cases hk
      have hy := S1.view rr1 e1
      cases hy
      refine ⟨a, b, rfl, rfl, ?_⟩
      have S2 := S1.weak fun a => le_add a
      have st2 := st1.weak fun a => le_add a
      have S3 : StC X.K X.mg B (add O zer) A1 ρ1 σ H1 := by rw [add_zer]; exact S2
      obtain ⟨A3, S4, s4⟩ := S3.setS (r := .dat (.int (f a b))) (v := .int (f a b)) ⟨rfl, .int _⟩ i
      rw [add_zer] at s4
      exact kk _ H1 A3 S4 ⟨st2.out, st2.sh.trans s4⟩
    · cases hk
  · cases hm
theorem ds_augLast {kk1 : Nat} {p1 p2 : Pos} {mo me : M R} (ho : DE X E o mo) (he : DE X E e me) (ha : ∀ ov iv new, augStore (.UnaryOp .USub (.Constant (.int 1) kk1 p1) p2) ov iv new = (do holding [new, ov, iv] (setItem ov iv new); release [new, ov, iv] []; pure .next) := by intros; rfl) :
    DS X E (.AugAssign (.Subscript o (.UnaryOp .USub (.Constant (.int 1) kk1 p1) p2) tpos) .Add e pos) (mAugLast mo me) := by
  refine ⟨ps_imp (ps_augS ho.pe (pe_un un_neg pe_int) get_last he.pe (ip_of iop_add_str) set_list ha) fun D σ H h => ?_⟩
  obtain ⟨B, O, A, ρ, out, S, hm, kk⟩ := h
  refine run_st S kk hm fun ro ρ1 v H1 A1 F hk S1 rr1 st1 => ?_
  split at hk
  · rename_i n e1
    obtain ⟨rfl, ha1, rfl⟩ := refN_ok rr1 e1
    rw [add_zer] at S1 st1
    split at hk
    · rename_i l pr hx
      split at hk
      · rename_i a hl
        obtain ⟨F', hA, tr⟩ := S1.root hx ha1
        cases tr with
        | dl h1 h2 =>
        rename_i p vs
        obtain ⟨l0, rfl⟩ : ∃ l0, l = l0 ++ [.str a] := by
          obtain ⟨ne, e⟩ := List.getLast?_eq_some_iff.mp hl
          exact ⟨ne, e⟩
        obtain ⟨vs0, rfl⟩ : ∃ vs0, vs = vs0 ++ [.str a] := by
          have len := DqAll_len h2
          have hv := DqAll_at h2 (i := l0.length) (d := .str a) (by simp)
          obtain ⟨w, hw, dw⟩ := hv
          cases dw
          refine ⟨vs.dropLast, ?_⟩
          have ne : vs ≠ [] := fun z => by subst z; simp at len
          have : vs.getLast ne = .str a := by
            rw [List.getLast_eq_getElem]
            have e : vs.length - 1 = l0.length := by rw [len, List.length_append]; simp
            have := List.getElem?_eq_some_iff.mp hw
            obtain ⟨_, q⟩ := this
            simpa [e] using q
          rw [← this]
          exact (List.dropLast_concat_getLast ne).symm
        refine ⟨_, rfl, ?_⟩
        refine ⟨p, vs0, _, rfl, rfl, .of h1, ?_⟩
        refine run_st S1 (kk.later st1.toSto) hk fun re ρ2 y H2 A2 F2 hk2 S2 rr2 st2 => ?_
        split at hk2
        · rename_i b e2
          have hy := S2.view rr2 e2
          cases hy
          split at hk2
          · rename_i l2 pr2 hx2
            split at hk2
            · rename_i q
              cases hk2
              refine ⟨a, b, rfl, rfl, by rw [sizeLine_eq]; omega, ?_⟩
              obtain ⟨F3, hA2, tr2⟩ := S2.root hx2 (st2.al _ _ ha1)
              cases tr2 with
              | dl g1 g2 =>
              rename_i vs2
              have len2 := DqAll_len g2
              have ne : l2.length = l0.length + 1 := by rw [q.1, List.length_append]; rfl
              refine ⟨p, vs2, -1, vs2.length - 1, rfl, rfl, g1, ?_, ?_⟩
              · obtain ⟨k, hk⟩ : ∃ k, vs2.length = k + 1 := ⟨l0.length, by omega⟩
                rw [hk, ixN_last]
                rfl
              · have S3 := S2.weak fun a => le_add a
                have st3 := st2.weak fun a => le_add a
                have S3z : StC X.K X.mg B (add O zer) A2 ρ2 σ H2 := by rw [add_zer]; exact S3
                have hA2' : A2[n]? = some (.ref p, add (one p) zer) := by rw [add_zer]; exact hA2
                obtain ⟨A4, S4, o4, s4, l4⟩ := S3z.putObj (F' := zer) (Fn := zer) (x := ⟨.dl l2, pr2⟩) (t' := .dl (l2.set (l2.length - 1) (.str (a ++ b)))) (o := .lst (vs2.set (vs2.length - 1) (.str (a ++ b)))) hA2' hx2 (fun b => Nat.zero_le _) (fun G' H' sm _ ho _ _ => by
                  rw [add_zer]
                  rw [add_zer] at sm
                  refine .dl ho ?_
                  rw [len2]
                  exact DqAll_set (.str _) _ (DqAll_same ((hid_weak fun a => le_add a).trans sm) g2)) (fun c => nomatch c)
                obtain ⟨A5, S5, s5⟩ := S4.tidy
                rw [add_zer] at s4
                exact kk σ _ A5 S5 ⟨fun b nz => (o4 b nz).trans ((st3.out b nz).trans (st1.out b nz)), ((st1.sh.trans st3.sh).trans s4).trans s5⟩
            · cases hk2
          · cases hk2
        · cases hk2
      · cases hk
    · cases hk
  · cases hk
theorem ds_while {mt : M Bool} {b : SM} {n : Nat} (hp : PassesOwn (model X.prog X.w) X.A X.env X.xe) (hc : DT X E c mt) (hb : DSs X E body b) : DS X E (.While c body [] pos) (mWhile mt b n) := by
  refine ⟨ps_imp (ps_while hp hc.pt hb.pss) fun D σ H h => ?_⟩
  refine ⟨fun k σ H => SRun X.K X.mg (mWhile mt b k) E D σ H, ⟨n, h⟩, ?_⟩
  rintro k σ H ⟨B, O, A, ρ, out, S, hm, kk⟩
  cases k with
  | zero => cases hm
  | succ k =>
    unfold mWhile at hm
    cases et : mt ρ with
    | none => rw [et] at hm; cases hm
    | some o =>
      rw [et] at hm
      cases o with
      | ex c ρ1 =>
        cases hm
        exact ⟨B, O, A, ρ, _, S, et, fun C H' A' hc S' st => kk C σ H' A' hc S' st⟩
      | ok t ρ1 =>
        refine ⟨B, O, A, ρ, _, S, et, fun H1 A1 S1 st1 => ?_⟩
        cases t with
        | false =>
          cases hm
          rw [if_neg Bool.false_ne_true]
          exact kk σ H1 A1 S1 st1.toSto
        | true =>
          rw [if_pos rfl]
          refine ⟨fun σ' H' => SRun X.K X.mg (mWhile mt b k) E D σ' H', fun σ' H' q => ⟨k, Nat.lt_succ_self k, q⟩, ?_⟩
          dsimp only at hm
          have k1 := kk.later st1.toSto
          cases eb : b ρ1 with
          | none => rw [eb] at hm; cases hm
          | some s =>
            rw [eb] at hm
            refine ⟨B, O, A1, ρ1, s, S1, eb, ?_⟩
            cases s with
            | nx ρ2 => exact fun σ' H' A' S' st => ⟨B, O, A', ρ2, out, S', hm, k1.later st⟩
            | ct ρ2 => exact fun σ' H' A' S' st => ⟨B, O, A', ρ2, out, S', hm, k1.later st⟩
            | bk ρ2 => cases hm; exact k1
            | rt r ρ2 => cases hm; exact k1
            | ex c ρ2 => cases hm; exact k1
end
end XM
end
section
/-! for a, b in zip(a text, a list) -/
namespace Tl
open PySem PySem.Spec PyProof.Rows L2
def Itzs (K : PySem.W.Frag) (x : Str) (b : Addr) : It :=
  ⟨fun i H => i < x.cps.size ∧ ∃ (ys : List V) (y : V), SqL K H b ys ∧ ys[i]? = some y,
    fun i H v H' => ∃ T c y, v = .ref T ∧ H T = none ∧ H' = upd H T (.tup [.str ⟨#[c]⟩, y]) ∧ x.cps[i]? = some c ∧ ∀ ys, SqL K H b ys → ys[i]? = some y,
    fun i H => ∃ ys : List V, SqL K H b ys ∧ i = x.cps.size ∧ i ≤ ys.length⟩
theorem sep_zs {z TI TO i1 i2 b : Addr} (D : ZipApart z TI TO i1 i2 b b) (h : b ≠ i1) : ZipSep2 z TI TO i1 i2 [i1] [i2, b] where
  TIz := D.TIz
  TOz := D.TOz
  TITO := D.TITO
  TIi1 := D.TIi1
  mem1 := by simp
  zf1 := by simp; exact D.i1z.symm
  Tf1 := by simp; exact D.TOi1
  TIi2 := D.TIi2
  mem2 := by simp
  zf2 := by simp; exact ⟨D.i2z.symm, D.l1z.symm⟩
  Tf2 := by simp; exact ⟨D.TOi2, D.l1TO.symm⟩
  sep1_2 := by simp; exact ⟨D.i12, h.symm⟩
  sep2_1 := by simp; exact D.i12.symm
theorem turn_zs {P : Program} {w : World} {K : PySem.W.Frag} {elts : List Expr} {kk : Nat} {tpos : Pos} {x : Str} {t : Tok} {b z TI TO i1 i2 : Addr} (D : ZipApart z TI TO i1 i2 b b) :
    Turn P w K (.Tuple elts kk tpos) (Itzs K x b) [z, TI, TO, i1, i2] z (fun i h => IsZip h z TI TO .none ∧ IsTupOf2 h TI (.ref i1) (.ref i2) ∧ (∃ u v, IsTupOf2 h TO u v) ∧ h.IsStrIter i1 (strIterType x) x t i ∧ h.IsListIter i2 b i) where
  mem := by simp
  obj := fun i h st c hc => by
    obtain ⟨zz, zI, ⟨u, v, zO⟩, ⟨o1, e1, _, d1⟩, ⟨o2, e2, _, d2⟩⟩ := st
    simp only [List.mem_cons, List.not_mem_nil, or_false] at hc
    rcases hc with rfl | rfl | rfl | rfl | rfl
    · exact ⟨_, zz, fun v q => nomatch q⟩
    · exact ⟨_, zI, fun v q => nomatch q⟩
    · exact ⟨_, zO, fun v q => nomatch q⟩
    · exact ⟨o1, e1, fun v q => by rw [d1] at q; cases q⟩
    · exact ⟨o2, e2, fun v q => by rw [d2] at q; cases q⟩
  keep := fun i h h' st k => by
    obtain ⟨zz, zI, ⟨u, v, zO⟩, ⟨o1, e1, r1⟩, s2⟩ := st
    exact ⟨k z (by simp) _ zz, k TI (by simp) _ zI, ⟨u, v, k TO (by simp) _ zO⟩, ⟨o1, k i1 (by simp) _ e1, r1⟩, s2.at fun o q => k i2 (by simp) o q⟩
  item := by
    intro X hP hw hK hc i pins s σ H E I hf st hg
    subst hP hw hK
    obtain ⟨zz, zI, ⟨u0, v0, zO⟩, s1, s2⟩ := st
    obtain ⟨lt1, ys, y, sq, gy⟩ := hg
    obtain ⟨its, rv, pl, _⟩ := I.list sq
    have isl : s.heap.IsList b its.toArray := pl.isList
    have lt2 : i < its.length := by have := rv.length; have := (List.getElem?_eq_some_iff.mp gy).1; omega
    have D1 := Draws.text (prog := X.prog) (w := X.w) (A := X.A.in1) (I.ok.hd hc) i1 x t
    have D2 := Draws.list (prog := X.prog) (w := X.w) (A := X.A.in1) (I.ok.hd hc) i2 b D.l1i2 its.toArray
    refine wpAny_pyNext_zipD2_item (sep_zs D D.l1i1) D1 D2 zz zI zO s1 ⟨s2, isl⟩ lt1 (by simpa using lt2) fun x1 x2 h' tk p1 p2 zz' zO' t1 t2 nT hsz kp => ?_
    obtain ⟨c, tc, gc, rfl⟩ := p1
    obtain ⟨u2, gu2, r2⟩ := rv.get gy
    have e2 : x2 = u2 := by have p2' : its[i]? = some x2 := by simpa using p2
                            exact Option.some.inj (p2'.symm.trans gu2)
    subst e2
    refine ⟨_, rfl, wpAny_letOwnedTupleGo_zip (s := ⟨h', s.gens, s.drawn, tk, s.os⟩) zz' fun h2 zz2 sb => ?_⟩
    have zlt : z < s.heap.objs.size := Heap.lt_size zz
    have nT2 : h2.get? s.heap.objs.size = some { cls := .type "tuple", data := .seq #[.str ⟨#[c]⟩ tc, x2] } := (sb.2 _ (Nat.ne_of_gt zlt)).trans nT
    have new : ObjOk X.prog X.w (upd H s.heap.objs.size (.tup [.str ⟨#[c]⟩, y])) h2 s.heap.objs.size (.tup [.str ⟨#[c]⟩, y]) :=
      ⟨by show 2 ≤ sizeLine; decide, [.str ⟨#[c]⟩ tc, x2], .cons ⟨_, rfl⟩ (.cons r2 .nil), ⟨_, nT2, rfl, _, rfl⟩⟩
    have I1 : L2.Inv X pins σ (upd H s.heap.objs.size (.tup [.str ⟨#[c]⟩, y])) { s with heap := h2, toks := tk } :=
      I.turnedNew (t' := tk) (ch := [z, TI, TO, i1, i2]) (fun d o hb q => (sb.2 d (fun q' => hb (by simp [q']))).trans (kp d o (fun q' => hb (by simp [q'])) (fun q' => hb (by simp [q'])) (fun q' => hb (by simp [q'])) (fun q' => hb (by simp [q'])) q)) hf (Nat.le_refl _) new
    refine ⟨.ref s.heap.objs.size, _, I1, rfl, ⟨_, c, y, rfl, I.hok.fresh (Nat.le_refl _), rfl, gc, fun l hl => by rw [I.list_inj hl sq]; exact gy⟩, ⟨zz2, ?_, ⟨.str ⟨#[c]⟩ tc, x2, ?_⟩, ?_, ?_⟩, fun d hd => ?_⟩
    · exact (sb.2 _ D.TIz).trans (kp _ _ D.TIz D.TITO D.TIi1 D.TIi2 zI)
    · exact (sb.2 _ D.TOz).trans zO'
    · obtain ⟨o1, e1, r1⟩ := t1; exact ⟨o1, (sb.2 _ D.i1z).trans e1, r1⟩
    · exact t2.1.at fun o q => (sb.2 _ D.i2z).trans q
    · have young : d < s.heap.objs.size := by
        have hd' := hd
        simp only [List.mem_cons, List.not_mem_nil, or_false] at hd'
        rcases hd' with rfl | rfl | rfl | rfl | rfl
        · exact zlt
        · exact Heap.lt_size zI
        · exact Heap.lt_size zO
        · obtain ⟨_, e1, _⟩ := s1; exact Heap.lt_size e1
        · obtain ⟨_, e2, _⟩ := s2; exact Heap.lt_size e2
      rw [upd_ne (Nat.ne_of_lt young)]; exact (hf d hd).1
  done := by
    intro X hP hw hK hc i pins s σ H E I hf st hg
    subst hP hw hK
    obtain ⟨zz, zI, ⟨u0, v0, zO⟩, s1, s2⟩ := st
    obtain ⟨ys, sq, e1, le2⟩ := hg
    obtain ⟨its, rv, pl, _⟩ := I.list sq
    have len := rv.length
    have D1 := Draws.text (prog := X.prog) (w := X.w) (A := X.A.in1) (I.ok.hd hc) i1 x t
    have D2 := Draws.list (prog := X.prog) (w := X.w) (A := X.A.in1) (I.ok.hd hc) i2 b D.l1i2 its.toArray
    exact wpAny_pyNext_zipD2_end (sep_zs D D.l1i1) D1 D2 zz zI zO s1 ⟨s2, pl.isList⟩ (by omega) (by simp; omega) (.inl e1) fun h' tk kp => ⟨rfl, I.turnedL (t' := tk) (ch := [z, TI, TO, i1, i2]) (fun d o hb q =>
      kp d o (fun q' => hb (by simp [q'])) (fun q' => hb (by simp [q'])) (fun q' => hb (by simp [q'])) (fun q' => hb (by simp [q'])) q) hf⟩
  self := fun A i s Q E st h => wpAny_pyIter_zip st.1 h
def iZipS (K : PySem.W.Frag) (ta : TA) : TI := fun σ H R => ta σ H fun vs H1 => ∃ x b ys, vs = [.str x, .ref b] ∧ SqL K H1 b ys ∧ R (Itzs K x b) H1
theorem pi_zipS {X : Cx} {e e2 : Expr} {ta : TA} {p pos tpos : Pos} {elts : List Expr} {kk : Nat} (hg : Gl X "zip") (hm : X.mg "zip" = none) (ha : PA X [e, e2] ta)
    (hs : starEach [e, e2] X.env = (false, eval e X.env) :: starEach [e2] X.env := by rfl) (hpl : (backTo pos (starEach [e2] X.env)).any (·.1) = false := by rfl) :
    PI X (.Tuple elts kk tpos) (.Call (.Name "zip" p) [e, e2] [] pos) (iZipS X.K ta) := by
  constructor
  intro pins s σ H R I h
  refine Call_ (ld_blt I hg hm PyProof.Rows.boot_zip (PyProof.Rows.callWith_type1 (thn (ha.run pos pins s σ H _ I h) fun us s1 hh => ?_) hs hpl))
  obtain ⟨vs, H1, I1, r1, x, b, ys, ex, sq, q⟩ := hh
  subst ex
  cases r1 with
  | cons r rr =>
  cases rr with
  | cons r' rr =>
  cases rr
  cases r'
  obtain ⟨t, rfl⟩ := r
  obtain ⟨its, rv, pl, _⟩ := I1.list sq
  have lb : b < s1.heap.objs.size := pl.lt
  refine zip_begins2 (begins_text x t) (begins_list b its.toArray) trivial pl.isList fun h' zz zI zO g1 g2 hsz kp => wpAny_pyIter_zip zz ?_
  have I2 : L2.Inv X pins σ H1 { s1 with heap := h' } := I1.kept (t' := s1.toks) kp
  refine ⟨s1.heap.objs.size + 4, [s1.heap.objs.size + 4, s1.heap.objs.size + 2, s1.heap.objs.size + 3, s1.heap.objs.size, s1.heap.objs.size + 1], _, _, H1, rfl, I2, turn_zs (t := t) (PySem.W.ktu_apart s1.heap.objs.size b b lb lb), ⟨zz, zI, ⟨_, _, zO⟩, ⟨_, g1, rfl, rfl⟩, ⟨_, g2, rfl, rfl⟩⟩, fun d hd => ?_, q⟩
  simp only [List.mem_cons, List.not_mem_nil, or_false] at hd
  have old : s1.heap.objs.size ≤ d := by
    rcases hd with rfl | rfl | rfl | rfl | rfl <;> first | exact Nat.le_refl _ | exact Nat.le_add_right _ _
  exact I1.fpOk old (I1.hok.fresh old)
theorem walk_zs {K : PySem.W.Frag} {x : Str} {b : Addr} {ys : List V} {n : Nat} (h1 : x.cps.size = n) (h2 : ys.length = n) : Walk (Itzs K x b) n (fun H => SqL K H b ys)
    (fun i H v H' => ∃ T c y, v = .ref T ∧ H T = none ∧ H' = upd H T (.tup [.str ⟨#[c]⟩, y]) ∧ x.cps[i]? = some c ∧ ys[i]? = some y ∧ SqL K H b ys) where
  goes := fun i H hi q => ⟨by omega, ys, ys[i], q, List.getElem?_eq_getElem (by omega)⟩
  stops := fun H q => ⟨ys, q, by omega, by omega⟩
  yields := fun i H v H' hi q y => by
    obtain ⟨T, c, z, a1, a2, a3, a4, a5⟩ := y
    exact ⟨T, c, z, a1, a2, a3, a4, a5 ys q, q⟩
end Tl
end
section
/-! zip of a text and a list; word, name, *terms = a tuple; self.f, x = a pair; D.get(k, x) of a dict of the module -/
namespace XM
open PySem PySem.Spec PyProof.Rows L2 Tl
def mZipSL (ma mb : M R) : M (List D) := bnd ma fun ra ρ1 => match vw ra ρ1 with
  | some (.str z) => (bnd mb fun rb => bnd (toD rb) fun db ρ => match db with
    | .list ys => if z.cps.size = ys.length then some (.ok (((strD z).zip ys).map fun p => .tuple [p.1, p.2]) ρ) else none
    | _ => none) ρ1
  | _ => none
def mUnp2 (i j k : Nat) (m : M R) : SM := sBnd m fun r ρ => match itsT r ρ with
  | some (d :: d2 :: ds) => if ds.length ≤ 10000 then some (.nx (tidy (toSl k (.own (.dl ds)) { { ρ with sl := ρ.sl.set i (.dat d) } with sl := (ρ.sl.set i (.dat d)).set j (.dat d2) }))) else none
  | _ => none
/-- o.f, x = a pair -/
def mFldTup (cs : List Str) (f : Str) (j : Nat) (mo m : M R) : SM := sBnd m fun r ρ1 => match itsT r ρ1 with
  | some [d, d2] => (sBnd mo fun ro ρ => match refN ro with
    | some n => (storeF cs n f (.dat d) ρ).map fun ρ' => .nx (tidy { ρ' with sl := ρ'.sl.set j (.dat d2) })
    | none => none) ρ1
  | _ => none
section
variable {X : Cx} {E : XK} {e a b c o e2 : Expr} {es : List Expr} {pos p : Pos} {B : Bs} {O O' : Ft} {A A' A1 : Al} {ρ ρ1 : Fr} {σ : L2.St} {H H' H1 : Hp}
theorem strD_len (z : Str) : (strD z).length = z.cps.size := by unfold strD; rw [List.length_map, Array.length_toList]
theorem it_zs {K : PySem.W.Frag} {G : Hp} {x : Str} {q : Addr} {ws : List V} {ys : List D} (hq : G q = some (.lst ws)) (dy : DqAll K G ws ys) (l : x.cps.size = ys.length) : ItOk K G (Itzs K x q) (((strD x).zip ys).map fun p => .tuple [p.1, p.2]) := by
  have len : (((strD x).zip ys).map fun p : D × D => PyData.tuple [p.1, p.2]).length = x.cps.size := by simp [strD_len, l]
  refine ⟨fun H => SqL K H q ws, _, by rw [len]; exact walk_zs (x := x) (ys := ws) rfl (by rw [DqAll_len dy, l]), fun H s => .of (s _ _ hq), fun i H v H' hi y => ?_⟩
  obtain ⟨T, cc, w, rfl, nT, rfl, gu, gw, _⟩ := y
  rw [len] at hi
  have hy : ys[i]? = some ys[i] := List.getElem?_eq_getElem (by omega)
  obtain ⟨w', e2, d2⟩ := DqAll_at dy hy
  rw [gw] at e2
  cases e2
  have hx : (strD x)[i]? = some (.str ⟨#[cc]⟩) := by
    unfold strD
    rw [List.getElem?_map, Array.getElem?_toList, gu]
    rfl
  refine .inr ⟨T, _, [.str ⟨#[cc]⟩, ys[i]], rfl, nT, rfl, ?_, .cons (.str _) (.cons d2 .nil)⟩
  rw [List.getElem?_map, (List.getElem?_zip_eq_some (z := (PyData.str ⟨#[cc]⟩, ys[i]))).mpr ⟨hx, hy⟩]
  rfl
theorem di_zipSL {elts : List Expr} {kk : Nat} {tpos : Pos} {ma mb : M R} (hg : Gl X "zip") (hm : X.mg "zip" = none) (ha : DE X E a ma) (hb : DE X E b mb) (hs : starEach [a, b] X.env = (false, eval a X.env) :: starEach [b] X.env := by rfl) (hs2 : starEach [b] X.env = (false, eval b X.env) :: starEach [] X.env := by rfl) (hpl : (backTo pos (starEach [b] X.env)).any (·.1) = false := by rfl) :
    DI X E (.Tuple elts kk tpos) (.Call (.Name "zip" p) [a, b] [] pos) (mZipSL ma mb) := by
  refine ⟨pi_imp (pi_zipS hg hm (pa_cons ha.pe (pa_cons hb.pe pa_nil hs2) hs) hs hpl) fun σ H R h => ?_⟩
  obtain ⟨B, O, A, ρ, out, S, hm, k⟩ := h
  show ERun _ _ _ _ _ _ _
  refine run_bnd S hm k.exc fun ra ρ1 v H1 A1 F hk S1 rr1 st1 x1 => ?_
  split at hk
  · rename_i z e1
    have hv := S1.view rr1 e1
    cases hv
    have S1' := S1.weak fun a => le_add (F := O) (F1 := F) a
    have st1' := st1.weak fun a => le_add (F := O) (F1 := F) a
    have x2 := k.exc.later st1'.toSto fun _ => Nat.le_refl _
    show ERun _ _ _ _ _ _ _
    refine run_bnd S1' hk x2 fun rb ρ3 w H3 A3 F3 hk3 S3 rr3 st3 x3 => ?_
    obtain ⟨db, ρ4, A4, hk4, S4, dw, st4⟩ := give_bnd S3 rr3 hk3
    have st34 : Stp O A1 H1 O A4 H3 := st3.trans st4 fun a n => add_l n
    split at hk4
    · rename_i ys
      split at hk4
      · rename_i l
        cases hk4
        cases dw with
        | lst hq dy =>
        exact ⟨_, _, _, rfl, .of (hid_sub _ _ hq), k.oks _ H3 A4 S4 (st1'.trans st34 fun _ n => n) (it_zs hq dy l)⟩
      · cases hk4
    · cases hk4
  · cases hk
theorem ds_unp2 {i j k : Nat} {x y z : Str} {m : M R} {px py pz pt ps : Pos} {kk : Nat} (hc : X.calm = true) (hN : X.N.Nodup) (hi : X.N[i]? = some x) (hx : Loc X.env.scope x) (hj : X.N[j]? = some y) (hy : Loc X.env.scope y) (hk : X.N[k]? = some z) (hz : Loc X.env.scope z) (he : DE X E e m)
    (fx : X.fn x = true ∨ X.env.scope.names.lookup x = some .local := by first | exact .inl rfl | exact .inr rfl | assumption) (fy : X.fn y = true ∨ X.env.scope.names.lookup y = some .local := by first | exact .inl rfl | exact .inr rfl | assumption) (fz : X.fn z = true ∨ X.env.scope.names.lookup z = some .local := by first | exact .inl rfl | exact .inr rfl | assumption)
    (hs : swapsWithSole [.Tuple [.Name x px, .Name y py, .Starred (.Name z pz) ps] kk pt] e pos.line X.env = pure false := by rfl) (hw : swappedStores [.Tuple [.Name x px, .Name y py, .Starred (.Name z pz) ps] kk pt] e X.env = pure none := by rfl)
    (h1 : (assignEach [.Tuple [.Name x px, .Name y py, .Starred (.Name z pz) ps] kk pt] X.env).map (·.2) = [assign (.Tuple [.Name x px, .Name y py, .Starred (.Name z pz) ps] kk pt) X.env] := by rfl)
    (three : (assignEach [.Name x px, .Name y py, .Starred (.Name z pz) ps] X.env).length = 3 := by rfl) (third : (assignEach [.Name x px, .Name y py, .Starred (.Name z pz) ps] X.env).findIdx? (·.1) = some 2 := by rfl)
    (h2 : (assignEach [.Name x px, .Name y py, .Starred (.Name z pz) ps] X.env).map (·.2) = assign (.Name x px) X.env :: (assignEach [.Name y py, .Starred (.Name z pz) ps] X.env).map (·.2) := by rfl)
    (h3 : (assignEach [.Name y py, .Starred (.Name z pz) ps] X.env).map (·.2) = assign (.Name y py) X.env :: (assignEach [.Starred (.Name z pz) ps] X.env).map (·.2) := by rfl)
    (h4 : (assignEach [.Starred (.Name z pz) ps] X.env).map (·.2) = assign (.Name z pz) X.env :: (assignEach [] X.env).map (·.2) := by rfl) :
    DS X E (.Assign [.Tuple [.Name x px, .Name y py, .Starred (.Name z pz) ps] kk pt] e pos) (mUnp2 i j k m) := by
  have gs := pgs_cons (pg_name (pos := px) hN hi hx fx) (pgs_cons (pg_name (pos := py) hN hj hy fy) (pgs_star (pg_name (pos := pz) hN hk hz fz) pgs_nil h4) h3) h2
  refine ⟨ps_imp (ps_asg he.pe (pg_starT2 hc gs three third) hs hw h1) fun D σ H h => ?_⟩
  obtain ⟨B, O, A, ρ, out, S, hm, kk⟩ := h
  refine run_st S kk hm fun r ρ1 v H1 A1 F hk S1 rr st1 => ?_
  split at hk
  · rename_i d d2 ds e1
    split at hk
    · rename_i sm
      cases hk
      obtain ⟨q, vs, rfl, hq, dq⟩ := S1.itsT rr e1
      cases dq with
      | cons dx dr =>
      cases dr with
      | cons dy dr =>
      rename_i w w2 ws
      have le : ∀ a, O a ≤ add O F a := fun a => le_add a
      have wk := hid_weak (A := A1) (H := H1) le
      refine ⟨q, w, w2, ws, rfl, Tl.Same.tup hid_sub hq, by rw [DqAll_len dr]; exact sm, fun p np => ?_⟩
      obtain ⟨S2, st2⟩ := (S1.weak le).newO (o := .lst ws) np
      refine ⟨w, [w2, .ref p], rfl, w2, [.ref p], rfl, .ref p, [], rfl, rfl, ?_⟩
      have S3 := S2.setSl (i := i) (s := .dat d) (v := w) ⟨w, rfl, Dq_same (wk.trans st2.sh) dx⟩
      have S3b := S3.setSl (i := j) (s := .dat d2) (v := w2) ⟨w2, rfl, Dq_same (wk.trans st2.sh) dy⟩
      have rr3 : RR X.K ⟨X.mg, B.η⟩ (al A1) (hid (tot (add O (one p)) A1) (upd H1 p (.lst ws))) (upd H1 p (.lst ws)) (.ref p) (one p) (.own (.dl ds)) := .dl upd_same (DqAll_same (wk.trans st2.sh) dr)
      obtain ⟨A4, S4, e4⟩ := S3b.toSl rr3 k
      obtain ⟨A5, S5, s5⟩ := S4.tidy
      exact kk _ _ A5 S5 ⟨fun a n => by rw [st2.out a n]; exact st1.out a n, ((st1.weak le).sh.trans st2.sh).trans (by rw [← e4]; exact s5)⟩
    · cases hk
  · cases hk
theorem ds_fldTup {cs : List Str} {f y : Str} {j : Nat} {m mo : M R} {pf py pt : Pos} {kk : Nat} (hcs : ∀ c ∈ cs, FldK X.K X.mg f c) (hc : X.calm = true) (hN : X.N.Nodup) (hj : X.N[j]? = some y) (hy : Loc X.env.scope y) (ho : DE X E o mo) (he : DE X E e m)
    (fy : X.fn y = true ∨ X.env.scope.names.lookup y = some .local := by first | exact .inl rfl | exact .inr rfl | assumption)
    (hs : swapsWithSole [.Tuple [.Attribute o f pf, .Name y py] kk pt] e pos.line X.env = pure false := by rfl) (hw : swappedStores [.Tuple [.Attribute o f pf, .Name y py] kk pt] e X.env = pure none := by rfl)
    (h1 : (assignEach [.Tuple [.Attribute o f pf, .Name y py] kk pt] X.env).map (·.2) = [assign (.Tuple [.Attribute o f pf, .Name y py] kk pt) X.env] := by rfl)
    (two : (assignEach [.Attribute o f pf, .Name y py] X.env).length = 2 := by rfl) (plain : (assignEach [.Attribute o f pf, .Name y py] X.env).findIdx? (·.1) = none := by rfl)
    (h2 : (assignEach [.Attribute o f pf, .Name y py] X.env).map (·.2) = assign (.Attribute o f pf) X.env :: (assignEach [.Name y py] X.env).map (·.2) := by rfl)
    (h3 : (assignEach [.Name y py] X.env).map (·.2) = assign (.Name y py) X.env :: (assignEach [] X.env).map (·.2) := by rfl)
    (ha : ∀ v, assign (.Attribute o f pf) X.env v = (do
      let ov ← holding [v] (eval o X.env)
      standAt pf.atName
      holding [v, ov] (setAttr ov f v)
      release [v, ov] []) := by intro _; rfl) :
    DS X E (.Assign [.Tuple [.Attribute o f pf, .Name y py] kk pt] e pos) (mFldTup cs f j mo m) := by
  have gs := pgs_cons (pg_fld (pos := pf) ho.pe ha) (pgs_cons (pg_name (pos := py) hN hj hy fy) pgs_nil h3) h2
  refine ⟨ps_imp (ps_asg he.pe (pg_tup hc gs two plain) hs hw h1) fun D σ H h => ?_⟩
  obtain ⟨B, O, A, ρ, out, S, hm, kk⟩ := h
  refine run_st S kk hm fun r ρ1 v H1 A1 F hk S1 rr st1 => ?_
  split at hk
  · rename_i d d2 e1
    obtain ⟨q, vs, rfl, hq, dq⟩ := S1.itsT rr e1
    cases dq with
    | cons dx dr =>
    cases dr with
    | cons dy dr =>
    cases dr
    rename_i w w2
    have le : ∀ a, O a ≤ add O F a := fun a => le_add a
    have wk := hid_weak (A := A1) (H := H1) le
    refine ⟨q, [w, w2], rfl, Tl.Same.tup hid_sub hq, rfl, w, [w2], rfl, ?_⟩
    have S1w := S1.weak le
    have st1w := st1.weak le
    refine run_st S1w (kk.later st1w.toSto) hk fun ro ρ2 x H2 A2 F2 hk2 S2 rr2 st2 => ?_
    split at hk2
    · rename_i n hr
      obtain ⟨rfl, ha1, rfl⟩ := refN_ok rr2 hr
      rw [add_zer] at S2 st2
      cases hst : storeF cs n f (.dat d) ρ2 with
      | none => rw [hst] at hk2; cases hk2
      | some ρ4 =>
      rw [hst] at hk2
      cases hk2
      have S2z : StC X.K X.mg B (add O zer) A2 ρ2 σ H2 := by rw [add_zer]; exact S2
      have dx2 : Dq X.K (hid (tot (add O zer) A2) H2) w d := by rw [add_zer]; exact Dq_same (wk.trans st2.sh) dx
      have dy2 : Dq X.K (hid (tot (add O zer) A2) H2) w2 d2 := by rw [add_zer]; exact Dq_same (wk.trans st2.sh) dy
      obtain ⟨a, C, dxx, fvs, c, A4, rfl, hC, hin, hl, hob, S4, out4, sh4, _⟩ := storeF_ok S2z (.dat dx2) ha1 hst
      obtain ⟨q1, q2⟩ := hcs c hin C hC
      refine ⟨a, C, dxx, fvs, rfl, hob, q1, q2, hl, w2, [], rfl, rfl, ?_⟩
      have S5 := S4.setSl (i := j) (s := .dat d2) (v := w2) ⟨w2, rfl, Dq_same sh4 dy2⟩
      obtain ⟨A6, S6, s6⟩ := S5.tidy
      rw [add_zer] at sh4
      exact kk _ _ A6 S6 ⟨fun b z => (out4 b z).trans ((st2.out b z).trans (st1.out b z)), ((st1w.sh.trans st2.sh).trans sh4).trans s6⟩
    · cases hk2
  · cases hk
end
end XM
end
section
/-! match: cases of tuples of words and names -/
namespace Tl
open PySem PySem.Spec PyProof.Rows L2
/-- a pattern's reading: what it captures, or that it does not fit -/
@[reducible] def TM : Type := V → L2.St → Hp → (Option (List V) → Hp → Prop) → Prop
@[reducible] def TMs : Type := List V → L2.St → Hp → (Option (List V) → Hp → Prop) → Prop
def MP (X : Cx) (pins : List (Addr × Obj)) (σ : L2.St) (xs : List Str) (Q : Option (List V) → Hp → Prop) (r : Option (List (Str × Value))) (s' : Shared) : Prop := match r with
  | none => ∃ H', L2.Inv X pins σ H' s' ∧ Q none H'
  | some bs => ∃ H' vs, L2.Inv X pins σ H' s' ∧ bs.map (·.1) = xs ∧ Vals vs (bs.map (·.2)) ∧ Q (some vs) H'
structure PM (X : Cx) (pat : Pattern) (xs : List Str) (t : TM) : Prop where
  run : ∀ (pins : List (Addr × Obj)) (s : Shared) (σ : L2.St) (H : Hp) (v : V) (u : Value) (Q : Option (List V) → Hp → Prop), L2.Inv X pins σ H s → RelV v u → t v σ H Q → wpAny (model X.prog X.w) X.A (matchPattern pat X.env u) (MP X pins σ xs Q) X.xe s
structure PMs (X : Cx) (ps : List Pattern) (xs : List Str) (t : TMs) : Prop where
  run : ∀ (pins : List (Addr × Obj)) (s : Shared) (σ : L2.St) (H : Hp) (vs : List V) (us : List Value) (Q : Option (List V) → Hp → Prop), L2.Inv X pins σ H s → Vals vs us → vs.length = ps.length → t vs σ H Q → wpAny (model X.prog X.w) X.A (matchEach ps X.env us) (MP X pins σ xs Q) X.xe s
/-- a written word -/
def mWord (z : Str) : TM := fun v _ H Q => ∃ y, v = .str y ∧ (y = z → Q (some []) H) ∧ (y ≠ z → Q none H)
def mCap : TM := fun v _ H Q => Q (some [v]) H
def mNil : TMs := fun _ _ H Q => Q (some []) H
def mCons (t : TM) (u : TMs) : TMs := fun vs σ H Q => ∃ v r, vs = v :: r ∧ t v σ H fun a H1 => match a with
  | none => Q none H1
  | some as => u r σ H1 fun b H2 => match b with
    | none => Q none H2
    | some bs => Q (some (as ++ bs)) H2
def mSeq (K : PySem.W.Frag) (n : Nat) (t : TMs) : TM := fun v σ H Q => ∃ a vs, v = .ref a ∧ SqT K H a vs ∧ (vs.length = n → t vs σ H Q) ∧ (vs.length ≠ n → Q none H)
def setAll : L2.St → List Nat → List V → L2.St
  | σ, i :: is, v :: vs => setAll (σ.set i (some v)) is vs
  | σ, _, _ => σ
@[reducible] def TMC : Type := V → Ends → L2.St → Hp → Prop
structure PMC (X : Cx) (cs : List MatchCase) (t : TMC) : Prop where
  run : ∀ (pins : List (Addr × Obj)) (s : Shared) (σ : L2.St) (H : Hp) (D : Ends) (v : V) (u : Value) (first : Bool), L2.Inv X pins σ H s → RelV v u → t v D σ H → wpAny (model X.prog X.w) X.A (matchCases cs X.env u first) (SP X pins D) X.xe s
def cNil : TMC := fun _ D σ H => D.nx σ H
def cCons (is : List Nat) (t : TM) (b : TS) (r : TMC) : TMC := fun v D σ H => t v σ H fun o H1 => match o with
  | none => r v D σ H1
  | some vs => b D (setAll σ is vs) H1
inductive PBs (X : Cx) : List Str → List Nat → Prop where
  | nil : PBs X [] []
  | cons {x : Str} {xs : List Str} {i : Nat} {is : List Nat} : X.N.Nodup → X.N[i]? = some x → L2.Loc X.env.scope x → (X.fn x = true ∨ List.lookup x X.env.scope.names = some NameKind.local) → PBs X xs is → PBs X (x :: xs) (i :: is)
section
variable {X : Cx} {pos pos' : Pos}
theorem pm_cap {x : Str} : PM X (.MatchAs none (some x) pos) [x] mCap := by
  constructor
  intro pins s σ H v u Q I r want
  exact wpAny_matchPattern_Capture ⟨H, [v], I, rfl, .cons r .nil, want⟩
theorem pm_word {z : Str} {kk : Nat} : PM X (.MatchValue (.Constant (.str z) kk pos) pos') [] (mWord z) := by
  constructor
  intro pins s σ H v u Q I r want
  obtain ⟨y, ev, yes, no⟩ := want
  subst ev
  rw [arm_matchPattern_MatchValue]
  refine wpAny_bind (wpAny_mono ((pe_str (X := X) (x := z)).run pins s σ H (fun v H' => v = .str z ∧ H' = H) I ⟨rfl, rfl⟩) (fun w s1 q => ?_) (fun _ _ e => e))
  obtain ⟨v1, H1, I1, r1, e1, e2⟩ := q
  subst e1; subst e2
  refine wpAny_bind (wpAny_standAt (wpAny_bind (wpAny_mono (op_eq (X := X) pins s1 σ H1 (.str y) (.str z) u w (fun b H' => b = .bl (decide (V.str y = V.str z)) ∧ H' = H1) I1 r r1 ⟨rfl, rfl, rfl⟩) (fun c s2 q => ?_) (fun _ _ e => e))))
  obtain ⟨v2, H2, I2, r2, e3, e4⟩ := q
  subst e3; subst e4
  have ec : c = Value.bool (decide (V.str y = V.str z)) := r2
  subst ec
  refine wpAny_bind (wpAny_truthy_bool ?_)
  by_cases h : y = z
  · subst h
    rw [decide_eq_true rfl, if_pos rfl]
    exact wpAny_pure ⟨H2, [], I2, rfl, .nil, yes rfl⟩
  · rw [decide_eq_false (by intro q; cases q; exact h rfl), if_neg Bool.false_ne_true]
    exact wpAny_pure ⟨H2, I2, no h⟩
theorem pms_nil : PMs X [] [] mNil := by
  constructor
  intro pins s σ H vs us Q I r l want
  exact wpAny_matchEach_nil ⟨H, [], I, rfl, .nil, want⟩
theorem pms_cons {p : Pattern} {ps : List Pattern} {xs ys : List Str} {t : TM} {u : TMs} (hp : PM X p xs t) (hs : PMs X ps ys u) (ns : p.isStar = false := by rfl) : PMs X (p :: ps) (xs ++ ys) (mCons t u) := by
  constructor
  intro pins s σ H vs us Q I r l want
  obtain ⟨v, rest, ev, want⟩ := want
  subst ev
  cases r with
  | @cons _ w _ ws r0 rs =>
  refine wpAny_matchEach_cons (wpAny_mono (hp.run pins s σ H v w _ I r0 want) (fun o s1 q => ?_) (fun _ _ e => e)) ns
  cases o with
  | none => exact q
  | some as =>
    obtain ⟨H1, va, I1, n1, r1, want⟩ := q
    refine wpAny_mono (hs.run pins s1 σ H1 rest ws _ I1 rs (Nat.succ.inj l) want) (fun o2 s2 q => ?_) (fun _ _ e => e)
    cases o2 with
    | none => exact q
    | some bs =>
      obtain ⟨H2, vb, I2, n2, r2, want⟩ := q
      refine ⟨H2, va ++ vb, I2, by rw [List.map_append, n1, n2], ?_, want⟩
      rw [List.map_append]
      exact r1.append r2
theorem pm_seq {ps : List Pattern} {xs : List Str} {t : TMs} (quiet : X.calm = true) (hs : PMs X ps xs t) (ns : ps.findIdx? (fun x => x.isStar) = none := by rfl)
    (nw : (ps.all fun p => p.isWildcard || p.isStar && p.names.isEmpty) = false := by rfl) : PM X (.MatchSequence ps pos) xs (mSeq X.K ps.length t) := by
  constructor
  intro pins s σ H v u Q I r want
  obtain ⟨a, vs, ev, sq, yes, no⟩ := want
  subst ev
  have eu : u = Value.ref a := r
  subst eu
  obtain ⟨its, rel, place, small⟩ := I.tuple sq
  have el : its.length = vs.length := rel.length.symm
  rw [arm_matchPattern_MatchSequence, ns, nw]
  refine wpAny_bind (wpAny_standAt (wpAny_bind (wpAny_collectionFlag place.typeIs rfl ?_)))
  simp only [Bool.not_true, Bool.false_eq_true, if_false]
  have sz : its.toArray.size = vs.length := by rw [List.size_toArray, el]
  refine wpAny_bind (pyLen_tuple place (by rw [sz]; rw [sizeLine_eq] at small; omega) ?_)
  rw [sz]
  have I1 : L2.Inv X pins σ H ⟨s.heap, s.gens, s.drawn, s.toks + 1 + 1, s.os⟩ := I.kept (fun _ _ e => e)
  by_cases h : vs.length = ps.length
  · rw [if_neg (by simp [h])]
    have hh : X.A.handled = none := I.ok.hd quiet
    have hz : its.toArray.size = ps.length := by rw [sz, h]
    rw [← hz]
    refine wpAny_bind (unpackItems_tuple (s := ⟨s.heap, s.gens, s.drawn, s.toks + 1 + 1, s.os⟩) hh place fun h2 ext => ?_)
    have I2 : L2.Inv X pins σ H ⟨h2, s.gens, s.drawn, s.toks + 1 + 1, s.os⟩ := I1.kept (fun b o e => ext b o (Nat.ne_of_lt (Heap.lt_size e)) e)
    exact hs.run pins _ σ H vs its Q I2 rel h (yes h)
  · rw [if_pos (by simp; omega)]
    exact wpAny_pure ⟨H, I1, no h⟩
theorem pbs_run : ∀ {xs : List Str} {is : List Nat}, PBs X xs is → ∀ (pins : List (Addr × Obj)) (s : Shared) (σ : L2.St) (H : Hp) (vs : List V) (bs : List (Str × Value)) (Q : Unit → Shared → Prop), L2.Inv X pins σ H s → bs.map (·.1) = xs → Vals vs (bs.map (·.2)) →
    (∀ s', L2.Inv X pins (setAll σ is vs) H s' → Q () s') → wpAny (model X.prog X.w) X.A (assignInOrder (bs.map fun x => match (motive := Str × Value → Value → Sem Unit) x with | (n, snd) => bindName X.env n) (bs.map fun x => x.snd)) Q X.xe s
  | _, _, .nil, pins, s, σ, H, vs, bs, Q, I, n, r, k => by
    cases bs with
    | cons b bs => cases n
    | nil => exact assignInOrder_nil (k s (by cases r; exact I))
  | _, _, .cons nd hi hl hf rest, pins, s, σ, H, vs, bs, Q, I, n, r, k => by
    cases bs with
    | nil => cases n
    | cons b bs =>
      obtain ⟨x, u⟩ := b
      have e0 := (List.cons.inj n).1
      have e1 := (List.cons.inj n).2
      cases r with
      | cons r0 rs =>
      dsimp only at e0
      subst e0
      refine assignInOrder_cons (wpAny_bindName (store_ok I nd hi hl r0 (fun s1 I1 => ?_) hf))
      exact pbs_run rest pins s1 _ H _ bs Q I1 e1 rs k
theorem pmc_nil : PMC X [] cNil := by
  constructor
  intro pins s σ H D v u first I r want
  exact wpAny_matchCases_nil ⟨σ, H, I, want⟩
theorem pmc_cons {pat : Pattern} {xs : List Str} {is : List Nat} {t : TM} {b : TS} {r : TMC} {body : List Stmt} {cs : List MatchCase} (hp : PM X pat xs t) (hb : PBs X xs is) (hbody : PSs X body b) (hr : PMC X cs r) :
    PMC X ({ pattern := pat, guard := none, body := body } :: cs) (cCons is t b r) := by
  constructor
  intro pins s σ H D v u first I rv want
  refine wpAny_matchCases_cons (wpAny_mono (hp.run pins s σ H v u _ I rv want) (fun o s1 q => ?_) (fun _ _ e => e))
  cases o with
  | none =>
    obtain ⟨H1, I1, want⟩ := q
    exact hr.run pins s1 σ H1 D v u false I1 rv want
  | some bs =>
    obtain ⟨H1, vs, I1, n1, r1, want⟩ := q
    exact pbs_run hb pins s1 σ H1 vs bs _ I1 n1 r1 (fun s2 I2 => hbody.run pins s2 _ H1 D I2 want)
theorem ps_match {e : Expr} {te : TE} {cs : List MatchCase} {tc : TMC} (he : PE X e te) (hc : PMC X cs tc) : PS X (.Match e cs pos) (fun D σ H => te σ H fun v H1 => tc v D σ H1) := by
  constructor
  intro pins s σ H D I want
  refine wpAny_Match (wpAny_mono (he.run pins s σ H _ I want) (fun u s1 q => ?_) (fun _ _ e => e))
  obtain ⟨v, H1, I1, r1, want⟩ := q
  exact hc.run pins s1 σ H1 D v u true I1 r1 want
end
end Tl
end
section
/-! targets out of lists; D.get(k, x), D a dict of the module; a held def called with a star; match -/
namespace XM
open PySem PySem.Spec PyProof.Rows L2 Tl
def bSeq (n : Nat) (bs : List D → Fr → Option Fr) : D → Fr → Option Fr := fun d ρ => match d with
  | .tuple ds => if ds.length = n then bs ds ρ else none
  | .list ds => if ds.length = n then bs ds ρ else none
  | _ => none
/-- a dict of the module whose values are tuples of texts -/
def GD (K : PySem.W.Frag) (w : World) (mg : Str → Option Value) (x : Str) (tb : List (Str × List Str)) : Prop := ∃ d es n, (∃ u, mg x = some u ∧ RelV (.ref d) u) ∧ KDict K w d es n ∧ ∀ k : Str, (tb.lookup k = none → findBy Value.isStrOf es k = none) ∧
  (∀ fs, tb.lookup k = some fs → ∃ a, findBy Value.isStrOf es k = some (.ref a) ∧ ∀ H, SqT K H a (fs.map V.str))
def mKGet2 (tb : List (Str × List Str)) (me mf : M R) : M R := bnd me fun re ρ1 => match vw re ρ1 with
  | some (.str k) => (bnd mf fun rf ρ => match tb.lookup k with
    | some fs => some (.ok (.dat (.tuple (fs.map .str))) ρ)
    | none => some (.ok rf ρ)) ρ1
  | _ => none
theorem strs_all {K : PySem.W.Frag} {G : Hp} : ∀ ns : List Str, DqAll K G (ns.map V.str) (ns.map PyData.str)
  | [] => .nil
  | n :: ns => .cons (.str n) (strs_all ns)
section
variable {X : Cx} {E : XK} {e a b c o e2 : Expr} {es : List Expr} {pos p : Pos} {B : Bs} {O O' : Ft} {A A' A1 : Al} {ρ ρ1 : Fr} {σ : L2.St} {H H' H1 : Hp}
theorem dg_seq {es : List Expr} {kk n : Nat} {ws : List Nat} {bs : List D → Fr → Option Fr} (hc : X.calm = true) (h : DGs X es ws bs) (hn : (assignEach es X.env).length = n := by rfl) (hst : (assignEach es X.env).findIdx? (·.1) = none := by rfl) : DG X (.Tuple es kk pos) ws (bSeq n bs) := by
  refine ⟨pg_imp (pg_or (pg_tup hc h.pgs hn hst) (pg_unl hc h.pgs hn hst)) fun v σ H Q h => ?_⟩
  obtain ⟨B, O, A, ρ, ρ', d, S, dq, e, k⟩ := h
  cases d with
  | tuple ds =>
    simp only [bSeq] at e
    split at e
    · rename_i hl
      cases dq with
      | tup ha r => exact .inl ⟨_, _, rfl, Tl.Same.tup hid_sub ha, by rw [DqAll_len r]; exact hl, B, O, A, ρ, ρ', ds, S, r, e, k⟩
    · cases e
  | list ds =>
    simp only [bSeq] at e
    split at e
    · rename_i hl
      cases dq with
      | lst ha r => exact .inr ⟨_, _, rfl, .of (hid_sub _ _ ha), by rw [DqAll_len r]; exact hl, B, O, A, ρ, ρ', ds, S, r, e, k⟩
    · cases e
  | _ => cases e
theorem de_kget2 {x : Str} {px apos : Pos} {tb : List (Str × List Str)} {me mf : M R} (gd : GD X.K X.w X.mg x tb) (hg : Gl X x) (he : DE X E a me) (hf : DE X E b mf) (m : M2 X (.Name x px) "get" apos a b pos) (hd : (x == ("__debug__" : Str)) = false := by decide) :
    DE X E (.Call (.Attribute (.Name x px) "get" apos) [a, b] [] pos) (mKGet2 tb me mf) := by
  obtain ⟨d, es, n, ⟨u, hm, ru⟩, kd, ent⟩ := gd
  refine ⟨pe_imp (pe_kget2 kd (pe_glob hg hm ru hd) he.pe hf.pe m) fun σ H Q h => ?_⟩
  obtain ⟨B, O, A, ρ, out, S, hm, k⟩ := h
  refine ⟨rfl, ?_⟩
  show ERun _ _ _ _ _ _ _
  refine run_bnd S hm k.exc fun re ρ1 v H1 A1 F hk S1 rr1 st1 x1 => ?_
  split at hk
  · rename_i z e1
    have hv := S1.view rr1 e1
    cases hv
    have S1w := S1.weak fun a => le_add (F := O) (F1 := F) a
    have st1w := st1.weak fun a => le_add (F := O) (F1 := F) a
    show ERun _ _ _ _ _ _ _
    refine run_bnd S1w hk (k.exc.later st1w.toSto fun _ => Nat.le_refl _) fun rf ρ2 w H2 A2 F2 hk2 S2 rr2 st2 x2 => ?_
    refine ⟨z, rfl, fun u0 hu => ?_, fun nn => ?_⟩
    · cases et : tb.lookup z with
      | none => rw [(ent z).1 et] at hu; cases hu
      | some fs =>
        rw [et] at hk2
        cases hk2
        obtain ⟨a, ha, sq⟩ := (ent z).2 fs et
        rw [ha] at hu
        cases hu
        exact ⟨.ref a, rfl, fin_dat k.oks S2 (fun a => le_add a) (st1w.trans st2 fun _ n => n) (.tup (sq _) (strs_all _))⟩
    · cases et : tb.lookup z with
      | some fs =>
        obtain ⟨a, ha, _⟩ := (ent z).2 fs et
        rw [ha] at nn
        cases nn
      | none =>
        rw [et] at hk2
        cases hk2
        exact k.oks w H2 A2 F2 S2 rr2 (st1w.trans st2 fun _ n => n)
  · cases hk
/-! ### a held def, with a star -/
structure CalG (P : Program) (w : World) (K : PySem.W.Frag) (mg : Str → Option Value) (base : Heap) (k : Nat) (f : Str) (n : Nat) (dts : List D) (m : FM) : Prop where
  ex : ∃ fa fd ps ds dvs, mg f = some (.ref fa) ∧ PySem.W.keepIn K (.ref fa) = true ∧ L2.Binds K fd ps ds ∧ Vals dvs ds ∧ (∀ G, DqAll K G dvs dts) ∧ ps.length = n + dts.length ∧ FnG P w K mg base CX0 k fa fd ps (sp0 K mg (n + dts.length) m)
theorem CalG.of {P : Program} {w : World} {K : PySem.W.Frag} {mg : Str → Option Value} {base : Heap} {k n : Nat} {f : Str} {ps : List Str} {m : FM} (h : PrG P w K mg base CX0 k f ps (sp0 K mg n m)) (l : ps.length = n) : CalG P w K mg base k f n [] m := by
  obtain ⟨fa, fd, a, b, c, F⟩ := h.ex
  exact ⟨fa, fd, ps, [], [], a, b, c, .nil, fun _ => .nil, l, F⟩
def spAll (X : Cx) (j : Nat) (f : Addr) : Sp := fun vs H Q _ => ∃ k fd ps ds dvs sp, k ≤ j ∧ L2.Binds X.K fd ps ds ∧ Vals dvs ds ∧ FnG X.prog X.w X.K X.mg X.base CX0 k f fd ps sp ∧ sp (vs ++ dvs) H Q (fun _ _ _ => False)
theorem can_all {j : Nat} {f : Addr} (quiet : Quiet X.A) (hr : Room j X.A) (kp : PySem.W.keepIn X.K (.ref f) = true) : Can X f (spAll X j f) := by
  refine ⟨kp, fun pins s σ H us vs Q I rv want => ?_⟩
  obtain ⟨k, fd, ps, ds, dvs, sp, hk, b, hd, F, want⟩ := want
  exact run_fnG F quiet (hr.mono hk) b hd (fun _ _ _ _ _ _ _ h => h.elim) I rv want
theorem lookup_mem {κ β : Type} [BEq κ] [LawfulBEq κ] {k : κ} {v : β} : ∀ {l : List (κ × β)}, l.lookup k = some v → (k, v) ∈ l
  | [], h => by cases h
  | (a, b) :: r, h => by
    rw [List.lookup_cons] at h
    split at h
    · rename_i e
      have e := eq_of_beq e
      subst e
      cases h
      exact List.mem_cons_self ..
    · exact List.mem_cons_of_mem _ (lookup_mem h)
def mCallFS (i : Nat) (tb : List ((Str × Nat) × (List D × FM))) (ms : M (List R)) : M R := fun ρ => match ρ.sl[i]? with
  | some (.fn f) => if tb.any (fun q => decide (q.1.1 = f)) = true then (bnd ms fun rs ρ1 => match tb.lookup (f, rs.length) with
      | some p => noEx (callM p.2 (rs ++ p.1.map R.dat)) ρ1
      | none => none) ρ
    else none
  | _ => none
theorem de_callFS {i j : Nat} {x : Str} {tb : List ((Str × Nat) × (List D × FM))} {ms : M (List R)} (hN : X.N[i]? = some x) (hv : Vis X.env.scope x) (quiet : Quiet X.A) (hr : Room j X.A)
    (ht : ∀ q ∈ tb, ∃ k, k ≤ j ∧ CalG X.prog X.w X.K X.mg X.base k q.1.1 q.1.2 q.2.1 q.2.2) (ha : DA X E (e :: es) ms)
    (hd : (x == ("__debug__" : Str)) = false := by decide) (hcd : (x == ("__classdict__" : Str)) = false := by decide) (he : starEach (e :: es) X.env = (false, eval e X.env) :: starEach es X.env := by rfl) (hst : ((backTo pos (starEach es X.env)).any fun x => x.1) = true := by rfl) :
    DE X E (.Call (.Name x p) (e :: es) [] pos) (mCallFS i tb ms) := by
  refine ⟨pe_imp (pe_callLS (pe_var hN hv hd hcd) ha.pa he hst) fun σ H Q h => ?_⟩
  obtain ⟨B, O, A, ρ, out, S, hm, k⟩ := h
  unfold mCallFS at hm
  split at hm
  · rename_i f hs
    split at hm
    · rename_i an
      obtain ⟨o, hσ⟩ := at_len S.slen hs
      obtain ⟨fb, eo, hb⟩ := S.sls i _ _ hs hσ
      obtain ⟨q0, hq0, e0⟩ := List.any_eq_true.mp an
      have e0 := of_decide_eq_true e0
      obtain ⟨_, _, cg0⟩ := ht q0 hq0
      obtain ⟨fa0, _, _, _, _, hf0, kp, _⟩ := cg0.ex
      rw [e0, hb] at hf0
      cases hf0
      refine ⟨fb, _, by rw [hσ, eo], can_all quiet hr kp, ?_⟩
      refine run_bndA S hm k.exc fun rs ρ1 vs H1 A1 F hk S1 rr1 st1 x1 => ?_
      split at hk
      · rename_i q em
        obtain ⟨kk, hkk, cg⟩ := ht _ (lookup_mem em)
        obtain ⟨fa, fd, ps, ds, dvs, hf, kp', bi, vd, dq, pl, F'⟩ := cg.ex
        rw [hb] at hf
        cases hf
        obtain ⟨r, ρ', rfl, e1⟩ := noEx_some hk
        refine ⟨kk, fd, ps, ds, dvs, _, hkk, bi, vd, F', ?_⟩
        exact call_ok S1 (rr1.defs dq) (by simp) e1 st1 (fun c ρ' z => nomatch z) fun r ρ' z => by cases z; exact k.oks
      · cases hk
    · cases hm
  · cases hm
/-! ### match -/
/-- a tuple or a list against patterns: written words, names -/
def mSeqA (K : PySem.W.Frag) (n : Nat) (t : TMs) : TM := fun v σ H Q => ∃ a vs, v = .ref a ∧ (SqT K H a vs ∨ SqL K H a vs) ∧ (vs.length = n → t vs σ H Q) ∧ (vs.length ≠ n → Q none H)
theorem pm_seqL {ps : List Pattern} {xs : List Str} {t : TMs} (quiet : X.calm = true) (hs : PMs X ps xs t) (ns : ps.findIdx? (fun x => x.isStar) = none := by rfl)
    (nw : (ps.all fun p => p.isWildcard || p.isStar && p.names.isEmpty) = false := by rfl) : PM X (.MatchSequence ps pos) xs (mSeqA X.K ps.length t) := by
  constructor
  intro pins s σ H v u Q I r want
  obtain ⟨a, vs, ev, sq, yes, no⟩ := want
  rcases sq with sq | sq
  · exact (pm_seq (pos := pos) quiet hs ns nw).run pins s σ H v u Q I r ⟨a, vs, ev, sq, yes, no⟩
  subst ev
  have eu : u = Value.ref a := r
  subst eu
  obtain ⟨its, rel, pl, small⟩ := I.list sq
  have place : s.heap.IsList a its.toArray := by
    obtain ⟨o, m, e, c, d, q⟩ := pl
    exact ⟨o, e, c, m, q⟩
  have el : its.length = vs.length := rel.length.symm
  rw [arm_matchPattern_MatchSequence, ns, nw]
  refine wpAny_bind (wpAny_standAt (wpAny_bind (wpAny_collectionFlag place.typeIs rfl ?_)))
  simp only [Bool.not_true, Bool.false_eq_true, if_false]
  have sz : its.toArray.size = vs.length := by rw [List.size_toArray, el]
  refine wpAny_bind (pyLen_list place (by rw [sz]; rw [sizeLine_eq] at small; omega) ?_)
  rw [sz]
  have I1 : L2.Inv X pins σ H ⟨s.heap, s.gens, s.drawn, s.toks + 1 + 1, s.os⟩ := I.kept (fun _ _ e => e)
  by_cases h : vs.length = ps.length
  · rw [if_neg (by simp [h])]
    have hh : X.A.handled = none := I.ok.hd quiet
    have hz : its.toArray.size = ps.length := by rw [sz, h]
    rw [← hz]
    refine wpAny_bind (PySem.W.kun_itemsOf (s := ⟨s.heap, s.gens, s.drawn, s.toks + 1 + 1, s.os⟩) hh place fun h2 ext => ?_)
    have I2 : L2.Inv X pins σ H ⟨h2, s.gens, s.drawn, s.toks + 1 + 1, s.os⟩ := I1.kept (fun b o e => ext b o (Nat.ne_of_lt (Heap.lt_size e)) e)
    exact hs.run pins _ σ H vs its Q I2 rel h (yes h)
  · rw [if_pos (by simp; omega)]
    exact wpAny_pure ⟨H, I1, no h⟩
def mPat : List (Option Str) → List D → Option (Option (List D))
  | [], [] => some (some [])
  | some w :: ps, .str y :: ds => if y = w then mPat ps ds else some none
  | none :: ps, d :: ds => (mPat ps ds).map (Option.map (d :: ·))
  | _, _ => none
def setAllS : List Sl → List Nat → List D → List Sl
  | sl, i :: is, d :: ds => setAllS (sl.set i (.dat d)) is ds
  | sl, _, _ => sl
abbrev MCs := List (List (Option Str) × List Nat × SM)
def mCases : MCs → List D → SM
  | [], _, ρ => some (.nx ρ)
  | (ps, is, b) :: cs, ds, ρ => if ds.length = ps.length then match mPat ps ds with
      | none => none
      | some none => mCases cs ds ρ
      | some (some vs) => b { ρ with sl := setAllS ρ.sl is vs }
    else mCases cs ds ρ
def itsTL (r : R) (ρ : Fr) : Option (List D) := match itsT r ρ with
  | some l => some l
  | none => itsL r ρ
def mMatch (me : M R) (cs : MCs) : SM := sBnd me fun r ρ => match itsTL r ρ with
  | some ds => mCases cs ds ρ
  | none => none
structure DPat (X : Cx) (pats : List Pattern) (xs : List Str) (ps : List (Option Str)) : Prop where
  len : pats.length = ps.length
  ex : ∃ t, PMs X pats xs t ∧ ∀ (K : PySem.W.Frag) (G : Hp) (vs : List V) (σ : L2.St) (H : Hp) (Q : Option (List V) → Hp → Prop) (ds : List D) (o : Option (List D)), DqAll K G vs ds → mPat ps ds = some o →
    (o = none → Q none H) → (∀ l rv, o = some l → DqAll K G rv l → Q (some rv) H) → t vs σ H Q
theorem dpat_nil : DPat X [] [] [] := ⟨rfl, mNil, pms_nil, fun K G vs σ H Q ds o dq e h1 h2 => by
  cases dq with
  | nil => cases e; exact h2 [] [] rfl .nil
  | cons _ _ => cases e⟩
theorem dpat_word {z : Str} {kk : Nat} {pos pos' : Pos} {pats : List Pattern} {xs : List Str} {ps : List (Option Str)} (h : DPat X pats xs ps) : DPat X (.MatchValue (.Constant (.str z) kk pos) pos' :: pats) xs (some z :: ps) := by
  obtain ⟨l, t, pm, k⟩ := h
  refine ⟨by simp [l], _, pms_cons pm_word pm, fun K G vs σ H Q ds o dq e h1 h2 => ?_⟩
  cases dq with
  | nil => cases e
  | cons a r =>
    rename_i v vs d ds
    cases a <;> simp only [mPat] at e <;> try cases e
    rename_i y
    refine ⟨_, _, rfl, y, rfl, fun ey => ?_, fun ny => ?_⟩
    · subst ey
      rw [if_pos rfl] at e
      refine k K G vs σ H _ ds o r e (fun z => h1 z) fun l rv z q => ?_
      exact h2 l rv z q
    · rw [if_neg ny] at e
      cases e
      exact h1 rfl
theorem dpat_cap {x : Str} {pos : Pos} {pats : List Pattern} {xs : List Str} {ps : List (Option Str)} (h : DPat X pats xs ps) : DPat X (.MatchAs none (some x) pos :: pats) (x :: xs) (none :: ps) := by
  obtain ⟨l, t, pm, k⟩ := h
  refine ⟨by simp [l], _, pms_cons pm_cap pm, fun K G vs σ H Q ds o dq e h1 h2 => ?_⟩
  cases dq with
  | nil => cases e
  | cons a r =>
    rename_i v vs d ds
    simp only [mPat] at e
    cases e1 : mPat ps ds with
    | none => rw [e1] at e; cases e
    | some o1 =>
      rw [e1] at e
      refine ⟨_, _, rfl, ?_⟩
      refine k K G vs σ H _ ds o1 r e1 (fun z => ?_) fun l rv z q => ?_
      · subst z; cases e; exact h1 rfl
      · subst z; cases e; exact h2 _ _ rfl (.cons a q)
def CRun (K : PySem.W.Frag) (mg : Str → Option Value) (cs : MCs) (E : XK) : TMC := fun v D σ H => ∃ B O A ρ out a vs ds, v = .ref a ∧ StC K mg B O A ρ σ H ∧ (SqT K H a vs ∨ SqL K H a vs) ∧ DqAll K (hid (tot O A) H) vs ds ∧ mCases cs ds ρ = some out ∧ AftS K mg B O A H E D out
structure DMC (X : Cx) (E : XK) (cs : List MatchCase) (ms : MCs) : Prop where
  pmc : PMC X cs (CRun X.K X.mg ms E)
theorem pmc_imp {cs : List MatchCase} {t t' : TMC} (h : PMC X cs t) (i : ∀ v D σ H, t' v D σ H → t v D σ H) : PMC X cs t' := ⟨fun pins s σ H D v u f I r q => h.run pins s σ H D v u f I r (i _ _ _ _ q)⟩
theorem dmc_nil : DMC X E [] [] := ⟨pmc_imp pmc_nil fun v D σ H h => by
  obtain ⟨B, O, A, ρ, out, a, vs, ds, rfl, S, sq, dq, hm, kk⟩ := h
  cases hm
  exact kk σ H A S ⟨fun _ _ => rfl, Same.refl _⟩⟩
theorem StC.setAllS {K : PySem.W.Frag} {mg : Str → Option Value} : ∀ {is : List Nat} {vs : List V} {ds : List D} {ρ : Fr} {σ : L2.St}, StC K mg B O A ρ σ H → DqAll K (hid (tot O A) H) vs ds → StC K mg B O A { ρ with sl := XM.setAllS ρ.sl is ds } (setAll σ is vs) H
  | [], vs, ds, ρ, σ, S, dq => by cases dq <;> exact S
  | i :: is, _, _, ρ, σ, S, .nil => S
  | i :: is, _, _, ρ, σ, S, .cons (v := v) (d := d) a r => by
    have S1 := S.setSl (i := i) (s := .dat d) (v := v) ⟨v, rfl, a⟩
    exact StC.setAllS (ρ := { ρ with sl := ρ.sl.set i (.dat d) }) S1 r
theorem dmc_cons {pats : List Pattern} {xs : List Str} {is : List Nat} {ps : List (Option Str)} {body : List Stmt} {b : SM} {cs : List MatchCase} {ms : MCs} {ppos : Pos} (hc : X.calm = true) (hp : DPat X pats xs ps) (hb : PBs X xs is) (hs : DSs X E body b) (hr : DMC X E cs ms)
    (ns : pats.findIdx? (fun x => x.isStar) = none := by rfl) (nw : (pats.all fun p => p.isWildcard || p.isStar && p.names.isEmpty) = false := by rfl) :
    DMC X E ({ pattern := .MatchSequence pats ppos, guard := none, body := body } :: cs) ((ps, is, b) :: ms) := by
  obtain ⟨l, t, pm, k⟩ := hp
  refine ⟨pmc_imp (pmc_cons (pm_seqL hc pm ns nw) hb hs.pss hr.pmc) fun v D σ H h => ?_⟩
  obtain ⟨B, O, A, ρ, out, a, vs, ds, rfl, S, sq, dq, hm, kk⟩ := h
  have len := DqAll_len dq
  unfold mCases at hm
  refine ⟨a, vs, rfl, sq, fun e => ?_, fun e => ?_⟩
  · rw [if_pos (by rw [← len, e, l])] at hm
    split at hm
    · cases hm
    · rename_i e1
      refine k X.K _ vs σ H _ ds none dq e1 (fun _ => ?_) fun l rv z => nomatch z
      exact ⟨B, O, A, ρ, out, a, vs, ds, rfl, S, sq, dq, hm, kk⟩
    · rename_i vs' e1
      refine k X.K _ vs σ H _ ds (some vs') dq e1 (fun z => nomatch z) fun l rv z q => ?_
      cases z
      exact ⟨B, O, A, _, out, S.setAllS q, hm, kk⟩
  · rw [if_neg (by rw [← len, ← l]; exact e)] at hm
    exact ⟨B, O, A, ρ, out, a, vs, ds, rfl, S, sq, dq, hm, kk⟩
theorem ds_match {me : M R} {cs : List MatchCase} {ms : MCs} (he : DE X E e me) (hc : DMC X E cs ms) : DS X E (.Match e cs pos) (mMatch me ms) := by
  refine ⟨ps_imp (ps_match he.pe hc.pmc) fun D σ H h => ?_⟩
  obtain ⟨B, O, A, ρ, out, S, hm, kk⟩ := h
  refine run_st S kk hm fun r ρ1 v H1 A1 F hk S1 rr1 st1 => ?_
  split at hk
  · rename_i ds e1
    have le : ∀ a, O a ≤ add O F a := fun a => le_add a
    have wk := hid_weak (A := A1) (H := H1) le
    have S1w := S1.weak le
    have st1w := st1.weak le
    unfold itsTL at e1
    split at e1
    · rename_i l e2
      cases e1
      obtain ⟨q, vs, rfl, hq, dq⟩ := S1.itsT rr1 e2
      exact ⟨B, O, A1, ρ1, out, q, vs, _, rfl, S1w, .inl (Tl.Same.tup hid_sub hq), DqAll_same wk dq, hk, kk.later st1w.toSto⟩
    · obtain ⟨q, vs, rfl, hq, dq⟩ := S1.itsL rr1 e1
      exact ⟨B, O, A1, ρ1, out, q, vs, _, rfl, S1w, .inr hq, DqAll_same wk dq, hk, kk.later st1w.toSto⟩
  · cases hk
end
end XM
end
section
namespace SM
open PySem PySem.Spec PyProof.Rows L2
/-- a key as the heap or the program's text holds it -/
def KeyAtG (K : PySem.W.Frag) (H : Hp) (u : Value) (x : V × KV) : Prop := ∃ p, u = .ref p ∧ SqT K H p (keyV x.2)
theorem KeyAtG.same {K : PySem.W.Frag} {H H' : Hp} (s : Same H H') {u : Value} {x : V × KV} (h : KeyAtG K H u x) : KeyAtG K H' u x := by
  obtain ⟨p, e, h⟩ := h
  exact ⟨p, e, Tl.Same.tup s h⟩
theorem KeyAtG.reads {X : Cx} {pins : List (Addr × Obj)} {σ : L2.St} {H : Hp} {s : Shared} (I : L2.Inv X pins σ H s) {u : Value} {x : V × KV} (k : KeyAtG X.K H u x) : ∃ as, Reads s.heap u (keyD x.2) as := by
  obtain ⟨p, rfl, e⟩ := k
  obtain ⟨its, rel, ⟨o, g, c, n, d⟩, _⟩ := I.tuple e
  unfold keyV at rel
  cases rel with
  | @cons _ v1 _ _ r1 rest =>
    cases rest with
    | @cons _ v2 _ _ r2 rest =>
      cases rest
      obtain ⟨t1, rfl⟩ := r1
      have r : Reads s.heap v2 (datOf x.2) [] := by
        cases ex : x.2 with
        | n i =>
          rw [ex] at r2
          obtain ⟨t2, rfl⟩ := r2
          exact Reads.int _ _
        | s z =>
          rw [ex] at r2
          obtain ⟨t2, rfl⟩ := r2
          exact Reads.str _ _
      exact ⟨_, Reads.tuple g c d (ReadsAll.cons (Reads.int _ _) (ReadsAll.cons r ReadsAll.nil))⟩
def rSortKeyG (K : PySem.W.Frag) (f : Addr) (sp : Sp) : List V → List V → Hp → VK → Prop := fun xs zs H Q => ∃ (a : Addr) (bs : List (V × KV)), xs = [.ref a] ∧ zs = [.ref f] ∧ SqL K H a (bs.map (·.1)) ∧
  (∀ x ∈ bs, ∀ H1, Same H H1 → sp [x.1] H1 (fun u H2 => Same H1 H2 ∧ ∃ p, u = .ref p ∧ SqT K H2 p (keyV x.2)) (fun _ _ _ => False)) ∧
  ∀ H' p, Same H H' → H p = none → H' p = some (.lst ((bs.mergeSort leK).map (·.1))) → Q (.ref p) H'
def LoopG (X : Cx) (pins : List (Addr × Obj)) (σ : L2.St) (H : Hp) (a kS : Addr) (n1 : Nat) (bs : List (V × KV)) (rest : List Value) (s' : Shared) : Prop :=
  ∃ (bd br : List (V × KV)) (ks : List Value) (e : Nat) (H' : Hp), bs = bd ++ br ∧ Vals (br.map (·.1)) rest ∧ Same H H' ∧ L2.Inv X pins σ H' s' ∧ FpOk X pins H' a ∧ FpOk X pins H' kS ∧
    s'.heap.get? a = some (seqObj "list" #[] n1) ∧ s'.heap.get? kS = some (seqObj "list" ks.toArray e) ∧ W.EachIs (KeyAtG X.K H') ks bd
section
variable {X : Cx} {k : Nat} {f : Addr} {fd : FuncData} {x : Str} {sp : Sp}
theorem turnG {pins : List (Addr × Obj)} {σ : L2.St} {H : Hp} {a kS : Addr} {n1 : Nat} {bs : List (V × KV)} {u : Value} {rest : List Value} {s' : Shared} {E : Value → Shared → Prop} (F : XM.FnG X.prog X.w X.K X.mg X.base CX0 k f fd [x] sp) (b : L2.Binds X.K fd [x] []) (quiet : XM.Quiet X.A) (hr : Room (k + 2) X.A)
    (na : kS ≠ a) (small : bs.length ≤ sizeLine) (key : ∀ x ∈ bs, ∀ H1, Same H H1 → sp [x.1] H1 (fun u H2 => Same H1 H2 ∧ ∃ p, u = .ref p ∧ SqT X.K H2 p (keyV x.2)) (fun _ _ _ => False))
    (L : LoopG X pins σ H a kS n1 bs (u :: rest) s') : wpAny (model X.prog X.w) X.A.in1.in1 (call (.ref f) [u]) (fun kv s2 => ∃ (bd br : List (V × KV)) (y : V × KV) (ks : List Value) (e : Nat) (H2 : Hp), bs = bd ++ y :: br ∧ Vals (br.map (·.1)) rest ∧ Same H H2 ∧ L2.Inv X pins σ H2 s2 ∧ FpOk X pins H2 a ∧ FpOk X pins H2 kS ∧
      s2.heap.get? a = some (seqObj "list" #[] n1) ∧ s2.heap.get? kS = some (seqObj "list" ks.toArray e) ∧ W.EachIs (KeyAtG X.K H2) ks bd ∧ KeyAtG X.K H2 kv y) E s' := by
  obtain ⟨bd, br, ks, e, H', rfl, rl, sm, I, fa, fk, ea, ek, each⟩ := L
  cases br with
  | nil => cases rl
  | cons y br =>
  cases rl with
  | cons r0 rl =>
  have p2 := two_pins ea ek
  have Ip : L2.Inv X (pins ++ [(a, seqObj "list" #[] n1), (kS, seqObj "list" ks.toArray e)]) σ H' s' := by
    rw [← p2]
    refine I.pinned (fp := [a, kS]) (fun c hc => ?_) (fun c hc => ?_)
    · rcases List.mem_cons.mp hc with rfl | hc
      · exact fa
      · rcases List.mem_singleton.mp hc with rfl
        exact fk
    · rcases List.mem_cons.mp hc with rfl | hc
      · exact ⟨_, ea, fun v q => by cases q⟩
      · rcases List.mem_singleton.mp hc with rfl
        exact ⟨_, ek, fun v q => by cases q⟩
  have want := key y (List.mem_append_right _ (List.mem_cons_self ..)) H' sm
  refine wpAny_call (codeAny_mono (F.run X.A.in1.in1 X.stack s' H' ⟨[u], []⟩ [u] [y.1] _ _ quiet hr.in1.in1 I.env0.in1.in1 (b s' [u] I.kIn rfl) (.cons r0 .nil) want) fun r s2 hq => ?_)
  cases r with
  | error q => exact hq.elim
  | ok fl =>
    cases fl with
    | next => exact hq.elim
    | brk => exact hq.elim
    | cont => exact hq.elim
    | ret kv =>
      obtain ⟨v, H2, I2, rv, sm2, p, ep, hp⟩ := Ip.after hq
      subst ep
      have q1 := I2.pin (a, seqObj "list" #[] n1) (by simp)
      have q2 := I2.pin (kS, seqObj "list" ks.toArray e) (by simp)
      refine ⟨bd, br, y, ks, e, H2, rfl, rl, sm.trans sm2, I2.unpinned, ⟨q1.2.1, fa.2⟩, ⟨q2.2.1, fk.2⟩, q1.1, q2.1, each_mono (fun _ _ z => z.same sm2) each, p, rv, hp⟩
theorem cr_sortKeyG (F : XM.FnG X.prog X.w X.K X.mg X.base CX0 k f fd [x] sp) (b : L2.Binds X.K fd [x] []) (quiet : XM.Quiet X.A) (hr : Room (k + 2) X.A) : CallRK X (.builtin "sorted") ["key"] (rSortKeyG X.K f sp) := by
  intro pins s σ H xs zs us ws Q I rx rz want
  obtain ⟨a0, bs, rfl, rfl, sq, key, fin⟩ := want
  obtain ⟨its, rel, place, small⟩ := I.list sq
  rw [List.length_map] at small
  have lenI : its.length = bs.length := by
    have z := rel.length
    rw [List.length_map] at z
    exact z.symm
  cases rx with
  | cons r1 rx =>
  cases rx
  cases rz with
  | cons r2 rz =>
  cases rz
  have e1 : _ = Value.ref a0 := r1
  have e2 : _ = Value.ref f := r2
  subst e1; subst e2
  show wpAny (model X.prog X.w) X.A (call (.builtin "sorted") [.ref a0] [("key", .ref f)]) (EP X pins σ Q) X.xe s
  refine W.sorted_of_sort place.isList (by rw [lenI]; exact small) (ksk_s1 _ _) (fun _ => ksk_l1 _ _) (fun E' => ?_)
  rw [ksk_t1]
  generalize ea' : s.heap.objs.size + 1 = a
  have at0 : (W.copyHeap s.heap its).get? a = some (seqObj "list" its.toArray 0) := by rw [← ea']; exact W.copyHeap_at _ _
  have old0 : ∀ c o, s.heap.get? c = some o → (W.copyHeap s.heap its).get? c = some o := fun c o => W.copyHeap_old
  unfold ksk_tree
  refine wpAny_bind (listItems_at at0 rfl ?_)
  have sz : its.toArray.size ≤ sizeLine := by rw [List.size_toArray, lenI]; exact small
  refine wpAny_bind (listUpdate_at at0 rfl ?_ sz (Nat.zero_le _))
  have at1 := get?_update_seq at0 (fun _ => #[])
  generalize hn : (if ((#[] : Array Value).size == its.toArray.size) = true then 0 else 0 + 1) = n1 at at1
  have old1 : ∀ c o, s.heap.get? c = some o → ((W.copyHeap s.heap its).update a (Obj.mapSeq fun _ => #[])).get? c = some o := fun c o g => by
    rw [Heap.get?_update_other _ _ (by rw [← ea']; exact Nat.ne_of_gt (Nat.lt_succ_of_lt (Heap.lt_size g)))]
    exact old0 c o g
  generalize (W.copyHeap s.heap its).update a (Obj.mapSeq fun _ => #[]) = h1 at at1 old1
  refine wpAny_bind (seqEpoch_at at1 rfl (wpAny_bind (wpAny_newTuple ?_ (by rw [lenI]; exact small))))
  have at2 := Heap.get?_push_of_some { cls := .type "tuple", data := .seq its.toArray.toList.toArray } at1
  have old2 : ∀ c o, s.heap.get? c = some o → (h1.push { cls := .type "tuple", data := .seq its.toArray.toList.toArray }).get? c = some o := fun c o g => Heap.get?_push_of_some _ (old1 c o g)
  refine wpAny_bind (wpAny_newList ?_ (Nat.zero_le _))
  dsimp only
  generalize h1.push { cls := .type "tuple", data := .seq its.toArray.toList.toArray } = h2 at at2 old2
  have at3 := Heap.get?_push_of_some { cls := .type "list", data := .seq ([] : List Value).toArray } at2
  have kS0 : (h2.push { cls := .type "list", data := .seq ([] : List Value).toArray }).get? h2.objs.size = some (seqObj "list" ([] : List Value).toArray 0) := Heap.get?_push_size h2 rfl
  have old3 : ∀ c o, s.heap.get? c = some o → (h2.push { cls := .type "list", data := .seq ([] : List Value).toArray }).get? c = some o := fun c o g => Heap.get?_push_of_some _ (old2 c o g)
  have na : h2.objs.size ≠ a := Nat.ne_of_gt (Heap.lt_size at2)
  have bigA : s.heap.objs.size ≤ a := by rw [← ea']; exact Nat.le_succ _
  have bigK : s.heap.objs.size ≤ h2.objs.size := Nat.le_trans bigA (Nat.le_of_lt (Heap.lt_size at2))
  generalize h2.objs.size = kS at kS0 na bigK
  generalize h2.push { cls := .type "list", data := .seq ([] : List Value).toArray } = h3 at at3 kS0 old3
  refine wpAny_holding ?_
  unfold ksk_rest
  refine wpAny_bind (wpAny_rule (wpAny_bind ?_))
  have start : LoopG X pins σ H a kS n1 bs its.toArray.toList ⟨h3, s.gens, s.drawn, s.toks, s.os⟩ := by
    refine ⟨[], bs, [], 0, H, rfl, rel, fun _ _ z => z, I.kept old3, I.fpOk bigA (I.hok.fresh bigA), I.fpOk bigK (I.hok.fresh bigK), at3, kS0, .nil⟩
  refine forIn_array_ _ (fun rest _ s' => LoopG X pins σ H a kS n1 bs rest s') _ (fun u rest _ s' L => ?_) (fun _ s' L => ?_) its.toArray _ start
  · refine wpAny_bind (wpAny_attempt (wpAny_mono (turnG (E := fun _ _ => False) F b quiet hr na small key L) (fun kv s2 q => ?_) (fun _ _ q => q.elim)))
    obtain ⟨bd, br, y, ks, e, H2, eb, rl, sm, I2, fa, fk, ea, ek, each, ky⟩ := q
    have lk : ks.length = bd.length := each_len each
    have lb : bs.length = bd.length + (br.length + 1) := by rw [eb, List.length_append, List.length_cons]
    refine wpAny_bind (listUpdate_at ek rfl ?_ (by rw [List.size_toArray]; omega) (by rw [Array.size_push, List.size_toArray]; omega))
    have ek2 := get?_update_seq ek (fun z => z.push kv)
    have ek3 : (s2.heap.update kS (Obj.mapSeq fun z => z.push kv)).get? kS = some (seqObj "list" (ks ++ [kv]).toArray (if ((ks.toArray.push kv).size == ks.toArray.size) = true then e else e + 1)) := by
      rw [ek2, List.push_toArray]
    refine wpAny_pure ?_
    have other : ∀ c o, ¬ c ∈ [kS] → s2.heap.get? c = some o → (s2.heap.update kS (Obj.mapSeq fun z => z.push kv)).get? c = some o := fun c o hc g => by
      rw [Heap.get?_update_other _ _ (fun q => hc (by rw [← q]; exact List.mem_singleton.mpr rfl))]
      exact g
    have I3 := I2.turnedL (ch := [kS]) (t' := s2.toks) other (fun c hc => by
      rcases List.mem_singleton.mp hc with rfl
      exact fk)
    refine ⟨bd ++ [y], br, ks ++ [kv], _, H2, by rw [eb, List.append_assoc]; rfl, rl, sm, I3, fa, fk, other a _ (fun q => na (List.mem_singleton.mp q).symm) ea, ek3, W.each_snoc ky each⟩
  · obtain ⟨bd, br, ks, e, H', eb, rl, sm, I3, fa, fk, ea, ek, each⟩ := L
    cases br with
    | cons _ _ => cases rl
    | nil =>
    rw [List.append_nil] at eb
    subst eb
    refine wpAny_bind (listItems_at ek rfl ?_)
    have lk : ks.length = bs.length := each_len each
    let gone : Heap := s'.heap.update kS (fun o => { o with data := .freed })
    have g1 : gone.get? kS = none := by
      show (s'.heap.update kS _).get? kS = none
      have lt := Heap.lt_size ek
      unfold Heap.get? Heap.update
      dsimp only
      rw [Array.getElem?_modify]
      rw [if_pos rfl]
      have ek' := ek
      unfold Heap.get? at ek'
      cases q : s'.heap.objs[kS]? with
      | none => rfl
      | some o => rfl
    have g2 : W.KeepsBut a gone s'.heap := fun c o hc g => by
      by_cases q : c = kS
      · rw [q, g1] at g
        cases g
      · rw [← Heap.get?_update_other s'.heap (fun o => { o with data := .freed }) (fun z => q z.symm)]
        exact g
    have hu : X.A.in1.in1.units + 4 < cLine := by
      have := hr.units
      show X.A.units + 1 + 1 + 4 < cLine
      omega
    have reads : W.EachIs (fun v (x : V × KV) => ∃ as, Reads s'.heap v (keyD x.2) as) ks bs := each_mono (fun _ _ z => z.reads I3) each
    have readsK : ∀ {ks : List Value} {bs : List (V × KV)}, W.EachIs (fun v (x : V × KV) => ∃ as, Reads s'.heap v (keyD x.2) as) ks bs → W.EachIs (fun v k => ∃ as, Reads s'.heap v (keyD k) as) ks (bs.map (·.2)) := by
      intro ks bs z
      induction z with
      | nil => exact .nil
      | cons q _ ih => exact .cons q ih
    refine W.keyH_end (κ := kind s'.heap) g2 g1 ek ea na (sorts (by exact hu) (readsK reads)) (by rw [List.size_toArray, lk, lenI]) (by rw [lenI]; exact small) (fun h' tk c kb at' => ⟨rfl, ?_⟩)
    have out : W.EachIs (fun u (x : V × KV) => RelV x.1 u) (W.sortVals (kind s'.heap) false ks its) (bs.mergeSort (W.sortLe (kind s'.heap).toKeyOrd false fun x => W.keyToks (keyD x.2))) :=
      W.sortVals_each (κ := kind s'.heap) (fun x : V × KV => W.keyToks (keyD x.2)) (each_of_vals rel) (each_mono (fun v x ⟨as, z⟩ => kind_at z) reads)
    have other : ∀ c o, ¬ c ∈ [a, kS] → s'.heap.get? c = some o → h'.get? c = some o := fun c o hc g => by
      have c1 : c ≠ a := fun q => hc (by rw [q]; exact List.mem_cons_self ..)
      have c2 : c ≠ kS := fun q => hc (by rw [q]; exact List.mem_cons_of_mem _ (List.mem_singleton.mpr rfl))
      refine kb c o c1 ?_
      show (s'.heap.update kS _).get? c = some o
      rw [Heap.get?_update_other _ _ (fun z => c2 z.symm)]
      exact g
    have I4 := I3.turnedL (ch := [a, kS]) (t' := tk) other (fun c hc => by
      rcases List.mem_cons.mp hc with rfl | hc
      · exact fa
      · rcases List.mem_singleton.mp hc with rfl
        exact fk)
    have vals := vals_of_each out
    have I5 := track I4 fa at' vals (by rw [List.length_map, List.length_mergeSort]; exact small)
    refine ⟨.ref a, _, I5, rfl, fin _ a (fun c o g => ?_) (I.hok.fresh bigA) upd_same⟩
    have nc : c ≠ a := fun q => by
      rw [q, I.hok.fresh bigA] at g
      cases g
    rw [upd_ne nc]
    exact sm c o g
end
end SM
end
section
/-! the order of keys, plainly; keys compared -/
namespace SM
open PySem PySem.Spec PyProof.Rows L2
def KV.lt : KV → KV → Bool
  | .n a, .n b => decide (a < b)
  | .n _, .s _ => true
  | .s _, .n _ => false
  | .s x, .s y => decide (x.cps.toList < y.cps.toList)
theorem dataLt_key (k j : KV) : W.dataLt (keyD k) (keyD j) = k.lt j := by
  have base : ∀ a b : KV, W.dataLt (keyD a) (keyD b) = lexLt itemOrd (W.keyToksAll [.int (tagOf a), datOf a]) (W.keyToksAll [.int (tagOf b), datOf b]) := fun a b => W.dataLt_tuple _ _
  have al : W.alike (.int (tagOf k)) (.int (tagOf j)) = true := rfl
  cases k with
  | n a =>
    cases j with
    | n b =>
      rw [base, W.dataLt_all_yes rfl rfl]
      show lexLt itemOrd (W.keyToksAll [.int a]) (W.keyToksAll [.int b]) = decide (a < b)
      by_cases h : a = b
      · subst h
        rw [W.dataLt_all_yes rfl (W.eqv_refl_alike _ rfl)]
        show false = decide (a < a)
        exact (decide_eq_false (Int.lt_irrefl _)).symm
      · have e : (PyData.int a).eqv (.int b) = false := by
          show (a == b) = false
          exact beq_eq_false_iff_ne.mpr h
        rw [W.dataLt_all_no (x := .int a) (y := .int b) rfl e]
        exact W.dataLt_int a b
    | s y => rfl
  | s x =>
    cases j with
    | n b => rfl
    | s y =>
      rw [base, W.dataLt_all_yes rfl rfl]
      show lexLt itemOrd (W.keyToksAll [.str x]) (W.keyToksAll [.str y]) = decide (x.cps.toList < y.cps.toList)
      by_cases h : x = y
      · subst h
        rw [W.dataLt_all_yes rfl (W.eqv_refl_alike _ rfl)]
        show false = decide (x.cps.toList < x.cps.toList)
        exact (decide_eq_false (List.lt_irrefl _)).symm
      · have e : (PyData.str x).eqv (.str y) = false := by
          show (x == y) = false
          exact beq_eq_false_iff_ne.mpr h
        rw [W.dataLt_all_no (x := .str x) (y := .str y) rfl e]
        exact W.dataLt_str x y
theorem leK_eq (p q : V × KV) : leK p q = !(q.2.lt p.2) := by
  unfold leK
  rw [W.dataLe_eq]
  show (!W.dataLt (keyD q.2) (keyD p.2)) = _
  rw [dataLt_key]
/-- two keys in the heap, sign by sign -/
theorem key_parts {P : Program} {w : World} {H : Hp} {h : Heap} (ok : HOk P w H h) {p : Addr} {k : KV} (e : H p = some (.tup (keyV k))) : ∃ t v xs, Reads h (.int (tagOf k) t) (.int (tagOf k)) [] ∧ Reads h v (datOf k) xs ∧ h.IsTuple p #[.int (tagOf k) t, v] := by
  obtain ⟨_, its, rel, o, g, c, n, d⟩ := ok p _ e
  unfold keyV at rel
  cases rel with
  | @cons _ v1 _ _ r1 rest =>
    cases rest with
    | @cons _ v2 _ _ r2 rest =>
      cases rest
      obtain ⟨t1, rfl⟩ := r1
      have r : Reads h v2 (datOf k) [] := by
        cases k with
        | n i =>
          obtain ⟨t2, rfl⟩ := r2
          exact Reads.int _ _
        | s z =>
          obtain ⟨t2, rfl⟩ := r2
          exact Reads.str _ _
      exact ⟨t1, v2, [], Reads.int _ _, r, o, g, c, n, d⟩
section
variable {X : Cx}
def rKeys (f : KV → KV → Bool) : R2 := fun x y H Q => ∃ (p q : Addr) (k j : KV), x = .ref p ∧ y = .ref q ∧ H p = some (.tup (keyV k)) ∧ H q = some (.tup (keyV j)) ∧ Q (.bl (f k j)) H
theorem le_meets (l b : Addr) : Meets (Builtin.«tuple.__le__» ⟨[.ref l, .ref b], []⟩) (fun A R s => ∃ x0 x1 y0 y1 e0 e1 r0 r1, s.heap.IsTuple l #[x0, x1] ∧ s.heap.IsTuple b #[y0, y1] ∧ SeqAt.EqAt A.in1 s x0 y0 e0 ∧ (e0 = false → SeqAt.RcOp .LtE A.in1 s x0 y0 r0) ∧
    (e0 = true → SeqAt.EqAt A.in1 s x1 y1 e1 ∧ (e1 = false → SeqAt.RcOp .LtE A.in1 s x1 y1 r1)) ∧ R (.ok (.ret (.bool (if e0 = true then (if e1 = true then true else r1) else r0)))) s) := by
  refine Meets.of_wp fun prog w A R s S => ?_
  obtain ⟨x0, x1, y0, y1, e0, e1, r0, r1, i1, i2, q0, k0, q1, k⟩ := S
  show wpAny (model prog w) A.in1 (PySem.isInstance (.ref b) (.type "tuple") >>= _) _ _ s
  refine wpAny_bind (wpAny_isInstance i2.typeIs rfl ?_)
  show wpAny (model prog w) A.in1 (Builtin.Tuple.tupleItemsOf (.ref l) >>= _) _ _ s
  obtain ⟨o1, g1, c1, n1, d1⟩ := i1
  obtain ⟨o2, g2, c2, n2, d2⟩ := i2
  refine wpAny_bind (wpAny_tupleItemsOf g1 d1 (wpAny_bind (wpAny_tupleItemsOf g2 d2 (wpAny_bind ?_))))
  show wpAny (model prog w) A.in1 (forIn [(x0, y0), (x1, y1)] _ _) _ _ s
  rw [List.forIn_cons]
  refine wpAny_bind ?_
  show wpAny (model prog w) A.in1 (eqBool x0 y0 >>= _) _ _ s
  refine wpAny_bind (q0 prog w _ _ ?_)
  cases e0 with
  | false =>
    refine wpAny_bind (wpAny_rule (wpAny_bind (k0 rfl prog w _ _ ?_)))
    refine wpAny_bind (wpAny_pure (wpAny_pure ?_))
    exact wpAny_pure (wpAny_pure ⟨_, rfl, k⟩)
  | true =>
    obtain ⟨q1, k1⟩ := q1 rfl
    refine wpAny_pure ?_
    show wpAny (model prog w) A.in1 (forIn [(x1, y1)] _ _) _ _ s
    rw [List.forIn_cons]
    refine wpAny_bind ?_
    show wpAny (model prog w) A.in1 (eqBool x1 y1 >>= _) _ _ s
    refine wpAny_bind (q1 prog w _ _ ?_)
    cases e1 with
    | false =>
      refine wpAny_bind (wpAny_rule (wpAny_bind (k1 rfl prog w _ _ ?_)))
      refine wpAny_bind (wpAny_pure (wpAny_pure ?_))
      exact wpAny_pure (wpAny_pure ⟨_, rfl, k⟩)
    | true =>
      refine wpAny_pure ?_
      exact wpAny_pure (wpAny_pure ⟨_, rfl, k⟩)
theorem lt_meets (l b : Addr) : Meets (Builtin.«tuple.__lt__» ⟨[.ref l, .ref b], []⟩) (fun A R s => ∃ x0 x1 y0 y1 e0 e1 r0 r1, s.heap.IsTuple l #[x0, x1] ∧ s.heap.IsTuple b #[y0, y1] ∧ SeqAt.EqAt A.in1 s x0 y0 e0 ∧ (e0 = false → SeqAt.RcOp .Lt A.in1 s x0 y0 r0) ∧
    (e0 = true → SeqAt.EqAt A.in1 s x1 y1 e1 ∧ (e1 = false → SeqAt.RcOp .Lt A.in1 s x1 y1 r1)) ∧ R (.ok (.ret (.bool (if e0 = true then (if e1 = true then false else r1) else r0)))) s) := by
  refine Meets.of_wp fun prog w A R s S => ?_
  obtain ⟨x0, x1, y0, y1, e0, e1, r0, r1, i1, i2, q0, k0, q1, k⟩ := S
  show wpAny (model prog w) A.in1 (PySem.isInstance (.ref b) (.type "tuple") >>= _) _ _ s
  refine wpAny_bind (wpAny_isInstance i2.typeIs rfl ?_)
  show wpAny (model prog w) A.in1 (Builtin.Tuple.tupleItemsOf (.ref l) >>= _) _ _ s
  obtain ⟨o1, g1, c1, n1, d1⟩ := i1
  obtain ⟨o2, g2, c2, n2, d2⟩ := i2
  refine wpAny_bind (wpAny_tupleItemsOf g1 d1 (wpAny_bind (wpAny_tupleItemsOf g2 d2 (wpAny_bind ?_))))
  show wpAny (model prog w) A.in1 (forIn [(x0, y0), (x1, y1)] _ _) _ _ s
  rw [List.forIn_cons]
  refine wpAny_bind ?_
  show wpAny (model prog w) A.in1 (eqBool x0 y0 >>= _) _ _ s
  refine wpAny_bind (q0 prog w _ _ ?_)
  cases e0 with
  | false =>
    refine wpAny_bind (wpAny_rule (wpAny_bind (k0 rfl prog w _ _ ?_)))
    refine wpAny_bind (wpAny_pure (wpAny_pure ?_))
    exact wpAny_pure (wpAny_pure ⟨_, rfl, k⟩)
  | true =>
    obtain ⟨q1, k1⟩ := q1 rfl
    refine wpAny_pure ?_
    show wpAny (model prog w) A.in1 (forIn [(x1, y1)] _ _) _ _ s
    rw [List.forIn_cons]
    refine wpAny_bind ?_
    show wpAny (model prog w) A.in1 (eqBool x1 y1 >>= _) _ _ s
    refine wpAny_bind (q1 prog w _ _ ?_)
    cases e1 with
    | false =>
      refine wpAny_bind (wpAny_rule (wpAny_bind (k1 rfl prog w _ _ ?_)))
      refine wpAny_bind (wpAny_pure (wpAny_pure ?_))
      exact wpAny_pure (wpAny_pure ⟨_, rfl, k⟩)
    | true =>
      refine wpAny_pure ?_
      exact wpAny_pure (wpAny_pure ⟨_, rfl, k⟩)
theorem eq_dats {A : Around} {s : Shared} {v v' : Value} {k j : KV} {xs ys : List Addr} (hu : A.units < cLine) (r1 : Reads s.heap v (datOf k) xs) (r2 : Reads s.heap v' (datOf j) ys) (h : tagOf k = tagOf j) : SeqAt.EqAt A s v v' ((datOf k).eqv (datOf j)) :=
  W.eqAt_alike _ _ A s v v' xs ys r1 r2 (alike_same h) (by rw [dat_depth, dat_depth]; exact hu)
theorem eqv_tags (k j : KV) : (PyData.int (tagOf k)).eqv (.int (tagOf j)) = decide (tagOf k = tagOf j) := by cases k <;> cases j <;> rfl
theorem le_val (k j : KV) : (if decide (tagOf k = tagOf j) = true then (if (datOf k).eqv (datOf j) = true then true else !W.dataLt (datOf j) (datOf k)) else !W.dataLt (.int (tagOf j)) (.int (tagOf k))) = !j.lt k := by
  rw [← dataLt_key, show W.dataLt (keyD j) (keyD k) = lexLt itemOrd (W.keyToksAll [.int (tagOf j), datOf j]) (W.keyToksAll [.int (tagOf k), datOf k]) from W.dataLt_tuple _ _]
  by_cases h : tagOf k = tagOf j
  · rw [if_pos (decide_eq_true h), W.dataLt_all_yes (x := .int (tagOf j)) (y := .int (tagOf k)) rfl (by rw [h]; exact W.eqv_refl_alike _ rfl)]
    have al := alike_same h.symm
    cases ev : (datOf k).eqv (datOf j) with
    | true =>
      have ed : datOf j = datOf k := by
        cases k <;> cases j <;> first | (have e := eq_of_beq ev; subst e; rfl) | cases ev
      rw [if_pos rfl, ed, W.dataLt_all_yes (alike_same rfl) (W.eqv_refl_alike _ (alike_same rfl))]
      rfl
    | false =>
      have ev' : (datOf j).eqv (datOf k) = false := by
        cases k <;> cases j <;> first | rfl | (exact beq_eq_false_iff_ne.mpr (fun q => beq_eq_false_iff_ne.mp ev q.symm))
      rw [if_neg Bool.false_ne_true, W.dataLt_all_no al ev']
  · rw [if_neg (by rw [decide_eq_false h]; exact Bool.false_ne_true), W.dataLt_all_no (x := .int (tagOf j)) (y := .int (tagOf k)) rfl (by rw [eqv_tags]; exact decide_eq_false (fun q => h q.symm))]
theorem lt_val (k j : KV) : (if decide (tagOf k = tagOf j) = true then (if (datOf k).eqv (datOf j) = true then false else W.dataLt (datOf k) (datOf j)) else W.dataLt (.int (tagOf k)) (.int (tagOf j))) = k.lt j := by
  rw [← dataLt_key, show W.dataLt (keyD k) (keyD j) = lexLt itemOrd (W.keyToksAll [.int (tagOf k), datOf k]) (W.keyToksAll [.int (tagOf j), datOf j]) from W.dataLt_tuple _ _]
  by_cases h : tagOf k = tagOf j
  · rw [if_pos (decide_eq_true h), W.dataLt_all_yes (x := .int (tagOf k)) (y := .int (tagOf j)) rfl (by rw [h]; exact W.eqv_refl_alike _ rfl)]
    have al := alike_same h
    cases ev : (datOf k).eqv (datOf j) with
    | true => rw [if_pos rfl, W.dataLt_all_yes al ev]; rfl
    | false => rw [if_neg Bool.false_ne_true, W.dataLt_all_no al ev]
  · rw [if_neg (by rw [decide_eq_false h]; exact Bool.false_ne_true), W.dataLt_all_no (x := .int (tagOf k)) (y := .int (tagOf j)) rfl (by rw [eqv_tags]; exact decide_eq_false h)]
theorem op_leK (hu : X.A.units + 4 < cLine) : OpR X (compareOp .LtE) (rKeys fun k j => !j.lt k) := by
  intro pins s σ H x y v u Q I rx ry want
  obtain ⟨p, q, k, j, rfl, rfl, hp, hq, want⟩ := want
  have e1 : v = .ref p := rx
  have e2 : u = .ref q := ry
  subst e1; subst e2
  obtain ⟨t, a, xs, t1, v1, i1⟩ := key_parts I.hok hp
  obtain ⟨t', a', ys, t2, v2, i2⟩ := key_parts I.hok hq
  have hu1 : X.A.in1.units + 1 < cLine := by show X.A.units + 1 + 1 < cLine; omega
  show wpAny _ _ (richCompare .LtE (.ref p) (.ref q)) _ _ _
  refine richCompare_meets_room i1.typeIs i2.typeIs PySem.F.slot_tuple_le PySem.F.entry_tuple_le (PySem.F.args_tuple_le_2 _ _) (le_meets p q) ⟨_, _, _, _, decide (tagOf k = tagOf j), (datOf k).eqv (datOf j), !W.dataLt (.int (tagOf j)) (.int (tagOf k)), !W.dataLt (datOf j) (datOf k), i1, i2, ?_, ?_, ?_, ?_⟩ (by omega)
  · rw [← eqv_tags]
    exact W.eqAt_alike _ _ _ s _ _ _ _ t1 t2 rfl (by show _ + 0 < cLine; omega)
  · intro _
    exact W.rcLe_alike _ _ _ s _ _ _ _ t1 t2 rfl (by intro z; cases z) (by show _ + 0 < cLine; omega)
  · intro h
    have h := of_decide_eq_true h
    exact ⟨eq_dats (by omega) v1 v2 h, fun _ => W.rcLe_alike _ _ _ s _ _ _ _ v1 v2 (alike_same h) (dat_ne k).1 (by rw [dat_depth, dat_depth]; show _ + 0 < cLine; omega)⟩
  · rw [le_val]
    exact ⟨(fun z => by cases z), .bl _, H, I, rfl, want⟩
theorem op_ltK (hu : X.A.units + 4 < cLine) : OpR X (compareOp .Lt) (rKeys fun k j => k.lt j) := by
  intro pins s σ H x y v u Q I rx ry want
  obtain ⟨p, q, k, j, rfl, rfl, hp, hq, want⟩ := want
  have e1 : v = .ref p := rx
  have e2 : u = .ref q := ry
  subst e1; subst e2
  obtain ⟨t, a, xs, t1, v1, i1⟩ := key_parts I.hok hp
  obtain ⟨t', a', ys, t2, v2, i2⟩ := key_parts I.hok hq
  have hu1 : X.A.in1.units + 1 < cLine := by show X.A.units + 1 + 1 < cLine; omega
  show wpAny _ _ (richCompare .Lt (.ref p) (.ref q)) _ _ _
  refine richCompare_meets_room i1.typeIs i2.typeIs PySem.F.slot_tuple_lt PySem.F.entry_tuple_lt (PySem.F.args_tuple_lt_2 _ _) (lt_meets p q) ⟨_, _, _, _, decide (tagOf k = tagOf j), (datOf k).eqv (datOf j), W.dataLt (.int (tagOf k)) (.int (tagOf j)), W.dataLt (datOf k) (datOf j), i1, i2, ?_, ?_, ?_, ?_⟩ (by omega)
  · rw [← eqv_tags]
    exact W.eqAt_alike _ _ _ s _ _ _ _ t1 t2 rfl (by show _ + 0 < cLine; omega)
  · intro _
    exact W.rcLt_alike _ _ _ s _ _ _ _ t1 t2 rfl (by intro z; cases z) (by show _ + 0 < cLine; omega)
  · intro h
    have h := of_decide_eq_true h
    exact ⟨eq_dats (by omega) v1 v2 h, fun _ => W.rcLt_alike _ _ _ s _ _ _ _ v1 v2 (alike_same h) (dat_ne k).1 (by rw [dat_depth, dat_depth]; show _ + 0 < cLine; omega)⟩
  · rw [lt_val]
    exact ⟨(fun z => by cases z), .bl _, H, I, rfl, want⟩
end
end SM
end
section
/-! sorted(xs, key=a def of the program) -/
namespace XM
open PySem PySem.Spec PyProof.Rows L2 Tl SM
def leP {α : Type} (p q : α × KV) : Bool := !(q.2.lt p.2)
def insK {α : Type} (p : α × KV) : List (α × KV) → List (α × KV)
  | [] => [p]
  | q :: r => if leP p q = true then p :: q :: r else q :: insK p r
def sortK {α : Type} : List (α × KV) → List (α × KV)
  | [] => []
  | p :: r => insK p (sortK r)
theorem kv_total (k j : KV) : (!k.lt j || !j.lt k) = true := by
  cases k <;> cases j <;> simp only [KV.lt, Bool.not_false, Bool.not_true, Bool.or_true, Bool.true_or]
  · rename_i a b
    by_cases h : a < b
    · rw [decide_eq_false (by omega : ¬ b < a)]; simp
    · rw [decide_eq_false h]; simp
  · rename_i a b
    rcases List.le_total a.cps.toList b.cps.toList with h | h
    · rw [decide_eq_false (show ¬ b.cps.toList < a.cps.toList from h)]; simp
    · rw [decide_eq_false (show ¬ a.cps.toList < b.cps.toList from h)]; simp
theorem kv_trans {k j i : KV} (h1 : (!j.lt k) = true) (h2 : (!i.lt j) = true) : (!i.lt k) = true := by
  rw [Bool.not_eq_true'] at *
  match k, j, i, h1, h2 with
  | .n a, .n b, .n c, h1, h2 =>
    have h1 : decide (b < a) = false := h1
    have h2 : decide (c < b) = false := h2
    have h1 := of_decide_eq_false h1
    have h2 := of_decide_eq_false h2
    exact decide_eq_false (by omega)
  | .s a, .s b, .s c, h1, h2 =>
    have h1 : a.cps.toList ≤ b.cps.toList := of_decide_eq_false h1
    have h2 : b.cps.toList ≤ c.cps.toList := of_decide_eq_false h2
    exact decide_eq_false (List.not_lt.mpr (List.le_trans h1 h2))
  | .n a, _, .s c, _, _ => rfl
  | .s a, .n b, _, h1, _ => cases h1
  | _, .s b, .n c, _, h2 => cases h2
theorem insK_split {α : Type} {p : α × KV} : ∀ {l1 l2 : List (α × KV)}, (∀ b ∈ l1, (!leP p b) = true) → (l1 ++ p :: l2).Pairwise (fun a b => leP a b = true) → insK p (l1 ++ l2) = l1 ++ p :: l2
  | [], [], _, _ => rfl
  | [], q :: r, _, h => by
    have := (List.pairwise_cons.mp h).1 q (List.mem_cons_self ..)
    show insK p (q :: r) = _
    unfold insK
    rw [if_pos this]
    rfl
  | b :: l1, l2, n, h => by
    have nb := n b (List.mem_cons_self ..)
    show insK p (b :: (l1 ++ l2)) = _
    unfold insK
    rw [if_neg (by intro z; rw [z] at nb; cases nb), insK_split (fun c hc => n c (List.mem_cons_of_mem _ hc)) (List.pairwise_cons.mp h).2]
    rfl
theorem sortK_eq {α : Type} : ∀ (l : List (α × KV)), l.mergeSort leP = sortK l
  | [] => by simp [sortK]
  | p :: r => by
    have tr : ∀ (a b c : α × KV), leP a b = true → leP b c = true → leP a c = true := fun a b c h1 h2 => kv_trans h1 h2
    have to : ∀ (a b : α × KV), (leP a b || leP b a) = true := fun a b => kv_total _ _
    obtain ⟨l1, l2, e1, e2, n⟩ := List.mergeSort_cons tr to p r
    have pw := List.pairwise_mergeSort tr to (p :: r)
    rw [e1] at pw
    rw [e1]
    unfold sortK
    rw [← sortK_eq r, e2, insK_split n pw]
theorem insK_map {α β : Type} (g : α → β) (p : α × KV) : ∀ l : List (α × KV), (insK p l).map (fun q => (g q.1, q.2)) = insK (g p.1, p.2) (l.map fun q => (g q.1, q.2))
  | [] => rfl
  | q :: r => by
    have e : leP (g p.1, p.2) (g q.1, q.2) = leP p q := rfl
    rw [List.map_cons]
    show (if leP p q = true then p :: q :: r else q :: insK p r).map _ = if leP (g p.1, p.2) (g q.1, q.2) = true then _ else _
    rw [e]
    by_cases h : leP p q = true
    · rw [if_pos h, if_pos h]; rfl
    · rw [if_neg h, if_neg h, List.map_cons, insK_map g p r]
theorem sortK_map {α β : Type} (g : α → β) : ∀ l : List (α × KV), (sortK l).map (fun q => (g q.1, q.2)) = sortK (l.map fun q => (g q.1, q.2))
  | [] => rfl
  | p :: r => by
    unfold sortK
    rw [insK_map, sortK_map g r]
    rfl
theorem insK_mem {α : Type} {p q : α × KV} : ∀ {l : List (α × KV)}, q ∈ insK p l → q = p ∨ q ∈ l
  | [], h => .inl (List.mem_singleton.mp h)
  | z :: r, h => by
    unfold insK at h
    split at h
    · exact List.mem_cons.mp h
    · rcases List.mem_cons.mp h with h | h
      · exact .inr (by rw [h]; exact List.mem_cons_self ..)
      · rcases insK_mem h with h | h
        · exact .inl h
        · exact .inr (List.mem_cons_of_mem _ h)
theorem sortK_mem {α : Type} {q : α × KV} : ∀ {l : List (α × KV)}, q ∈ sortK l → q ∈ l
  | [], h => h
  | p :: r, h => by
    rcases insK_mem h with h | h
    · rw [h]; exact List.mem_cons_self ..
    · exact List.mem_cons_of_mem _ (sortK_mem h)
theorem dq_pairs {K : PySem.W.Frag} {G : Hp} : ∀ {l : List ((V × D) × KV)}, (∀ q ∈ l, Dq K G q.1.1 q.1.2) → DqAll K G (l.map fun q => q.1.1) (l.map fun q => q.1.2)
  | [], _ => .nil
  | q :: r, h => .cons (h q (List.mem_cons_self ..)) (dq_pairs fun z hz => h z (List.mem_cons_of_mem _ hz))
theorem dq_zip {K : PySem.W.Frag} {G : Hp} : ∀ {vs : List V} {l : List D}, DqAll K G vs l → ∀ q ∈ vs.zip l, Dq K G q.1 q.2
  | _, _, .nil, q, h => by cases h
  | _, _, .cons a r, q, h => by
    rcases List.mem_cons.mp h with h | h
    · rw [h]; exact a
    · exact dq_zip r q h
/-- the key that a def makes -/
def keyOfD : D → Option KV
  | .tuple [.int t, .int i] => if t = 0 then some (.n i) else none
  | .tuple [.int t, .str x] => if t = 1 then some (.s x) else none
  | _ => none
def keyBy (mk : FM) (d : D) : Option KV := match mk [.dat d] with
  | some (.ret (.dat t) _) => keyOfD t
  | _ => none
def keysBy (mk : FM) : List D → Option (List (D × KV))
  | [] => some []
  | d :: ds => match keyBy mk d, keysBy mk ds with
    | some k, some r => some ((d, k) :: r)
    | _, _ => none
def mSortK (mk : FM) (me : M R) : M R := bnd me fun r ρ => match itsL r ρ with
  | some l => match keysBy mk l with
    | some ks => some (.ok (.own (.dl ((sortK ks).map (·.1)))) ρ)
    | none => none
  | none => none
theorem keysBy_map {mk : FM} : ∀ {l : List D} {ks : List (D × KV)}, keysBy mk l = some ks → ks.map (·.1) = l ∧ ∀ q ∈ ks, keyBy mk q.1 = some q.2
  | [], _, h => by cases h; exact ⟨rfl, fun q hq => by cases hq⟩
  | d :: ds, ks, h => by
    unfold keysBy at h
    split at h
    · rename_i k r e1 e2
      cases h
      obtain ⟨a, b⟩ := keysBy_map e2
      refine ⟨by rw [List.map_cons, a], fun q hq => ?_⟩
      rcases List.mem_cons.mp hq with hq | hq
      · rw [hq]; exact e1
      · exact b q hq
    · cases h
theorem hid0 {P : Ft} {H : Hp} (z : ∀ a, P a = 0) : Same H (hid P H) := fun a o h => hid_at (z a) h
theorem keyD_ok {K : PySem.W.Frag} {G : Hp} {v : V} {t : D} {k : KV} (h : Dq K G v t) (e : keyOfD t = some k) : ∃ p, v = .ref p ∧ SqT K G p (keyV k) := by
  unfold keyOfD at e
  split at e
  · rename_i t i
    split at e
    · rename_i z
      cases e
      subst z
      cases h with
      | tup sq r =>
      cases r with
      | cons a r =>
      cases r with
      | cons b r =>
      cases r
      cases a
      cases b
      exact ⟨_, rfl, sq⟩
    · cases e
  · rename_i t i
    split at e
    · rename_i z
      cases e
      subst z
      cases h with
      | tup sq r =>
      cases r with
      | cons a r =>
      cases r with
      | cons b r =>
      cases r
      cases a
      cases b
      exact ⟨_, rfl, sq⟩
    · cases e
  · cases e
theorem key_ok {K : PySem.W.Frag} {mg : Str → Option Value} {mk : FM} {v : V} {d : D} {k : KV} {H : Hp} (h : Dq K H v d) (e : keyBy mk d = some k) :
    sp0 K mg 1 mk [v] H (fun u H2 => Same H H2 ∧ ∃ p, u = .ref p ∧ SqT K H2 p (keyV k)) (fun _ _ _ => False) := by
  unfold keyBy at e
  split at e
  · rename_i t as' em
    refine ⟨fun _ => .non, zer, add zer zer, [.dat d], _, rfl, .cons (.dat (Dq_same (hid0 fun _ => rfl) h)) .nil, fun a => Nat.zero_le _, fun a z => absurd rfl z, em, ?_⟩
    rintro u H' F' Ft ⟨_, p2, _, _, _, p6⟩
    cases p2 with
    | dat dq =>
    obtain ⟨p, rfl, sq⟩ := keyD_ok dq e
    exact ⟨((hid0 fun _ => rfl).trans p6).trans hid_sub, p, rfl, Tl.Same.tup hid_sub sq⟩
  · cases e
section
variable {X : Cx} {E : XK} {e : Expr} {pos p p2 kpos : Pos} {B : Bs} {O O' : Ft} {A A' A1 : Al} {ρ ρ1 : Fr} {σ : L2.St} {H H' H1 : Hp} {K : PySem.W.Frag} {mg : Str → Option Value} {mm : Mg}
/-- more in the heap: what was there stays, q is new -/
theorem StC.grown (S : StC K mg B O A ρ σ H) (s : Same H H') {q : Addr} {o : HO} (nq : H q = none) (hq : H' q = some o) : StC K mg B (add O (one q)) A ρ σ H' ∧ Stp O A H (add O (one q)) A H' := by
  have z := S.free nq
  have eq : ∀ a, H a ≠ none → H' a = H a := fun a n => by
    cases h : H a with
    | none => exact absurd h n
    | some u => exact s a u h
  have sh : Same (hid (tot O A) H) (hid (tot (add O (one q)) A) H') := fun a u h => by
    obtain ⟨h1, h2⟩ := hid_some h
    have ne : a ≠ q := fun e => by rw [e, nq] at h2; cases h2
    refine hid_at ?_ (s a u h2)
    have := one_ne ne
    unfold tot add at h1 ⊢
    omega
  have keep : ∀ a, sumF A a ≠ 0 → H' a = H a := fun a n => eq a (S.al a (by unfold tot add; omega))
  have le : ∀ a, tot (add O (one q)) A a ≤ 1 := fun a => by
    have h1 := S.le1 a
    by_cases e : a = q
    · subst e
      have h2 : one a a = 1 := one_self
      unfold tot add at *
      omega
    · have := one_ne e
      unfold tot add at *
      omega
  have nn : ∀ a, tot (add O (one q)) A a ≠ 0 → H' a ≠ none := fun a h => by
    by_cases e : a = q
    · subst e; rw [hq]; simp
    · have h3 := one_ne e
      have h4 : tot O A a ≠ 0 := by unfold tot add at *; omega
      have := S.al a h4
      rw [eq a this]
      exact this
  exact ⟨S.move sh keep le nn, ⟨⟨fun a h => eq a (S.al a (by unfold tot add; omega)), sh⟩, fun _ _ h => h⟩⟩
theorem de_sortK {x px : Str} {k j : Nat} {mk : FM} {m : M R} (c : PrG X.prog X.w X.K X.mg X.base CX0 k x [px] (sp0 X.K X.mg 1 mk)) (quiet : Quiet X.A) (hr : Room j X.A) (hk : k + 2 ≤ j) (hg : Gl X x) (hs : Gl X "sorted") (hm : X.mg "sorted" = none) (he : DE X E e m)
    (hdb : (x == ("__debug__" : Str)) = false := by decide)
    (h1 : backTo pos (starEach [e] X.env) = (false, eval e X.env) :: backTo pos (starEach [] X.env) := by rfl) (h2 : (backTo pos (starEach [e] X.env)).any (·.1) = false := by rfl) (h0 : starEach [e] X.env = (false, eval e X.env) :: starEach [] X.env := by rfl)
    (h3 : (backToKw pos (keywordEach [⟨some "key", .Name x p2, kpos⟩] X.env)).all (·.1.isSome) = true := by rfl) (h4 : (backToKw pos (keywordEach [⟨some "key", .Name x p2, kpos⟩] X.env)).any (·.1.isNone) = false := by rfl)
    (h5 : (backToKw pos (keywordEach [⟨some "key", .Name x p2, kpos⟩] X.env)).filterMap (·.1) = [Str.ofString "key"] := by rfl) :
    DE X E (.Call (.Name "sorted" p) [e] [⟨some "key", .Name x p2, kpos⟩] pos) (mSortK mk m) := by
  obtain ⟨f, fd, hf, kp, b, F⟩ := c.ex
  refine ⟨pe_imp (pe_callBK (cr_sortKeyG F b quiet (hr.mono hk)) hs hm boot_sorted (pa_cons he.pe pa_nil h0) (pk_cons (pe_glob (v := .ref f) hg hf rfl hdb) pk_nil) (by decide) (by decide) h1 h2 h3 h4 h5) fun σ H Q h => ?_⟩
  obtain ⟨B, O, A, ρ, out, S, hm, kk⟩ := h
  show ERun _ _ _ _ _ _ _
  refine run_bnd S hm kk.exc fun r ρ1 v H1 A1 F hk S1 rr1 st1 x1 => ?_
  split at hk
  · rename_i l e1
    split at hk
    · rename_i ks e2
      cases hk
      obtain ⟨a, vs, rfl, sq, dq⟩ := S1.itsL rr1 e1
      obtain ⟨ek, kb⟩ := keysBy_map e2
      have lv := DqAll_len dq
      have lk : ks.length = vs.length := by rw [lv, ← ek, List.length_map]
      -- the items with their data and keys
      let ts : List ((V × D) × KV) := (vs.zip ks).map fun p => ((p.1, p.2.1), p.2.2)
      have t1 : ts.map (fun q => q.1.1) = vs := by
        show ((vs.zip ks).map _).map _ = vs
        rw [List.map_map]
        show (vs.zip ks).map Prod.fst = vs
        exact List.map_fst_zip (by omega)
      have t2 : ts.map (fun q => (q.1.2, q.2)) = ks := by
        show ((vs.zip ks).map _).map _ = ks
        rw [List.map_map]
        show (vs.zip ks).map Prod.snd = ks
        exact List.map_snd_zip (by omega)
      have td : ∀ q ∈ ts, Dq X.K (hid (tot (add O F) A1) H1) q.1.1 q.1.2 ∧ keyBy mk q.1.2 = some q.2 := fun q hq => by
        obtain ⟨⟨y, z⟩, hp, rfl⟩ := List.mem_map.mp hq
        refine ⟨?_, kb z (List.of_mem_zip hp).2⟩
        refine dq_zip dq (y, z.1) ?_
        rw [← ek, List.zip_map_right]
        exact List.mem_map.mpr ⟨(y, z), hp, rfl⟩
      have tb : (ts.map fun q => (q.1.1, q.2)).map (·.1) = vs := by rw [List.map_map]; exact t1
      refine ⟨a, ts.map fun q => (q.1.1, q.2), rfl, rfl, by rw [tb]; exact sq, fun x hx H2 s2 => ?_, fun H2 q s2 nq hq => ?_⟩
      · obtain ⟨y, hy, rfl⟩ := List.mem_map.mp hx
        obtain ⟨d1, d2⟩ := td y hy
        exact key_ok (Dq_same (Same.trans hid_sub s2) d1) d2
      · have le : ∀ a, O a ≤ add O F a := fun a => le_add a
        obtain ⟨S2, st2⟩ := (S1.weak le).grown s2 nq hq
        have so : ((ts.map fun q => (q.1.1, q.2)).mergeSort leK).map (·.1) = (sortK ts).map fun q => q.1.1 := by
          have e3 : (leK : V × KV → V × KV → Bool) = leP := by funext p q; exact leK_eq p q
          rw [e3, sortK_eq, ← sortK_map (fun z : V × D => z.1), List.map_map]
          rfl
        have sd : (sortK ks).map (·.1) = (sortK ts).map fun q => q.1.2 := by
          rw [← t2, ← sortK_map (fun z : V × D => z.2), List.map_map]
          rfl
        rw [so] at hq
        have dd : DqAll X.K (hid (tot (add O F) A1) H1) ((sortK ts).map fun q => q.1.1) ((sortK ts).map fun q => q.1.2) := dq_pairs fun z hz => (td z (sortK_mem hz)).1
        refine kk.oks _ H2 A1 (one q) S2 ?_ ((st1.weak le).trans st2 fun _ n => n)
        rw [sd]
        exact .dl hq (DqAll_same ((hid_weak le).trans st2.sh) dd)
    · cases hk
  · cases hk
end
end XM
end
section
/-! defs with defaults; facts of classes -/
namespace XM
open PySem PySem.Spec PyProof.Rows L2 Tl
section
variable {P : Program} {w : World} {K : PySem.W.Frag} {mg : Str → Option Value} {base : Heap} {x : Str} {st : Stmt} {N ps : List Str} {k : Nat}
theorem fnG_ofD {CX : CXT} {f : Addr} {qual : Str} {fd : FuncData} {sp : Sp} {advs : List V} {kws : List (Str × V)} (F : FunD K x qual (defArgs st) (defBody st) (defScope st) advs kws f fd) (S : FnScope N ps (defScope st)) (len : ∀ vs H Q E, sp vs H Q E → vs.length = ps.length)
    (hb : ∀ (cdv : Value) (A : Around) (outer : List Env) (s : Shared) (H : Hp) (vs : List V) (Q : VK) (E : XK), Quiet (A.deeper (envOfC qual (defScope st) s.heap.objs.size f cdv)) → Room k (A.deeper (envOfC qual (defScope st) s.heap.objs.size f cdv)) → sp vs H Q E →
      ∃ t, PSs (cxOf CX P w K mg base N qual (defScope st) f cdv A outer s H E) (defBody st) t ∧ t { nx := fun _ H' => Q .non H', rt := Q } (L2.start N vs) H) : FnG P w K mg base CX (k + 1) f fd ps sp := by
  obtain ⟨oc, od, dV, kV, doc, pm, an, cdv, ct, osl, rfl, lk, hcd, _, _⟩ := F.ex
  refine ⟨len, fun A outer s H args us vs Q E quiet room env bound vals want => ?_⟩
  have size := len _ _ _ _ want
  have written : K.In s.heap := env.mod.kin.keeps fun b o e => (env.bs b o e).1
  have nolim : s.heap.NoLimit := env.mod.nolimit.keeps fun b o e => (env.bs b o e).1
  have kinds : ∀ y ∈ ps.zip us, (defScope st).names.lookup y.1 = some .local ∨ ((defScope st).names.lookup y.1 = some .cell ∧ ((cellsFrom (s.heap.objs.size + 1) (defScope st).names []).lookup y.1).isSome = true) := by
    rintro ⟨n, v⟩ hy
    exact (S.par n (List.of_mem_zip hy).1).imp id fun q => ⟨q, PySem.W.cellsFrom_some _ _ _ (.inl q)⟩
  refine codeAny_call_function room.depth (written _ _ lk) rfl S.co S.gen rfl (PySem.W.codeRec_of written hcd) (bound _ _ _ _ ?_)
  refine wpAny_newFunctionEnv_cells S.kind kinds fun e0 he s1 incall => ?_
  subst he
  refine ⟨nolim.keeps incall.toInCall.keep, codeAny_func ?_⟩
  obtain ⟨t, ht, hq⟩ := hb cdv A outer s H vs Q E quiet (room.deeper _) want
  have I1 : Inv (cxOf CX P w K mg base N qual (defScope st) f cdv A outer s H E) [] (L2.start N vs) H s1 := inv_start S room.hd env size vals incall
  refine wpAny_mono (ht.run [] s1 (L2.start N vs) H _ I1 hq) (fun fl s2 hs => ?_) fun _ _ q => q
  have ended : ∀ {σ2 : L2.St} {H2 : Hp} {v : V} {u : Value}, Inv (cxOf CX P w K mg base N qual (defScope st) f cdv A outer s H E) [] σ2 H2 s2 → RelV v u → Q v H2 → CE outer P w H s Q u s2 := fun {_ H2 v _} J rv q => ⟨v, H2, J.os, J.bare, J.base, J.hok, rv, q⟩
  cases fl with
  | brk => exact hs.elim fun _ h => h.elim fun _ h => h.2.elim
  | cont => exact hs.elim fun _ h => h.elim fun _ h => h.2.elim
  | next => exact hs.elim fun _ h => h.elim fun _ h => ended (v := .non) (u := .none) h.1 rfl h.2
  | ret u => exact hs.elim fun _ h => h.elim fun _ h => h.elim fun _ h => ended h.1 h.2.1 h.2.2
/-- the class named c is made by its name; its __init__ has defaults, of which dts fill up -/
structure IniE (K : PySem.W.Frag) (mg : Str → Option Value) (c qual : Str) (st : Stmt) (ps : List Str) (dts : List D) : Prop where
  ex : ∃ C f fd ds dvs advs, mg c = some (.ref C) ∧ Mk K C f ∧ FunD K "__init__" qual (defArgs st) (defBody st) (defScope st) advs [] f fd ∧ L2.Binds K fd ps ds ∧ Vals dvs ds ∧ ∀ G, DqAll K G dvs dts
/-- the def named x has defaults, of which dts fill up -/
structure DfE (K : PySem.W.Frag) (mg : Str → Option Value) (x : Str) (st : Stmt) (ps : List Str) (dts : List D) : Prop where
  ex : ∃ f fd ds dvs advs, mg x = some (.ref f) ∧ FunD K x x (defArgs st) (defBody st) (defScope st) advs [] f fd ∧ L2.Binds K fd ps ds ∧ Vals dvs ds ∧ ∀ G, DqAll K G dvs dts
theorem in0e {c qual : Str} {n j : Nat} {b : SM} {dts : List D} (D : IniE K mg c qual st ps dts) (S : FnScope N ps (defScope st)) (hl : ps.length ≤ N.length) (hn : N.length = n) (hj : ps.length = j)
    (hb : ∀ (f : Addr) (cdv : Value) (A : Around) (outer : List Env) (s : Shared) (H : Hp) (E : XK), Quiet (A.deeper (envOfC qual (defScope st) s.heap.objs.size f cdv)) → Room k (A.deeper (envOfC qual (defScope st) s.heap.objs.size f cdv)) → DSs (cxOf CX0 P w K mg base N qual (defScope st) f cdv A outer s H E).nox (fun _ _ _ => False) (defBody st) b) :
    IniG P w K mg base CX0 (k + 1) c j dts (sp0 K mg j (mDef n b)) := by
  subst hn hj
  obtain ⟨C, f, fd, ds, dvs, advs, hc, me, F, bi, vd, dq⟩ := D.ex
  refine ⟨C, f, fd, ps, ds, dvs, hc, me, fnG_ofD F S (fun vs H Q E h => sp_len h) fun cdv A outer s H vs Q E hq hr h => ?_, bi, vd, dq, rfl⟩
  obtain ⟨η, O, F, as, out, e, p1, p2, p3, hm, kk⟩ := h
  exact ⟨_, (hb f cdv A outer s H E hq hr).pss.nox, body_run p1 p2 p3 (by rw [e]; exact hl) hm kk⟩
theorem cal0e {n j q : Nat} {b : SM} {dts : List D} (D : DfE K mg x st ps dts) (S : FnScope N ps (defScope st)) (hl : ps.length ≤ N.length) (hn : N.length = n) (hj : ps.length = j) (hq : q + dts.length = j)
    (hb : ∀ (f : Addr) (cdv : Value) (A : Around) (outer : List Env) (s : Shared) (H : Hp) (E : XK), Quiet (A.deeper (envOfC x (defScope st) s.heap.objs.size f cdv)) → Room k (A.deeper (envOfC x (defScope st) s.heap.objs.size f cdv)) → DSs (cxOf CX0 P w K mg base N x (defScope st) f cdv A outer s H E).nox (fun _ _ _ => False) (defBody st) b) :
    CalG P w K mg base (k + 1) x q dts (mDef n b) := by
  subst hn hq
  obtain ⟨f, fd, ds, dvs, advs, hm, F, bi, vd, dq⟩ := D.ex
  refine ⟨f, fd, ps, ds, dvs, hm, F.kp, bi, vd, dq, hj, fnG_ofD F S (fun vs H Q E h => (sp_len h).trans hj.symm) fun cdv A outer s H vs Q E hq hr h => ?_⟩
  obtain ⟨η, O, F, as, out, e, p1, p2, p3, hm, kk⟩ := h
  exact ⟨_, (hb f cdv A outer s H E hq hr).pss.nox, body_run p1 p2 p3 (by rw [e, ← hj]; exact hl) hm kk⟩
theorem fk1 {f c : Str} (h : FldK K mg f c) : ∀ c' ∈ [c], FldK K mg f c' := fun c' m => by rw [List.mem_singleton.mp m]; exact h
theorem fk2 {f c d : Str} (h : FldK K mg f c) (h' : FldK K mg f d) : ∀ c' ∈ [c, d], FldK K mg f c' := fun c' m => by
  rcases List.mem_cons.mp m with m | m
  · rw [m]; exact h
  · rw [List.mem_singleton.mp m]; exact h'
variable {h : Heap}
theorem fldk_mk {f c : Str} {C : Addr} (X : K.In h) (G : h.Ns mainGlobals mg) (g : PySem.W.nsIn K mainGlobals c = some (some (.ref C))) (cl : Cls K C) (n : NoAttr K C f) : FldK K mg f c := fun C' e => by
  have e2 := PySem.W.mg_of X G g
  rw [e] at e2
  cases e2
  exact ⟨cl, n⟩
theorem mdn_mk {c m qual : Str} {C f : Addr} {oc : Value} {od an : Option Addr} {osl : Array (Option Value)} {kV doc pm cdv ct : Value} (X : K.In h) (G : h.Ns mainGlobals mg)
    (g : PySem.W.nsIn K mainGlobals c = some (some (.ref C))) (cl : Cls K C) (me : Meth K C m f) (l : K.lookup f = some ⟨oc, od, .func (PySem.W.fnOf m qual (defArgs st) (defBody st) (defScope st) .none kV doc pm an cdv ct), osl⟩) (cd : PySem.W.codeIn K cdv qual = true)
    (b : ∀ (kV doc pm : Value) (an : Option Addr) (cdv ct : Value) (us : List Value), us.length = ps.length → bindArgs (PySem.W.fnOf m qual (defArgs st) (defBody st) (defScope st) .none kV doc pm an cdv ct) ⟨us, []⟩ = pure (ps.zip us)) : MDnG K mg c m qual st ps [] := by
  have F := fun_mk l cd me.kp
  exact ⟨C, f, _, [], [], PySem.W.mg_of X G g, cl, me, F, F.binds b, .nil, fun _ => .nil⟩
theorem ini_mk {c qual : Str} {C f : Addr} {oc : Value} {od an : Option Addr} {osl : Array (Option Value)} {kV doc pm cdv ct : Value} (X : K.In h) (G : h.Ns mainGlobals mg)
    (g : PySem.W.nsIn K mainGlobals c = some (some (.ref C))) (me : Mk K C f) (kf : PySem.W.keepIn K (.ref f) = true) (l : K.lookup f = some ⟨oc, od, .func (PySem.W.fnOf "__init__" qual (defArgs st) (defBody st) (defScope st) .none kV doc pm an cdv ct), osl⟩) (cd : PySem.W.codeIn K cdv qual = true)
    (b : ∀ (kV doc pm : Value) (an : Option Addr) (cdv ct : Value) (us : List Value), us.length = ps.length → bindArgs (PySem.W.fnOf "__init__" qual (defArgs st) (defBody st) (defScope st) .none kV doc pm an cdv ct) ⟨us, []⟩ = pure (ps.zip us)) : IniD K mg c qual st ps [] := by
  have F := fun_mk l cd kf
  exact ⟨C, f, _, [], [], PySem.W.mg_of X G g, me, F, F.binds b, .nil, fun _ => .nil⟩
/-- a def with defaults, all of them texts of the module: T is the tuple of them -/
theorem dfl_mk {T : Addr} {od : Option Addr} {its : Array Value} {n : Nat} {sl : Array (Option Value)} {advs : List V} (l : K.lookup T = some ⟨.type "tuple", od, .seq its n, sl⟩) (ne : advs ≠ []) (hv : Vals advs its.toList) : DflV K (.ref T) advs :=
  .inr ⟨ne, T, _, its.toList, n, rfl, l, by simp, hv⟩
theorem fund_mk {qual : Str} {f : Addr} {oc : Value} {od an : Option Addr} {osl : Array (Option Value)} {dV kV doc pm cdv ct : Value} {advs : List V} (l : K.lookup f = some ⟨oc, od, .func (PySem.W.fnOf x qual (defArgs st) (defBody st) (defScope st) dV kV doc pm an cdv ct), osl⟩) (c : PySem.W.codeIn K cdv qual = true) (dd : DflV K dV advs) (kp : PySem.W.keepIn K (.ref f) = true) :
    FunD K x qual (defArgs st) (defBody st) (defScope st) advs [] f (PySem.W.fnOf x qual (defArgs st) (defBody st) (defScope st) dV kV doc pm an cdv ct) := ⟨⟨oc, od, dV, kV, doc, pm, an, cdv, ct, osl, rfl, l, c, dd, .inl rfl⟩, kp⟩
/-- .. made: n values are given, of the defaults those behind the first j fill up -/
theorem inie_mk {c qual : Str} {C f : Addr} {fd : FuncData} {advs : List V} {dts : List D} (n j : Nat) (X : K.In h) (G : h.Ns mainGlobals mg)
    (g : PySem.W.nsIn K mainGlobals c = some (some (.ref C))) (me : Mk K C f) (F : FunD K "__init__" qual (defArgs st) (defBody st) (defScope st) advs [] f fd) (ne : advs ≠ []) (hn : n + (advs.length - j) = ps.length)
    (b : ∀ (T : Addr) (kV doc pm : Value) (an : Option Addr) (cdv ct : Value) (us its : List Value), us.length = n → its.length = advs.length →
      ∃ k, bindArgs (PySem.W.fnOf "__init__" qual (defArgs st) (defBody st) (defScope st) (.ref T) kV doc pm an cdv ct) ⟨us, []⟩ = seqItems? (.ref T) >>= k ∧ k (some its.toArray) = pure (ps.zip (us ++ its.drop j)))
    (dq : ∀ G, DqAll K G (advs.drop j) dts) : IniE K mg c qual st ps dts := by
  obtain ⟨ds, vd, bi⟩ := F.binds1 n j ne hn b
  exact ⟨C, f, fd, ds, _, advs, PySem.W.mg_of X G g, me, F, bi, vd, dq⟩
theorem dfe_mk {f : Addr} {fd : FuncData} {advs : List V} {dts : List D} (n j : Nat) (X : K.In h) (G : h.Ns mainGlobals mg)
    (g : PySem.W.nsIn K mainGlobals x = some (some (.ref f))) (F : FunD K x x (defArgs st) (defBody st) (defScope st) advs [] f fd) (ne : advs ≠ []) (hn : n + (advs.length - j) = ps.length)
    (b : ∀ (T : Addr) (kV doc pm : Value) (an : Option Addr) (cdv ct : Value) (us its : List Value), us.length = n → its.length = advs.length →
      ∃ k, bindArgs (PySem.W.fnOf x x (defArgs st) (defBody st) (defScope st) (.ref T) kV doc pm an cdv ct) ⟨us, []⟩ = seqItems? (.ref T) >>= k ∧ k (some its.toArray) = pure (ps.zip (us ++ its.drop j)))
    (dq : ∀ G, DqAll K G (advs.drop j) dts) : DfE K mg x st ps dts := by
  obtain ⟨ds, vd, bi⟩ := F.binds1 n j ne hn b
  exact ⟨f, fd, ds, _, advs, PySem.W.mg_of X G g, F, bi, vd, dq⟩
/-! ### a dict of the module: tuples of texts -/
def RowOkG (K : PySem.W.Frag) (e : DictEntry) (p : Str × List Str) : Prop := (∃ t, e.key = .str p.1 t) ∧ ∃ a, e.val = .ref a ∧ ∀ H, SqT K H a (p.2.map V.str)
theorem tupKG {a : Addr} {od : Option Addr} {its : Array Value} {n : Nat} {sl : Array (Option Value)} {xs : List V} (l : K.lookup a = some ⟨.type "tuple", od, .seq its n, sl⟩) (hv : Vals xs its.toList) (hz : its.size ≤ sizeLine) : ∀ H, SqT K H a xs :=
  fun H => .inr ⟨_, its, n, l, rfl, rfl, hz, hv⟩
theorem row_findG (k : Str) : ∀ {es : List DictEntry} {ps : List (Str × List Str)}, Paired (RowOkG K) es ps →
    (ps.lookup k = none → (es.find? fun e => Value.isStrOf k e.key).map (·.val) = none) ∧ ∀ fs, ps.lookup k = some fs → ∃ a, (es.find? fun e => Value.isStrOf k e.key).map (·.val) = some (.ref a) ∧ ∀ H, SqT K H a (fs.map V.str)
  | _, _, .nil => ⟨fun _ => rfl, fun _ h => by cases h⟩
  | e :: es, p :: ps, .cons h t => by
    obtain ⟨⟨tk, hk⟩, a, hv, sq⟩ := h
    obtain ⟨r1, r2⟩ := row_findG k t
    have eb : Value.isStrOf k e.key = (k == p.1) := by
      rw [hk]
      by_cases z : p.1 = k
      · rw [z]; simp [Value.isStrOf]
      · have z2 : ¬ k = p.1 := fun w => z w.symm
        show (p.1 == k) = (k == p.1)
        rw [beq_eq_false_iff_ne.mpr z, beq_eq_false_iff_ne.mpr z2]
    rw [List.lookup_cons, List.find?_cons, eb]
    cases c : k == p.1 with
    | true => exact ⟨fun h => (by cases h), fun fs h => (by obtain rfl := Option.some.inj h; exact ⟨a, (by rw [← hv]; rfl), sq⟩)⟩
    | false => exact ⟨r1, r2⟩
theorem gd_mk {d : Addr} {es : Array DictEntry} {n : Nat} {tb : List (Str × List Str)} (X : K.In h) (G : h.Ns mainGlobals mg) (g : PySem.W.nsIn K mainGlobals x = some (some (.ref d))) (low : (d == sysModules) = false)
    (l : K.lookup d = some ⟨.type "dict", none, .dict es n, #[]⟩) (lit : PySem.W.KeysLit w.params es.toList) (rows : Paired (RowOkG K) es.toList tb) : GD K w mg x tb :=
  ⟨d, es, n, ⟨_, PySem.W.mg_of X G g, rfl⟩, ⟨l, lit, low⟩, fun k => by
    have z := row_findG (K := K) k rows
    unfold findBy
    rw [← Array.find?_toList]
    exact z⟩
end
end XM
end
section
/-! calls without arguments; one sign in a text -/
namespace XM
open PySem PySem.Spec PyProof.Rows L2 Tl
def fInC : D → D → Option D
  | .str x, .str z => match x.cps.toList with
    | [c] => some (.bool (decide (c ∈ z.cps.toList)))
    | _ => none
  | _, _ => none
def fNotInC : D → D → Option D
  | .str x, .str z => match x.cps.toList with
    | [c] => some (.bool (!decide (c ∈ z.cps.toList)))
    | _ => none
  | _, _ => none
theorem one_sign {x : Str} {c : Nat} (h : x.cps.toList = [c]) : x = ⟨#[c]⟩ := by
  obtain ⟨⟨l⟩⟩ := x
  cases h
  rfl
theorem opa_inC {K : PySem.W.Frag} : OpA K (fun x y H Q => ∃ (c : Nat) (z : Str), x = .str ⟨#[c]⟩ ∧ y = .str z ∧ Q (.bl (decide (c ∈ z.cps.toList))) H) fInC := fun H x y d e z Q hx hy h k => by
  cases hx <;> cases hy <;> simp only [fInC] at h <;> try cases h
  split at h
  · rename_i c e1
    cases h
    exact ⟨c, _, by rw [one_sign e1], rfl, k _ (.bl _)⟩
  · cases h
theorem opa_notInC {K : PySem.W.Frag} : OpA K (fun x y H Q => ∃ (c : Nat) (z : Str), x = .str ⟨#[c]⟩ ∧ y = .str z ∧ Q (.bl (!decide (c ∈ z.cps.toList))) H) fNotInC := fun H x y d e z Q hx hy h k => by
  cases hx <;> cases hy <;> simp only [fNotInC] at h <;> try cases h
  split at h
  · rename_i c e1
    cases h
    exact ⟨c, _, by rw [one_sign e1], rfl, k _ (.bl _)⟩
  · cases h
section
variable {X : Cx} {E : XK} {x : Str} {m : FM} {k j : Nat} {p pos : Pos}
theorem de_call0 (c : PrG X.prog X.w X.K X.mg X.base CX0 k x [] (sp0 X.K X.mg 0 m)) (quiet : Quiet X.A) (hr : Room j X.A) (hk : k ≤ j) (hg : Gl X x) (hdb : (x == ("__debug__" : Str)) = false := by decide) :
    DE X E (.Call (.Name x p) [] [] pos) (mCall0 m []) := by
  refine ⟨pe_imp (pe_k0G (E := E) c quiet hr hk (fun _ _ _ _ _ _ _ h => h.elim) hg hdb) fun σ H Q h => ?_⟩
  obtain ⟨B, O, A, ρ, out, S, hm, k⟩ := h
  refine arun_nil (K := X.K) (mg := X.mg) (E := E) (Q := fun vs H1 => sp0 X.K X.mg 0 m (vs ++ []) H1 Q E) (σ := σ) ?_
  refine run_args S hm k.exc fun rs ρ1 vs H1 A1 F hk hl S1 rr1 st1 => ?_
  rw [List.append_nil]
  obtain ⟨r, ρ', rfl, e1⟩ := noEx_some hk
  exact call_ok S1 rr1 hl e1 st1 (fun c ρ' z => nomatch z) fun r ρ' z => by cases z; exact k.oks
end
end XM
end
section
/-! an object that a name holds, while its owner's method runs -/
namespace XM
open PySem PySem.Spec PyProof.Rows L2 Tl
mutual
def T.noH (i : Nat) : T → Bool
  | .hole j => !(j == i)
  | .ol l => noHs i l
  | .ot l => noHs i l
  | .od l => noHk i l
  | .ins _ l => noHf i l
  | .dat _ => true
  | .fn _ => true
  | .dl _ => true
  | .dd _ => true
  | .gone => true
  | .frz _ => true
def noHs (i : Nat) : List T → Bool
  | [] => true
  | t :: r => t.noH i && noHs i r
def noHk (i : Nat) : List (Key × T) → Bool
  | [] => true
  | p :: r => noHkp i p && noHk i r
def noHkp (i : Nat) : Key × T → Bool
  | (_, t) => t.noH i
def noHf (i : Nat) : List (Str × T) → Bool
  | [] => true
  | p :: r => noHfp i p && noHf i r
def noHfp (i : Nat) : Str × T → Bool
  | (_, t) => t.noH i
end
mutual
def T.unh (i : Nat) : T → T
  | .hole j => if j = i then .gone else .hole j
  | .ol l => .ol (unhs i l)
  | .ot l => .ot (unhs i l)
  | .od l => .od (unhk i l)
  | .ins c l => .ins c (unhf i l)
  | .dat d => .dat d
  | .fn x => .fn x
  | .dl l => .dl l
  | .dd l => .dd l
  | .gone => .gone
  | .frz l => .frz l
def unhs (i : Nat) : List T → List T
  | [] => []
  | t :: r => t.unh i :: unhs i r
def unhk (i : Nat) : List (Key × T) → List (Key × T)
  | [] => []
  | p :: r => unhkp i p :: unhk i r
def unhkp (i : Nat) : Key × T → Key × T
  | (k, t) => (k, t.unh i)
def unhf (i : Nat) : List (Str × T) → List (Str × T)
  | [] => []
  | p :: r => unhfp i p :: unhf i r
def unhfp (i : Nat) : Str × T → Str × T
  | (k, t) => (k, t.unh i)
end
theorem noHk_map {i : Nat} : ∀ {l : List (Key × T)}, noHk i l = noHs i (l.map (·.2))
  | [] => rfl
  | (k, t) :: r => by rw [noHk, noHkp, List.map_cons, noHs, noHk_map (l := r)]
theorem noHf_map {i : Nat} : ∀ {l : List (Str × T)}, noHf i l = noHs i (l.map (·.2))
  | [] => rfl
  | (k, t) :: r => by rw [noHf, noHfp, List.map_cons, noHs, noHf_map (l := r)]
theorem unhk_map {i : Nat} : ∀ {l : List (Key × T)}, (unhk i l).map (·.2) = unhs i (l.map (·.2)) ∧ (unhk i l).map (·.1) = l.map (·.1)
  | [] => ⟨by simp [unhk, unhs], by simp [unhk]⟩
  | (k, t) :: r => by
    obtain ⟨a, b⟩ := unhk_map (i := i) (l := r)
    rw [unhk, unhkp, List.map_cons, List.map_cons, List.map_cons, List.map_cons, unhs, a, b]
    exact ⟨rfl, rfl⟩
theorem unhf_map {i : Nat} : ∀ {l : List (Str × T)}, (unhf i l).map (·.2) = unhs i (l.map (·.2)) ∧ (unhf i l).map (·.1) = l.map (·.1)
  | [] => ⟨by simp [unhf, unhs], by simp [unhf]⟩
  | (k, t) :: r => by
    obtain ⟨a, b⟩ := unhf_map (i := i) (l := r)
    rw [unhf, unhfp, List.map_cons, List.map_cons, List.map_cons, List.map_cons, unhs, a, b]
    exact ⟨rfl, rfl⟩
def setH (η : Nat → V) (i : Nat) (v : V) : Nat → V := fun j => if j = i then v else η j
section
variable {K : PySem.W.Frag} {mg : Str → Option Value} {G H : Hp} {η η' : Nat → V} {i : Nat}
mutual
theorem TR.eta (e : ∀ j, j ≠ i → η' j = η j) : ∀ {t : T} {v : V} {F : Ft}, TR K ⟨mg, η⟩ G H t v F → t.noH i = true → TR K ⟨mg, η'⟩ G H t v F
  | _, _, _, .dat h, _ => .dat h
  | _, _, _, .fn h, _ => .fn h
  | _, _, _, .dl h r, _ => .dl h r
  | _, _, _, .ol h r, q => .ol h (TRs.eta e r (by rw [T.noH] at q; exact q))
  | _, _, _, .ot h r, q => .ot h (TRs.eta e r (by rw [T.noH] at q; exact q))
  | _, _, _, .dd h k r, _ => .dd h k r
  | _, _, _, .od h k r, q => .od h k (TRs.eta e r (by rw [T.noH, noHk_map] at q; exact q))
  | _, _, _, .ins c h k r, q => .ins c h k (TRs.eta e r (by rw [T.noH, noHf_map] at q; exact q))
  | _, _, _, .gone, _ => .gone
  | _, _, _, .frz h, _ => .frz h
  | _, _, _, .hole (i := j), q => by
    have ne : j ≠ i := fun z => by subst z; rw [T.noH] at q; simp at q
    have h : TR K ⟨mg, η'⟩ G H (.hole j) (η' j) zer := .hole
    rw [e j ne] at h
    exact h
theorem TRs.eta (e : ∀ j, j ≠ i → η' j = η j) : ∀ {ts : List T} {vs : List V} {F : Ft}, TRs K ⟨mg, η⟩ G H ts vs F → noHs i ts = true → TRs K ⟨mg, η'⟩ G H ts vs F
  | _, _, _, .nil, _ => .nil
  | _, _, _, .cons h r, q => by
    rw [noHs, Bool.and_eq_true] at q
    exact .cons (TR.eta e h q.1) (TRs.eta e r q.2)
end
mutual
theorem TR.unh (e : ∀ j, j ≠ i → η' j = η j) : ∀ {t : T} {v : V} {F : Ft}, TR K ⟨mg, η⟩ G H t v F → TR K ⟨mg, η'⟩ G H (t.unh i) v F
  | _, _, _, .dat h => by rw [T.unh]; exact .dat h
  | _, _, _, .fn h => by rw [T.unh]; exact .fn h
  | _, _, _, .dl h r => by rw [T.unh]; exact .dl h r
  | _, _, _, .ol h r => by rw [T.unh]; exact .ol h (TRs.unh e r)
  | _, _, _, .ot h r => by rw [T.unh]; exact .ot h (TRs.unh e r)
  | _, _, _, .dd h k r => by rw [T.unh]; exact .dd h k r
  | _, _, _, .od h k r => by rw [T.unh]; exact .od h (by rw [unhk_map.2]; exact k) (by rw [unhk_map.1]; exact TRs.unh e r)
  | _, _, _, .ins c h k r => by rw [T.unh]; exact .ins c h (by rw [unhf_map.2]; exact k) (by rw [unhf_map.1]; exact TRs.unh e r)
  | _, _, _, .gone => by rw [T.unh]; exact .gone
  | _, _, _, .frz h => by rw [T.unh]; exact .frz h
  | _, _, _, .hole (i := j) => by
    rw [T.unh]
    by_cases z : j = i
    · rw [if_pos z]; exact .gone
    · rw [if_neg z]
      have h : TR K ⟨mg, η'⟩ G H (.hole j) (η' j) zer := .hole
      rw [e j z] at h
      exact h
theorem TRs.unh (e : ∀ j, j ≠ i → η' j = η j) : ∀ {ts : List T} {vs : List V} {F : Ft}, TRs K ⟨mg, η⟩ G H ts vs F → TRs K ⟨mg, η'⟩ G H (unhs i ts) vs F
  | _, _, _, .nil => by rw [unhs]; exact .nil
  | _, _, _, .cons h r => by rw [unhs]; exact .cons (TR.unh e h) (TRs.unh e r)
end
theorem unh_cont {i : Nat} {t : T} (h : (t.unh i).cont = true) : t.cont = true := by
  cases t <;> first | rfl | (rw [T.unh] at h; first | exact h | (split at h <;> exact h))
end
end XM
end
section
/-! the rule: an expression is run while a slot's object stays out of its owner -/
namespace XM
open PySem PySem.Spec PyProof.Rows L2 Tl
def isGoneO : Option T → Bool
  | some .gone => true
  | _ => false
def mark (i k : Nat) (ρ : Fr) : Option ((Nat × Str × Key) × Fr) := match ρ.rt[k]? with
  | some ⟨tk, some (d, .key x)⟩ => match ρ.rt[d]? with
    | some ⟨td, some (n, .fld f)⟩ => if isGoneO (getc (.key x) td) = true ∧ d ≠ k ∧ (ρ.rt.all fun y => y.t.noH i) = true then
        some ((n, f, x), { ρ with rt := (ρ.rt.set d ⟨setc (.hole i) (.key x) td, some (n, .fld f)⟩).set k ⟨tk, none⟩ }) else none
    | _ => none
  | _ => none
def isHole (i : Nat) : Option T → Bool
  | some (.hole j) => j == i
  | _ => false
def relink (n : Nat) (f : Str) (x : Key) (k i : Nat) (ρ : Fr) : Fr := match borrow n (.fld f) ρ with
  | some (.ref d, ρ1) => match ρ1.rt[d]?, ρ1.rt[k]? with
    | some ⟨td, _⟩, some ⟨tk, none⟩ => if isHole i (getc (.key x) td) = true then { ρ1 with rt := ρ1.rt.set k ⟨tk, some (d, .key x)⟩ } else ρ
    | _, _ => ρ
  | _ => ρ
def unhAll (i : Nat) (ρ : Fr) : Fr := { ρ with rt := ρ.rt.map fun x => ⟨x.t.unh i, x.par⟩ }
def unhR (i : Nat) : R → R
  | .own t => .own (t.unh i)
  | r => r
def mHold (slot : Nat) (m : M R) : M R := fun ρ => match ρ.sl[slot]? with
  | some (.ref k) => match mark 0 k ρ with
    | some (q, ρ1) => match m ρ1 with
      | some (.ok r ρ2) => some (.ok (unhR 0 r) (unhAll 0 (relink q.1 q.2.1 q.2.2 k 0 ρ2)))
      | _ => none
    | none => m ρ
  | _ => m ρ
section
variable {K : PySem.W.Frag} {mg : Str → Option Value} {B : Bs} {O O' : Ft} {A A' A1 : Al} {ρ ρ1 : Fr} {σ : L2.St} {H H' H1 : Hp} {i k : Nat}
theorem StC.unmark {η' : Nat → V} (S : StC K mg ⟨B.l, η'⟩ O A ρ σ H) (e : ∀ j, j ≠ i → B.η j = η' j) : StC K mg B O A (unhAll i ρ) σ H where
  le1 := S.le1
  al := S.al
  len := by unfold unhAll; rw [List.length_map]; exact S.len
  rts := fun r x t h1 h2 => by
    unfold unhAll at h2
    rw [List.getElem?_map] at h2
    cases hx : ρ.rt[r]? with
    | none => rw [hx] at h2; cases h2
    | some y =>
      rw [hx] at h2
      cases h2
      exact (S.rts r x y h1 hx).unh e
  par := fun k j p x xj y z h1 h2 h3 h4 h5 h6 => by
    unfold unhAll at h1 h3
    rw [List.getElem?_map] at h1 h3
    cases hx : ρ.rt[k]? with
    | none => rw [hx] at h1; cases h1
    | some x' =>
      rw [hx] at h1
      cases h1
      cases hj : ρ.rt[j]? with
      | none => rw [hj] at h3; cases h3
      | some xj' =>
        rw [hj] at h3
        cases h3
        exact S.par k j p x' xj' y z hx h2 hj (unh_cont h4) h5 h6
  parL := fun m j p x h1 h2 => by
    unfold unhAll at h1 ⊢
    rw [List.getElem?_map] at h1
    rw [List.length_map]
    cases hx : ρ.rt[m]? with
    | none => rw [hx] at h1; cases h1
    | some x' =>
      rw [hx] at h1
      cases h1
      exact S.parL m j p x' hx h2
  bas := S.bas
  bnp := S.bnp
  slen := S.slen
  sls := S.sls
theorem mark_ok {q : Nat × Str × Key} (S : StC K mg B O A ρ σ H) (e : mark i k ρ = some (q, ρ1)) : ∃ v, XM.al A k = some v ∧ StC K mg ⟨B.l, setH B.η i v⟩ O A ρ1 σ H := by
  unfold mark at e
  split at e
  · rename_i tk d x hk
    split at e
    · rename_i td n f hd
      split at e
      · rename_i c
        obtain ⟨c1, c2, c3⟩ := c
        cases e
        obtain ⟨y, hy⟩ := at_len S.len hk
        obtain ⟨z, hz⟩ := at_len S.len hd
        have eta : ∀ j, j ≠ i → setH B.η i y.1 j = B.η j := fun j ne => if_neg ne
        have free : ∀ (r : Nat) (w : Rt), ρ.rt[r]? = some w → w.t.noH i = true := fun r w hw => List.all_eq_true.mp c3 w (List.mem_of_getElem? hw)
        have tr : ∀ (r : Nat) (w : V × Ft) (t : Rt), A[r]? = some w → ρ.rt[r]? = some t → TR K ⟨mg, setH B.η i y.1⟩ (hid (tot O A) H) H t.t w.1 w.2 := fun r w t h1 h2 => (S.rts r w t h1 h2).eta eta (free r t h2)
        have hg : getc (.key x) td = some .gone := by
          unfold isGoneO at c1
          split at c1
          · assumption
          · cases c1
        have cd : td.cont = true := cont_of hg
        have pr := S.par k d (.key x) _ _ y z hk rfl hd cd hy hz
        have hole : TR K ⟨mg, setH B.η i y.1⟩ (hid (tot O A) H) H (setc (.hole i) (.key x) td) z.1 z.2 := by
          obtain ⟨vc, Fc, Fr, g1, g2, g3, g4⟩ := TR.child hid_sub (tr d z _ hz hd) hg
          rw [pr] at g1
          cases g1
          have fz : Fc = zer := by cases g2; rfl
          subst fz
          have h0 : TR K ⟨mg, setH B.η i y.1⟩ (hid (tot O A) H) H (.hole i) (setH B.η i y.1 i) zer := .hole
          have e1 : setH B.η i y.1 i = y.1 := if_pos rfl
          rw [e1] at h0
          have := g4 (.hole i) zer h0
          rw [← g3] at this
          exact this
        have hd' : d < ρ.rt.length := (List.getElem?_eq_some_iff.mp hd).1
        have hk' : k < ρ.rt.length := (List.getElem?_eq_some_iff.mp hk).1
        have look : ∀ (r : Nat) (w : Rt), ((ρ.rt.set d ⟨setc (.hole i) (.key x) td, some (n, .fld f)⟩).set k ⟨tk, none⟩)[r]? = some w →
            (r = k ∧ w = ⟨tk, none⟩) ∨ (r = d ∧ w = ⟨setc (.hole i) (.key x) td, some (n, .fld f)⟩) ∨ (r ≠ k ∧ r ≠ d ∧ ρ.rt[r]? = some w) := fun r w h => by
          rw [List.getElem?_set] at h
          by_cases e1 : k = r
          · rw [if_pos e1, if_pos (by rw [List.length_set]; exact hk')] at h
            cases h
            exact .inl ⟨e1.symm, rfl⟩
          · rw [if_neg e1, List.getElem?_set] at h
            by_cases e2 : d = r
            · rw [if_pos e2, if_pos hd'] at h
              cases h
              exact .inr (.inl ⟨e2.symm, rfl⟩)
            · rw [if_neg e2] at h
              exact .inr (.inr ⟨fun q => e1 q.symm, fun q => e2 q.symm, h⟩)
        refine ⟨y.1, by unfold XM.al; rw [hy]; rfl, S.le1, S.al, by rw [List.length_set, List.length_set]; exact S.len, fun r w t h1 h2 => ?_, fun m j p w wj u u' h1 h2 h3 h4 h5 h6 => ?_, fun m j p w h1 h2 => ?_, S.bas, S.bnp, S.slen, S.sls⟩
        · rcases look r t h2 with ⟨rfl, rfl⟩ | ⟨rfl, rfl⟩ | ⟨_, _, h2⟩
          · have q1 := tr _ w _ h1 hk; exact q1
          · rw [hz] at h1; cases h1; exact hole
          · exact tr r w t h1 h2
        · have old : ∃ wj', ρ.rt[j]? = some wj' ∧ wj'.t.cont = true := by
            rcases look j wj h3 with ⟨rfl, rfl⟩ | ⟨rfl, rfl⟩ | ⟨_, _, h3⟩
            · exact ⟨_, hk, h4⟩
            · exact ⟨_, hd, cd⟩
            · exact ⟨_, h3, h4⟩
          obtain ⟨wj', o1, o2⟩ := old
          rcases look m w h1 with ⟨rfl, rfl⟩ | ⟨rfl, rfl⟩ | ⟨_, _, h1⟩
          · cases h2
          · exact S.par _ j p _ wj' u u' hd h2 o1 o2 h5 h6
          · exact S.par m j p w wj' u u' h1 h2 o1 o2 h5 h6
        · rw [List.length_set, List.length_set]
          rcases look m w h1 with ⟨rfl, rfl⟩ | ⟨rfl, rfl⟩ | ⟨_, _, h1⟩
          · cases h2
          · exact S.parL _ j p _ hd h2
          · exact S.parL m j p w h1 h2
      · cases e
    · cases e
  · cases e
theorem relink_ok {n : Nat} {f : Str} {x : Key} {v : V} (S : StC K mg B O A ρ σ H) (hk : XM.al A k = some v) (hv : B.η i = v) : ∃ A', StC K mg B O A' (relink n f x k i ρ) σ H ∧ Stp O A H O A' H := by
  unfold relink
  split
  · rename_i d ρ1 hb
    split
    · rename_i td pd tk hd hk1
      split
      · rename_i c
        have hn : ∃ u, XM.al A n = some u := by
          unfold borrow at hb
          cases hx : ρ.rt[n]? with
          | none => rw [hx] at hb; cases hb
          | some y => obtain ⟨z, hz⟩ := at_len S.len hx; exact ⟨z.1, by unfold XM.al; rw [hz]; rfl⟩
        obtain ⟨u, hn⟩ := hn
        obtain ⟨vc, A1, c1, S1, rr, st⟩ := S.borrow hn hb
        obtain ⟨_, hd1⟩ := rr
        have hk2 := st.al _ _ hk
        obtain ⟨Fd, hAd, td1⟩ := S1.root hd hd1
        obtain ⟨hg, _⟩ : getc (.key x) td = some (.hole i) ∧ True := by
          unfold isHole at c
          split at c
          · rename_i j e1
            have := eq_of_beq c
            subst this
            exact ⟨e1, trivial⟩
          · cases c
        obtain ⟨vh, Fc, Fr, g1, g2, _, _⟩ := TR.child hid_sub td1 hg
        have ev : vh = v := by
          generalize hm : (⟨mg, B.η⟩ : Mg) = mm at g2
          cases g2 with
          | hole => rw [← hm]; exact hv
        subst ev
        have hk' : k < ρ1.rt.length := (List.getElem?_eq_some_iff.mp hk1).1
        have look : ∀ (r : Nat) (w : Rt), (ρ1.rt.set k ⟨tk, some (d, .key x)⟩)[r]? = some w → (r = k ∧ w = ⟨tk, some (d, .key x)⟩) ∨ (r ≠ k ∧ ρ1.rt[r]? = some w) := fun r w h => by
          rw [List.getElem?_set] at h
          by_cases e1 : k = r
          · rw [if_pos e1, if_pos hk'] at h
            cases h
            exact .inl ⟨e1.symm, rfl⟩
          · rw [if_neg e1] at h
            exact .inr ⟨fun q => e1 q.symm, h⟩
        refine ⟨A1, ⟨S1.le1, S1.al, by rw [List.length_set]; exact S1.len, fun r w t h1 h2 => ?_, fun m j p w wj y z h1 h2 h3 h4 h5 h6 => ?_, fun m j p w h1 h2 => ?_, S1.bas, S1.bnp, S1.slen, S1.sls⟩, st⟩
        · rcases look r t h2 with ⟨rfl, rfl⟩ | ⟨_, h2⟩
          · have q1 := S1.rts _ w _ h1 hk1; exact q1
          · exact S1.rts r w t h1 h2
        · have old : ∃ wj', ρ1.rt[j]? = some wj' ∧ wj'.t.cont = true := by
            rcases look j wj h3 with ⟨rfl, rfl⟩ | ⟨_, h3⟩
            · exact ⟨_, hk1, h4⟩
            · exact ⟨_, h3, h4⟩
          obtain ⟨wj', o1, o2⟩ := old
          rcases look m w h1 with ⟨rfl, rfl⟩ | ⟨_, h1⟩
          · cases h2
            unfold XM.al at hk2 hd1
            rw [h5] at hk2
            rw [h6] at hd1
            have e1 : y.1 = vh := Option.some.inj hk2
            have e2 : z.1 = vc := Option.some.inj hd1
            rw [e1, e2]
            exact g1
          · exact S1.par m j p w wj' y z h1 h2 o1 o2 h5 h6
        · rw [List.length_set]
          rcases look m w h1 with ⟨rfl, rfl⟩ | ⟨_, h1⟩
          · cases h2
            exact (List.getElem?_eq_some_iff.mp hd).1
          · exact S1.parL m j p w h1 h2
      · exact ⟨A, S, Stp.refl⟩
    · exact ⟨A, S, Stp.refl⟩
  · exact ⟨A, S, Stp.refl⟩
end
theorem de_hold {X : Cx} {E : XK} {e : Expr} {m : M R} (slot : Nat) (h : DE X E e m) : DE X E e (mHold slot m) := by
  refine ⟨pe_imp h.pe fun σ H Q hh => ?_⟩
  obtain ⟨B, O, A, ρ, out, S, hm, kk⟩ := hh
  unfold mHold at hm
  split at hm
  · rename_i k hs
    split at hm
    · rename_i q ρ1 em
      split at hm
      · rename_i r ρ2 e2
        cases hm
        obtain ⟨v, hv, S1⟩ := mark_ok S em
        refine ⟨_, O, A, ρ1, _, S1, e2, fun w H' A' F S' rr st => ?_⟩
        obtain ⟨A2, S2, st2⟩ := relink_ok (n := q.1) (f := q.2.1) (x := q.2.2) (i := 0) S' (st.al _ _ hv) (show setH B.η 0 v 0 = v from if_pos rfl)
        have rr2 := rr.step st2 fun a n => add_r n
        have S3 := S2.unmark (B := B) (i := 0) (fun j ne => (if_neg ne).symm)
        refine kk.oks w H' A2 F S3 ?_ (st.trans st2 fun a n => add_l n)
        cases r with
        | dat d => exact rr2
        | fn x => exact rr2
        | ref n => exact rr2
        | own t => exact TR.unh (i := 0) (fun j ne => (if_neg ne).symm) rr2
      · cases hm
    · exact ⟨B, O, A, ρ, out, S, hm, kk⟩
  · exact ⟨B, O, A, ρ, out, S, hm, kk⟩
end XM
end
section
/-! a return that first puts back what was taken out -/
namespace XM
open PySem PySem.Spec PyProof.Rows L2 Tl
def mRetS (m : M R) : SM := sBnd m fun r ρ => some (.rt r (sweep (isRef r) ρ))
theorem ds_retS {X : Cx} {E : XK} {e : Expr} {pos : Pos} {m : M R} (h : DE X E e m) : DS X E (.Return (some e) pos) (mRetS m) := by
  refine ⟨ps_imp (ps_ret h.pe) fun D σ H hh => ?_⟩
  obtain ⟨B, O, A, ρ, out, S, hm, kk⟩ := hh
  refine run_st S kk hm fun r ρ1 v H1 A1 F hk S1 rr st1 => ?_
  cases hk
  obtain ⟨A2, S2, s2, l2⟩ := S1.sweep (isRef r)
  have st2 : Stp (add O F) A1 H1 (add O F) A2 H1 := ⟨⟨fun _ _ => rfl, s2⟩, fun r v q => by rw [l2]; exact q⟩
  exact kk σ v H1 A2 F S2 (rr.step st2 fun a n => add_r n) (st1.toSto.trans st2.toSto fun a n => add_l n)
end XM
end
section
namespace Cm
open PySem PySem.Spec PyProof.Rows L2 Tl XM
/-! value_order : 0 value -/
def b_value_order : SM :=
  (mSeq (mIf (asB (mIsi .str (mSlot 0)))
    (mRet (mTup [(mC (.int 1)), (mSlot 0)])) mNx)
  (mRet (mTup [(mC (.int 0)), (mSlot 0)])))
def m_value_order : FM := mDef 1 b_value_order
/-! row_order : 0 row -/
def b_row_order : SM :=
  (mRet (mCall0 m_value_order [(mItems false fIx (mSlot 0) (mC (.int 0)))]))
def m_row_order : FM := mDef 1 b_row_order
/-! in_order : 0 rows, 1 row -/
def b_in_order : SM :=
  (mRet (mB fTup [(mSortK m_row_order (mLcO [1] (mSlot 0) (bName 1) mYes (mB fTup [(mSlot 1)])))]))
def m_in_order : FM := mDef 2 b_in_order
/-! make_store : 0 tables, 1 name, 2 rows -/
def b_make_store : SM :=
  (mRet (mB fTup [(mLcO [1, 2] (mSlot 0) (bSeq 2 (bCons (bName 1) (bCons (bName 2) bNil))) mYes (mTup [(mSlot 1), (mCall0 m_in_order [(mSlot 2)])]))]))
def m_make_store : FM := mDef 3 b_make_store
/-! Session.__init__ : 0 self, 1 tables -/
def b_Session___init__ : SM :=
  (mSeq (mSetFld ["Session"] "_store" (mCall0 m_make_store [(mSlot 1)]) (mSlot 0))
  (mSeq (mSetFld ["Session"] "_base" (mFld ["Session"] "_store" (mSlot 0)) (mSlot 0))
  (mSeq (mSetFld ["Session"] "_state" (mC (.str "none")) (mSlot 0))
  (mSeq (mSetFld ["Session"] "_savepoints" (mLst []) (mSlot 0))
  (mSeq (mSetFld ["Session"] "_prepared" mDNew (mSlot 0))
  (mSetFld ["Session"] "_portals" mDNew (mSlot 0)))))))
def m_Session___init__ : FM := mDef 2 b_Session___init__
/-! list_tables : 0 store, 1 name, 2 rows -/
def b_list_tables : SM :=
  (mRet (mLcO [1, 2] (mSlot 0) (bSeq 2 (bCons (bName 1) (bCons (bName 2) bNil))) mYes (mTup [(mSlot 1), (mB fList [(mSlot 2)])])))
def m_list_tables : FM := mDef 3 b_list_tables
/-! Session.tables : 0 self -/
def b_Session_tables : SM :=
  (mRet (mCall0 m_list_tables [(mFld ["Session"] "_store" (mSlot 0))]))
def m_Session_tables : FM := mDef 1 b_Session_tables
/-! Session._go_back : 0 self -/
def b_Session__go_back : SM :=
  (mIf (asB (mOp fEq (mFld ["Session"] "_state" (mSlot 0)) (mC (.str "none"))))
    (mSetFld ["Session"] "_store" (mFld ["Session"] "_base" (mSlot 0)) (mSlot 0))
    (mSetFld ["Session"] "_state" (mC (.str "failed")) (mSlot 0)))
def m_Session__go_back : FM := mDef 1 b_Session__go_back
/-! is_sign : 0 character, 1 code -/
def b_is_sign : SM :=
  (mSeq (mSet 1 (mB (f1 fOrd) [(mSlot 0)]))
  (mRet (mAndV (mChain fLe fLe (mC (.int 32)) (mSlot 1) (mC (.int 126))) (mOp fNe (mSlot 1) (mC (.int 37))))))
def m_is_sign : FM := mDef 2 b_is_sign
/-! has_only_signs : 0 string, 1 character -/
def b_has_only_signs : SM :=
  (mRet (mB fAll [(mLc [1] (mStrI (mSlot 0)) (bName 1) mYes (mCall0 m_is_sign [(mSlot 1)]))]))
def m_has_only_signs : FM := mDef 2 b_has_only_signs
/-! may_be_prepared : 0 string -/
def b_may_be_prepared : SM :=
  (mRet (mAndV (mOp fLe (mB fLen [(mSlot 0)]) (mC (.int 200))) (mCall0 m_has_only_signs [(mSlot 0)])))
def m_may_be_prepared : FM := mDef 1 b_may_be_prepared
/-! is_parameter : 0 part -/
def b_is_parameter : SM :=
  (mRet (mAndV (mIsTL (mSlot 0)) (mOp fEq (mItems false fIx (mSlot 0) (mC (.int 0))) (mC (.str "parameter")))))
def m_is_parameter : FM := mDef 1 b_is_parameter
/-! parameters : 0 parts, 1 part -/
def b_parameters : SM :=
  (mRet (mMaxD 0 (mLcO [1] (mSlot 0) (bName 1) (asB (mCall0 m_is_parameter [(mSlot 1)])) (mItems false fIx (mSlot 1) (mC (.int 1))))))
def m_parameters : FM := mDef 2 b_parameters
/-! split_pieces : 0 string, 1 pieces, 2 in_text, 3 sign -/
def b_split_pieces : SM :=
  (mSeq (mSet 1 (mLst [(mC (.str ""))]))
  (mSeq (mSet 2 (mC (.bool false)))
  (mSeq (mFor (mStrI (mSlot 0)) (bName 3)
    (mSeq (mIf (asB (mOp fEq (mSlot 3) (mC (.str "'"))))
      (mSet 2 (mV1 fNotB (mSlot 2))) mNx)
    (mIf (mAndT (asB (mOp fEq (mSlot 3) (mC (.str " ")))) (mNotT (asB (mSlot 2))))
      (mExpr (mAppend (mSlot 1) (mC (.str ""))))
      (mAugLast (mSlot 1) (mSlot 3)))))
  (mRet (mSlot 1)))))
def m_split_pieces : FM := mDef 4 b_split_pieces
def gd_FORMS : List (Str × List Str) := [("create", ["T"]), ("drop", ["T"]), ("put", ["TXY"]), ("delete", ["TX"]), ("get", ["TX"]), ("scan", ["T", "TXY"]), ("total", ["T"]), ("begin", [""]), ("commit", [""]), ("rollback", [""]), ("save", ["N"]), ("undo", ["N"])]
/-! find_form : 0 word, 1 many, 2 form -/
def b_find_form : SM :=
  (mSeq (mForO (mKGet2 gd_FORMS (mSlot 0) (mTup [])) (bName 2)
    (mIf (asB (mOp fEq (mB fLen [(mSlot 2)]) (mSlot 1)))
      (mRet (mSlot 2)) mNx))
  sDead)
def m_find_form : FM := mDef 3 b_find_form
/-! is_name : 0 string, 1 letter -/
def b_is_name : SM :=
  (mRet (mAndV (mChain fLe fLe (mC (.int 1)) (mB fLen [(mSlot 0)]) (mC (.int 8))) (mB fAll [(mLc [1] (mStrI (mSlot 0)) (bName 1) mYes (mOp fInC (mSlot 1) (mC (.str "abcdefghijklmnopqrstuvwxyz"))))])))
def m_is_name : FM := mDef 2 b_is_name
/-! parse_name : 0 piece -/
def b_parse_name : SM :=
  (mSeq (mIf (mNotT (asB (mCall0 m_is_name [(mSlot 0)])))
    sDead mNx)
  (mRet (mSlot 0)))
def m_parse_name : FM := mDef 1 b_parse_name
/-! is_text : 0 string -/
def b_is_text : SM :=
  (mRet (mAndV (mOp fLe (mB fLen [(mSlot 0)]) (mC (.int 40))) (mAndV (mOp fNotInC (mC (.str "'")) (mSlot 0)) (mCall0 m_has_only_signs [(mSlot 0)]))))
def m_is_text : FM := mDef 1 b_is_text
/-! parse_text : 0 piece, 1 text -/
def b_parse_text : SM :=
  (mSeq (mSet 1 (mSlice (mSlot 0) (some (mC (.int 1))) (some (mV1 fNeg (mC (.int 1))))))
  (mSeq (mIf (mOrT (asB (mOp fLt (mB fLen [(mSlot 0)]) (mC (.int 2)))) (mOrT (mNotT (asB (mSM1 (fun a b => some (.bool (Txt.endswith a b))) (mSlot 0) (mC (.str "'"))))) (mNotT (asB (mCall0 m_is_text [(mSlot 1)])))))
    sDead mNx)
  (mRet (mTup [(mC (.str "text")), (mSlot 1)]))))
def m_parse_text : FM := mDef 2 b_parse_text
/-! is_number : 0 number -/
def b_is_number : SM :=
  (mRet (mChain fLe fLe (mC (.int (-2147483648))) (mSlot 0) (mC (.int 2147483647))))
def m_is_number : FM := mDef 1 b_is_number
/-! parse_number : 0 piece, 1 digits, 2 number -/
def b_parse_number : SM :=
  (mSeq (mSet 1 (mSM1 (fun a b => if a.length ≤ 1000000 then some (.str (Txt.removeprefix a b)) else none) (mSlot 0) (mC (.str "-"))))
  (mSeq (mIf (mNotT (asB (mSM0 (fun a => some (.bool (Txt.isdigit a))) (mSlot 1))))
    sDead mNx)
  (mSeq (mSet 2 (mB (f1 fIntS) [(mSlot 0)]))
  (mSeq (mIf (mOrT (asB (mOp fNe (mB (f1 fStrI) [(mSlot 2)]) (mSlot 0))) (mNotT (asB (mCall0 m_is_number [(mSlot 2)]))))
    sDead mNx)
  (mRet (mSlot 2))))))
def m_parse_number : FM := mDef 3 b_parse_number
/-! parse_part : 0 letter, 1 piece -/
def b_parse_part : SM :=
  (mSeq (mIf (asB (mOp fInC (mSlot 0) (mC (.str "TN"))))
    (mRet (mCall0 m_parse_name [(mSlot 1)])) mNx)
  (mSeq (mIf (asB (mSM1 (fun a b => some (.bool (Txt.startswith a b))) (mSlot 1) (mC (.str "'"))))
    (mRet (mCall0 m_parse_text [(mSlot 1)])) mNx)
  (mSeq (mIf (asB (mOp fIn (mSlot 1) (mC (.tuple [(.str "$1"), (.str "$2"), (.str "$3"), (.str "$4")]))))
    (mRet (mTup [(mC (.str "parameter")), (mB (f1 fIntS) [(mSlice (mSlot 1) (some (mC (.int 1))) none)])])) mNx)
  (mRet (mCall0 m_parse_number [(mSlot 1)])))))
def m_parse_part : FM := mDef 2 b_parse_part
/-! parse_statement : 0 string, 1 word, 2 pieces, 3 form, 4 parts, 5 n, 6 letter, 7 piece -/
def b_parse_statement : SM :=
  (mSeq (mIf (mOrT (mNotT (asB (mIsi .str (mSlot 0)))) (mNotT (asB (mCall0 m_may_be_prepared [(mSlot 0)]))))
    sDead mNx)
  (mSeq (mUnp1 1 2 (mCall0 m_split_pieces [(mSlot 0)]))
  (mSeq (mSet 3 (mCall0 m_find_form [(mSlot 1), (mB fLen [(mSlot 2)])]))
  (mSeq (mSet 4 (mTupA (mCons (mSlot 1) (mStar (mLc [6, 7] (mZipSL (mSlot 3) (mSlot 2)) (bSeq 2 (bCons (bName 6) (bCons (bName 7) bNil))) mYes (mCall0 m_parse_part [(mSlot 6), (mSlot 7)])) (mArgs [])))))
  (mSeq (mFor (mRng2 (mC (.int 1)) (mCall0 m_parameters [(mSlot 4)])) (bName 5)
    sDead)
  (mRet (mSlot 4)))))))
def m_parse_statement : FM := mDef 8 b_parse_statement
/-! Session._prepare : 0 self, 1 name, 2 string, 3 parts -/
def b_Session__prepare : SM :=
  (mSeq (mIf (asB (mDIn false (mSlot 1) (mFld ["Session"] "_prepared" (mSlot 0))))
    (mRet (mTup [(mC (.str "wrong")), (mC (.str "taken"))])) mNx)
  (mSeq (mIf (asB (mOp fGe (mB fLenD [(mFld ["Session"] "_prepared" (mSlot 0))]) (mC (.int 8))))
    (mRet (mTup [(mC (.str "wrong")), (mC (.str "crowded"))])) mNx)
  (mSeq (mSet 3 (mCall0 m_parse_statement [(mSlot 2)]))
  (mSeq (mDPut (mSlot 3) (mFld ["Session"] "_prepared" (mSlot 0)) (mSlot 1))
  (mRet (mTup [(mC (.str "prepared")), (mCall0 m_parameters [(mSlot 3)])]))))))
def m_Session__prepare : FM := mDef 4 b_Session__prepare
/-! Portal.__init__ : 0 self, 1 parts -/
def b_Portal___init__ : SM :=
  (mSeq (mSetFld ["Portal"] "parts" (mSlot 1) (mSlot 0))
  (mSeq (mSetFld ["Portal"] "rows" (mC .none) (mSlot 0))
  (mSetFld ["Portal"] "ended" (mC (.bool false)) (mSlot 0))))
def m_Portal___init__ : FM := mDef 2 b_Portal___init__
/-! fill_part : 0 part, 1 values -/
def b_fill_part : SM :=
  (mSeq (mIf (mNotT (asB (mIsi .tuple (mSlot 0))))
    (mRet (mSlot 0)) mNx)
  (mSeq (mIf (asB (mCall0 m_is_parameter [(mSlot 0)]))
    (mRet (mItems false fIx (mSlot 1) (mOp fSub (mItems false fIx (mSlot 0) (mC (.int 1))) (mC (.int 1))))) mNx)
  (mRet (mItems false fIx (mSlot 0) (mC (.int 1))))))
def m_fill_part : FM := mDef 2 b_fill_part
/-! fill_parts : 0 parts, 1 values, 2 part -/
def b_fill_parts : SM :=
  (mRet (mB fTup [(mLcO [2] (mSlot 0) (bName 2) mYes (mCall0 m_fill_part [(mSlot 2), (mSlot 1)]))]))
def m_fill_parts : FM := mDef 3 b_fill_parts
/-! Session._bind : 0 self, 1 portal, 2 name, 3 values, 4 parts -/
def b_Session__bind : SM :=
  (mSeq (mIf (asB (mDIn false (mSlot 1) (mFld ["Session"] "_portals" (mSlot 0))))
    (mRet (mTup [(mC (.str "wrong")), (mC (.str "taken"))])) mNx)
  (mSeq (mIf (asB (mOp fGe (mB fLenD [(mFld ["Session"] "_portals" (mSlot 0))]) (mC (.int 8))))
    (mRet (mTup [(mC (.str "wrong")), (mC (.str "crowded"))])) mNx)
  (mSeq (mIf (asB (mDIn true (mSlot 2) (mFld ["Session"] "_prepared" (mSlot 0))))
    (mRet (mTup [(mC (.str "wrong")), (mC (.str "no statement"))])) mNx)
  (mSeq (mSet 4 (mDGet (mFld ["Session"] "_prepared" (mSlot 0)) (mSlot 2)))
  (mSeq (mIf (asB (mOp fNe (mB fLen [(mSlot 3)]) (mCall0 m_parameters [(mSlot 4)])))
    (mRet (mTup [(mC (.str "wrong")), (mC (.str "values"))])) mNx)
  (mSeq (mDPut (mNew "Portal" m_Portal___init__ [] [(mCall0 m_fill_parts [(mSlot 4), (mSlot 3)])]) (mFld ["Session"] "_portals" (mSlot 0)) (mSlot 1))
  (mRet (mTup [(mC (.str "bound"))]))))))))
def m_Session__bind : FM := mDef 5 b_Session__bind
/-! Session._forget : 0 self, 1 name -/
def b_Session__forget : SM :=
  (mSeq (mExpr (mDPop (mFld ["Session"] "_prepared" (mSlot 0)) (mSlot 1) (mC .none)))
  (mRet (mTup [(mC (.str "closed"))])))
def m_Session__forget : FM := mDef 2 b_Session__forget
/-! Session._close : 0 self, 1 portal -/
def b_Session__close : SM :=
  (mSeq (mExpr (mDPop (mFld ["Session"] "_portals" (mSlot 0)) (mSlot 1) (mC .none)))
  (mRet (mTup [(mC (.str "closed"))])))
def m_Session__close : FM := mDef 2 b_Session__close
/-! rows_of : 0 store, 1 name, 2 other, 3 rows -/
def b_rows_of : SM :=
  (mSeq (mForO (mSlot 0) (bSeq 2 (bCons (bName 2) (bCons (bName 3) bNil)))
    (mIf (asB (mOp fEq (mSlot 2) (mSlot 1)))
      (mRet (mSlot 3)) mNx))
  (mRet (mC .none)))
def m_rows_of : FM := mDef 4 b_rows_of
/-! create_table : 0 store, 1 name -/
def b_create_table : SM :=
  (mSeq (mIf (asB (mOp fNotN (mCall0 m_rows_of [(mSlot 0), (mSlot 1)]) (mC .none)))
    (mRet (mTup [(mSlot 0), (mTup [(mC (.str "wrong")), (mC (.str "exists"))])])) mNx)
  (mSeq (mIf (asB (mOp fGe (mB fLen [(mSlot 0)]) (mC (.int 4))))
    (mRet (mTup [(mSlot 0), (mTup [(mC (.str "wrong")), (mC (.str "crowded"))])])) mNx)
  (mRet (mTup [(mTupA (mStar (mSlot 0) (mCons (mTup [(mSlot 1), (mTup [])]) (mArgs [])))), (mTup [(mC (.str "complete")), (mC (.int 0))])]))))
def m_create_table : FM := mDef 2 b_create_table
/-! rows_without : 0 store, 1 name, 2 key, 3 row -/
def b_rows_without : SM :=
  (mRet (mB fTup [(mLcO [3] (mCall0 m_rows_of [(mSlot 0), (mSlot 1)]) (bName 3) (asB (mOp fNe (mItems false fIx (mSlot 3) (mC (.int 0))) (mSlot 2))) (mSlot 3))]))
def m_rows_without : FM := mDef 4 b_rows_without
/-! with_rows : 0 store, 1 name, 2 rows, 3 other, 4 old -/
def b_with_rows : SM :=
  (mRet (mB fTup [(mLcO [3, 4] (mSlot 0) (bSeq 2 (bCons (bName 3) (bCons (bName 4) bNil))) mYes (mTup [(mSlot 3), (mIfE (asB (mOp fEq (mSlot 3) (mSlot 1))) (mSlot 2) (mSlot 4))]))]))
def m_with_rows : FM := mDef 5 b_with_rows
/-! put_row : 0 store, 1 name, 2 key, 3 entry, 4 rows -/
def b_put_row : SM :=
  (mSeq (mSet 4 (mLstA (mStar (mCall0 m_rows_without [(mSlot 0), (mSlot 1), (mSlot 2)]) (mCons (mTup [(mSlot 2), (mSlot 3)]) (mArgs [])))))
  (mSeq (mIf (asB (mOp fGt (mB fLen [(mSlot 4)]) (mC (.int 20))))
    (mRet (mTup [(mSlot 0), (mTup [(mC (.str "wrong")), (mC (.str "full"))])])) mNx)
  (mRet (mTup [(mCall0 m_with_rows [(mSlot 0), (mSlot 1), (mCall0 m_in_order [(mSlot 4)])]), (mTup [(mC (.str "complete")), (mC (.int 1))])]))))
def m_put_row : FM := mDef 5 b_put_row
def tb_ACTIONS : List (Str × Str) := [("drop", "drop_table"), ("put", "put_row"), ("delete", "delete_row"), ("get", "get_row"), ("scan", "scan_rows"), ("total", "count_rows")]
def fm_ACTIONS : List ((Str × Nat) × (List D × FM)) := [(("put_row", 4), ([], m_put_row))]
/-! run_on_store : 0 store, 1 parts, 2 word, 3 name, 4 terms, 5 action -/
def b_run_on_store : SM :=
  (mSeq (mUnp2 2 3 4 (mSlot 1))
  (mSeq (mIf (asB (mOp fEq (mSlot 2) (mC (.str "create"))))
    (mRet (mCall0 m_create_table [(mSlot 0), (mSlot 3)])) mNx)
  (mSeq (mIf (asB (mOp fIsN (mCall0 m_rows_of [(mSlot 0), (mSlot 3)]) (mC .none)))
    (mRet (mTup [(mSlot 0), (mTup [(mC (.str "wrong")), (mC (.str "no table"))])])) mNx)
  (mSeq (mSet 5 (mFD tb_ACTIONS (mSlot 2)))
  (mRet (mCallFS 5 fm_ACTIONS (mCons (mSlot 0) (mCons (mSlot 3) (mStar (mSlot 4) (mArgs []))))))))))
def m_run_on_store : FM := mDef 6 b_run_on_store
/-! Session._begin : 0 self -/
def b_Session__begin : SM :=
  (mSeq (mIf (asB (mOp fNe (mFld ["Session"] "_state" (mSlot 0)) (mC (.str "none"))))
    (mRet (mTup [(mC (.str "wrong")), (mC (.str "in transaction"))])) mNx)
  (mSeq (mSetFld ["Session"] "_state" (mC (.str "open")) (mSlot 0))
  (mRet (mTup [(mC (.str "complete")), (mC (.int 0))]))))
def m_Session__begin : FM := mDef 1 b_Session__begin
/-! Session._end_transaction : 0 self -/
def b_Session__end_transaction : SM :=
  (mSeq (mSetFld ["Session"] "_state" (mC (.str "none")) (mSlot 0))
  (mSeq (mSetFld ["Session"] "_savepoints" (mLst []) (mSlot 0))
  (mSetFld ["Session"] "_portals" mDNew (mSlot 0))))
def m_Session__end_transaction : FM := mDef 1 b_Session__end_transaction
/-! Session._commit : 0 self -/
def b_Session__commit : SM :=
  (mSeq (mIf (asB (mOp fEq (mFld ["Session"] "_state" (mSlot 0)) (mC (.str "none"))))
    (mRet (mTup [(mC (.str "wrong")), (mC (.str "no transaction"))])) mNx)
  (mSeq (mIf (asB (mOp fEq (mFld ["Session"] "_state" (mSlot 0)) (mC (.str "failed"))))
    (mSeq (mSetFld ["Session"] "_store" (mFld ["Session"] "_base" (mSlot 0)) (mSlot 0))
    (mSeq (mExpr (mMeth "Session" "_end_transaction" m_Session__end_transaction [] (mSlot 0) []))
    (mRet (mTup [(mC (.str "wrong")), (mC (.str "rolled back"))])))) mNx)
  (mSeq (mSetFld ["Session"] "_base" (mFld ["Session"] "_store" (mSlot 0)) (mSlot 0))
  (mSeq (mExpr (mMeth "Session" "_end_transaction" m_Session__end_transaction [] (mSlot 0) []))
  (mRet (mTup [(mC (.str "complete")), (mC (.int 0))]))))))
def m_Session__commit : FM := mDef 1 b_Session__commit
/-! Session._roll_back : 0 self -/
def b_Session__roll_back : SM :=
  (mSeq (mIf (asB (mOp fEq (mFld ["Session"] "_state" (mSlot 0)) (mC (.str "none"))))
    (mRet (mTup [(mC (.str "wrong")), (mC (.str "no transaction"))])) mNx)
  (mSeq (mSetFld ["Session"] "_store" (mFld ["Session"] "_base" (mSlot 0)) (mSlot 0))
  (mSeq (mExpr (mMeth "Session" "_end_transaction" m_Session__end_transaction [] (mSlot 0) []))
  (mRet (mTup [(mC (.str "complete")), (mC (.int 0))])))))
def m_Session__roll_back : FM := mDef 1 b_Session__roll_back
/-! Session._save : 0 self, 1 name -/
def b_Session__save : SM :=
  (mSeq (mIf (asB (mOp fEq (mFld ["Session"] "_state" (mSlot 0)) (mC (.str "none"))))
    (mRet (mTup [(mC (.str "wrong")), (mC (.str "no transaction"))])) mNx)
  (mSeq (mIf (asB (mOp fGe (mB fLen [(mFld ["Session"] "_savepoints" (mSlot 0))]) (mC (.int 10))))
    (mRet (mTup [(mC (.str "wrong")), (mC (.str "crowded"))])) mNx)
  (mSeq (mExpr (mAppend (mFld ["Session"] "_savepoints" (mSlot 0)) (mTup [(mSlot 1), (mFld ["Session"] "_store" (mSlot 0))])))
  (mRet (mTup [(mC (.str "complete")), (mC (.int 0))])))))
def m_Session__save : FM := mDef 2 b_Session__save
/-! Session._undo : 0 self, 1 name, 2 at -/
def b_Session__undo : SM :=
  (mSeq (mIf (asB (mOp fEq (mFld ["Session"] "_state" (mSlot 0)) (mC (.str "none"))))
    (mRet (mTup [(mC (.str "wrong")), (mC (.str "no transaction"))])) mNx)
  (mSeq (mSet 2 (mOp fSub (mB fLen [(mFld ["Session"] "_savepoints" (mSlot 0))]) (mC (.int 1))))
  (mSeq (mWhile (mAndT (asB (mOp fGe (mSlot 2) (mC (.int 0)))) (asB (mOp fNe (mItems false fIx (mItems false fIx (mFld ["Session"] "_savepoints" (mSlot 0)) (mSlot 2)) (mC (.int 0))) (mSlot 1))))
    (mAugI fSubI 2 (mC (.int 1))) 12)
  (mSeq (mIf (asB (mOp fLt (mSlot 2) (mC (.int 0))))
    (mRet (mTup [(mC (.str "wrong")), (mC (.str "no savepoint"))])) mNx)
  (mSeq (mSetFld ["Session"] "_savepoints" (mSlice (mFld ["Session"] "_savepoints" (mSlot 0)) none (some (mOp fAdd (mSlot 2) (mC (.int 1))))) (mSlot 0))
  (mSeq (mSetFld ["Session"] "_store" (mItems false fIx (mItems false fIx (mFld ["Session"] "_savepoints" (mSlot 0)) (mSlot 2)) (mC (.int 1))) (mSlot 0))
  (mSeq (mSetFld ["Session"] "_state" (mC (.str "open")) (mSlot 0))
  (mRet (mTup [(mC (.str "complete")), (mC (.int 0))])))))))))
def m_Session__undo : FM := mDef 3 b_Session__undo
/-! Session._run_statement : 0 self, 1 parts, 2 name, 3 answer -/
def b_Session__run_statement : SM :=
  (mSeq (mMatch (mSlot 1) [([some "begin"], [], (mRet (mMeth "Session" "_begin" m_Session__begin [] (mSlot 0) []))),
      ([some "commit"], [], (mRet (mMeth "Session" "_commit" m_Session__commit [] (mSlot 0) []))),
      ([some "rollback"], [], (mRet (mMeth "Session" "_roll_back" m_Session__roll_back [] (mSlot 0) []))),
      ([some "save", none], [2], (mRet (mMeth "Session" "_save" m_Session__save [] (mSlot 0) [(mSlot 2)]))),
      ([some "undo", none], [2], (mRet (mMeth "Session" "_undo" m_Session__undo [] (mSlot 0) [(mSlot 2)])))])
  (mSeq (mFldTup ["Session"] "_store" 3 (mSlot 0) (mCall0 m_run_on_store [(mFld ["Session"] "_store" (mSlot 0)), (mSlot 1)]))
  (mRet (mSlot 3))))
def m_Session__run_statement : FM := mDef 4 b_Session__run_statement
/-! Session._run : 0 self, 1 name, 2 most, 3 portal, 4 answer -/
def b_Session__run : SM :=
  (mSeq (mIf (asB (mDIn true (mSlot 1) (mFld ["Session"] "_portals" (mSlot 0))))
    (mRetS (mTup [(mC (.str "wrong")), (mC (.str "no portal"))])) mNx)
  (mSeq (mSet 3 (mDGet (mFld ["Session"] "_portals" (mSlot 0)) (mSlot 1)))
  (mSeq (mIf (mAndT (asB (mOp fEq (mFld ["Session"] "_state" (mSlot 0)) (mC (.str "failed")))) (asB (mOp fNotIn (mItems false fIx (mFld ["Portal"] "parts" (mSlot 3)) (mC (.int 0))) (mC (.tuple [(.str "commit"), (.str "rollback"), (.str "undo")])))))
    (mRetS (mTup [(mC (.str "wrong")), (mC (.str "failed"))])) mNx)
  (mSeq (mIf (asB (mFld ["Portal"] "ended" (mSlot 3)))
    (mRetS (mTup [(mC (.str "wrong")), (mC (.str "at end"))])) mNx)
  (mSeq (mIf (asB (mOp fNotN (mFld ["Portal"] "rows" (mSlot 3)) (mC .none)))
    sDead mNx)
  (mSeq (mSet 4 (mHold 3 (mMeth "Session" "_run_statement" m_Session__run_statement [] (mSlot 0) [(mFld ["Portal"] "parts" (mSlot 3))])))
  (mSeq (mIf (asB (mOp fEq (mItems false fIx (mSlot 4) (mC (.int 0))) (mC (.str "rows"))))
    (mSeq (mSetFld ["Portal"] "rows" (mItems false fIx (mSlot 4) (mC (.int 1))) (mSlot 3))
    sDead) mNx)
  (mSeq (mSetFld ["Portal"] "ended" (mOp fEq (mItems false fIx (mSlot 4) (mC (.int 0))) (mC (.str "complete"))) (mSlot 3))
  (mRetS (mSlot 4))))))))))
def m_Session__run : FM := mDef 5 b_Session__run
/-! Session._run_command : 0 self, 1 command, 2 name, 3 string, 4 portal, 5 values, 6 most -/
def b_Session__run_command : SM :=
  (mMatch (mSlot 1) [([some "prepare", none, none], [2, 3], (mRet (mMeth "Session" "_prepare" m_Session__prepare [] (mSlot 0) [(mSlot 2), (mSlot 3)]))),
      ([some "bind", none, none, none], [4, 2, 5], (mRet (mMeth "Session" "_bind" m_Session__bind [] (mSlot 0) [(mSlot 4), (mSlot 2), (mSlot 5)]))),
      ([some "run", none, none], [4, 6], (mRet (mMeth "Session" "_run" m_Session__run [] (mSlot 0) [(mSlot 4), (mSlot 6)]))),
      ([some "forget", none], [2], (mRet (mMeth "Session" "_forget" m_Session__forget [] (mSlot 0) [(mSlot 2)]))),
      ([some "close", none], [4], (mRet (mMeth "Session" "_close" m_Session__close [] (mSlot 0) [(mSlot 4)])))])
def m_Session__run_command : FM := mDef 7 b_Session__run_command
/-! Session.run_batch : 0 self, 1 commands, 2 replies, 3 failed, 4 command, 5 reply -/
def b_Session_run_batch : SM :=
  (mSeq (mSet 2 (mLst []))
  (mSeq (mSet 3 (mC (.bool false)))
  (mSeq (mForO (mSlot 1) (bName 4)
    (mIf (asB (mSlot 3))
      (mExpr (mAppend (mSlot 2) (mTup [(mC (.str "skipped"))])))
      (mSeq (mSet 5 (mMeth "Session" "_run_command" m_Session__run_command [] (mSlot 0) [(mSlot 4)]))
      (mSeq (mExpr (mAppend (mSlot 2) (mSlot 5)))
      (mSet 3 (mOp fEq (mItems false fIx (mSlot 5) (mC (.int 0))) (mC (.str "wrong"))))))))
  (mSeq (mIf (asB (mSlot 3))
    (mExpr (mMeth "Session" "_go_back" m_Session__go_back [] (mSlot 0) [])) mNx)
  (mSeq (mIf (asB (mOp fEq (mFld ["Session"] "_state" (mSlot 0)) (mC (.str "none"))))
    (mSeq (mSetFld ["Session"] "_base" (mFld ["Session"] "_store" (mSlot 0)) (mSlot 0))
    (mSetFld ["Session"] "_portals" mDNew (mSlot 0))) mNx)
  (mRet (mTup [(mFld ["Session"] "_state" (mSlot 0)), (mSlot 2)])))))))
def m_Session_run_batch : FM := mDef 6 b_Session_run_batch
/-! _law_did : 0 session, 1 string, 2 values, 3 commands -/
def b_law_did : SM :=
  (mSeq (mSet 3 (mLst [(mTup [(mC (.str "close")), (mC (.str "x"))]), (mTup [(mC (.str "forget")), (mC (.str "x"))]), (mTup [(mC (.str "prepare")), (mC (.str "x")), (mSlot 1)]), (mTup [(mC (.str "bind")), (mC (.str "x")), (mC (.str "x")), (mSlot 2)]), (mTup [(mC (.str "run")), (mC (.str "x")), (mC (.int 0))])]))
  (mRet (mItems false fIx (mItems false fIx (mMeth "Session" "run_batch" m_Session_run_batch [] (mSlot 0) [(mSlot 3)]) (mC (.int 1))) (mC (.int 4)))))
def m_law_did : FM := mDef 4 b_law_did
/-! _law_tables_hold : 0 count, 1 session, 2 k, 3 due, 4 table -/
def b_law_tables_hold : SM :=
  (mSeq (mSet 1 (mNew "Session" m_Session___init__ [(.tuple [])] []))
  (mSeq (mFor (mRng1 (mSlot 0)) (bName 2)
    (mSeq (mSet 3 (mTup [(mC (.str "complete")), (mC (.int 0))]))
    (mSeq (mIf (asB (mOp fGe (mSlot 2) (mC (.int 4))))
      (mSet 3 (mTup [(mC (.str "wrong")), (mC (.str "crowded"))])) mNx)
    (mIf (asB (mOp fNeD (mCall0 m_law_did [(mSlot 1), (mOp fAdd (mC (.str "create ")) (mIx (mC (.str "abcdef")) (mSlot 2))), (mTup [])]) (mSlot 3)))
      (mRet (mC (.bool false))) mNx))))
  (mSeq (mIf (mAndT (asB (mOp fGt (mSlot 0) (mC (.int 0)))) (asB (mOp fNeD (mCall0 m_law_did [(mSlot 1), (mC (.str "create a")), (mTup [])]) (mTup [(mC (.str "wrong")), (mC (.str "exists"))]))))
    (mRet (mC (.bool false))) mNx)
  (mRet (mOp fEqD (mLcO [4] (mMeth "Session" "tables" m_Session_tables [] (mSlot 1) []) (bName 4) mYes (mItems false fIx (mSlot 4) (mC (.int 0)))) (mSlice (mLst [(mC (.str "a")), (mC (.str "b")), (mC (.str "c")), (mC (.str "d"))]) none (some (mSlot 0))))))))
def m_law_tables_hold : FM := mDef 5 b_law_tables_hold
/-! _law_named_hold : 0 count, 1 session, 2 k, 3 told, 4 commands, 5 replies, 6 due -/
def b_law_named_hold : SM :=
  (mSeq (mSet 1 (mNew "Session" m_Session___init__ [(.tuple [])] []))
  (mSeq (mFor (mRng1 (mSlot 0)) (bName 2)
    (mSeq (mSet 3 (mItems false fIx (mMeth "Session" "run_batch" m_Session_run_batch [] (mSlot 1) [(mLst [(mTup [(mC (.str "prepare")), (mOp fAdd (mC (.str "s")) (mIx (mC (.str "abcdefghij")) (mSlot 2))), (mC (.str "total t"))])])]) (mC (.int 1))))
    (mIf (asB (mOp fNeD (mSlot 3) (mItems false fIx (mLst [(mLst [(mTup [(mC (.str "prepared")), (mC (.int 0))])]), (mLst [(mTup [(mC (.str "wrong")), (mC (.str "crowded"))])])]) (mB (f1 fInt) [(mOp fGe (mSlot 2) (mC (.int 8)))]))))
      (mRet (mC (.bool false))) mNx)))
  (mSeq (mIf (mAndT (asB (mOp fGt (mSlot 0) (mC (.int 0)))) (asB (mOp fNeD (mItems false fIx (mMeth "Session" "run_batch" m_Session_run_batch [] (mSlot 1) [(mLst [(mTup [(mC (.str "prepare")), (mC (.str "sa")), (mC (.str "?"))])])]) (mC (.int 1))) (mLst [(mTup [(mC (.str "wrong")), (mC (.str "taken"))])]))))
    (mRet (mC (.bool false))) mNx)
  (mSeq (mIf (mAndT (asB (mOp fGt (mSlot 0) (mC (.int 7)))) (asB (mOp fNeD (mItems false fIx (mMeth "Session" "run_batch" m_Session_run_batch [] (mSlot 1) [(mLst [(mTup [(mC (.str "prepare")), (mC (.str "sz")), (mC (.str "?"))])])]) (mC (.int 1))) (mLst [(mTup [(mC (.str "wrong")), (mC (.str "crowded"))])]))))
    (mRet (mC (.bool false))) mNx)
  (mSeq (mSet 4 (mLst [(mTup [(mC (.str "forget")), (mC (.str "sa"))]), (mTup [(mC (.str "prepare")), (mC (.str "sa")), (mC (.str "scan t $1 $1"))])]))
  (mSeq (mSet 4 (mCat (mSlot 4) (mLc [2] (mRng1 (mSlot 0)) (bName 2) mYes (mTup [(mC (.str "bind")), (mOp fAdd (mC (.str "p")) (mIx (mC (.str "abcdefghij")) (mSlot 2))), (mC (.str "sa")), (mTup [(mSlot 2)])]))))
  (mSeq (mSet 5 (mItems false fIx (mMeth "Session" "run_batch" m_Session_run_batch [] (mSlot 1) [(mSlot 4)]) (mC (.int 1))))
  (mSeq (mSet 6 (mCat (mLst [(mTup [(mC (.str "closed"))]), (mTup [(mC (.str "prepared")), (mC (.int 1))])]) (mLc [2] (mRng1 (mB fMin2 [(mSlot 0), (mC (.int 8))])) (bName 2) mYes (mTup [(mC (.str "bound"))]))))
  (mSeq (mIf (asB (mOp fGt (mSlot 0) (mC (.int 8))))
    (mSet 6 (mCat (mCat (mSlot 6) (mLst [(mTup [(mC (.str "wrong")), (mC (.str "crowded"))])])) (mLc [2] (mRng1 (mOp fSub (mSlot 0) (mC (.int 9)))) (bName 2) mYes (mTup [(mC (.str "skipped"))])))) mNx)
  (mRet (mOp fEqD (mSlot 5) (mSlot 6))))))))))))
def m_law_named_hold : FM := mDef 7 b_law_named_hold
/-! _law_portals_hold : 0 session, 1 commands, 2 command, 3 word, 4 told, 5 k -/
def b_law_portals_hold : SM :=
  (mSeq (mSet 0 (mNew "Session" m_Session___init__ [(.tuple [])] []))
  (mSeq (mIf (mOrT (asB (mOp fNeD (mCall0 m_law_did [(mSlot 0), (mC (.str "begin")), (mTup [])]) (mTup [(mC (.str "complete")), (mC (.int 0))]))) (asB (mOp fNeD (mCall0 m_law_did [(mSlot 0), (mC (.str "save a")), (mTup [])]) (mTup [(mC (.str "complete")), (mC (.int 0))]))))
    (mRet (mC (.bool false))) mNx)
  (mSeq (mSet 1 (mLst [(mTup [(mC (.str "close")), (mC (.str "x"))]), (mTup [(mC (.str "prepare")), (mC (.str "s")), (mC (.str "scan t $1 $1"))]), (mTup [(mC (.str "prepare")), (mC (.str "b")), (mC (.str "undo a"))])]))
  (mSeq (mSet 1 (mCat (mCat (mSlot 1) (mLc [5] (mRng1 (mC (.int 7))) (bName 5) mYes (mTup [(mC (.str "bind")), (mOp fAdd (mC (.str "p")) (mIx (mC (.str "abcdefg")) (mSlot 5))), (mC (.str "s")), (mTup [(mSlot 5)])]))) (mLst [(mTup [(mC (.str "bind")), (mC (.str "u")), (mC (.str "b")), (mTup [])])])))
  (mSeq (mIf (asB (mOp fNeD (mItems false fIx (mItems false fIx (mMeth "Session" "run_batch" m_Session_run_batch [] (mSlot 0) [(mSlot 1)]) (mC (.int 1))) (mV1 fNeg (mC (.int 1)))) (mTup [(mC (.str "bound"))])))
    (mRet (mC (.bool false))) mNx)
  (mSeq (mForO (mLst [(mLst [(mTup [(mC (.str "bind")), (mC (.str "pa")), (mC (.str "none")), (mTup [(mC (.int 1)), (mC (.int 2))])]), (mC (.str "taken"))]), (mLst [(mTup [(mC (.str "bind")), (mC (.str "new")), (mC (.str "none")), (mTup [])]), (mC (.str "crowded"))]), (mLst [(mTup [(mC (.str "bind")), (mC (.str "new")), (mC (.str "s")), (mTup [])]), (mC (.str "crowded"))])]) (bSeq 2 (bCons (bName 2) (bCons (bName 3) bNil)))
    (mIf (asB (mOp fNeD (mMeth "Session" "run_batch" m_Session_run_batch [] (mSlot 0) [(mLst [(mSlot 2)])]) (mTup [(mC (.str "failed")), (mLst [(mTup [(mC (.str "wrong")), (mSlot 3)])])])))
      (mRet (mC (.bool false))) mNx))
  (mSeq (mSet 4 (mMeth "Session" "run_batch" m_Session_run_batch [] (mSlot 0) [(mLst [(mTup [(mC (.str "run")), (mC (.str "u")), (mC (.int 0))]), (mTup [(mC (.str "close")), (mC (.str "pa"))]), (mTup [(mC (.str "bind")), (mC (.str "new")), (mC (.str "s")), (mTup [(mC (.int 1))])]), (mTup [(mC (.str "bind")), (mC (.str "pa")), (mC (.str "none")), (mTup [])])])]))
  (mRet (mOp fEqD (mSlot 4) (mTup [(mC (.str "failed")), (mLst [(mTup [(mC (.str "complete")), (mC (.int 0))]), (mTup [(mC (.str "closed"))]), (mTup [(mC (.str "bound"))]), (mTup [(mC (.str "wrong")), (mC (.str "crowded"))])])]))))))))))
def m_law_portals_hold : FM := mDef 6 b_law_portals_hold
/-! _law_saves_hold : 0 count, 1 session, 2 k, 3 due -/
def b_law_saves_hold : SM :=
  (mSeq (mSet 1 (mNew "Session" m_Session___init__ [(.tuple [])] []))
  (mSeq (mIf (asB (mOp fNeD (mCall0 m_law_did [(mSlot 1), (mC (.str "begin")), (mTup [])]) (mTup [(mC (.str "complete")), (mC (.int 0))])))
    (mRet (mC (.bool false))) mNx)
  (mSeq (mFor (mRng1 (mSlot 0)) (bName 2)
    (mSeq (mSet 3 (mTup [(mC (.str "complete")), (mC (.int 0))]))
    (mSeq (mIf (asB (mOp fGe (mSlot 2) (mC (.int 10))))
      (mSet 3 (mTup [(mC (.str "wrong")), (mItems false fIx (mLst [(mC (.str "crowded")), (mC (.str "failed"))]) (mB (f1 fInt) [(mOp fGt (mSlot 2) (mC (.int 10)))]))])) mNx)
    (mIf (asB (mOp fNeD (mCall0 m_law_did [(mSlot 1), (mOp fAdd (mC (.str "save ")) (mIx (mC (.str "abc")) (mOp fMod (mSlot 2) (mC (.int 3))))), (mTup [])]) (mSlot 3)))
      (mRet (mC (.bool false))) mNx))))
  (mRet (mOrV (mOp fLe (mSlot 0) (mC (.int 10))) (mOp fEqD (mCall0 m_law_did [(mSlot 1), (mC (.str "undo c")), (mTup [])]) (mTup [(mC (.str "complete")), (mC (.int 0))])))))))
def m_law_saves_hold : FM := mDef 4 b_law_saves_hold
/-! law : 0 script, 1 session, 2 key, 3 k -/
def b_law_k09 : SM :=
  (mSeq (mIf (mOrT (mNotT (asB (mCall0 m_law_tables_hold [(mOp fMod (mCall0 m_law_cell [(mSlot 0), (mC (.int 0))]) (mC (.int 7)))]))) (mNotT (asB (mCall0 m_law_named_hold [(mOp fMod (mCall0 m_law_cell [(mSlot 0), (mC (.int 1))]) (mC (.int 11)))]))))
    (mRet (mC (.bool false))) mNx)
  (mSeq (mIf (mOrT (mNotT (asB (mCall0 m_law_portals_hold []))) (mNotT (asB (mCall0 m_law_saves_hold [(mOp fMod (mCall0 m_law_cell [(mSlot 0), (mC (.int 2))]) (mC (.int 13)))]))))
    (mRet (mC (.bool false))) mNx)
  (mSeq (mSet 1 (mNew "Session" m_Session___init__ [] [(mLst [(mTup [(mC (.str "t")), (mLc [3] (mRng1 (mC (.int 20))) (bName 3) mYes (mTup [(mSlot 3), (mSlot 3)]))])])]))
  (mSeq (mIf (mOrT (asB (mOp fNeD (mCall0 m_law_did [(mSlot 1), (mC (.str "put t 20 0")), (mTup [])]) (mTup [(mC (.str "wrong")), (mC (.str "full"))]))) (asB (mOp fNeD (mCall0 m_law_did [(mSlot 1), (mC (.str "put t 'a' 0")), (mTup [])]) (mTup [(mC (.str "wrong")), (mC (.str "full"))]))))
    (mRet (mC (.bool false))) mNx)
  (mSeq (mSet 2 (mOp fMod (mCall0 m_law_cell [(mSlot 0), (mC (.int 3))]) (mC (.int 20))))
  (mSeq (mIf (asB (mOp fNeD (mCall0 m_law_did [(mSlot 1), (mC (.str "put t $1 'new'")), (mTup [(mSlot 2)])]) (mTup [(mC (.str "complete")), (mC (.int 1))])))
    (mRet (mC (.bool false))) mNx)
  (mRet (mOp fEqD (mMeth "Session" "tables" m_Session_tables [] (mSlot 1) []) (mLst [(mTup [(mC (.str "t")), (mLc [3] (mRng1 (mC (.int 20))) (bName 3) mYes (mTup [(mSlot 3), (mItems false fIx (mLst [(mSlot 3), (mC (.str "new"))]) (mB (f1 fInt) [(mOp fEq (mSlot 3) (mSlot 2))]))]))])])))))))))
def m_law_k09 : FM := mDef 4 b_law_k09
end Cm
end
section
namespace Cm
open PySem XM
def chkI (o : Option FO) (i : Int) : Bool := match o with
  | some (.ret (.dat (.bool b)) [.dat (.int j)]) => b && decide (j = i)
  | _ => false
theorem chkI_ok {o : Option FO} {i : Int} (h : chkI o i = true) : o = some (.ret (.dat (.bool true)) [.dat (.int i)]) := by
  unfold chkI at h
  split at h
  · simp only [Bool.and_eq_true, decide_eq_true_eq] at h
    obtain ⟨rfl, rfl⟩ := h
    rfl
  · cases h
def chk0 (o : Option FO) : Bool := match o with
  | some (.ret (.dat (.bool b)) []) => b
  | _ => false
theorem chk0_ok {o : Option FO} (h : chk0 o = true) : o = some (.ret (.dat (.bool true)) []) := by
  unfold chk0 at h
  split at h
  · subst h; rfl
  · cases h
end Cm
end
section
namespace Cm
open PySem XM
def rows20 : List D := (List.range 20).map fun i : Nat => .tuple [.int (0 + (i : Nat)), .int (0 + (i : Nat))]
def rowsNew (key : Int) : List D := (List.range 20).map fun i : Nat => .tuple [.int (0 + (i : Nat)), if (0 + (i : Nat) : Int) = key then .str "new" else .int (0 + (i : Nat))]
/-- the session behind a call, with what it returned -/
def sesOf (o : Option FO) : Option (D × List (Str × T)) := match o with
  | some (.ret (.dat d) [.ins c fs, _, _]) => if c = "Session" then some (d, fs) else none
  | _ => none
def ini0 (o : Option FO) : Option (List (Str × T)) := match o with
  | some (.ret (.dat .none) [.ins c fs, _]) => if c = "Session" then some fs else none
  | _ => none
def tabOf (o : Option FO) : Option (List D) := match o with
  | some (.ret (.dl l) [.ins _ _]) => some l
  | _ => none
def isWF (d : D) : Bool := match d with
  | .tuple [.str a, .str b] => decide (a = "wrong") && decide (b = "full")
  | _ => false
def isC1 (d : D) : Bool := match d with
  | .tuple [.str a, .int b] => decide (a = "complete") && decide (b = 1)
  | _ => false
def start20 : Option (List (Str × T)) := ini0 (m_Session___init__ [.ins "Session" [], .dl [.tuple [.str "t", .list rows20]]])
def chain (key : Int) : Bool := match start20 with
  | none => false
  | some f0 => match sesOf (m_law_did [.ins "Session" f0, .dat (.str "put t 20 0"), .dat (.tuple [])]) with
    | none => false
    | some (d1, f1) => isWF d1 && match sesOf (m_law_did [.ins "Session" f1, .dat (.str "put t 'a' 0"), .dat (.tuple [])]) with
      | none => false
      | some (d2, f2) => isWF d2 && match sesOf (m_law_did [.ins "Session" f2, .dat (.str "put t $1 'new'"), .dat (.tuple [.int key])]) with
        | none => false
        | some (d3, f3) => isC1 d3 && (getA ("tables" : Str) f3).isNone && match tabOf (m_Session_tables [.ins "Session" f3]) with
          | none => false
          | some l => SeqAt.shaped (.list l) && SeqAt.shaped (.list [.tuple [.str "t", .list (rowsNew key)]]) && PyData.eqv (.list l) (.list [.tuple [.str "t", .list (rowsNew key)]])
theorem sesOf_ok {o : Option FO} {d : D} {fs : List (Str × T)} (h : sesOf o = some (d, fs)) : ∃ t1 t2, o = some (.ret (.dat d) [.ins "Session" fs, t1, t2]) := by
  unfold sesOf at h
  split at h
  · split at h
    · rename_i e
      cases h
      subst e
      exact ⟨_, _, rfl⟩
    · cases h
  · cases h
theorem ini0_ok {o : Option FO} {fs : List (Str × T)} (h : ini0 o = some fs) : ∃ t1, o = some (.ret (.dat .none) [.ins "Session" fs, t1]) := by
  unfold ini0 at h
  split at h
  · split at h
    · rename_i e
      cases h
      subst e
      exact ⟨_, rfl⟩
    · cases h
  · cases h
theorem tabOf_ok {o : Option FO} {l : List D} (h : tabOf o = some l) : ∃ c fs, o = some (.ret (.dl l) [.ins c fs]) := by
  unfold tabOf at h
  split at h
  · cases h; exact ⟨_, _, rfl⟩
  · cases h
theorem isWF_ok {d : D} (h : isWF d = true) : d = .tuple [.str "wrong", .str "full"] := by
  unfold isWF at h
  split at h
  · simp only [Bool.and_eq_true, decide_eq_true_eq] at h
    obtain ⟨rfl, rfl⟩ := h
    rfl
  · cases h
theorem isC1_ok {d : D} (h : isC1 d = true) : d = .tuple [.str "complete", .int 1] := by
  unfold isC1 at h
  split at h
  · simp only [Bool.and_eq_true, decide_eq_true_eq] at h
    obtain ⟨rfl, rfl⟩ := h
    rfl
  · cases h
theorem chain_ok {key : Int} (h : chain key = true) : ∃ f0 f1 f2 f3 ta tb tc td te tf tg c' fs' l,
    m_Session___init__ [.ins "Session" [], .dl [.tuple [.str "t", .list rows20]]] = some (.ret (.dat .none) [.ins "Session" f0, ta]) ∧
    m_law_did [.ins "Session" f0, .dat (.str "put t 20 0"), .dat (.tuple [])] = some (.ret (.dat (.tuple [.str "wrong", .str "full"])) [.ins "Session" f1, tb, tc]) ∧
    m_law_did [.ins "Session" f1, .dat (.str "put t 'a' 0"), .dat (.tuple [])] = some (.ret (.dat (.tuple [.str "wrong", .str "full"])) [.ins "Session" f2, td, te]) ∧
    m_law_did [.ins "Session" f2, .dat (.str "put t $1 'new'"), .dat (.tuple [.int key])] = some (.ret (.dat (.tuple [.str "complete", .int 1])) [.ins "Session" f3, tf, tg]) ∧
    getA ("tables" : Str) f3 = none ∧ m_Session_tables [.ins "Session" f3] = some (.ret (.dl l) [.ins c' fs']) ∧
    fEqD (.list l) (.list [.tuple [.str "t", .list (rowsNew key)]]) = some (.bool true) := by
  unfold chain at h
  split at h
  · cases h
  · rename_i f0 e0
    split at h
    · cases h
    · rename_i d1 f1 e1
      rw [Bool.and_eq_true] at h
      obtain ⟨w1, h⟩ := h
      split at h
      · cases h
      · rename_i d2 f2 e2
        rw [Bool.and_eq_true] at h
        obtain ⟨w2, h⟩ := h
        split at h
        · cases h
        · rename_i d3 f3 e3
          rw [Bool.and_eq_true, Bool.and_eq_true] at h
          obtain ⟨⟨w3, g⟩, h⟩ := h
          split at h
          · cases h
          · rename_i l e4
            simp only [Bool.and_eq_true] at h
            obtain ⟨⟨s1, s2⟩, q⟩ := h
            obtain ⟨ta, i0⟩ := ini0_ok e0
            obtain ⟨tb, tc, i1⟩ := sesOf_ok e1
            obtain ⟨td, te, i2⟩ := sesOf_ok e2
            obtain ⟨tf, tg, i3⟩ := sesOf_ok e3
            obtain ⟨c', fs', i4⟩ := tabOf_ok e4
            rw [isWF_ok w1] at i1
            rw [isWF_ok w2] at i2
            rw [isC1_ok w3] at i3
            refine ⟨f0, f1, f2, f3, ta, tb, tc, td, te, tf, tg, c', fs', l, i0, i1, i2, i3, Option.isNone_iff_eq_none.mp g, i4, ?_⟩
            unfold fEqD
            rw [if_pos ⟨s1, s2⟩, q]
end Cm
end
section
namespace Cm
open PySem XM
theorem tables_all : (List.range 7).all (fun k => chkI (m_law_tables_hold [.dat (.int (k : Nat))]) (k : Nat)) = true := by decide +kernel
theorem portals_all : chk0 (m_law_portals_hold []) = true := by decide +kernel
end Cm
end
section
namespace Cm
open PySem XM
theorem named_all : (List.range 11).all (fun k => chkI (m_law_named_hold [.dat (.int (k : Nat))]) (k : Nat)) = true := by decide +kernel
end Cm
end
section
namespace Cm
open PySem XM
theorem saves_all : (List.range 13).all (fun k => chkI (m_law_saves_hold [.dat (.int (k : Nat))]) (k : Nat)) = true := by decide +kernel
end Cm
end
section
namespace Cm
open PySem XM
theorem chain_all : (List.range 20).all (fun k => chain (k : Nat)) = true := by decide +kernel
end Cm
end
section
/-! texts as lists of codes -/
namespace Mx
open PySem PySem.Spec PyProof.Rows L2 SX
theorem S_one (c : Nat) : (⟨#[c]⟩ : Str) = S [c] := rfl
theorem sub0 (l : List Nat) (c : Nat) : PySem.Builtin.Str.subAt (S l) (S [c]) 0 = decide (l.head? = some c) := by
  unfold PySem.Builtin.Str.subAt
  cases l with
  | nil => simp [S, Str.length]
  | cons a r =>
    simp [S, Str.length]
    by_cases h : a = c
    · subst h; simp
    · simp [h]
theorem starts (l : List Nat) (c : Nat) : Txt.startswith (S l) (S [c]) = decide (l.head? = some c) := by
  unfold Txt.startswith
  rw [sub0]
  cases l with
  | nil => simp [S, Str.length]
  | cons a r => simp [S, Str.length]
theorem ends (l : List Nat) (c : Nat) : Txt.endswith (S l) (S [c]) = decide (l.getLast? = some c) := by
  unfold Txt.endswith PySem.Builtin.Str.subAt
  rcases List.eq_nil_or_concat l with rfl | ⟨r, a, rfl⟩
  · simp [S, Str.length]
  · simp [S, Str.length]
    by_cases h : a = c
    · subst h; simp
    · simp [h]
theorem noPrefix (l : List Nat) (c : Nat) : Txt.removeprefix (S l) (S [c]) = S (if l.head? = some c then l.drop 1 else l) := by
  unfold Txt.removeprefix
  rw [sub0]
  by_cases h : l.head? = some c
  · rw [decide_eq_true h, if_pos rfl, if_pos h]
    cases l with
    | nil => cases h
    | cons a r =>
      unfold Txt.affix
      simp [S, Str.length, PySem.Builtin.Str.strSub]
  · rw [decide_eq_false h, if_neg Bool.false_ne_true, if_neg h]
    rfl
theorem cutMid (l : List Nat) : cutS (S l) (some 1) (some (-1)) = S (l.drop 1).dropLast := by
  unfold cutS
  have e : (S l).length = l.length := S_len l
  rw [e]
  show S _ = S _
  congr 1
  rw [show HT.sIx l.length 0 (some 1) = min 1 l.length from HT.sIx_nat l.length 0 1]
  have e2 : HT.sIx l.length l.length (some (-1)) = l.length - 1 := by
    show (if (-1 : Int) < 0 then ((-1 : Int) + (l.length : Int)).toNat else min (-1 : Int).toNat l.length) = _
    rw [if_pos (by decide)]
    omega
  rw [e2]
  cases l with
  | nil => rfl
  | cons a r =>
    rw [show min 1 (a :: r).length = 1 by rw [List.length_cons]; omega]
    rw [List.dropLast_eq_take]
    simp
theorem cutOne (l : List Nat) : cutS (S l) (some 1) none = S (l.drop 1) := by
  unfold cutS
  have e : (S l).length = l.length := S_len l
  rw [e]
  show S _ = S _
  congr 1
  rw [show HT.sIx l.length 0 (some 1) = min 1 l.length from HT.sIx_nat l.length 0 1, HT.sIx_none]
  cases l with
  | nil => rfl
  | cons a r =>
    rw [show min 1 (a :: r).length = 1 by rw [List.length_cons]; omega]
    exact List.take_of_length_le (by simp)
def isDig (c : Nat) : Bool := decide (48 ≤ c ∧ c ≤ 57)
theorem dig128 : ∀ c : Nat, c < 128 → PySem.Unicode.isDigit c = isDig c := by decide +kernel
theorem allDigits (l : List Nat) (h : ∀ c ∈ l, c < 128) : Txt.isdigit (S l) = (decide (l ≠ []) && l.all isDig) := by
  unfold Txt.isdigit
  rw [S_len]
  congr 1
  · cases l <;> simp
  · rw [← Array.all_toList]
    show l.all _ = _
    rw [Bool.eq_iff_iff, List.all_eq_true, List.all_eq_true]
    exact ⟨fun q c hc => by rw [← dig128 c (h c hc)]; exact q c hc, fun q c hc => by rw [dig128 c (h c hc)]; exact q c hc⟩
/-! ### numbers -/
def intS (n : Int) : List Nat := if n < 0 then 45 :: TL.numL n.natAbs else TL.numL n.natAbs
theorem str_int (n : Int) : Str.ofString (toString n) = S (intS n) := by
  unfold intS
  by_cases h : n < 0
  · rw [if_pos h, toString_neg h]
    have e : (0 : Int) - n = ((n.natAbs : Nat) : Int) := by omega
    rw [e]
    have a : ∀ x y : String, Str.ofString (x ++ y) = Str.ofString x ++ Str.ofString y := fun x y => by
      apply TL.ext_tl
      rw [TL.tl_append]
      show cpsOfBytes 0 0 (x ++ y).toByteArray.data.toList = cpsOfBytes 0 0 x.toByteArray.data.toList ++ cpsOfBytes 0 0 y.toByteArray.data.toList
      rw [cpsOfBytes_string, cpsOfBytes_string, cpsOfBytes_string, String.toList_append, List.map_append]
    rw [a, num_S]
    show S [45] ++ S _ = _
    rw [S_cat]; rfl
  · rw [if_neg h]
    have e : n = ((n.natAbs : Nat) : Int) := by omega
    conv => lhs; rw [e]
    exact num_S _
theorem intS_val {l : List Nat} (hl : l.length ≤ 4300) (hd : (if l.head? = some 45 then l.drop 1 else l).all isDig = true) (hne : (if l.head? = some 45 then l.drop 1 else l) ≠ []) :
    intText? (S l) = some (if l.head? = some 45 then -((NumText.digitsVal (l.drop 1) : Nat) : Int) else ((NumText.digitsVal l : Nat) : Int)) := by
  have all : ∀ {r : List Nat}, r.all isDig = true → NumText.AllDigits r := fun q c hc => of_decide_eq_true (List.all_eq_true.mp q c hc)
  by_cases h : l.head? = some 45
  · rw [if_pos h] at hd hne ⊢
    cases l with
    | nil => cases h
    | cons a r =>
      have ea : a = 45 := Option.some.inj h
      subst ea
      exact PySem.intText_neg (x := S (45 :: r)) (cs := r) rfl (all hd) hne (by rw [S_len]; exact hl)
  · rw [if_neg h] at hd hne ⊢
    exact PySem.intText_digits (x := S l) (all hd) hne (by rw [S_len]; exact hl)
theorem digits_lt : ∀ (l : List Nat) (a : Nat), l.all isDig = true → l.foldl (fun acc c => acc * 10 + (c - 48)) a < (a + 1) * 10 ^ l.length
  | [], a, _ => by simp
  | c :: r, a, h => by
    rw [List.all_cons, Bool.and_eq_true_iff] at h
    have hc : 48 ≤ c ∧ c ≤ 57 := of_decide_eq_true h.1
    have ih := digits_lt r (a * 10 + (c - 48)) h.2
    rw [List.foldl_cons, List.length_cons, Nat.pow_succ]
    have z : (a * 10 + (c - 48) + 1) * 10 ^ r.length ≤ ((a + 1) * 10) * 10 ^ r.length := Nat.mul_le_mul_right _ (by omega)
    rw [show (a + 1) * (10 ^ r.length * 10) = ((a + 1) * 10) * 10 ^ r.length by rw [Nat.mul_assoc, Nat.mul_comm 10 (10 ^ r.length)]]
    omega
theorem pow_200 {n k : Nat} (h : n < 10 ^ k) (hk : k ≤ 200) : n.log2 < 1920 := by
  by_cases z : n = 0
  · subst z; decide
  · rw [Nat.log2_lt z]
    have a : 10 ^ k ≤ 10 ^ 200 := Nat.pow_le_pow_right (by decide) hk
    have b : (10 : Nat) ^ 200 ≤ 2 ^ 1920 := by decide +kernel
    omega
theorem val_small {l : List Nat} (hl : l.length ≤ 200) (hd : (if l.head? = some 45 then l.drop 1 else l).all isDig = true) :
    (if l.head? = some 45 then -((NumText.digitsVal (l.drop 1) : Nat) : Int) else ((NumText.digitsVal l : Nat) : Int)).natAbs.log2 < 1920 := by
  by_cases h : l.head? = some 45
  · rw [if_pos h] at hd ⊢
    have z := digits_lt (l.drop 1) 0 hd
    rw [Nat.zero_add, Nat.one_mul] at z
    rw [Int.natAbs_neg, Int.natAbs_natCast]
    exact pow_200 z (by rw [List.length_drop]; omega)
  · rw [if_neg h] at hd ⊢
    have z := digits_lt l 0 hd
    rw [Nat.zero_add, Nat.one_mul] at z
    rw [Int.natAbs_natCast]
    exact pow_200 z hl
theorem intS_digits (n : Int) : (if (intS n).head? = some 45 then (intS n).drop 1 else intS n) = TL.numL n.natAbs := by
  unfold intS
  by_cases h : n < 0
  · rw [if_pos h]; rfl
  · rw [if_neg h, if_neg]
    intro z
    have m : (45 : Nat) ∈ TL.numL n.natAbs := List.mem_of_head? z
    exact TL.numL_free (Or.inl (by decide)) m
theorem intS_all (n : Int) : (if (intS n).head? = some 45 then (intS n).drop 1 else intS n).all isDig = true := by
  rw [intS_digits, List.all_eq_true]
  intro c hc
  exact decide_eq_true (TL.numL_digits _ c hc)
theorem intS_ne (n : Int) : (if (intS n).head? = some 45 then (intS n).drop 1 else intS n) ≠ [] := by
  rw [intS_digits]; exact TL.numL_ne _
theorem intS_back (n : Int) : (if (intS n).head? = some 45 then -((NumText.digitsVal ((intS n).drop 1) : Nat) : Int) else ((NumText.digitsVal (intS n) : Nat) : Int)) = n := by
  unfold intS
  by_cases h : n < 0
  · rw [if_pos h, if_pos (show (45 :: TL.numL n.natAbs).head? = some 45 from rfl)]
    show -((NumText.digitsVal (TL.numL n.natAbs) : Nat) : Int) = n
    rw [TL.numL_val]; omega
  · rw [if_neg h, if_neg, TL.numL_val]
    · omega
    · intro z
      have m : (45 : Nat) ∈ TL.numL n.natAbs := List.mem_of_head? z
      exact TL.numL_free (Or.inl (by decide)) m
theorem intS_codes (n : Int) : ∀ c ∈ intS n, c = 45 ∨ (48 ≤ c ∧ c ≤ 57) := by
  unfold intS
  intro c hc
  by_cases h : n < 0
  · rw [if_pos h] at hc
    rcases List.mem_cons.mp hc with e | hc
    · exact Or.inl e
    · exact Or.inr (TL.numL_digits _ c hc)
  · rw [if_neg h] at hc
    exact Or.inr (TL.numL_digits _ c hc)
end Mx
end
section
/-! running a def's function, step by step -/
namespace XM
open PySem L2 SX
/-- a type that names what simp shall leave alone -/
abbrev Res {α : Sort 1} (_ : α) (τ : Type) : Type := τ
def andM {β γ : Type} (x : Option (Out β)) (k : β → M γ) : Res k (Option (Out γ)) := match x with
  | none => none
  | some (.ex c ρ1) => some (.ex c ρ1)
  | some (.ok r ρ1) => k r ρ1
theorem andM_ext {β γ : Type} {x : Option (Out β)} {k k' : β → M γ} (h : ∀ r ρ, k r ρ = k' r ρ) : andM x k = andM x k' := by
  cases x with
  | none => rfl
  | some o => cases o with
    | ex c r => rfl
    | ok r ρ1 => exact h r ρ1
section
variable {β γ : Type} {m : M β} {k : β → M γ} {ρ ρ' : Fr} {r : β} {c : Str}
theorem andM_ok : andM (some (.ok r ρ)) k = k r ρ := rfl
theorem andM_ex : andM (some (.ex c ρ)) k = some (.ex c ρ) := rfl
theorem at_bnd : bnd m k ρ = andM (m ρ) k := rfl
end
def andS {β : Type} (x : Option (Out β)) (k : β → Fr → Option SO) : Res k (Option SO) := match x with
  | none => none
  | some (.ex c ρ1) => some (.ex c ρ1)
  | some (.ok r ρ1) => k r ρ1
def andQ (x : Option SO) (k : SM) : Res k (Option SO) := match x with
  | some (.nx ρ1) => k ρ1
  | o => o
def iteM {γ : Type} (b : Bool) (x y : γ) : Res (x, y) γ := if b = true then x else y
theorem iteM_true {γ : Type} {x y : γ} : iteM true x y = x := rfl
theorem iteM_false {γ : Type} {x y : γ} : iteM false x y = y := rfl
/-- a partial value -/
def andO {α γ : Type} (x : Option α) (k : α → Option γ) : Res k (Option γ) := match x with
  | none => none
  | some a => k a
section
variable {β γ : Type} {r : β} {ρ ρ' : Fr} {c : Str} {m : M β} {k : β → Fr → Option SO} {s t : SM}
theorem andS_ok : andS (some (.ok r ρ)) k = k r ρ := rfl
theorem andS_ex : andS (some (.ex c ρ)) k = some (.ex c ρ) := rfl
theorem andQ_nx : andQ (some (.nx ρ)) s = s ρ := rfl
theorem andQ_rt {r : R} : andQ (some (.rt r ρ)) s = some (.rt r ρ) := rfl
theorem andQ_ex : andQ (some (.ex c ρ)) s = some (.ex c ρ) := rfl
theorem andQ_bk : andQ (some (.bk ρ)) s = some (.bk ρ) := rfl
theorem andQ_ct : andQ (some (.ct ρ)) s = some (.ct ρ) := rfl
theorem andO_some {α γ : Type} {a : α} {k : α → Option γ} : andO (some a) k = k a := rfl
theorem andO_none {α γ : Type} {k : α → Option γ} : andO none k = none := rfl
theorem at_seq : mSeq s t ρ = andQ (s ρ) t := rfl
theorem at_nx : mNx ρ = some (.nx ρ) := rfl
theorem at_sBnd : sBnd m k ρ = andS (m ρ) k := rfl
end
section
variable {ρ : Fr} {m ma mb mc : M R} {mt : M Bool} {i : Nat} {s t : SM} {d e : D} {ms : List (M R)} {mr : M (List R)}
theorem at_expr : mExpr m ρ = andS (m ρ) fun _ ρ => some (.nx (tidy ρ)) := rfl
theorem at_ret : mRet m ρ = andS (m ρ) fun r ρ => some (.rt r ρ) := rfl
theorem at_retN : mRetN ρ = some (.rt (.dat .none) ρ) := rfl
theorem at_if : mIf mt s t ρ = andS (mt ρ) fun c ρ => iteM c (s ρ) (t ρ) := by
  unfold mIf sBnd andS iteM
  cases mt ρ with
  | none => rfl
  | some o => cases o with
    | ex c r => rfl
    | ok r ρ1 => cases r <;> rfl
theorem at_set : mSet i m ρ = andS (m ρ) fun r ρ => some (.nx (setS i r ρ)) := rfl
def atSlot (s : Option Sl) (ρ : Fr) : Option (Out R) := match s with
  | some (.dat d) => some (.ok (.dat d) ρ)
  | some (.fn x) => some (.ok (.fn x) ρ)
  | some (.ref r) => match ρ.rt[r]? with
    | some _ => some (.ok (.ref r) ρ)
    | none => none
  | _ => none
theorem at_slot : mSlot i ρ = atSlot ρ.sl[i]? ρ := rfl
def atRef (t : Option Rt) (r : Nat) (ρ : Fr) : Option (Out R) := match t with
  | some _ => some (.ok (.ref r) ρ)
  | none => none
theorem atSlot_dat : atSlot (some (.dat d)) ρ = some (.ok (.dat d) ρ) := rfl
theorem atSlot_fn {x : Str} : atSlot (some (.fn x)) ρ = some (.ok (.fn x) ρ) := rfl
theorem atSlot_ref {r : Nat} : atSlot (some (.ref r)) ρ = atRef ρ.rt[r]? r ρ := by
  show (match ρ.rt[r]? with | some _ => _ | none => _) = _
  cases ρ.rt[r]? <;> rfl
theorem atRef_some {t : Rt} {r : Nat} : atRef (some t) r ρ = some (.ok (.ref r) ρ) := rfl
theorem at_c : mC d ρ = some (.ok (.dat d) ρ) := rfl
theorem at_f {x : Str} : mF x ρ = some (.ok (.fn x) ρ) := rfl
/-! values -/
def slOf (r : R) (ρ : Fr) (lo hi : Option Int) : Option R := fSl r ρ lo hi
theorem vw_dat : vw (.dat d) ρ = some d := rfl
theorem vw_own {t : T} : vw (.own t) ρ = t.view := rfl
theorem vw_ref {r : Nat} : vw (.ref r) ρ = (ρ.rt[r]?).bind fun t => t.t.view := rfl
theorem view_dat : T.view (.dat d) = some d := by unfold T.view; rfl
theorem view_dl {l : List D} : T.view (.dl l) = some (.list l) := by unfold T.view; rfl
def atomR (z : Option D) (ρ : Fr) : Option (Out R) := match z with
  | some z => if atomD z = true then some (.ok (.dat z) ρ) else none
  | none => none
theorem atomR_int {i : Int} : atomR (some (.int i)) ρ = some (.ok (.dat (.int i)) ρ) := rfl
theorem atomR_str {x : Str} : atomR (some (.str x)) ρ = some (.ok (.dat (.str x)) ρ) := rfl
theorem atomR_bool {b : Bool} : atomR (some (.bool b)) ρ = some (.ok (.dat (.bool b)) ρ) := rfl
theorem atomR_non : atomR (some .none) ρ = some (.ok (.dat .none) ρ) := rfl
def atomB (z : Option D) (ρ : Fr) : Option (Out Bool) := match z with
  | some (.bool b) => some (.ok b ρ)
  | _ => none
theorem atomB_bool {b : Bool} : atomB (some (.bool b)) ρ = some (.ok b ρ) := rfl
def op2 (f : D → D → Option D) (x y : Option D) : Option D := match x, y with
  | some d, some e => f d e
  | _, _ => none
theorem op2_some {f : D → D → Option D} : op2 f (some d) (some e) = f d e := rfl
theorem at_op {f : D → D → Option D} : mOp f ma mb ρ = andM (ma ρ) fun ra ρ => andM (mb ρ) fun rb ρ => atomR (op2 f (vw ra ρ) (vw rb ρ)) ρ := by
  refine andM_ext fun ra ρ1 => andM_ext fun rb ρ2 => ?_
  cases h1 : vw ra ρ2 with
  | none => simp only [op2, atomR]
  | some d =>
    cases h2 : vw rb ρ2 with
    | none => simp only [op2, atomR]
    | some e =>
      simp only [op2, atomR]
      try (cases f d e <;> rfl)
theorem at_asB : asB m ρ = andM (m ρ) fun r ρ => atomB (vw r ρ) ρ := rfl
theorem at_notT : mNotT mt ρ = andM (mt ρ) fun b ρ => some (.ok (!b) ρ) := rfl
theorem at_andT {mt' : M Bool} : mAndT mt mt' ρ = andM (mt ρ) fun b ρ => iteM b (mt' ρ) (some (.ok false ρ)) := by
  unfold mAndT bnd andM iteM
  cases mt ρ with
  | none => rfl
  | some o => cases o with
    | ex c r => rfl
    | ok r ρ1 => cases r <;> rfl
theorem at_orT {mt' : M Bool} : mOrT mt mt' ρ = andM (mt ρ) fun b ρ => iteM b (some (.ok true ρ)) (mt' ρ) := by
  unfold mOrT bnd andM iteM
  cases mt ρ with
  | none => rfl
  | some o => cases o with
    | ex c r => rfl
    | ok r ρ1 => cases r <;> rfl
theorem at_andV : mAndV ma mb ρ = andM (ma ρ) fun r ρ => andM (atomB (vw r ρ) ρ) fun b ρ => iteM b (mb ρ) (some (.ok (.dat (.bool false)) ρ)) := by
  refine andM_ext fun ra ρ1 => ?_
  cases vw ra ρ1 with
  | none => rfl
  | some d =>
    cases d <;> (try rfl)
    rename_i b; cases b <;> rfl
theorem at_orV : mOrV ma mb ρ = andM (ma ρ) fun r ρ => andM (atomB (vw r ρ) ρ) fun b ρ => iteM b (some (.ok (.dat (.bool true)) ρ)) (mb ρ) := by
  refine andM_ext fun ra ρ1 => ?_
  cases vw ra ρ1 with
  | none => rfl
  | some d =>
    cases d <;> (try rfl)
    rename_i b; cases b <;> rfl
theorem at_ifE : mIfE mt ma mb ρ = andM (mt ρ) fun c ρ => iteM c (ma ρ) (mb ρ) := by
  unfold mIfE bnd andM iteM
  cases mt ρ with
  | none => rfl
  | some o => cases o with
    | ex c r => rfl
    | ok r ρ1 => cases r <;> rfl
def op1 (f : D → Option D) (x : Option D) : Option D := match x with
  | some d => f d
  | none => none
theorem op1_some {f : D → Option D} : op1 f (some d) = f d := rfl
theorem at_v1 {f : D → Option D} : mV1 f m ρ = andM (m ρ) fun r ρ => atomR (op1 f (vw r ρ)) ρ := by
  refine andM_ext fun r ρ1 => ?_
  cases vw r ρ1 <;> rfl
/-! arguments, displays -/
theorem at_args0 : mArgs [] ρ = some (.ok [] ρ) := rfl
theorem at_args1 : mArgs (m :: ms) ρ = andM (m ρ) fun r ρ => andM (mArgs ms ρ) fun rs ρ => some (.ok (r :: rs) ρ) := rfl
theorem at_cons : mCons m mr ρ = andM (m ρ) fun r ρ => andM (mr ρ) fun rs ρ => some (.ok (r :: rs) ρ) := rfl
theorem at_star : mStar m mr ρ = andM (m ρ) fun r ρ1 => andO (its false r ρ1) fun l => andM (mr ρ1) fun rs ρ => some (.ok (l.map R.dat ++ rs) ρ) := by
  refine andM_ext fun r ρ1 => ?_
  cases its false r ρ1 <;> rfl
theorem toDs_nil : toDs [] ρ = some (.ok [] ρ) := rfl
theorem toDs_cons {r : R} {rs : List R} : toDs (r :: rs) ρ = andM (toD r ρ) fun d ρ => andM (toDs rs ρ) fun ds ρ => some (.ok (d :: ds) ρ) := rfl
theorem toD_dat : toD (.dat d) ρ = some (.ok d ρ) := rfl
theorem toD_own {t : T} : toD (.own t) ρ = t.view.map fun d => .ok d ρ := rfl
theorem toD_ref {n : Nat} : toD (.ref n) ρ = andO ρ.rt[n]? fun x => x.t.view.map fun d => .ok d { ρ with rt := ρ.rt.set n ⟨.dat d, x.par⟩ } := by
  show (match ρ.rt[n]? with | some x => _ | none => _) = _
  cases ρ.rt[n]? <;> rfl
theorem toDs_dats : ∀ {l : List D} {ρ : Fr}, toDs (l.map R.dat) ρ = some (.ok l ρ)
  | [], _ => rfl
  | d :: l, ρ => by rw [List.map_cons, toDs_cons, toD_dat, andM_ok, toDs_dats]; rfl
theorem toDs_app : ∀ {l : List D} {rs : List R} {ρ : Fr}, toDs (l.map R.dat ++ rs) ρ = andM (toDs rs ρ) fun ds ρ => some (.ok (l ++ ds) ρ)
  | [], rs, ρ => by
    rw [List.map_nil, List.nil_append]
    cases toDs rs ρ with
    | none => rfl
    | some o => cases o <;> rfl
  | d :: l, rs, ρ => by
    rw [List.map_cons, List.cons_append, toDs_cons, toD_dat, andM_ok, toDs_app]
    cases toDs rs ρ with
    | none => rfl
    | some o => cases o <;> rfl
def small {γ : Type} (n k : Nat) (x : Option γ) : Option γ := if n ≤ k then x else none
theorem small_yes {γ : Type} {n k : Nat} {x : Option γ} (h : n ≤ k) : small n k x = x := if_pos h
theorem at_tup : mTup ms ρ = andM (mArgs ms ρ) fun rs ρ => andM (toDs rs ρ) fun ds ρ => small ds.length 1000 (some (.ok (.dat (.tuple ds)) ρ)) := rfl
theorem at_lst : mLst ms ρ = andM (mArgs ms ρ) fun rs ρ => andM (toDs rs ρ) fun ds ρ => small ds.length 1000 (some (.ok (.own (.dl ds)) ρ)) := rfl
theorem at_tupA : mTupA mr ρ = andM (mr ρ) fun rs ρ => andM (toDs rs ρ) fun ds ρ => small ds.length 1000000 (some (.ok (.dat (.tuple ds)) ρ)) := rfl
theorem at_lstA : mLstA mr ρ = andM (mr ρ) fun rs ρ => andM (toDs rs ρ) fun ds ρ => small ds.length 1000000 (some (.ok (.own (.dl ds)) ρ)) := rfl
/-! items -/
theorem its_dat {b : Bool} : its b (.dat d) ρ = T.items b (.dat d) := rfl
theorem its_own {b : Bool} {t : T} : its b (.own t) ρ = t.items b := rfl
theorem its_ref {b : Bool} {r : Nat} : its b (.ref r) ρ = (ρ.rt[r]?).bind fun t => t.t.items b := rfl
theorem items_list {b : Bool} {l : List D} : T.items b (.dat (.list l)) = some l := rfl
theorem items_tup {l : List D} : T.items false (.dat (.tuple l)) = some l := rfl
theorem items_dl {b : Bool} {l : List D} : T.items b (.dl l) = some l := rfl
theorem items_frz {ns : List Int} : T.items false (.frz ns) = some (ns.map .int) := rfl
theorem at_items {b : Bool} {f : List D → D → Option R} : mItems b f ma mb ρ = andM (ma ρ) fun ra ρ => andM (mb ρ) fun rb ρ => andO (its b ra ρ) fun l => andO (vw rb ρ) fun e => (f l e).map fun z => .ok z ρ := by
  refine andM_ext fun ra ρ1 => andM_ext fun rb ρ2 => ?_
  cases its b ra ρ2 <;> cases vw rb ρ2 <;> rfl
theorem fIx_int {l : List D} {i : Int} : fIx l (.int i) = (atI l i).map .dat := rfl
theorem at_cat : mCat ma mb ρ = andM (ma ρ) fun ra ρ => andM (mb ρ) fun rb ρ => andO (its true ra ρ) fun l => andO (its true rb ρ) fun l2 => small (l.length + l2.length) 1000000 (some (.ok (.own (.dl (l ++ l2))) ρ)) := by
  refine andM_ext fun ra ρ1 => andM_ext fun rb ρ2 => ?_
  cases its true ra ρ2 <;> cases its true rb ρ2 <;> rfl
def intD (x : Option D) : Option Int := match x with
  | some (.int i) => some i
  | _ => none
theorem intD_int {i : Int} : intD (some (.int i)) = some i := rfl
def strO (x : Option D) : Option Str := match x with
  | some (.str i) => some i
  | _ => none
theorem strO_str {i : Str} : strO (some (.str i)) = some i := rfl
def okIf {γ : Type} (p : Prop) [Decidable p] (x : Option γ) : Option γ := if p then x else none
theorem okIf_yes {γ : Type} {p : Prop} [Decidable p] {x : Option γ} (h : p) : okIf p x = x := if_pos h
theorem at_rep : mRep ma mb ρ = andM (ma ρ) fun ra ρ => andM (mb ρ) fun rb ρ => andO (its true ra ρ) fun l => andO (intD (vw rb ρ)) fun n => okIf (-1000000 ≤ n ∧ n ≤ 1000000 ∧ l.length * n.toNat ≤ 1000000) (some (.ok (.own (.dl (List.replicate n.toNat l).flatten)) ρ)) := by
  refine andM_ext fun ra ρ1 => andM_ext fun rb ρ2 => ?_
  cases its true ra ρ2 <;> cases h : vw rb ρ2 <;> (try rfl)
  · rename_i z; cases z <;> rfl
/-! iteration -/
theorem at_seqI : mSeqI m ρ = andM (m ρ) fun r ρ => seqD r ρ := rfl
def listOf (x : Option (Out D)) : Option (Out (List D)) := match x with
  | some (.ok (.list l) ρ1) => some (.ok l ρ1)
  | some (.ok (.tuple l) ρ1) => some (.ok l ρ1)
  | _ => none
theorem listOf_list {l : List D} : listOf (some (.ok (.list l) ρ)) = some (.ok l ρ) := rfl
theorem listOf_tup {l : List D} : listOf (some (.ok (.tuple l) ρ)) = some (.ok l ρ) := rfl
theorem seqD_dat : seqD (.dat d) ρ = listOf (toD (.dat d) ρ) := rfl
theorem seqD_own {t : T} : seqD (.own t) ρ = listOf (toD (.own t) ρ) := rfl
def seqRef (x : Option Rt) (n : Nat) (ρ : Fr) : Option (Out (List D)) := match x with
  | some ⟨.frz ns, _⟩ => some (.ok (ns.map .int) ρ)
  | _ => listOf (toD (.ref n) ρ)
theorem seqD_ref {n : Nat} : seqD (.ref n) ρ = seqRef ρ.rt[n]? n ρ := by
  show (match ρ.rt[n]? with | some ⟨.frz ns, _⟩ => _ | _ => _) = _
  unfold seqRef
  rfl
theorem seqRef_dat {n : Nat} {p} : seqRef (some ⟨.dat d, p⟩) n ρ = listOf (toD (.ref n) ρ) := rfl
theorem seqRef_dl {l : List D} {n : Nat} {p} : seqRef (some ⟨.dl l, p⟩) n ρ = listOf (toD (.ref n) ρ) := rfl
theorem seqRef_frz {l : List Int} {n : Nat} {p} : seqRef (some ⟨.frz l, p⟩) n ρ = some (.ok (l.map .int) ρ) := rfl
theorem at_strI : mStrI m ρ = andM (m ρ) fun r ρ => andO (strO (vw r ρ)) fun z => some (.ok (strD z) ρ) := by
  refine andM_ext fun r ρ1 => ?_
  cases vw r ρ1 with
  | none => rfl
  | some d => cases d <;> rfl
theorem at_rng1 : mRng1 m ρ = andM (m ρ) fun r ρ => andO (intD (vw r ρ)) fun j => okIf (-1000000 ≤ j ∧ j ≤ 1000000) (some (.ok (rangeD 0 j.toNat) ρ)) := by
  refine andM_ext fun r ρ1 => ?_
  cases vw r ρ1 with
  | none => rfl
  | some d => cases d <;> rfl
theorem at_rev1 : mRev1 m ρ = andM (m ρ) fun r ρ => andO (intD (vw r ρ)) fun j => okIf (-1000000 ≤ j ∧ j ≤ 1000000) (some (.ok (rangeC (0 + ((j - 0).toNat : Nat) - 1) (-1) (j - 0).toNat) ρ)) := by
  refine andM_ext fun r ρ1 => ?_
  cases vw r ρ1 with
  | none => rfl
  | some d => cases d <;> rfl
theorem at_rng2 : mRng2 ma mb ρ = andM (ma ρ) fun r ρ => andM (mb ρ) fun r2 ρ => andO (intD (vw r ρ)) fun i => andO (intD (vw r2 ρ)) fun j => okIf (-1000000 ≤ i ∧ i ≤ 1000000 ∧ -1000000 ≤ j ∧ j ≤ 1000000) (some (.ok (rangeD i (j - i).toNat) ρ)) := by
  refine andM_ext fun r ρ1 => andM_ext fun r2 ρ2 => ?_
  cases vw r ρ2 with
  | none => cases vw r2 ρ2 <;> rfl
  | some d => cases d <;> (cases vw r2 ρ2 with
    | none => rfl
    | some d => cases d <;> rfl)
theorem at_for {mi : M (List D)} {b : D → Fr → Option Fr} {s : SM} : mFor mi b s ρ = andS (mi ρ) fun l ρ => forL b s l ρ := rfl
theorem at_lc {vs : List Nat} {mi : M (List D)} {b : D → Fr → Option Fr} {me : M R} : mLc vs mi b mt me ρ = andM (mi ρ) fun l ρ => andO (lcL vs b mt me ρ.sl l [] ρ) fun p => some (.ok (.own (.dl p.1)) p.2) := by
  refine andM_ext fun l ρ1 => ?_
  cases lcL vs b mt me ρ1.sl l [] ρ1 <;> rfl
/-! calls -/
def callR (x : Option FO) (rs : List R) (ρ : Fr) : Option (Out R) := match x with
  | some (.ret t ts) => some (.ok (toR t) (puts rs ts ρ))
  | some (.ex c ts) => some (.ex c (puts rs ts ρ))
  | none => none
theorem callR_ret {t : T} {ts : List T} {rs : List R} : callR (some (.ret t ts)) rs ρ = some (.ok (toR t) (puts rs ts ρ)) := rfl
theorem callR_ex {c : Str} {ts : List T} {rs : List R} : callR (some (.ex c ts)) rs ρ = some (.ex c (puts rs ts ρ)) := rfl
theorem at_callM {f : FM} {rs : List R} : callM f rs ρ = callR (f (takes rs (gathers rs ρ)).1) rs (takes rs (gathers rs ρ)).2 := rfl
def okOnly {β : Type} (x : Option (Out β)) : Option (Out β) := match x with
  | some (.ok r ρ') => some (.ok r ρ')
  | _ => none
theorem okOnly_ok {β : Type} {r : β} : okOnly (some (.ok r ρ)) = some (.ok r ρ) := rfl
theorem at_call0 {f : FM} : mCall0 f ms ρ = andM (mArgs ms ρ) fun rs ρ => okOnly (callR (f (takes rs (gathers rs ρ)).1) rs (takes rs (gathers rs ρ)).2) := rfl
theorem at_call {f : FM} : mCall f ms ρ = andM (mArgs ms ρ) fun rs ρ => callR (f (takes rs (gathers rs ρ)).1) rs (takes rs (gathers rs ρ)).2 := rfl
theorem takes_nil : takes [] ρ = ([], ρ) := rfl
theorem takes_dat {rs : List R} : takes (.dat d :: rs) ρ = (.dat d :: (takes rs ρ).1, (takes rs ρ).2) := rfl
theorem takes_own {t : T} {rs : List R} : takes (.own t :: rs) ρ = (t :: (takes rs ρ).1, (takes rs ρ).2) := rfl
theorem takes_fn {x : Str} {rs : List R} : takes (.fn x :: rs) ρ = (.fn x :: (takes rs ρ).1, (takes rs ρ).2) := rfl
theorem gathers_nil : gathers [] ρ = ρ := rfl
theorem gathers_dat {rs : List R} : gathers (.dat d :: rs) ρ = gathers rs ρ := rfl
theorem gathers_own {t : T} {rs : List R} : gathers (.own t :: rs) ρ = gathers rs ρ := rfl
theorem gathers_fn {x : Str} {rs : List R} : gathers (.fn x :: rs) ρ = gathers rs ρ := rfl
theorem at_puts0 {ts : List T} : puts [] ts ρ = ρ := rfl
theorem puts_dat {rs : List R} {t : T} {ts : List T} : puts (.dat d :: rs) (t :: ts) ρ = puts rs ts ρ := rfl
theorem puts_own {u t : T} {rs : List R} {ts : List T} : puts (.own u :: rs) (t :: ts) ρ = puts rs ts ρ := rfl
theorem puts_fn {x : Str} {t : T} {rs : List R} {ts : List T} : puts (.fn x :: rs) (t :: ts) ρ = puts rs ts ρ := rfl
theorem puts_ref {n : Nat} {t : T} {rs : List R} {ts : List T} : puts (.ref n :: rs) (t :: ts) ρ = puts rs ts (putR n t ρ) := rfl
theorem toR_dat : toR (.dat d) = .dat d := rfl
theorem toR_dl {l : List D} : toR (.dl l) = .own (.dl l) := rfl
theorem toR_fn {x : Str} : toR (.fn x) = .fn x := rfl
def endD (x : Option SO) : Option FO := match x with
  | some (.rt r ρ) => (leave r ρ).map fun p => .ret p.1 p.2
  | some (.nx ρ) => (leave (.dat .none) ρ).map fun p => .ret p.1 p.2
  | some (.ex c ρ) => some (.ex c (params (sweep (fun _ => false) ρ)))
  | _ => none
theorem at_def {n : Nat} {as : List T} : mDef n s as = endD (s (entry n as)) := by
  unfold mDef endD
  cases s (entry n as) with
  | none => rfl
  | some o => cases o <;> rfl
theorem endD_rt {r : R} : endD (some (.rt r ρ)) = (leave r ρ).map fun p => .ret p.1 p.2 := rfl
theorem endD_nx : endD (some (.nx ρ)) = (leave (.dat .none) ρ).map fun p => .ret p.1 p.2 := rfl
theorem endD_ex {c : Str} : endD (some (.ex c ρ)) = some (.ex c (params (sweep (fun _ => false) ρ))) := rfl
theorem lv_dat : leave (.dat d) ρ = some (.dat d, params (sweep (fun _ => false) ρ)) := rfl
theorem lv_own {t : T} : leave (.own t) ρ = some (t, params (sweep (fun _ => false) ρ)) := rfl
theorem lv_fn {x : Str} : leave (.fn x) ρ = some (.fn x, params (sweep (fun _ => false) ρ)) := rfl
/-! built-ins -/
theorem at_mB {f : List R → M R} : mB f ms ρ = andM (mArgs ms ρ) f := rfl
theorem at_f1 {f : D → Option D} {r : R} : f1 f [r] ρ = atomR (op1 f (vw r ρ)) ρ := by
  unfold f1 atomR op1
  simp only
  cases vw r ρ <;> rfl
theorem at_fLen {r : R} : fLen [r] ρ = andO (lenR r ρ) fun n => some (.ok (.dat (.int (n : Int))) ρ) := by
  show (lenR r ρ >>= fun n => pure (n : Int)).map _ = _
  cases lenR r ρ <;> rfl
theorem lenR_dat : lenR (.dat d) ρ = T.len (.dat d) := rfl
theorem lenR_own {t : T} : lenR (.own t) ρ = t.len := rfl
theorem lenR_ref {r : Nat} : lenR (.ref r) ρ = (ρ.rt[r]?).bind fun t => t.t.len := rfl
theorem at_fList {r : R} : fList [r] ρ = (its false r ρ).map fun l => .ok (.own (.dl l)) ρ := rfl
theorem at_fTup {r : R} : fTup [r] ρ = (its false r ρ).map fun l => .ok (.dat (.tuple l)) ρ := rfl
theorem at_isi {ty : Ty} : mIsi ty m ρ = andM (m ρ) fun r ρ => (tyR r ρ).map fun t => .ok (.dat (.bool (isT t ty))) ρ := rfl
theorem tyR_dat : tyR (.dat d) ρ = tyD d := rfl
theorem tyR_own {t : T} : tyR (.own t) ρ = t.ty := rfl
theorem tyR_ref {r : Nat} : tyR (.ref r) ρ = (ρ.rt[r]?).bind fun t => t.t.ty := rfl
theorem at_join : mJoin ma mb ρ = andM (ma ρ) fun ro ρ => andO (strO (vw ro ρ)) fun a => andM (mb ρ) fun re ρ => andO (its false re ρ) fun l => (fJoin l (.str a)).map fun z => .ok z ρ := by
  refine andM_ext fun ro ρ1 => ?_
  cases vw ro ρ1 with
  | none => rfl
  | some d =>
    cases d <;> (try rfl)
    refine andM_ext fun re ρ2 => ?_
    cases its false re ρ2 <;> rfl
theorem at_rev : mRev m ρ = andM (m ρ) fun r ρ => (itsL r ρ).map fun l => .ok (.own (.dl l.reverse)) ρ := rfl
theorem at_slice {lo hi : Option (M R)} : mSlice m lo hi ρ = andM (m ρ) fun r ρ => andM (optM lo ρ) fun l ρ => andM (optM hi ρ) fun h ρ => (fSl r ρ l h).map fun z => .ok z ρ := rfl
theorem at_ix : mIx ma mb ρ = andM (ma ρ) fun ra ρ => andM (mb ρ) fun rb ρ => andO (intD (vw rb ρ)) fun i => match its false ra ρ with
  | some l => (atI l i).map fun d => .ok (.dat d) ρ
  | none => andO (strO (vw ra ρ)) fun z => small z.length 1000000 ((atI z.cps.toList i).map fun c => .ok (.dat (.str ⟨#[c]⟩)) ρ) := by
  refine andM_ext fun ra ρ1 => andM_ext fun rb ρ2 => ?_
  cases its false ra ρ2 with
  | none =>
    cases h : vw rb ρ2 with
    | none => rfl
    | some e =>
      cases e <;> (try rfl)
      simp only [intD, andO]
      cases vw ra ρ2 with
      | none => rfl
      | some d =>
        cases d <;> (try rfl)
        simp only [strO, small]
        split
        · rename_i z i hz
          cases atI i.cps.toList z <;> rfl
        · rfl
  | some l =>
    cases h : vw rb ρ2 with
    | none => rfl
    | some e =>
      cases e <;> (try rfl)
      simp only [intD, andO]
      cases atI l _ <;> rfl
end
end XM
namespace XM
open PySem
/-- one turn of a comprehension -/
def lcOne (vs : List Nat) (b : D → Fr → Option Fr) (mt : M Bool) (me : M R) (ρ : Fr) (d : D) : Option (Option D × Fr) := match b d { ρ with sl := wipeS ρ.sl vs } with
  | none => none
  | some ρ1 => match mt ρ1 with
    | some (.ok true ρ2) => match me ρ2 with
      | some (.ok r ρ3) => match toD r ρ3 with
        | some (.ok z ρ4) => some (some z, { ρ4 with sl := ρ.sl })
        | _ => none
      | _ => none
    | some (.ok false ρ2) => some (none, { ρ2 with sl := ρ.sl })
    | _ => none
theorem lc_acc {α : Type} {vs : List Nat} {b : D → Fr → Option Fr} {mt : M Bool} {me : M R} {ρ : Fr} (e : α → D) (f : α → Option D) : ∀ (xs : List α) (acc : List D) (ρ' : Fr), ρ'.rt = ρ.rt → ρ'.np = ρ.np → acc.length + xs.length ≤ 1000000 →
    (∀ x ∈ xs, lcOne vs b mt me ρ (e x) = some (f x, ρ)) → lcL vs b mt me ρ.sl (xs.map e) acc ρ' = some (acc ++ xs.filterMap f, ρ)
  | [], acc, ρ', h1, h2, _, _ => by
    simp only [List.map_nil, lcL, List.filterMap_nil, List.append_nil, h1, h2]
  | x :: xs, acc, ρ', h1, h2, hl, h => by
    have h0 := h x (List.mem_cons_self)
    simp only [List.length_cons] at hl
    rw [List.map_cons]
    unfold lcL
    have e1 : ({ ρ' with sl := wipeS ρ.sl vs } : Fr) = { ρ with sl := wipeS ρ.sl vs } := by rw [h1, h2]
    rw [e1]
    unfold lcOne at h0
    revert h0
    cases b (e x) { ρ with sl := wipeS ρ.sl vs } with
    | none => intro h0; cases h0
    | some ρ1 =>
      simp only
      cases mt ρ1 with
      | none => intro h0; cases h0
      | some o =>
        cases o with
        | ex c ρ2 => intro h0; cases h0
        | ok t ρ2 =>
          cases t with
          | false =>
            simp only
            intro h0
            have h0' := Option.some.inj h0
            have f0 : f x = none := (congrArg Prod.fst h0').symm
            have r0 : ({ ρ2 with sl := ρ.sl } : Fr) = ρ := congrArg Prod.snd h0'
            rw [List.filterMap_cons, f0]
            exact lc_acc e f xs acc ρ2 (by rw [← r0]) (by rw [← r0]) (by omega) fun y hy => h y (List.mem_cons_of_mem _ hy)
          | true =>
            simp only
            cases me ρ2 with
            | none => intro h0; cases h0
            | some o =>
              cases o with
              | ex c ρ3 => intro h0; cases h0
              | ok r ρ3 =>
                simp only
                cases toD r ρ3 with
                | none => intro h0; cases h0
                | some o =>
                  cases o with
                  | ex c ρ4 => intro h0; cases h0
                  | ok z ρ4 =>
                    simp only
                    intro h0
                    have h0' := Option.some.inj h0
                    have f0 : f x = some z := (congrArg Prod.fst h0').symm
                    have r0 : ({ ρ4 with sl := ρ.sl } : Fr) = ρ := congrArg Prod.snd h0'
                    rw [if_pos (by omega), lc_acc e f xs (acc ++ [z]) ρ4 (by rw [← r0]) (by rw [← r0]) (by rw [List.length_append, List.length_singleton]; omega) fun y hy => h y (List.mem_cons_of_mem _ hy), List.filterMap_cons, f0, List.append_assoc]
                    rfl
theorem lc_eq {α : Type} {vs : List Nat} {b : D → Fr → Option Fr} {mt : M Bool} {me : M R} {ρ : Fr} {xs : List α} (e : α → D) (f : α → Option D) (hl : xs.length ≤ 1000000)
    (h : ∀ x ∈ xs, lcOne vs b mt me ρ (e x) = some (f x, ρ)) : lcL vs b mt me ρ.sl (xs.map e) [] ρ = some (xs.filterMap f, ρ) := lc_acc e f xs [] ρ rfl rfl (by simpa using hl) h
theorem lc_map {α : Type} {vs : List Nat} {b : D → Fr → Option Fr} {mt : M Bool} {me : M R} {ρ : Fr} {xs : List α} (e : α → D) (g : α → D) (hl : xs.length ≤ 1000000)
    (h : ∀ x ∈ xs, lcOne vs b mt me ρ (e x) = some (some (g x), ρ)) : lcL vs b mt me ρ.sl (xs.map e) [] ρ = some (xs.map g, ρ) := by
  rw [lc_eq e (fun x => some (g x)) hl h]
  congr 2
  induction xs with
  | nil => rfl
  | cons x xs ih => rw [List.filterMap_cons, List.map_cons, ih (by simp at hl; omega) fun y hy => h y (List.mem_cons_of_mem _ hy)]
theorem lcF {α : Type} {vs : List Nat} {b : D → Fr → Option Fr} {mt : M Bool} {me : M R} {sl : List Sl} {rt : List Rt} {np : Nat} {xs : List α} {e : α → D} (f : α → Option D) (hl : xs.length ≤ 1000000)
    (h : ∀ x ∈ xs, lcOne vs b mt me ⟨sl, rt, np⟩ (e x) = some (f x, ⟨sl, rt, np⟩)) : lcL vs b mt me sl (xs.map e) [] ⟨sl, rt, np⟩ = some (xs.filterMap f, ⟨sl, rt, np⟩) := lc_eq (ρ := ⟨sl, rt, np⟩) e f hl h
theorem lcM {α : Type} {vs : List Nat} {b : D → Fr → Option Fr} {mt : M Bool} {me : M R} {sl : List Sl} {rt : List Rt} {np : Nat} {xs : List α} {e : α → D} (g : α → D) (hl : xs.length ≤ 1000000)
    (h : ∀ x ∈ xs, lcOne vs b mt me ⟨sl, rt, np⟩ (e x) = some (some (g x), ⟨sl, rt, np⟩)) : lcL vs b mt me sl (xs.map e) [] ⟨sl, rt, np⟩ = some (xs.map g, ⟨sl, rt, np⟩) := lc_map (ρ := ⟨sl, rt, np⟩) e g hl h
/-- a loop that goes through -/
theorem for_inv {α : Type} {b : D → Fr → Option Fr} {m : SM} (e : α → D) (I : List α → Fr → Prop) : ∀ (xs : List α) (ρ : Fr), I xs ρ →
    (∀ x r ρ, I (x :: r) ρ → ∃ ρ1 ρ2, b (e x) ρ = some ρ1 ∧ m ρ1 = some (.nx ρ2) ∧ I r ρ2) → ∃ ρ', forL b m (xs.map e) ρ = some (.nx ρ') ∧ I [] ρ'
  | [], ρ, h, _ => ⟨ρ, rfl, h⟩
  | x :: xs, ρ, h, hs => by
    obtain ⟨ρ1, ρ2, e1, e2, h2⟩ := hs x xs ρ h
    obtain ⟨ρ', e3, h3⟩ := for_inv e I xs ρ2 h2 hs
    refine ⟨ρ', ?_, h3⟩
    rw [List.map_cons]
    unfold forL
    rw [e1]
    simp only
    rw [e2]
    exact e3
theorem for0 {b : D → Fr → Option Fr} {m : SM} (I : List D → Fr → Prop) : ∀ (xs : List D) (ρ : Fr), I xs ρ →
    (∀ x r ρ, I (x :: r) ρ → ∃ ρ1 ρ2, b x ρ = some ρ1 ∧ m ρ1 = some (.nx ρ2) ∧ I r ρ2) → ∃ ρ', forL b m xs ρ = some (.nx ρ') ∧ I [] ρ' := fun xs ρ h hs => by
  have := for_inv (b := b) (m := m) (fun d : D => d) I xs ρ h hs
  rwa [List.map_id''] at this
  exact fun _ => rfl
theorem for_to {b : D → Fr → Option Fr} {m : SM} {xs : List D} {ρ : Fr} {P : Fr → Prop} (I : List D → Fr → Prop) (h0 : I xs ρ)
    (hs : ∀ x r ρ, I (x :: r) ρ → ∃ ρ1 ρ2, b x ρ = some ρ1 ∧ m ρ1 = some (.nx ρ2) ∧ I r ρ2) (he : ∀ ρ', I [] ρ' → P ρ') : ∃ ρ', forL b m xs ρ = some (.nx ρ') ∧ P ρ' := by
  obtain ⟨ρ', e, h⟩ := for0 I xs ρ h0 hs
  exact ⟨ρ', e, he ρ' h⟩
/-- a loop that answers on its way -/
theorem for_ret {pre : List D} {b : D → Fr → Option Fr} {m : SM} {r : R} (I R : Fr → Prop) {x : D} {post : List D} (hs : ∀ y ∈ pre, ∀ ρ, I ρ → ∃ ρ1 ρ2, b y ρ = some ρ1 ∧ m ρ1 = some (.nx ρ2) ∧ I ρ2)
    (hx : ∀ ρ, I ρ → ∃ ρ1 ρ2, b x ρ = some ρ1 ∧ m ρ1 = some (.rt r ρ2) ∧ R ρ2) : ∀ {ρ : Fr}, I ρ → ∃ ρ', forL b m (pre ++ x :: post) ρ = some (.rt r ρ') ∧ R ρ' := by
  induction pre with
  | nil =>
    intro ρ h
    obtain ⟨ρ1, ρ2, e1, e2, h2⟩ := hx ρ h
    refine ⟨ρ2, ?_, h2⟩
    rw [List.nil_append]
    unfold forL
    rw [e1]
    simp only
    rw [e2]
  | cons y pre ih =>
    intro ρ h
    obtain ⟨ρ1, ρ2, e1, e2, h2⟩ := hs y List.mem_cons_self ρ h
    obtain ⟨ρ', e3, h3⟩ := ih (fun z hz => hs z (List.mem_cons_of_mem _ hz)) h2
    refine ⟨ρ', ?_, h3⟩
    rw [List.cons_append]
    unfold forL
    rw [e1]
    simp only
    rw [e2]
    exact e3
def lcQ (x : Option (Out Bool)) (k : Fr → Option (Option D × Fr)) (sl : List Sl) : Res (k, sl) (Option (Option D × Fr)) := match x with
  | some (.ok true ρ2) => k ρ2
  | some (.ok false ρ2) => some (none, { ρ2 with sl := sl })
  | _ => none
def lcE (x : Option (Out R)) (sl : List Sl) : Option (Option D × Fr) := match x with
  | some (.ok r ρ3) => match toD r ρ3 with
    | some (.ok z ρ4) => some (some z, { ρ4 with sl := sl })
    | _ => none
  | _ => none
def lcZ (x : Option (Out D)) (sl : List Sl) : Option (Option D × Fr) := match x with
  | some (.ok z ρ4) => some (some z, { ρ4 with sl := sl })
  | _ => none
section
variable {vs : List Nat} {b : D → Fr → Option Fr} {mt : M Bool} {me : M R} {ρ : Fr} {d : D} {k : Fr → Option (Option D × Fr)} {sl : List Sl}
theorem at_lcOne : lcOne vs b mt me ρ d = andO (b d { ρ with sl := wipeS ρ.sl vs }) fun ρ1 => lcQ (mt ρ1) (fun ρ2 => lcE (me ρ2) ρ.sl) ρ.sl := by
  unfold lcOne andO lcQ lcE
  cases b d { ρ with sl := wipeS ρ.sl vs } with
  | none => rfl
  | some ρ1 => rfl
theorem lcQ_true : lcQ (some (.ok true ρ)) k sl = k ρ := rfl
theorem lcQ_false : lcQ (some (.ok false ρ)) k sl = some (none, { ρ with sl := sl }) := rfl
theorem lcE_ok {r : R} : lcE (some (.ok r ρ)) sl = lcZ (toD r ρ) sl := rfl
theorem lcZ_ok {z : D} : lcZ (some (.ok z ρ)) sl = some (some z, { ρ with sl := sl }) := rfl
theorem at_yes : mYes ρ = some (.ok true ρ) := rfl
theorem at_bName {i : Nat} : bName i d ρ = some { ρ with sl := ρ.sl.set i (.dat d) } := rfl
end
/-! the operators -/
section
variable {i j : Int} {x y : Str}
theorem e_add : fAdd (.int i) (.int j) = some (.int (i + j)) := rfl
theorem e_addS (h : x.length + y.length ≤ 1000000) : fAdd (.str x) (.str y) = some (.str (x ++ y)) := by unfold fAdd; exact if_pos h
theorem e_sub : fSub (.int i) (.int j) = some (.int (i - j)) := rfl
theorem e_mul (h : -18446744073709551616 < j) (h' : j < 18446744073709551616) : fMul (.int i) (.int j) = some (.int (i * j)) := if_pos (decide_eq_true ⟨h, h'⟩)
theorem e_mulL (h : -18446744073709551616 < i) (h' : i < 18446744073709551616) : fMulL (.int i) (.int j) = some (.int (i * j)) := if_pos (decide_eq_true ⟨h, h'⟩)
theorem e_div (h : 0 < j) (h' : j < 1073741824) : fDiv (.int i) (.int j) = some (.int (i / j)) := if_pos (decide_eq_true ⟨h, h'⟩)
theorem e_mod (h : 0 < j) : fMod (.int i) (.int j) = some (.int (i % j)) := if_pos (decide_eq_true h)
theorem e_pow (h : 0 ≤ j) (h' : j ≤ 1000000) (h2 : i.natAbs < 18446744073709551616) : fPow (.int i) (.int j) = some (.int (i ^ j.toNat)) := if_pos (decide_eq_true ⟨h, h', h2⟩)
theorem e_shr (h : 0 ≤ j) : fShr (.int i) (.int j) = some (.int (i / 2 ^ j.toNat)) := if_pos (decide_eq_true h)
theorem e_and : fAnd (.int i) (.int j) = some (.int (Builtin.bitAnd i j)) := rfl
theorem e_lt : fLt (.int i) (.int j) = some (.bool (decide (i < j))) := rfl
theorem e_le : fLe (.int i) (.int j) = some (.bool (decide (i ≤ j))) := rfl
theorem e_gt : fGt (.int i) (.int j) = some (.bool (decide (j < i))) := rfl
theorem e_ge : fGe (.int i) (.int j) = some (.bool (decide (j ≤ i))) := rfl
theorem e_eqI : fEq (.int i) (.int j) = some (.bool (decide (i = j))) := rfl
theorem e_eqS : fEq (.str x) (.str y) = some (.bool (decide (x = y))) := rfl
theorem e_neI : fNe (.int i) (.int j) = some (.bool (!decide (i = j))) := rfl
theorem e_neS : fNe (.str x) (.str y) = some (.bool (!decide (x = y))) := rfl
theorem e_neg : fNeg (.int i) = some (.int (-i)) := rfl
theorem e_notB {b : Bool} : fNotB (.bool b) = some (.bool (!b)) := rfl
theorem e_int : fInt (.int i) = some (.int i) := rfl
theorem e_intB {b : Bool} : fInt (.bool b) = some (.int (if b = true then 1 else 0)) := rfl
end
end XM
namespace XM
open PySem L2 SX
section
variable {ρ : Fr} {m ma mb mc mo me mf : M R} {mt : M Bool} {i j : Nat} {s t : SM} {d e : D} {ms : List (M R)} {mr : M (List R)}
theorem itsL_dat : itsL (.dat d) ρ = T.itemsL (.dat d) := rfl
theorem itsL_own {t : T} : itsL (.own t) ρ = t.itemsL := rfl
theorem itsL_ref {r : Nat} : itsL (.ref r) ρ = (ρ.rt[r]?).bind fun t => t.t.itemsL := rfl
theorem itsT_dat : itsT (.dat d) ρ = T.itemsT (.dat d) := rfl
theorem itsT_own {t : T} : itsT (.own t) ρ = t.itemsT := rfl
theorem itsT_ref {r : Nat} : itsT (.ref r) ρ = (ρ.rt[r]?).bind fun t => t.t.itemsT := rfl
theorem itemsL_list {l : List D} : T.itemsL (.dat (.list l)) = some l := rfl
theorem itemsL_dl {l : List D} : T.itemsL (.dl l) = some l := rfl
theorem itemsL_tup {l : List D} : T.itemsL (.dat (.tuple l)) = none := rfl
theorem itemsL_str {l : Str} : T.itemsL (.dat (.str l)) = none := rfl
theorem itemsT_list {l : List D} : T.itemsT (.dat (.list l)) = none := rfl
theorem itemsT_str {l : Str} : T.itemsT (.dat (.str l)) = none := rfl
theorem itemsT_dl {l : List D} : T.itemsT (.dl l) = none := rfl
theorem itemsT_tup {l : List D} : T.itemsT (.dat (.tuple l)) = some l := rfl
theorem items_str {b : Bool} {x : Str} : T.items b (.dat (.str x)) = none := rfl
theorem at_opt0 : optM none ρ = some (.ok none ρ) := rfl
theorem at_opt1 : optM (some m) ρ = andM (m ρ) fun r ρ => andO (intD (vw r ρ)) fun i => some (.ok (some i) ρ) := by
  refine andM_ext fun r ρ1 => ?_
  cases vw r ρ1 with
  | none => rfl
  | some d => cases d <;> rfl
def dlAt (x : Option Rt) : Option (List D × Option (Nat × Pl)) := match x with
  | some ⟨.dl l, pr⟩ => some (l, pr)
  | _ => none
theorem dlAt_dl {l : List D} {pr} : dlAt (some ⟨.dl l, pr⟩) = some (l, pr) := rfl
def refO (r : R) : Option Nat := match r with
  | .ref n => some n
  | _ => none
theorem refO_ref {n : Nat} : refO (.ref n) = some n := rfl
theorem at_append : mAppend mo me ρ = andM (mo ρ) fun ro ρ0 => andO (refO ro) fun n => andO (dlAt ρ0.rt[n]?) fun _ => andM (me ρ0) fun re ρ => andM (toD re ρ) fun d ρ => andO (dlAt ρ.rt[n]?) fun p => okIf (p.1.length < 1000000) (some (.ok (.dat .none) { ρ with rt := ρ.rt.set n ⟨.dl (p.1 ++ [d]), p.2⟩ })) := by
  refine andM_ext fun ro ρ0 => ?_
  cases ro <;> try rfl
  rename_i n
  show (match ρ0.rt[n]? with | some ⟨.dl _, _⟩ => _ | _ => none) = andO (dlAt ρ0.rt[n]?) _
  cases ρ0.rt[n]? with
  | none => rfl
  | some x =>
    obtain ⟨tx, px⟩ := x
    cases tx <;> try rfl
    refine andM_ext fun re ρ1 => andM_ext fun d ρ2 => ?_
    cases ρ2.rt[n]? with
    | none => rfl
    | some y =>
      obtain ⟨ty, py⟩ := y
      cases ty <;> rfl
theorem at_extend : mExtend mo me ρ = andM (mo ρ) fun ro ρ0 => andO (refO ro) fun n => andO (dlAt ρ0.rt[n]?) fun _ => andM (me ρ0) fun re ρ => andO (dlAt ρ.rt[n]?) fun p => andO (its true re ρ) fun l2 => small (p.1.length + l2.length) 1000000 (some (.ok (.dat .none) { ρ with rt := ρ.rt.set n ⟨.dl (p.1 ++ l2), p.2⟩ })) := by
  refine andM_ext fun ro ρ0 => ?_
  cases ro <;> try rfl
  rename_i n
  show (match ρ0.rt[n]? with | some ⟨.dl _, _⟩ => _ | _ => none) = andO (dlAt ρ0.rt[n]?) _
  cases ρ0.rt[n]? with
  | none => rfl
  | some x =>
    obtain ⟨tx, px⟩ := x
    cases tx <;> try rfl
    refine andM_ext fun re ρ1 => ?_
    cases h : its true re ρ1 with
    | none =>
      cases ρ1.rt[n]? with
      | none => rfl
      | some y =>
        obtain ⟨ty, py⟩ := y
        cases ty <;> rfl
    | some l2 =>
      cases ρ1.rt[n]? with
      | none => rfl
      | some y =>
        obtain ⟨ty, py⟩ := y
        cases ty <;> rfl
def consO (x : Option (List D)) : Option (D × List D) := match x with
  | some (d :: ds) => some (d, ds)
  | _ => none
theorem consO_cons {ds : List D} : consO (some (d :: ds)) = some (d, ds) := rfl
theorem at_unp1 : mUnp1 i j m ρ = andS (m ρ) fun r ρ => andO (consO (its false r ρ)) fun p => small p.2.length 10000 (some (.nx (tidy (toSl j (.own (.dl p.2)) { ρ with sl := ρ.sl.set i (.dat p.1) })))) := by
  show andS (m ρ) _ = _
  cases m ρ with
  | none => rfl
  | some o => cases o with
    | ex c r => rfl
    | ok r ρ1 =>
      show (match its false r ρ1 with | some (d :: ds) => _ | _ => none) = andO (consO (its false r ρ1)) _
      cases its false r ρ1 with
      | none => rfl
      | some l => cases l <;> rfl
def getOr (x : Option D) (df : D) (ρ : Fr) : Option (Out R) := match x with
  | some d => some (.ok (.dat d) ρ)
  | none => if atomD df = true then some (.ok (.dat df) ρ) else none
theorem getOr_some {df : D} : getOr (some d) df ρ = some (.ok (.dat d) ρ) := rfl
theorem getOr_int {i : Int} : getOr none (.int i) ρ = some (.ok (.dat (.int i)) ρ) := rfl
theorem at_dget2 {ks : List Str} : mDGet2 ks ms me mf ρ = andM (mArgs ms ρ) fun rs ρ => andM (toDs rs ρ) fun ds ρ => andM (me ρ) fun re ρ => andM (mf ρ) fun rf ρ => andO (strO (vw re ρ)) fun k => andO (vw rf ρ) fun df => getOr (lkD k ks ds) df ρ := by
  refine andM_ext fun rs ρ1 => andM_ext fun ds ρ2 => andM_ext fun re ρ3 => andM_ext fun rf ρ4 => ?_
  cases vw re ρ4 with
  | none => rfl
  | some a =>
    cases a <;> try rfl
    cases vw rf ρ4 with
    | none => rfl
    | some df =>
      simp only [strO, andO, getOr]
      try (rename_i k; cases lkD k ks ds <;> rfl)
theorem at_tindex {ys : List Str} : mTIndex ys me ρ = andM (me ρ) fun re ρ => andO (strO (vw re ρ)) fun z => (idxS z ys).map fun j => .ok (.dat (.int (j : Nat))) ρ := by
  refine andM_ext fun r ρ1 => ?_
  cases vw r ρ1 with
  | none => rfl
  | some d =>
    cases d <;> try rfl
    rename_i z
    show (match idxS z ys with | some j => _ | none => none) = _
    cases h : idxS z ys <;> simp only [strO, andO, h] <;> rfl
theorem at_index : mIndex mo me ρ = andM (mo ρ) fun ro ρ0 => andO (itsL ro ρ0) fun _ => andM (me ρ0) fun re ρ => andO (itsL ro ρ) fun l => andO (vw re ρ) fun d => okIf (flatS d = true ∧ l.all flatS = true) ((idxF d l).map fun j => .ok (.dat (.int (j : Nat))) ρ) := by
  refine andM_ext fun ro ρ0 => ?_
  cases itsL ro ρ0 with
  | none => rfl
  | some l0 =>
    refine andM_ext fun re ρ1 => ?_
    cases itsL ro ρ1 with
    | none => rfl
    | some l =>
      cases vw re ρ1 with
      | none => rfl
      | some d =>
        simp only [andO, okIf]
        split
        · cases idxF d l <;> rfl
        · rfl
theorem andS_ext {β : Type} {x : Option (Out β)} {k k' : β → Fr → Option SO} (h : ∀ r ρ, k r ρ = k' r ρ) : andS x k = andS x k' := by
  cases x with
  | none => rfl
  | some o => cases o with
    | ex c r => rfl
    | ok r ρ1 => exact h r ρ1
theorem at_setIx {mi : M R} : mSetIx m ma mi ρ = andS (m ρ) fun r ρ => andS (toD r ρ) fun d ρ => andS (ma ρ) fun ro ρ0 => andO (refO ro) fun n => andS (mi ρ0) fun ri ρ => andO (intD (vw ri ρ)) fun i => andO (dlAt ρ.rt[n]?) fun p => andO (ixN p.1.length i) fun j => some (.nx (tidy { ρ with rt := ρ.rt.set n ⟨.dl (p.1.set j d), p.2⟩ })) := by
  refine andS_ext fun r ρ1 => andS_ext fun d ρ2 => andS_ext fun ro ρ3 => ?_
  cases ro with
  | ref n =>
    refine andS_ext (x := mi ρ3) fun ri ρ4 => ?_
    cases vw ri ρ4 with
    | none => rfl
    | some e =>
      cases e <;> try rfl
      show _ = andO (dlAt ρ4.rt[n]?) _
      cases ρ4.rt[n]? with
      | none => rfl
      | some x =>
        obtain ⟨t, pr⟩ := x
        cases t <;> try rfl
        show _ = andO (ixN _ _) _
        dsimp only [dlAt, andO]
        rename_i i l
        cases ixN l.length i <;> rfl
  | _ => rfl
theorem at_fMax {r : R} : fMax [r] ρ = andO (itsL r ρ) fun l => andO (intsOf l) fun ns => match ns with
  | [] => none
  | n :: ns => some (.ok (.dat (.int (maxL (n :: ns)))) ρ) := by
  show (match itsL r ρ with | some l => _ | none => none) = _
  cases itsL r ρ with
  | none => rfl
  | some l =>
    simp only [andO]
    cases intsOf l with
    | none => rfl
    | some ns => cases ns <;> rfl
def tupO (d : D) : Option (List D) := match d with
  | .tuple l => some l
  | _ => none
def lstO (d : D) : Option (List D) := match d with
  | .list l => some l
  | _ => none
theorem tupO_tup {l : List D} : tupO (.tuple l) = some l := rfl
theorem lstO_lst {l : List D} : lstO (.list l) = some l := rfl
theorem at_zipTL : mZipTL ma mb ρ = andM (ma ρ) fun ra ρ => andM (toD ra ρ) fun da ρ => andM (mb ρ) fun rb ρ => andM (toD rb ρ) fun db ρ => andO (tupO da) fun xs => andO (lstO db) fun ys => okIf (xs.length = ys.length) (some (.ok ((xs.zip ys).map fun p => .tuple [p.1, p.2]) ρ)) := by
  refine andM_ext fun ra ρ1 => andM_ext fun da ρ2 => andM_ext fun rb ρ3 => andM_ext fun db ρ4 => ?_
  cases da <;> try rfl
  cases db <;> rfl
theorem at_fd {tb : List (Str × Str)} : mFD tb m ρ = andM (m ρ) fun r ρ => andO (strO (vw r ρ)) fun k => (tb.lookup k).map fun n => .ok (.fn n) ρ := by
  refine andM_ext fun r ρ1 => ?_
  cases vw r ρ1 with
  | none => rfl
  | some d =>
    cases d <;> try rfl
    rename_i z
    show (match tb.lookup z with | some n => _ | none => none) = _
    cases h : tb.lookup z <;> simp only [strO, andO, h] <;> rfl
def fnO (x : Option Sl) : Option Str := match x with
  | some (.fn n) => some n
  | _ => none
theorem fnO_fn {x : Str} : fnO (some (.fn x)) = some x := rfl
theorem at_callF {tb : List (Str × FM)} : mCallF i tb ms ρ = andO (fnO ρ.sl[i]?) fun n => andO (tb.lookup n) fun f => mCall0 f ms ρ := by
  unfold mCallF fnO
  cases ρ.sl[i]? with
  | none => rfl
  | some x =>
    cases x <;> try rfl
    rename_i n
    show (match tb.lookup n with | some m => _ | none => none) = _
    cases h : tb.lookup n <;> simp only [andO, h] <;> rfl
theorem at_bNil : bNil [] ρ = some ρ := rfl
theorem at_bCons {b : D → Fr → Option Fr} {bs : List D → Fr → Option Fr} {l : List D} : bCons b bs (d :: l) ρ = andO (b d ρ) fun ρ => bs l ρ := by
  show (match b d ρ with | some ρ1 => _ | none => none) = _
  cases b d ρ <;> rfl
theorem at_bTup {n : Nat} {bs : List D → Fr → Option Fr} {l : List D} : bTup n bs (.tuple l) ρ = okIf (l.length = n) (bs l ρ) := rfl
theorem e_inL {l : List D} : fIn d (.list l) = okIf (flatS d = true ∧ l.all flatS = true) (some (.bool (l.any fun z => eqF z d))) := rfl
theorem e_inT {l : List D} : fIn d (.tuple l) = okIf (flatS d = true ∧ l.all flatS = true) (some (.bool (l.any fun z => eqF z d))) := rfl
theorem e_notInL {l : List D} : fNotIn d (.list l) = okIf (flatS d = true ∧ l.all flatS = true) (some (.bool (!l.any fun z => eqF z d))) := rfl
theorem flatS_int {i : Int} : flatS (.int i) = true := rfl
theorem flatS_str {i : Str} : flatS (.str i) = true := rfl
theorem eqF_int {i j : Int} : eqF (.int i) (.int j) = decide (i = j) := rfl
theorem eqF_str {i j : Str} : eqF (.str i) (.str j) = decide (i = j) := rfl
theorem eqF_is {i : Int} {j : Str} : eqF (.int i) (.str j) = false := rfl
theorem eqF_si {i : Int} {j : Str} : eqF (.str j) (.int i) = false := rfl
theorem len_list {l : List D} : T.len (.dat (.list l)) = some l.length := rfl
theorem len_tup {l : List D} : T.len (.dat (.tuple l)) = some l.length := rfl
theorem len_dl {l : List D} : T.len (.dl l) = some l.length := rfl
theorem len_str {l : Str} : T.len (.dat (.str l)) = small l.length 1000000 (some l.length) := rfl
theorem len_frz {l : List Int} : T.len (.frz l) = some l.length := rfl
theorem ty_int {i : Int} : tyD (.int i) = some .int := rfl
theorem ty_str {i : Str} : tyD (.str i) = some .str := rfl
theorem ty_bool {i : Bool} : tyD (.bool i) = some .bool := rfl
theorem ty_none : tyD .none = some .none := rfl
theorem ty_list {i : List D} : tyD (.list i) = some .list := rfl
theorem ty_tup {i : List D} : tyD (.tuple i) = some .tuple := rfl
theorem tyT_dl {i : List D} : T.ty (.dl i) = some .list := rfl
theorem tyT_dat : T.ty (.dat d) = tyD d := rfl
theorem lit_inj {a b : String} : (Str.ofString a = Str.ofString b) = (a = b) := by
  refine propext ⟨fun h => ?_, fun h => by rw [h]⟩
  have h1 : TL.tl (Str.ofString a) = TL.tl (Str.ofString b) := by rw [h]
  have h2 : ∀ s : String, TL.tl (Str.ofString s) = s.toList.map Char.toNat := fun s => cpsOfBytes_string s
  rw [h2, h2] at h1
  have inj : ∀ l r : List Char, l.map Char.toNat = r.map Char.toNat → l = r := by
    intro l
    induction l with
    | nil => intro r h; cases r with
      | nil => rfl
      | cons _ _ => cases h
    | cons x l ih =>
      intro r h
      cases r with
      | nil => cases h
      | cons y r =>
        rw [List.map_cons, List.map_cons] at h
        injection h with h1 h2
        have : x = y := Char.ext (UInt32.toNat_inj.mp h1)
        rw [this, ih r h2]
  exact String.toList_inj.mp (inj _ _ h1)
theorem idxS_cons {z y : Str} {r : List Str} : idxS z (y :: r) = iteM (decide (y = z)) (some 0) ((idxS z r).map (· + 1)) := by
  unfold iteM
  rw [idxS]
  by_cases h : y = z <;> simp [h]
theorem idxF_cons {z y : D} {r : List D} : idxF z (y :: r) = iteM (eqF y z) (some 0) ((idxF z r).map (· + 1)) := by
  unfold iteM
  rw [idxF]
theorem lkD_cons {k q : Str} {ks : List Str} {ds : List D} : lkD k (q :: ks) (d :: ds) = iteM (decide (q = k)) (some d) (lkD k ks ds) := by
  unfold iteM
  rw [lkD]
  by_cases h : q = k <;> simp [h]
theorem lkD_nil {k : Str} {ds : List D} : lkD k [] ds = none := by cases ds <;> rfl
theorem lookup_str {α : Type} {k q : Str} {v : α} {r : List (Str × α)} : List.lookup k ((q, v) :: r) = iteM (decide (k = q)) (some v) (List.lookup k r) := by
  unfold iteM
  rw [List.lookup_cons]
  by_cases h : k = q
  · subst h; simp
  · have : (k == q) = false := by simpa using h
    rw [this]
    simp [h]
theorem forL_nil {b : D → Fr → Option Fr} : forL b s [] ρ = some (.nx ρ) := rfl
def forQ (x : Option SO) (k : SM) : Res k (Option SO) := match x with
  | some (.nx ρ2) => k ρ2
  | some (.ct ρ2) => k ρ2
  | some (.bk ρ2) => some (.nx ρ2)
  | o => o
theorem forQ_nx {k : SM} : forQ (some (.nx ρ)) k = k ρ := rfl
theorem forQ_rt {r : R} {k : SM} : forQ (some (.rt r ρ)) k = some (.rt r ρ) := rfl
theorem forL_cons {b : D → Fr → Option Fr} {ds : List D} : forL b s (d :: ds) ρ = andO (b d ρ) fun ρ => forQ (s ρ) fun ρ => forL b s ds ρ := by
  rw [forL]
  cases b d ρ with
  | none => rfl
  | some ρ1 =>
    simp only [andO, forQ]
    try (cases s ρ1 <;> try rfl)
    try (rename_i o; cases o <;> rfl)
end
theorem e_ord {x : Str} (h : x.length = 1) : fOrd (.str x) = some (.int (x.cps.getD 0 0 : Nat)) := if_pos h
theorem e_join (a : List Nat) (ys : List (List Nat)) : fJoin (ys.map fun y => .str (S y)) (.str (S a)) = okIf ((ys.map List.length).sum + ys.length * a.length ≤ 1000000) (some (.dat (.str (S (TL.joinL a ys))))) := by
  have h : strsOf (ys.map fun y => PyData.str (S y)) = some (ys.map S) := by
    induction ys with
    | nil => rfl
    | cons y ys ih => rw [List.map_cons, List.map_cons]; unfold strsOf; rw [ih]; rfl
  unfold fJoin okIf
  simp only
  rw [h]
  simp only [join_S]
  simp only [List.map_map, List.length_map]
  rw [show (ys.map ((fun x => x.length) ∘ S)) = ys.map List.length from List.map_congr_left fun y _ => S_len y, S_len]
theorem len_S {l : List Nat} : (S l).length = l.length := S_len l
theorem idxF_strs {w : Str} : ∀ {xs : List Str}, idxF (.str w) (xs.map PyData.str) = idxS w xs
  | [] => rfl
  | x :: xs => by
    rw [List.map_cons, idxF_cons, idxS_cons, eqF_str, idxF_strs]
theorem all_flat {xs : List Str} : (xs.map PyData.str).all flatS = true := by
  rw [List.all_map]
  exact List.all_eq_true.mpr fun _ _ => rfl
theorem cut_one {α : Type} {a : α} {r : List α} : cutD (a :: r) (some 1) none = r := by
  unfold cutD
  have h1 : HT.sIx (a :: r).length 0 (some 1) = 1 := by
    rw [show (some (1 : Int)) = some ((1 : Nat) : Int) from rfl, HT.sIx_nat, List.length_cons]; omega
  rw [h1, HT.sIx_none, List.length_cons]
  simp
theorem and255 (m : Int) : Builtin.bitAnd m 255 = m % 256 := PyProof.Rows.bitAnd_m8 m
theorem atI_pos {α : Type} {l : List α} {i : Int} (h : 0 ≤ i) : atI l i = l[i.toNat]? := by
  unfold atI ixN
  rw [if_pos h]
  by_cases h1 : i < l.length
  · rw [if_pos h1]; rfl
  · rw [if_neg h1]
    rw [List.getElem?_eq_none (by omega)]
    rfl
end XM
namespace XM
open PySem L2 SX
section
variable {ρ : Fr} {lo hi : Option Int}
def sl3 (x : Option (List D)) (y : Option (List D)) (z : Option Str) (lo hi : Option Int) : Option R := match x with
  | some l => some (.own (.dl (cutD l lo hi)))
  | none => match y with
    | some l => some (.dat (.tuple (cutD l lo hi)))
    | none => match z with
      | some z => small z.length 1000000 (some (.dat (.str (cutS z lo hi))))
      | none => none
theorem sl3_l {l : List D} {y z} : sl3 (some l) y z lo hi = some (.own (.dl (cutD l lo hi))) := rfl
theorem sl3_t {l : List D} {z} : sl3 none (some l) z lo hi = some (.dat (.tuple (cutD l lo hi))) := rfl
theorem sl3_s {z : Str} : sl3 none none (some z) lo hi = small z.length 1000000 (some (.dat (.str (cutS z lo hi)))) := rfl
theorem at_fSl {r : R} : fSl r ρ lo hi = sl3 (itsL r ρ) (itsT r ρ) (strO (vw r ρ)) lo hi := by
  unfold fSl sl3 small
  cases itsL r ρ with
  | some l => rfl
  | none =>
    cases itsT r ρ with
    | some l => rfl
    | none =>
      cases vw r ρ with
      | none => rfl
      | some d => cases d <;> rfl
end
end XM
namespace XM
open PySem L2 SX
section
variable {i : Nat} {r : R} {sl : List Sl} {rt : List Rt} {np : Nat} {keep : Nat → Bool}
theorem setS_mk : setS i r ⟨sl, rt, np⟩ = tidy (toSl i r (XM.letGo i r ⟨sl, rt, np⟩)) := rfl
theorem letGo_mk : XM.letGo i r ⟨sl, rt, np⟩ = sweep (fun k => named ⟨sl.set i .un, rt, np⟩ k || isRef r k) ⟨sl.set i .un, rt, np⟩ := rfl
theorem tidy_mk : tidy ⟨sl, rt, np⟩ = trim (sweep (named ⟨sl, rt, np⟩) ⟨sl, rt, np⟩) := rfl
theorem sweep_mk : sweep keep ⟨sl, rt, np⟩ = sweepN keep (rt.length - np) ⟨sl, rt, np⟩ := rfl
theorem trim_mk : trim ⟨sl, rt, np⟩ = ⟨sl.map (trSl (rt.take np ++ trimL (rt.drop np)).length), (rt.take np ++ trimL (rt.drop np)).map (trRt (rt.take np ++ trimL (rt.drop np)).length), np⟩ := rfl
theorem toSl_dat {d : D} : toSl i (.dat d) ⟨sl, rt, np⟩ = ⟨sl.set i (.dat d), rt, np⟩ := rfl
theorem toSl_fn {d : Str} : toSl i (.fn d) ⟨sl, rt, np⟩ = ⟨sl.set i (.fn d), rt, np⟩ := rfl
theorem toSl_ref {n : Nat} : toSl i (.ref n) ⟨sl, rt, np⟩ = ⟨sl.set i (.ref n), rt, np⟩ := rfl
theorem toSl_own {t : T} : toSl i (.own t) ⟨sl, rt, np⟩ = ⟨sl.set i (.ref (place t ⟨sl, rt, np⟩).1), (place t ⟨sl, rt, np⟩).2.rt, (place t ⟨sl, rt, np⟩).2.np⟩ := rfl
theorem trSl_un {n : Nat} : trSl n .un = .un := rfl
theorem trSl_dat {n : Nat} {d : D} : trSl n (.dat d) = .dat d := rfl
theorem trSl_fn {n : Nat} {d : Str} : trSl n (.fn d) = .fn d := rfl
theorem trSl_ref {n r : Nat} : trSl n (.ref r) = if r < n then .ref r else .un := rfl
theorem trRt_none {n : Nat} {t : T} : trRt n ⟨t, none⟩ = ⟨t, none⟩ := rfl
theorem trRt_some {n j : Nat} {t : T} {p : Pl} : trRt n ⟨t, some (j, p)⟩ = if j < n then ⟨t, some (j, p)⟩ else ⟨t, none⟩ := rfl
theorem kidR_none {k : Nat} {t : T} : kidR k ⟨t, none⟩ = false := rfl
theorem kidR_some {k j : Nat} {t : T} {p : Pl} : kidR k ⟨t, some (j, p)⟩ = (j == k && !t.isGone) := rfl
theorem kid_mk {k : Nat} : kid ⟨sl, rt, np⟩ k = rt.any (kidR k) := rfl
theorem params_mk : params ⟨sl, rt, np⟩ = (rt.take np).map (·.t) := rfl
end
end XM
namespace XM
open PySem L2 SX
def ownR (x : Option Rt) (n : Nat) : Option (Nat × Nat) := match x with
  | some ⟨.dl l, _⟩ => some (n, l.length)
  | _ => none
section
variable {ρ : Fr} {d : D} {n : Nat} {l : List D} {pr : Option (Nat × Pl)} {b : D → Fr → Option Fr} {s : SM} {r : R} {vs : List Nat} {mt : M Bool} {me ms : M R}
theorem ownL_dat : ownL (.dat d) ρ = none := rfl
theorem ownL_own {t : T} : ownL (.own t) ρ = none := rfl
theorem ownL_ref : ownL (.ref n) ρ = ownR ρ.rt[n]? n := by
  show (match ρ.rt[n]? with | some ⟨.dl l, _⟩ => _ | _ => none) = _
  unfold ownR
  rfl
theorem ownR_dl : ownR (some ⟨.dl l, pr⟩) n = some (n, l.length) := rfl
theorem ownR_dat : ownR (some ⟨.dat d, pr⟩) n = none := rfl
theorem ownR_frz {l : List Int} : ownR (some ⟨.frz l, pr⟩) n = none := rfl
def walkS (x : Option (Nat × Nat)) (r : R) (b : D → Fr → Option Fr) (s : SM) (ρ : Fr) : Res (r, b, s, ρ) (Option SO) := match x with
  | some p => (forO b s p.1 p.2 p.2 (pin ρ)).map (unpinO ρ.np)
  | none => andS (seqD r ρ) fun l ρ => forL b s l ρ
theorem walkS_some {p : Nat × Nat} : walkS (some p) r b s ρ = (forO b s p.1 p.2 p.2 (pin ρ)).map (unpinO ρ.np) := rfl
theorem walkS_none : walkS none r b s ρ = andS (seqD r ρ) fun l ρ => forL b s l ρ := rfl
theorem at_forO : mForO me b s ρ = andS (me ρ) fun r ρ => walkS (ownL r ρ) r b s ρ := by
  show andS (me ρ) _ = _
  cases me ρ with
  | none => rfl
  | some o => cases o with
    | ex c r => rfl
    | ok r ρ1 =>
      show (match ownL r ρ1 with | some p => _ | none => _) = walkS (ownL r ρ1) r b s ρ1
      cases ownL r ρ1 <;> rfl
def lcS (x : Option (Nat × Nat)) (r : R) (vs : List Nat) (b : D → Fr → Option Fr) (mt : M Bool) (me : M R) (ρ : Fr) : Res (r, vs, b, mt, me, ρ) (Option (Out R)) := match x with
  | some p => andO (lcO p.1 p.2 vs b mt me ρ.sl p.2 [] ρ) fun p => some (.ok (.own (.dl p.1)) p.2)
  | none => andM (seqD r ρ) fun l ρ => andO (lcL vs b mt me ρ.sl l [] ρ) fun p => some (.ok (.own (.dl p.1)) p.2)
theorem lcS_some {p : Nat × Nat} : lcS (some p) r vs b mt me ρ = andO (lcO p.1 p.2 vs b mt me ρ.sl p.2 [] ρ) fun p => some (.ok (.own (.dl p.1)) p.2) := rfl
theorem lcS_none : lcS none r vs b mt me ρ = andM (seqD r ρ) fun l ρ => andO (lcL vs b mt me ρ.sl l [] ρ) fun p => some (.ok (.own (.dl p.1)) p.2) := rfl
theorem at_lcO : mLcO vs ms b mt me ρ = andM (ms ρ) fun r ρ => lcS (ownL r ρ) r vs b mt me ρ := by
  refine andM_ext fun r ρ1 => ?_
  cases ownL r ρ1 with
  | some p =>
    rw [lcS_some]
    dsimp only
    cases lcO p.1 p.2 vs b mt me ρ1.sl p.2 [] ρ1 <;> rfl
  | none =>
    rw [lcS_none]
    refine andM_ext fun l ρ2 => ?_
    cases lcL vs b mt me ρ2.sl l [] ρ2 <;> rfl
theorem pin_mk {sl : List Sl} {rt : List Rt} {np : Nat} : pin ⟨sl, rt, np⟩ = ⟨sl, rt, rt.length⟩ := rfl
theorem unpin_mk {sl : List Sl} {rt : List Rt} {np k : Nat} : unpin k ⟨sl, rt, np⟩ = ⟨sl, rt, k⟩ := rfl
theorem unpinO_nx {k : Nat} : unpinO k (.nx ρ) = .nx (unpin k ρ) := rfl
theorem unpinO_rt {k : Nat} : unpinO k (.rt r ρ) = .rt r (unpin k ρ) := rfl
theorem curO_at {k i : Nat} (h : ρ.rt[n]? = some ⟨.dl l, pr⟩) (hk : l.length = k) : curO n k i ρ = l[i]? := by
  unfold curO
  rw [h]
  simp only
  rw [if_pos hk]
theorem endO_at {k : Nat} (h : ρ.rt[n]? = some ⟨.dl l, pr⟩) (hk : l.length = k) : endO n k ρ = true := by
  unfold endO
  rw [h]
  exact decide_eq_true hk
/-- a loop over a list that stands at a root and stays there -/
theorem for_toO {P : Fr → Prop} (I : List D → Fr → Prop) (keep : ∀ r ρ, I r ρ → ∃ pr, ρ.rt[n]? = some ⟨.dl l, pr⟩) (h0 : I l ρ)
    (hs : ∀ x r ρ, I (x :: r) ρ → ∃ ρ1 ρ2, b x ρ = some ρ1 ∧ s ρ1 = some (.nx ρ2) ∧ I r ρ2) (he : ∀ ρ', I [] ρ' → P ρ') : ∃ ρ', forO b s n l.length l.length ρ = some (.nx ρ') ∧ P ρ' := by
  have go : ∀ (rest pre : List D) (ρ : Fr), l = pre ++ rest → I rest ρ → ∃ ρ', forO b s n l.length rest.length ρ = some (.nx ρ') ∧ P ρ' := by
    intro rest
    induction rest with
    | nil =>
      intro pre ρ e h
      obtain ⟨pr, k⟩ := keep _ _ h
      refine ⟨ρ, ?_, he _ h⟩
      show forO b s n l.length 0 ρ = _
      unfold forO
      rw [if_pos (endO_at k rfl)]
    | cons x rest ih =>
      intro pre ρ e h
      obtain ⟨pr, k⟩ := keep _ _ h
      obtain ⟨ρ1, ρ2, e1, e2, h2⟩ := hs x rest ρ h
      obtain ⟨ρ', e3, h3⟩ := ih (pre ++ [x]) ρ2 (by rw [e, List.append_assoc]; rfl) h2
      refine ⟨ρ', ?_, h3⟩
      have ei : l[l.length - (rest.length + 1)]? = some x := by
        have : l.length - (rest.length + 1) = pre.length := by rw [e, List.length_append, List.length_cons]; omega
        rw [this, e, List.getElem?_append_right (Nat.le_refl _), Nat.sub_self]
        rfl
      show forO b s n l.length (rest.length + 1) ρ = _
      unfold forO
      rw [curO_at k rfl, ei]
      simp only
      rw [e1]
      simp only
      rw [e2]
      exact e3
  exact go l [] ρ rfl h0
theorem lcO_acc {sl : List Sl} {rt : List Rt} {np : Nat} (f : D → Option D) (hx : rt[n]? = some ⟨.dl l, pr⟩) (hl : l.length ≤ 1000000) (h : ∀ x ∈ l, lcOne vs b mt me ⟨sl, rt, np⟩ x = some (f x, ⟨sl, rt, np⟩)) :
    ∀ (rest pre acc : List D) (ρ' : Fr), l = pre ++ rest → ρ'.rt = rt → ρ'.np = np → acc.length ≤ pre.length → lcO n l.length vs b mt me sl rest.length acc ρ' = some (acc ++ rest.filterMap f, ⟨sl, rt, np⟩)
  | [], pre, acc, ρ', e, h1, h2, _ => by
    show lcO n l.length vs b mt me sl 0 acc ρ' = _
    unfold lcO
    rw [if_pos (endO_at (by rw [h1]; exact hx) rfl), List.filterMap_nil, List.append_nil, h1, h2]
  | x :: rest, pre, acc, ρ', e, h1, h2, ha => by
    have ei : l[l.length - (rest.length + 1)]? = some x := by
      have : l.length - (rest.length + 1) = pre.length := by rw [e, List.length_append, List.length_cons]; omega
      rw [this, e, List.getElem?_append_right (Nat.le_refl _), Nat.sub_self]
      rfl
    have lt : acc.length < 1000000 := by have := congrArg List.length e; rw [List.length_append, List.length_cons] at this; omega
    have h0 := h x (by rw [e]; simp)
    show lcO n l.length vs b mt me sl (rest.length + 1) acc ρ' = _
    unfold lcO
    rw [curO_at (by rw [h1]; exact hx) rfl, ei]
    simp only
    have e1 : ({ ρ' with sl := wipeS sl vs } : Fr) = ⟨wipeS sl vs, rt, np⟩ := by rw [← h1, ← h2]
    rw [e1]
    unfold lcOne at h0
    dsimp only at h0
    revert h0
    cases b x ⟨wipeS sl vs, rt, np⟩ with
    | none => intro h0; cases h0
    | some ρ1 =>
      simp only
      cases mt ρ1 with
      | none => intro h0; cases h0
      | some o =>
        cases o with
        | ex c ρ2 => intro h0; cases h0
        | ok t ρ2 =>
          cases t with
          | false =>
            simp only
            intro h0
            have h0' := Option.some.inj h0
            have f0 : f x = none := (congrArg Prod.fst h0').symm
            have r0 : ({ ρ2 with sl := sl } : Fr) = ⟨sl, rt, np⟩ := congrArg Prod.snd h0'
            rw [List.filterMap_cons, f0]
            exact lcO_acc f hx hl h rest (pre ++ [x]) acc ρ2 (by rw [e, List.append_assoc]; rfl) (congrArg Fr.rt r0) (congrArg Fr.np r0) (by rw [List.length_append]; omega)
          | true =>
            simp only
            cases me ρ2 with
            | none => intro h0; cases h0
            | some o =>
              cases o with
              | ex c ρ3 => intro h0; cases h0
              | ok r ρ3 =>
                simp only
                cases toD r ρ3 with
                | none => intro h0; cases h0
                | some o =>
                  cases o with
                  | ex c ρ4 => intro h0; cases h0
                  | ok z ρ4 =>
                    simp only
                    intro h0
                    have h0' := Option.some.inj h0
                    have f0 : f x = some z := (congrArg Prod.fst h0').symm
                    have r0 : ({ ρ4 with sl := sl } : Fr) = ⟨sl, rt, np⟩ := congrArg Prod.snd h0'
                    rw [if_pos lt, lcO_acc f hx hl h rest (pre ++ [x]) (acc ++ [z]) ρ4 (by rw [e, List.append_assoc]; rfl) (congrArg Fr.rt r0) (congrArg Fr.np r0) (by rw [List.length_append, List.length_append, List.length_singleton, List.length_singleton]; omega), List.filterMap_cons, f0, List.append_assoc]
                    rfl
theorem lcOF {sl : List Sl} {rt : List Rt} {np : Nat} (f : D → Option D) (hx : rt[n]? = some ⟨.dl l, pr⟩) (hl : l.length ≤ 1000000) (h : ∀ x ∈ l, lcOne vs b mt me ⟨sl, rt, np⟩ x = some (f x, ⟨sl, rt, np⟩)) :
    lcO n l.length vs b mt me sl l.length [] ⟨sl, rt, np⟩ = some (l.filterMap f, ⟨sl, rt, np⟩) := lcO_acc f hx hl h l [] [] _ rfl rfl rfl (Nat.le_refl _)
end
end XM
end
section
/-! the law of k09 -/
namespace XM
open PySem L2 SX
section
variable {ρ : Fr} {ms : List (M R)} {mo : M R}
def newR (x : Option FO) (rs : List R) (ρ : Fr) : Option (Out R) := match x with
  | some (.ret (.dat .none) (s :: ts)) => some (.ok (toR s) (puts rs ts ρ))
  | _ => none
theorem newR_ret {s : T} {ts : List T} {rs : List R} : newR (some (.ret (.dat .none) (s :: ts))) rs ρ = some (.ok (toR s) (puts rs ts ρ)) := rfl
theorem at_new {c : Str} {f : FM} {dts : List D} : mNew c f dts ms ρ = andM (mArgs ms ρ) fun rs ρ => newR (f (.ins c [] :: (takes (rs ++ dts.map R.dat) (gathers (rs ++ dts.map R.dat) ρ)).1)) (rs ++ dts.map R.dat) (takes (rs ++ dts.map R.dat) (gathers (rs ++ dts.map R.dat) ρ)).2 := rfl
theorem toR_ins {c : Str} {fs : List (Str × T)} : toR (.ins c fs) = .own (.ins c fs) := rfl
def clsR (x : Option Rt) (n : Nat) : Option (Nat × Str × List (Str × T)) := match x with
  | some ⟨.ins c fs, _⟩ => some (n, c, fs)
  | _ => none
theorem clsAt_ref {n : Nat} : clsAt (.ref n) ρ = clsR ρ.rt[n]? n := by
  show (match ρ.rt[n]? with | some ⟨.ins c fs, _⟩ => _ | _ => none) = _
  unfold clsR
  rfl
theorem clsR_ins {c : Str} {fs : List (Str × T)} {p : Option (Nat × Pl)} {n : Nat} : clsR (some ⟨.ins c fs, p⟩) n = some (n, c, fs) := rfl
def methR (x : Option (Nat × Str × List (Str × T))) (c m : Str) (k : Option (Out R)) : Res k (Option (Out R)) := match x with
  | some (_, c', fs) => if c' = c ∧ getA m fs = none then k else none
  | none => none
theorem methR_yes {n : Nat} {c m : Str} {fs : List (Str × T)} {k : Option (Out R)} (h : getA m fs = none) : methR (some (n, c, fs)) c m k = k := if_pos ⟨rfl, h⟩
theorem at_meth {c m : Str} {f : FM} {dts : List D} : mMeth c m f dts mo ms ρ = andM (mo ρ) fun ro ρ0 => methR (clsAt ro ρ0) c m (andM (mArgs ms ρ0) fun rs ρ => okOnly (callR (f (takes (ro :: (rs ++ dts.map R.dat)) (gathers (ro :: (rs ++ dts.map R.dat)) ρ)).1) (ro :: (rs ++ dts.map R.dat)) (takes (ro :: (rs ++ dts.map R.dat)) (gathers (ro :: (rs ++ dts.map R.dat)) ρ)).2)) := by
  refine andM_ext fun ro ρ1 => ?_
  unfold methR
  cases clsAt ro ρ1 with
  | none => rfl
  | some p => rfl
end
end XM
namespace Cm
open PySem XM L2 SX
theorem e_law_cell9 (ns : List Int) (k : Nat) : ∃ c : Int, m_law_cell [.frz ns, .dat (.int k)] = some (.ret (.dat (.int c)) [.frz ns, .dat (.int k)]) := by
  by_cases h : k < ns.length
  · refine ⟨ns[k], ?_⟩
    have h' : (k : Int) < (ns.length : Int) := by omega
    have h0 : (0 : Int) ≤ (k : Int) := by omega
    have e : (ns.map PyData.int)[k]? = some (.int ns[k]) := by rw [List.getElem?_map, List.getElem?_eq_getElem h]; rfl
    simp only [↓at_bnd, ↓at_seq, ↓at_sBnd, ↓at_expr, ↓at_ret, ↓at_retN, ↓at_if, ↓at_set, ↓at_slot, ↓at_op, ↓at_asB, ↓at_notT, ↓at_andT, ↓at_orT, ↓at_andV, ↓at_orV, ↓at_ifE, ↓at_v1, ↓at_args0, ↓at_args1, ↓at_cons, ↓at_star, ↓at_tup, ↓at_lst, ↓at_tupA, ↓at_lstA, ↓at_items, ↓at_cat, ↓at_rep, ↓at_seqI, ↓at_strI, ↓at_rng1, ↓at_rev1, ↓at_rng2, ↓at_for, ↓at_lc, ↓at_call0, ↓at_call, ↓at_mB, ↓at_isi, ↓at_join, ↓at_rev, ↓at_slice, ↓at_ix, ↓at_def, ↓at_c, ↓at_f, ↓at_lcOne, ↓at_yes, ↓at_bName, ↓at_f1, ↓at_fLen, ↓at_fList, ↓at_fTup, ↓at_nx, ↓toDs_app, ↓at_opt0, ↓at_opt1, ↓at_append, ↓at_extend, ↓at_unp1, ↓at_dget2, ↓at_tindex, ↓at_index, ↓at_setIx, ↓at_fMax, ↓at_zipTL, ↓at_fd, ↓at_callF, ↓at_bNil, ↓at_bCons, ↓at_bTup, ↓idxS_cons, ↓idxF_cons, ↓lkD_cons, ↓lookup_str, ↓at_fSl, ↓at_forO, ↓at_lcO, ↓andM_ok, ↓andM_ex, ↓andS_ok, ↓andS_ex, ↓andQ_nx, ↓andQ_rt, ↓andQ_ex, ↓andQ_bk, ↓andQ_ct, ↓andO_some, ↓andO_none, ↓iteM_true, ↓iteM_false, ↓lcQ_true, ↓lcQ_false, ↓forQ_nx, ↓forQ_rt, ↓walkS_some, ↓walkS_none, ↓lcS_some, ↓lcS_none, andM_ok, andM_ex, andS_ok, andS_ex, andQ_nx, andQ_rt, andQ_ex, andQ_bk, andQ_ct, andO_some, andO_none, iteM_true, iteM_false, atSlot_dat, atSlot_fn, atSlot_ref, atRef_some, vw_dat, vw_own, vw_ref, view_dat, view_dl, atomR_int, atomR_str, atomR_bool, atomR_non, atomB_bool, op2_some, op1_some, toDs_nil, toDs_cons, toDs_dats, toD_dat, toD_own, toD_ref, small_yes, its_dat, its_own, its_ref, items_list, items_tup, items_dl, items_frz, fIx_int, intD_int, strO_str, okIf_yes, listOf_list, listOf_tup, seqD_dat, seqD_own, seqD_ref, seqRef_dat, seqRef_dl, seqRef_frz, callR_ret, callR_ex, okOnly_ok, takes_nil, takes_dat, takes_own, takes_fn, gathers_nil, gathers_dat, gathers_own, gathers_fn, at_puts0, puts_dat, puts_own, puts_fn, puts_ref, toR_dat, toR_dl, toR_fn, endD_rt, endD_nx, endD_ex, lv_dat, lv_own, lv_fn, lenR_dat, lenR_own, lenR_ref, tyR_dat, tyR_own, tyR_ref, lcQ_true, lcQ_false, lcE_ok, lcZ_ok, wipeS, e_add, e_addS, e_sub, e_mul, e_mulL, e_div, e_mod, e_pow, e_shr, e_and, e_lt, e_le, e_gt, e_ge, e_eqI, e_eqS, e_neI, e_neS, e_neg, e_notB, e_int, e_intB, takes, gathers, putR, clr, clrR, leave, params_mk, sweep_mk, sweepN, backK, named, tidy_mk, trim_mk, trimL, trSl_un, trSl_dat, trSl_fn, trSl_ref, trRt_none, trRt_some, setS_mk, kidR_none, kidR_some, kid_mk, T.isGone, letGo_mk, toSl_dat, toSl_fn, toSl_ref, toSl_own, place, freeAt, freeN, isFree, isRef, entry, slFrom, desc, itsL_dat, itsL_own, itsL_ref, itsT_dat, itsT_own, itsT_ref, itemsL_list, itemsL_dl, itemsL_tup, itemsL_str, itemsT_list, itemsT_str, itemsT_dl, itemsT_tup, items_str, dlAt_dl, refO_ref, consO_cons, getOr_some, getOr_int, tupO_tup, lstO_lst, fnO_fn, e_inL, e_inT, e_notInL, flatS_int, flatS_str, eqF_int, eqF_str, eqF_is, eqF_si, len_list, len_tup, len_dl, len_str, len_frz, ty_int, ty_str, ty_bool, ty_none, ty_list, ty_tup, tyT_dl, tyT_dat, lit_inj, len_S, ownL_dat, ownL_own, ownL_ref, ownR_dl, ownR_dat, ownR_frz, walkS_some, walkS_none, lcS_some, lcS_none, pin_mk, unpin_mk, unpinO_nx, unpinO_rt, sl3_l, sl3_t, sl3_s, idxF_strs, all_flat, cut_one, atI_pos, Int.reduceToNat, Int.toNat_natCast, lkD_nil, forL_nil, forQ_nx, forQ_rt, forL_cons, and255, rangeC, rangeD, strD, isT, List.getElem?_cons_zero, List.getElem?_cons_succ, List.set_cons_zero, List.set_cons_succ, List.length_cons, List.length_nil, List.any_cons, List.any_nil, List.all_cons, List.all_nil, List.map_cons, List.map_nil, List.take_succ_cons, List.take_zero, List.take_nil, List.drop_succ_cons, List.drop_zero, List.drop_nil, List.nil_append, List.cons_append, List.append_nil, List.replicate_succ, List.replicate_zero, Option.map_some, Option.map_none, Option.bind_some, Option.bind_none, Bool.true_and, Bool.false_and, Bool.and_true, Bool.and_false, Bool.true_or, Bool.false_or, Bool.or_true, Bool.or_false, Bool.not_true, Bool.not_false, if_true, if_false, reduceIte, Nat.sub_self, Nat.add_zero, Nat.zero_add, Nat.reduceAdd, Nat.reduceSub, Nat.reduceMul, Nat.reduceBEq, Nat.reduceLeDiff, Nat.reduceLT, Nat.reduceEqDiff, Int.reduceLT, Int.reduceLE, Int.reduceNeg, Int.reduceEq, String.reduceEq, String.reduceNe, List.reverse_cons, List.reverse_nil, eq_self, and_self, true_and, and_true, beq_self_eq_true, decide_true, decide_false, decide_eq_true_eq, reduceCtorEq, Bool.false_eq_true, m_law_cell, b_law_cell, h', h0, e]
  · refine ⟨0, ?_⟩
    have h' : ¬ (k : Int) < (ns.length : Int) := by omega
    simp only [↓at_bnd, ↓at_seq, ↓at_sBnd, ↓at_expr, ↓at_ret, ↓at_retN, ↓at_if, ↓at_set, ↓at_slot, ↓at_op, ↓at_asB, ↓at_notT, ↓at_andT, ↓at_orT, ↓at_andV, ↓at_orV, ↓at_ifE, ↓at_v1, ↓at_args0, ↓at_args1, ↓at_cons, ↓at_star, ↓at_tup, ↓at_lst, ↓at_tupA, ↓at_lstA, ↓at_items, ↓at_cat, ↓at_rep, ↓at_seqI, ↓at_strI, ↓at_rng1, ↓at_rev1, ↓at_rng2, ↓at_for, ↓at_lc, ↓at_call0, ↓at_call, ↓at_mB, ↓at_isi, ↓at_join, ↓at_rev, ↓at_slice, ↓at_ix, ↓at_def, ↓at_c, ↓at_f, ↓at_lcOne, ↓at_yes, ↓at_bName, ↓at_f1, ↓at_fLen, ↓at_fList, ↓at_fTup, ↓at_nx, ↓toDs_app, ↓at_opt0, ↓at_opt1, ↓at_append, ↓at_extend, ↓at_unp1, ↓at_dget2, ↓at_tindex, ↓at_index, ↓at_setIx, ↓at_fMax, ↓at_zipTL, ↓at_fd, ↓at_callF, ↓at_bNil, ↓at_bCons, ↓at_bTup, ↓idxS_cons, ↓idxF_cons, ↓lkD_cons, ↓lookup_str, ↓at_fSl, ↓at_forO, ↓at_lcO, ↓andM_ok, ↓andM_ex, ↓andS_ok, ↓andS_ex, ↓andQ_nx, ↓andQ_rt, ↓andQ_ex, ↓andQ_bk, ↓andQ_ct, ↓andO_some, ↓andO_none, ↓iteM_true, ↓iteM_false, ↓lcQ_true, ↓lcQ_false, ↓forQ_nx, ↓forQ_rt, ↓walkS_some, ↓walkS_none, ↓lcS_some, ↓lcS_none, andM_ok, andM_ex, andS_ok, andS_ex, andQ_nx, andQ_rt, andQ_ex, andQ_bk, andQ_ct, andO_some, andO_none, iteM_true, iteM_false, atSlot_dat, atSlot_fn, atSlot_ref, atRef_some, vw_dat, vw_own, vw_ref, view_dat, view_dl, atomR_int, atomR_str, atomR_bool, atomR_non, atomB_bool, op2_some, op1_some, toDs_nil, toDs_cons, toDs_dats, toD_dat, toD_own, toD_ref, small_yes, its_dat, its_own, its_ref, items_list, items_tup, items_dl, items_frz, fIx_int, intD_int, strO_str, okIf_yes, listOf_list, listOf_tup, seqD_dat, seqD_own, seqD_ref, seqRef_dat, seqRef_dl, seqRef_frz, callR_ret, callR_ex, okOnly_ok, takes_nil, takes_dat, takes_own, takes_fn, gathers_nil, gathers_dat, gathers_own, gathers_fn, at_puts0, puts_dat, puts_own, puts_fn, puts_ref, toR_dat, toR_dl, toR_fn, endD_rt, endD_nx, endD_ex, lv_dat, lv_own, lv_fn, lenR_dat, lenR_own, lenR_ref, tyR_dat, tyR_own, tyR_ref, lcQ_true, lcQ_false, lcE_ok, lcZ_ok, wipeS, e_add, e_addS, e_sub, e_mul, e_mulL, e_div, e_mod, e_pow, e_shr, e_and, e_lt, e_le, e_gt, e_ge, e_eqI, e_eqS, e_neI, e_neS, e_neg, e_notB, e_int, e_intB, takes, gathers, putR, clr, clrR, leave, params_mk, sweep_mk, sweepN, backK, named, tidy_mk, trim_mk, trimL, trSl_un, trSl_dat, trSl_fn, trSl_ref, trRt_none, trRt_some, setS_mk, kidR_none, kidR_some, kid_mk, T.isGone, letGo_mk, toSl_dat, toSl_fn, toSl_ref, toSl_own, place, freeAt, freeN, isFree, isRef, entry, slFrom, desc, itsL_dat, itsL_own, itsL_ref, itsT_dat, itsT_own, itsT_ref, itemsL_list, itemsL_dl, itemsL_tup, itemsL_str, itemsT_list, itemsT_str, itemsT_dl, itemsT_tup, items_str, dlAt_dl, refO_ref, consO_cons, getOr_some, getOr_int, tupO_tup, lstO_lst, fnO_fn, e_inL, e_inT, e_notInL, flatS_int, flatS_str, eqF_int, eqF_str, eqF_is, eqF_si, len_list, len_tup, len_dl, len_str, len_frz, ty_int, ty_str, ty_bool, ty_none, ty_list, ty_tup, tyT_dl, tyT_dat, lit_inj, len_S, ownL_dat, ownL_own, ownL_ref, ownR_dl, ownR_dat, ownR_frz, walkS_some, walkS_none, lcS_some, lcS_none, pin_mk, unpin_mk, unpinO_nx, unpinO_rt, sl3_l, sl3_t, sl3_s, idxF_strs, all_flat, cut_one, atI_pos, Int.reduceToNat, Int.toNat_natCast, lkD_nil, forL_nil, forQ_nx, forQ_rt, forL_cons, and255, rangeC, rangeD, strD, isT, List.getElem?_cons_zero, List.getElem?_cons_succ, List.set_cons_zero, List.set_cons_succ, List.length_cons, List.length_nil, List.any_cons, List.any_nil, List.all_cons, List.all_nil, List.map_cons, List.map_nil, List.take_succ_cons, List.take_zero, List.take_nil, List.drop_succ_cons, List.drop_zero, List.drop_nil, List.nil_append, List.cons_append, List.append_nil, List.replicate_succ, List.replicate_zero, Option.map_some, Option.map_none, Option.bind_some, Option.bind_none, Bool.true_and, Bool.false_and, Bool.and_true, Bool.and_false, Bool.true_or, Bool.false_or, Bool.or_true, Bool.or_false, Bool.not_true, Bool.not_false, if_true, if_false, reduceIte, Nat.sub_self, Nat.add_zero, Nat.zero_add, Nat.reduceAdd, Nat.reduceSub, Nat.reduceMul, Nat.reduceBEq, Nat.reduceLeDiff, Nat.reduceLT, Nat.reduceEqDiff, Int.reduceLT, Int.reduceLE, Int.reduceNeg, Int.reduceEq, String.reduceEq, String.reduceNe, List.reverse_cons, List.reverse_nil, eq_self, and_self, true_and, and_true, beq_self_eq_true, decide_true, decide_false, decide_eq_true_eq, reduceCtorEq, Bool.false_eq_true, m_law_cell, b_law_cell, h']
theorem of_all {n : Nat} {f : Nat → Bool} (h : (List.range n).all f = true) {c : Int} (h0 : 0 ≤ c) (h1 : c < n) : f c.toNat = true :=
  List.all_eq_true.mp h c.toNat (List.mem_range.mpr (by omega))
theorem mod_all {n : Nat} {m : FM} (h : (List.range n).all (fun k => chkI (m [.dat (.int (k : Nat))]) (k : Nat)) = true) (hn : 0 < n) (c : Int) : m [.dat (.int (c % n))] = some (.ret (.dat (.bool true)) [.dat (.int (c % n))]) := by
  have h0 : 0 ≤ c % n := Int.emod_nonneg _ (by omega)
  have h1 : c % n < n := Int.emod_lt_of_pos _ (by omega)
  have := chkI_ok (of_all h h0 h1)
  rw [show (((c % n).toNat : Nat) : Int) = c % n by omega] at this
  exact this
def boolD (o : Option D) : Option Bool := match o with
  | some (.bool b) => some b
  | _ => none
theorem boolD_ok {o : Option D} {b : Bool} (h : boolD o = some b) : o = some (.bool b) := by
  unfold boolD at h
  split at h
  · cases h; rfl
  · cases h
theorem ne_wf : fNeD (.tuple [.str "wrong", .str "full"]) (.tuple [.str "wrong", .str "full"]) = some (.bool false) := boolD_ok (by decide +kernel)
theorem ne_c1 : fNeD (.tuple [.str "complete", .int 1]) (.tuple [.str "complete", .int 1]) = some (.bool false) := boolD_ok (by decide +kernel)
theorem lc_rows {ns : List Int} : lcL [3] (bName 3) mYes (mTup [(mSlot 3), (mSlot 3)]) [.ref 0, .un, .un, .un] ((List.range 20).map fun i : Nat => PyData.int (0 + (i : Nat))) [] ⟨[.ref 0, .un, .un, .un], [⟨.frz ns, none⟩], 1⟩ = some (rows20, ⟨[.ref 0, .un, .un, .un], [⟨.frz ns, none⟩], 1⟩) := by
  rw [lcM (fun i : Nat => .tuple [.int (0 + (i : Nat)), .int (0 + (i : Nat))]) (by simp)]
  · rfl
  · intro i _
    simp only [↓at_bnd, ↓at_seq, ↓at_sBnd, ↓at_expr, ↓at_ret, ↓at_retN, ↓at_if, ↓at_set, ↓at_slot, ↓at_op, ↓at_asB, ↓at_notT, ↓at_andT, ↓at_orT, ↓at_andV, ↓at_orV, ↓at_ifE, ↓at_v1, ↓at_args0, ↓at_args1, ↓at_cons, ↓at_star, ↓at_tup, ↓at_lst, ↓at_tupA, ↓at_lstA, ↓at_items, ↓at_cat, ↓at_rep, ↓at_seqI, ↓at_strI, ↓at_rng1, ↓at_rev1, ↓at_rng2, ↓at_for, ↓at_lc, ↓at_call0, ↓at_call, ↓at_mB, ↓at_isi, ↓at_join, ↓at_rev, ↓at_slice, ↓at_ix, ↓at_def, ↓at_c, ↓at_f, ↓at_lcOne, ↓at_yes, ↓at_bName, ↓at_f1, ↓at_fLen, ↓at_fList, ↓at_fTup, ↓at_nx, ↓toDs_app, ↓at_opt0, ↓at_opt1, ↓at_append, ↓at_extend, ↓at_unp1, ↓at_dget2, ↓at_tindex, ↓at_index, ↓at_setIx, ↓at_fMax, ↓at_zipTL, ↓at_fd, ↓at_callF, ↓at_bNil, ↓at_bCons, ↓at_bTup, ↓idxS_cons, ↓idxF_cons, ↓lkD_cons, ↓lookup_str, ↓at_fSl, ↓at_forO, ↓at_lcO, ↓andM_ok, ↓andM_ex, ↓andS_ok, ↓andS_ex, ↓andQ_nx, ↓andQ_rt, ↓andQ_ex, ↓andQ_bk, ↓andQ_ct, ↓andO_some, ↓andO_none, ↓iteM_true, ↓iteM_false, ↓lcQ_true, ↓lcQ_false, ↓forQ_nx, ↓forQ_rt, ↓walkS_some, ↓walkS_none, ↓lcS_some, ↓lcS_none, andM_ok, andM_ex, andS_ok, andS_ex, andQ_nx, andQ_rt, andQ_ex, andQ_bk, andQ_ct, andO_some, andO_none, iteM_true, iteM_false, atSlot_dat, atSlot_fn, atSlot_ref, atRef_some, vw_dat, vw_own, vw_ref, view_dat, view_dl, atomR_int, atomR_str, atomR_bool, atomR_non, atomB_bool, op2_some, op1_some, toDs_nil, toDs_cons, toDs_dats, toD_dat, toD_own, toD_ref, small_yes, its_dat, its_own, its_ref, items_list, items_tup, items_dl, items_frz, fIx_int, intD_int, strO_str, okIf_yes, listOf_list, listOf_tup, seqD_dat, seqD_own, seqD_ref, seqRef_dat, seqRef_dl, seqRef_frz, callR_ret, callR_ex, okOnly_ok, takes_nil, takes_dat, takes_own, takes_fn, gathers_nil, gathers_dat, gathers_own, gathers_fn, at_puts0, puts_dat, puts_own, puts_fn, puts_ref, toR_dat, toR_dl, toR_fn, endD_rt, endD_nx, endD_ex, lv_dat, lv_own, lv_fn, lenR_dat, lenR_own, lenR_ref, tyR_dat, tyR_own, tyR_ref, lcQ_true, lcQ_false, lcE_ok, lcZ_ok, wipeS, e_add, e_addS, e_sub, e_mul, e_mulL, e_div, e_mod, e_pow, e_shr, e_and, e_lt, e_le, e_gt, e_ge, e_eqI, e_eqS, e_neI, e_neS, e_neg, e_notB, e_int, e_intB, takes, gathers, putR, clr, clrR, leave, params_mk, sweep_mk, sweepN, backK, named, tidy_mk, trim_mk, trimL, trSl_un, trSl_dat, trSl_fn, trSl_ref, trRt_none, trRt_some, setS_mk, kidR_none, kidR_some, kid_mk, T.isGone, letGo_mk, toSl_dat, toSl_fn, toSl_ref, toSl_own, place, freeAt, freeN, isFree, isRef, entry, slFrom, desc, itsL_dat, itsL_own, itsL_ref, itsT_dat, itsT_own, itsT_ref, itemsL_list, itemsL_dl, itemsL_tup, itemsL_str, itemsT_list, itemsT_str, itemsT_dl, itemsT_tup, items_str, dlAt_dl, refO_ref, consO_cons, getOr_some, getOr_int, tupO_tup, lstO_lst, fnO_fn, e_inL, e_inT, e_notInL, flatS_int, flatS_str, eqF_int, eqF_str, eqF_is, eqF_si, len_list, len_tup, len_dl, len_str, len_frz, ty_int, ty_str, ty_bool, ty_none, ty_list, ty_tup, tyT_dl, tyT_dat, lit_inj, len_S, ownL_dat, ownL_own, ownL_ref, ownR_dl, ownR_dat, ownR_frz, walkS_some, walkS_none, lcS_some, lcS_none, pin_mk, unpin_mk, unpinO_nx, unpinO_rt, sl3_l, sl3_t, sl3_s, idxF_strs, all_flat, cut_one, atI_pos, Int.reduceToNat, Int.toNat_natCast, lkD_nil, forL_nil, forQ_nx, forQ_rt, forL_cons, and255, rangeC, rangeD, strD, isT, List.getElem?_cons_zero, List.getElem?_cons_succ, List.set_cons_zero, List.set_cons_succ, List.length_cons, List.length_nil, List.any_cons, List.any_nil, List.all_cons, List.all_nil, List.map_cons, List.map_nil, List.take_succ_cons, List.take_zero, List.take_nil, List.drop_succ_cons, List.drop_zero, List.drop_nil, List.nil_append, List.cons_append, List.append_nil, List.replicate_succ, List.replicate_zero, Option.map_some, Option.map_none, Option.bind_some, Option.bind_none, Bool.true_and, Bool.false_and, Bool.and_true, Bool.and_false, Bool.true_or, Bool.false_or, Bool.or_true, Bool.or_false, Bool.not_true, Bool.not_false, if_true, if_false, reduceIte, Nat.sub_self, Nat.add_zero, Nat.zero_add, Nat.reduceAdd, Nat.reduceSub, Nat.reduceMul, Nat.reduceBEq, Nat.reduceLeDiff, Nat.reduceLT, Nat.reduceEqDiff, Int.reduceLT, Int.reduceLE, Int.reduceNeg, Int.reduceEq, String.reduceEq, String.reduceNe, List.reverse_cons, List.reverse_nil, eq_self, and_self, true_and, and_true, beq_self_eq_true, decide_true, decide_false, decide_eq_true_eq, reduceCtorEq, Bool.false_eq_true]
theorem lc_new {ns : List Int} {S : T} {key : Int} : lcL [3] (bName 3) mYes (mTup [(mSlot 3), (mItems false fIx (mLst [(mSlot 3), (mC (.str "new"))]) (mB (f1 fInt) [(mOp fEq (mSlot 3) (mSlot 2))]))]) [.ref 0, .ref 1, .dat (.int key), .un] ((List.range 20).map fun i : Nat => PyData.int (0 + (i : Nat))) [] ⟨[.ref 0, .ref 1, .dat (.int key), .un], [⟨.frz ns, none⟩, ⟨S, none⟩], 1⟩ = some (rowsNew key, ⟨[.ref 0, .ref 1, .dat (.int key), .un], [⟨.frz ns, none⟩, ⟨S, none⟩], 1⟩) := by
  rw [lcM (fun i : Nat => .tuple [.int (0 + (i : Nat)), if (0 + (i : Nat) : Int) = key then .str "new" else .int (0 + (i : Nat))]) (by simp)]
  · rfl
  · intro i _
    by_cases h : (0 + (i : Nat) : Int) = key
    · have hb : decide ((0 + (i : Nat) : Int) = key) = true := decide_eq_true h
      rw [if_pos h]
      simp only [↓at_bnd, ↓at_seq, ↓at_sBnd, ↓at_expr, ↓at_ret, ↓at_retN, ↓at_if, ↓at_set, ↓at_slot, ↓at_op, ↓at_asB, ↓at_notT, ↓at_andT, ↓at_orT, ↓at_andV, ↓at_orV, ↓at_ifE, ↓at_v1, ↓at_args0, ↓at_args1, ↓at_cons, ↓at_star, ↓at_tup, ↓at_lst, ↓at_tupA, ↓at_lstA, ↓at_items, ↓at_cat, ↓at_rep, ↓at_seqI, ↓at_strI, ↓at_rng1, ↓at_rev1, ↓at_rng2, ↓at_for, ↓at_lc, ↓at_call0, ↓at_call, ↓at_mB, ↓at_isi, ↓at_join, ↓at_rev, ↓at_slice, ↓at_ix, ↓at_def, ↓at_c, ↓at_f, ↓at_lcOne, ↓at_yes, ↓at_bName, ↓at_f1, ↓at_fLen, ↓at_fList, ↓at_fTup, ↓at_nx, ↓toDs_app, ↓at_opt0, ↓at_opt1, ↓at_append, ↓at_extend, ↓at_unp1, ↓at_dget2, ↓at_tindex, ↓at_index, ↓at_setIx, ↓at_fMax, ↓at_zipTL, ↓at_fd, ↓at_callF, ↓at_bNil, ↓at_bCons, ↓at_bTup, ↓idxS_cons, ↓idxF_cons, ↓lkD_cons, ↓lookup_str, ↓at_fSl, ↓at_forO, ↓at_lcO, ↓andM_ok, ↓andM_ex, ↓andS_ok, ↓andS_ex, ↓andQ_nx, ↓andQ_rt, ↓andQ_ex, ↓andQ_bk, ↓andQ_ct, ↓andO_some, ↓andO_none, ↓iteM_true, ↓iteM_false, ↓lcQ_true, ↓lcQ_false, ↓forQ_nx, ↓forQ_rt, ↓walkS_some, ↓walkS_none, ↓lcS_some, ↓lcS_none, andM_ok, andM_ex, andS_ok, andS_ex, andQ_nx, andQ_rt, andQ_ex, andQ_bk, andQ_ct, andO_some, andO_none, iteM_true, iteM_false, atSlot_dat, atSlot_fn, atSlot_ref, atRef_some, vw_dat, vw_own, vw_ref, view_dat, view_dl, atomR_int, atomR_str, atomR_bool, atomR_non, atomB_bool, op2_some, op1_some, toDs_nil, toDs_cons, toDs_dats, toD_dat, toD_own, toD_ref, small_yes, its_dat, its_own, its_ref, items_list, items_tup, items_dl, items_frz, fIx_int, intD_int, strO_str, okIf_yes, listOf_list, listOf_tup, seqD_dat, seqD_own, seqD_ref, seqRef_dat, seqRef_dl, seqRef_frz, callR_ret, callR_ex, okOnly_ok, takes_nil, takes_dat, takes_own, takes_fn, gathers_nil, gathers_dat, gathers_own, gathers_fn, at_puts0, puts_dat, puts_own, puts_fn, puts_ref, toR_dat, toR_dl, toR_fn, endD_rt, endD_nx, endD_ex, lv_dat, lv_own, lv_fn, lenR_dat, lenR_own, lenR_ref, tyR_dat, tyR_own, tyR_ref, lcQ_true, lcQ_false, lcE_ok, lcZ_ok, wipeS, e_add, e_addS, e_sub, e_mul, e_mulL, e_div, e_mod, e_pow, e_shr, e_and, e_lt, e_le, e_gt, e_ge, e_eqI, e_eqS, e_neI, e_neS, e_neg, e_notB, e_int, e_intB, takes, gathers, putR, clr, clrR, leave, params_mk, sweep_mk, sweepN, backK, named, tidy_mk, trim_mk, trimL, trSl_un, trSl_dat, trSl_fn, trSl_ref, trRt_none, trRt_some, setS_mk, kidR_none, kidR_some, kid_mk, T.isGone, letGo_mk, toSl_dat, toSl_fn, toSl_ref, toSl_own, place, freeAt, freeN, isFree, isRef, entry, slFrom, desc, itsL_dat, itsL_own, itsL_ref, itsT_dat, itsT_own, itsT_ref, itemsL_list, itemsL_dl, itemsL_tup, itemsL_str, itemsT_list, itemsT_str, itemsT_dl, itemsT_tup, items_str, dlAt_dl, refO_ref, consO_cons, getOr_some, getOr_int, tupO_tup, lstO_lst, fnO_fn, e_inL, e_inT, e_notInL, flatS_int, flatS_str, eqF_int, eqF_str, eqF_is, eqF_si, len_list, len_tup, len_dl, len_str, len_frz, ty_int, ty_str, ty_bool, ty_none, ty_list, ty_tup, tyT_dl, tyT_dat, lit_inj, len_S, ownL_dat, ownL_own, ownL_ref, ownR_dl, ownR_dat, ownR_frz, walkS_some, walkS_none, lcS_some, lcS_none, pin_mk, unpin_mk, unpinO_nx, unpinO_rt, sl3_l, sl3_t, sl3_s, idxF_strs, all_flat, cut_one, atI_pos, Int.reduceToNat, Int.toNat_natCast, lkD_nil, forL_nil, forQ_nx, forQ_rt, forL_cons, and255, rangeC, rangeD, strD, isT, List.getElem?_cons_zero, List.getElem?_cons_succ, List.set_cons_zero, List.set_cons_succ, List.length_cons, List.length_nil, List.any_cons, List.any_nil, List.all_cons, List.all_nil, List.map_cons, List.map_nil, List.take_succ_cons, List.take_zero, List.take_nil, List.drop_succ_cons, List.drop_zero, List.drop_nil, List.nil_append, List.cons_append, List.append_nil, List.replicate_succ, List.replicate_zero, Option.map_some, Option.map_none, Option.bind_some, Option.bind_none, Bool.true_and, Bool.false_and, Bool.and_true, Bool.and_false, Bool.true_or, Bool.false_or, Bool.or_true, Bool.or_false, Bool.not_true, Bool.not_false, if_true, if_false, reduceIte, Nat.sub_self, Nat.add_zero, Nat.zero_add, Nat.reduceAdd, Nat.reduceSub, Nat.reduceMul, Nat.reduceBEq, Nat.reduceLeDiff, Nat.reduceLT, Nat.reduceEqDiff, Int.reduceLT, Int.reduceLE, Int.reduceNeg, Int.reduceEq, String.reduceEq, String.reduceNe, List.reverse_cons, List.reverse_nil, eq_self, and_self, true_and, and_true, beq_self_eq_true, decide_true, decide_false, decide_eq_true_eq, reduceCtorEq, Bool.false_eq_true, hb]
    · have hb : decide ((0 + (i : Nat) : Int) = key) = false := decide_eq_false h
      rw [if_neg h]
      simp only [↓at_bnd, ↓at_seq, ↓at_sBnd, ↓at_expr, ↓at_ret, ↓at_retN, ↓at_if, ↓at_set, ↓at_slot, ↓at_op, ↓at_asB, ↓at_notT, ↓at_andT, ↓at_orT, ↓at_andV, ↓at_orV, ↓at_ifE, ↓at_v1, ↓at_args0, ↓at_args1, ↓at_cons, ↓at_star, ↓at_tup, ↓at_lst, ↓at_tupA, ↓at_lstA, ↓at_items, ↓at_cat, ↓at_rep, ↓at_seqI, ↓at_strI, ↓at_rng1, ↓at_rev1, ↓at_rng2, ↓at_for, ↓at_lc, ↓at_call0, ↓at_call, ↓at_mB, ↓at_isi, ↓at_join, ↓at_rev, ↓at_slice, ↓at_ix, ↓at_def, ↓at_c, ↓at_f, ↓at_lcOne, ↓at_yes, ↓at_bName, ↓at_f1, ↓at_fLen, ↓at_fList, ↓at_fTup, ↓at_nx, ↓toDs_app, ↓at_opt0, ↓at_opt1, ↓at_append, ↓at_extend, ↓at_unp1, ↓at_dget2, ↓at_tindex, ↓at_index, ↓at_setIx, ↓at_fMax, ↓at_zipTL, ↓at_fd, ↓at_callF, ↓at_bNil, ↓at_bCons, ↓at_bTup, ↓idxS_cons, ↓idxF_cons, ↓lkD_cons, ↓lookup_str, ↓at_fSl, ↓at_forO, ↓at_lcO, ↓andM_ok, ↓andM_ex, ↓andS_ok, ↓andS_ex, ↓andQ_nx, ↓andQ_rt, ↓andQ_ex, ↓andQ_bk, ↓andQ_ct, ↓andO_some, ↓andO_none, ↓iteM_true, ↓iteM_false, ↓lcQ_true, ↓lcQ_false, ↓forQ_nx, ↓forQ_rt, ↓walkS_some, ↓walkS_none, ↓lcS_some, ↓lcS_none, andM_ok, andM_ex, andS_ok, andS_ex, andQ_nx, andQ_rt, andQ_ex, andQ_bk, andQ_ct, andO_some, andO_none, iteM_true, iteM_false, atSlot_dat, atSlot_fn, atSlot_ref, atRef_some, vw_dat, vw_own, vw_ref, view_dat, view_dl, atomR_int, atomR_str, atomR_bool, atomR_non, atomB_bool, op2_some, op1_some, toDs_nil, toDs_cons, toDs_dats, toD_dat, toD_own, toD_ref, small_yes, its_dat, its_own, its_ref, items_list, items_tup, items_dl, items_frz, fIx_int, intD_int, strO_str, okIf_yes, listOf_list, listOf_tup, seqD_dat, seqD_own, seqD_ref, seqRef_dat, seqRef_dl, seqRef_frz, callR_ret, callR_ex, okOnly_ok, takes_nil, takes_dat, takes_own, takes_fn, gathers_nil, gathers_dat, gathers_own, gathers_fn, at_puts0, puts_dat, puts_own, puts_fn, puts_ref, toR_dat, toR_dl, toR_fn, endD_rt, endD_nx, endD_ex, lv_dat, lv_own, lv_fn, lenR_dat, lenR_own, lenR_ref, tyR_dat, tyR_own, tyR_ref, lcQ_true, lcQ_false, lcE_ok, lcZ_ok, wipeS, e_add, e_addS, e_sub, e_mul, e_mulL, e_div, e_mod, e_pow, e_shr, e_and, e_lt, e_le, e_gt, e_ge, e_eqI, e_eqS, e_neI, e_neS, e_neg, e_notB, e_int, e_intB, takes, gathers, putR, clr, clrR, leave, params_mk, sweep_mk, sweepN, backK, named, tidy_mk, trim_mk, trimL, trSl_un, trSl_dat, trSl_fn, trSl_ref, trRt_none, trRt_some, setS_mk, kidR_none, kidR_some, kid_mk, T.isGone, letGo_mk, toSl_dat, toSl_fn, toSl_ref, toSl_own, place, freeAt, freeN, isFree, isRef, entry, slFrom, desc, itsL_dat, itsL_own, itsL_ref, itsT_dat, itsT_own, itsT_ref, itemsL_list, itemsL_dl, itemsL_tup, itemsL_str, itemsT_list, itemsT_str, itemsT_dl, itemsT_tup, items_str, dlAt_dl, refO_ref, consO_cons, getOr_some, getOr_int, tupO_tup, lstO_lst, fnO_fn, e_inL, e_inT, e_notInL, flatS_int, flatS_str, eqF_int, eqF_str, eqF_is, eqF_si, len_list, len_tup, len_dl, len_str, len_frz, ty_int, ty_str, ty_bool, ty_none, ty_list, ty_tup, tyT_dl, tyT_dat, lit_inj, len_S, ownL_dat, ownL_own, ownL_ref, ownR_dl, ownR_dat, ownR_frz, walkS_some, walkS_none, lcS_some, lcS_none, pin_mk, unpin_mk, unpinO_nx, unpinO_rt, sl3_l, sl3_t, sl3_s, idxF_strs, all_flat, cut_one, atI_pos, Int.reduceToNat, Int.toNat_natCast, lkD_nil, forL_nil, forQ_nx, forQ_rt, forL_cons, and255, rangeC, rangeD, strD, isT, List.getElem?_cons_zero, List.getElem?_cons_succ, List.set_cons_zero, List.set_cons_succ, List.length_cons, List.length_nil, List.any_cons, List.any_nil, List.all_cons, List.all_nil, List.map_cons, List.map_nil, List.take_succ_cons, List.take_zero, List.take_nil, List.drop_succ_cons, List.drop_zero, List.drop_nil, List.nil_append, List.cons_append, List.append_nil, List.replicate_succ, List.replicate_zero, Option.map_some, Option.map_none, Option.bind_some, Option.bind_none, Bool.true_and, Bool.false_and, Bool.and_true, Bool.and_false, Bool.true_or, Bool.false_or, Bool.or_true, Bool.or_false, Bool.not_true, Bool.not_false, if_true, if_false, reduceIte, Nat.sub_self, Nat.add_zero, Nat.zero_add, Nat.reduceAdd, Nat.reduceSub, Nat.reduceMul, Nat.reduceBEq, Nat.reduceLeDiff, Nat.reduceLT, Nat.reduceEqDiff, Int.reduceLT, Int.reduceLE, Int.reduceNeg, Int.reduceEq, String.reduceEq, String.reduceNe, List.reverse_cons, List.reverse_nil, eq_self, and_self, true_and, and_true, beq_self_eq_true, decide_true, decide_false, decide_eq_true_eq, reduceCtorEq, Bool.false_eq_true, hb]
end Cm
end
section
namespace Cm
open PySem XM L2 SX
theorem e_law9 (ns : List Int) (hn : ns.length ≤ 63) : ∃ ts, m_law_k09 [.frz ns] = some (.ret (.dat (.bool true)) ts) := by
  obtain ⟨c0, e0⟩ := e_law_cell9 ns 0
  obtain ⟨c1, e1⟩ := e_law_cell9 ns 1
  obtain ⟨c2, e2⟩ := e_law_cell9 ns 2
  obtain ⟨c3, e3⟩ := e_law_cell9 ns 3
  have e0 : m_law_cell [.frz ns, .dat (.int 0)] = some (.ret (.dat (.int c0)) [.frz ns, .dat (.int 0)]) := e0
  have e1 : m_law_cell [.frz ns, .dat (.int 1)] = some (.ret (.dat (.int c1)) [.frz ns, .dat (.int 1)]) := e1
  have e2 : m_law_cell [.frz ns, .dat (.int 2)] = some (.ret (.dat (.int c2)) [.frz ns, .dat (.int 2)]) := e2
  have e3 : m_law_cell [.frz ns, .dat (.int 3)] = some (.ret (.dat (.int c3)) [.frz ns, .dat (.int 3)]) := e3
  have t0 : m_law_tables_hold [.dat (.int (c0 % 7))] = some (.ret (.dat (.bool true)) [.dat (.int (c0 % 7))]) := mod_all tables_all (by decide) c0
  have t1 : m_law_named_hold [.dat (.int (c1 % 11))] = some (.ret (.dat (.bool true)) [.dat (.int (c1 % 11))]) := mod_all named_all (by decide) c1
  have t2 : m_law_saves_hold [.dat (.int (c2 % 13))] = some (.ret (.dat (.bool true)) [.dat (.int (c2 % 13))]) := mod_all saves_all (by decide) c2
  have tp := chk0_ok portals_all
  have ck : chain (c3 % 20) = true := by
    have h0 : 0 ≤ c3 % 20 := by omega
    have := of_all chain_all h0 (by omega)
    rwa [show (((c3 % 20).toNat : Nat) : Int) = c3 % 20 by omega] at this
  obtain ⟨f0, f1, f2, f3, ta, tb, tc, td, te, tf, tg, c', fs', l, i0, i1, i2, i3, g, i4, q⟩ := chain_ok ck
  have my : ∀ (k : Option (Out R)) (n : Nat), methR (some (n, ("Session" : Str), f3)) "Session" "tables" k = k := fun k n => methR_yes g
  have l1 := lc_rows (ns := ns)
  have l2 := lc_new (ns := ns) (S := .ins c' fs') (key := c3 % 20)
  have fin : ∃ ts, endD (b_law_k09 (entry 4 [.frz ns])) = some (.ret (.dat (.bool true)) ts) := by
    rw [b_law_k09]
    simp only [↓at_bnd, ↓at_seq, ↓at_sBnd, ↓at_expr, ↓at_ret, ↓at_retN, ↓at_if, ↓at_set, ↓at_slot, ↓at_op, ↓at_asB, ↓at_notT, ↓at_andT, ↓at_orT, ↓at_andV, ↓at_orV, ↓at_ifE, ↓at_v1, ↓at_args0, ↓at_args1, ↓at_cons, ↓at_star, ↓at_tup, ↓at_lst, ↓at_tupA, ↓at_lstA, ↓at_items, ↓at_cat, ↓at_rep, ↓at_seqI, ↓at_strI, ↓at_rng1, ↓at_rev1, ↓at_rng2, ↓at_for, ↓at_lc, ↓at_call0, ↓at_call, ↓at_mB, ↓at_isi, ↓at_join, ↓at_rev, ↓at_slice, ↓at_ix, ↓at_def, ↓at_c, ↓at_f, ↓at_lcOne, ↓at_yes, ↓at_bName, ↓at_f1, ↓at_fLen, ↓at_fList, ↓at_fTup, ↓at_nx, ↓toDs_app, ↓at_opt0, ↓at_opt1, ↓at_append, ↓at_extend, ↓at_unp1, ↓at_dget2, ↓at_tindex, ↓at_index, ↓at_setIx, ↓at_fMax, ↓at_zipTL, ↓at_fd, ↓at_callF, ↓at_bNil, ↓at_bCons, ↓at_bTup, ↓idxS_cons, ↓idxF_cons, ↓lkD_cons, ↓lookup_str, ↓at_fSl, ↓at_forO, ↓at_lcO, ↓andM_ok, ↓andM_ex, ↓andS_ok, ↓andS_ex, ↓andQ_nx, ↓andQ_rt, ↓andQ_ex, ↓andQ_bk, ↓andQ_ct, ↓andO_some, ↓andO_none, ↓iteM_true, ↓iteM_false, ↓lcQ_true, ↓lcQ_false, ↓forQ_nx, ↓forQ_rt, ↓walkS_some, ↓walkS_none, ↓lcS_some, ↓lcS_none, andM_ok, andM_ex, andS_ok, andS_ex, andQ_nx, andQ_rt, andQ_ex, andQ_bk, andQ_ct, andO_some, andO_none, iteM_true, iteM_false, atSlot_dat, atSlot_fn, atSlot_ref, atRef_some, vw_dat, vw_own, vw_ref, view_dat, view_dl, atomR_int, atomR_str, atomR_bool, atomR_non, atomB_bool, op2_some, op1_some, toDs_nil, toDs_cons, toDs_dats, toD_dat, toD_own, toD_ref, small_yes, its_dat, its_own, its_ref, items_list, items_tup, items_dl, items_frz, fIx_int, intD_int, strO_str, okIf_yes, listOf_list, listOf_tup, seqD_dat, seqD_own, seqD_ref, seqRef_dat, seqRef_dl, seqRef_frz, callR_ret, callR_ex, okOnly_ok, takes_nil, takes_dat, takes_own, takes_fn, gathers_nil, gathers_dat, gathers_own, gathers_fn, at_puts0, puts_dat, puts_own, puts_fn, puts_ref, toR_dat, toR_dl, toR_fn, endD_rt, endD_nx, endD_ex, lv_dat, lv_own, lv_fn, lenR_dat, lenR_own, lenR_ref, tyR_dat, tyR_own, tyR_ref, lcQ_true, lcQ_false, lcE_ok, lcZ_ok, wipeS, e_add, e_addS, e_sub, e_mul, e_mulL, e_div, e_mod, e_pow, e_shr, e_and, e_lt, e_le, e_gt, e_ge, e_eqI, e_eqS, e_neI, e_neS, e_neg, e_notB, e_int, e_intB, takes, gathers, putR, clr, clrR, leave, params_mk, sweep_mk, sweepN, backK, named, tidy_mk, trim_mk, trimL, trSl_un, trSl_dat, trSl_fn, trSl_ref, trRt_none, trRt_some, setS_mk, kidR_none, kidR_some, kid_mk, T.isGone, letGo_mk, toSl_dat, toSl_fn, toSl_ref, toSl_own, place, freeAt, freeN, isFree, isRef, entry, slFrom, desc, itsL_dat, itsL_own, itsL_ref, itsT_dat, itsT_own, itsT_ref, itemsL_list, itemsL_dl, itemsL_tup, itemsL_str, itemsT_list, itemsT_str, itemsT_dl, itemsT_tup, items_str, dlAt_dl, refO_ref, consO_cons, getOr_some, getOr_int, tupO_tup, lstO_lst, fnO_fn, e_inL, e_inT, e_notInL, flatS_int, flatS_str, eqF_int, eqF_str, eqF_is, eqF_si, len_list, len_tup, len_dl, len_str, len_frz, ty_int, ty_str, ty_bool, ty_none, ty_list, ty_tup, tyT_dl, tyT_dat, lit_inj, len_S, ownL_dat, ownL_own, ownL_ref, ownR_dl, ownR_dat, ownR_frz, walkS_some, walkS_none, lcS_some, lcS_none, pin_mk, unpin_mk, unpinO_nx, unpinO_rt, sl3_l, sl3_t, sl3_s, idxF_strs, all_flat, cut_one, atI_pos, Int.reduceToNat, Int.toNat_natCast, lkD_nil, forL_nil, forQ_nx, forQ_rt, forL_cons, and255, rangeC, rangeD, strD, isT, List.getElem?_cons_zero, List.getElem?_cons_succ, List.set_cons_zero, List.set_cons_succ, List.length_cons, List.length_nil, List.any_cons, List.any_nil, List.all_cons, List.all_nil, List.map_cons, List.map_nil, List.take_succ_cons, List.take_zero, List.take_nil, List.drop_succ_cons, List.drop_zero, List.drop_nil, List.nil_append, List.cons_append, List.append_nil, List.replicate_succ, List.replicate_zero, Option.map_some, Option.map_none, Option.bind_some, Option.bind_none, Bool.true_and, Bool.false_and, Bool.and_true, Bool.and_false, Bool.true_or, Bool.false_or, Bool.or_true, Bool.or_false, Bool.not_true, Bool.not_false, if_true, if_false, reduceIte, Nat.sub_self, Nat.add_zero, Nat.zero_add, Nat.reduceAdd, Nat.reduceSub, Nat.reduceMul, Nat.reduceBEq, Nat.reduceLeDiff, Nat.reduceLT, Nat.reduceEqDiff, Int.reduceLT, Int.reduceLE, Int.reduceNeg, Int.reduceEq, String.reduceEq, String.reduceNe, List.reverse_cons, List.reverse_nil, eq_self, and_self, true_and, and_true, beq_self_eq_true, decide_true, decide_false, decide_eq_true_eq, reduceCtorEq, Bool.false_eq_true, e0, e1, e2, e3, t0, t1, t2, tp, i0, i1, i2, i3, i4, q, ↓my, l1, l2, ne_wf, ne_c1, ↓at_new, ↓at_meth, newR_ret, toR_ins, clsAt_ref, clsR_ins]
    exact ⟨_, rfl⟩
  obtain ⟨ts, e⟩ := fin
  exact ⟨ts, e⟩
end Cm
end
section
namespace P09
open PySem PySem.Spec PyProof.Rows L2 Tl XM
def topS (i : Nat) : Stmt := PySem.Challenge.pw_batchends_k09_bounds_of_sessions.main.body.getD i (.Pass ⟨0, 0, 0, 0⟩)
abbrev s_Portal___init__ : Stmt := inClass (topS 4) 0
theorem sc_Portal___init__ : FnScope ["self", "parts"] ["self", "parts"] (defScope s_Portal___init__) := ⟨rfl, rfl, rfl, by decide +kernel, rfl, by decide +kernel, by decide +kernel⟩
abbrev s_is_sign : Stmt := topS 13
theorem sc_is_sign : FnScope ["character", "code"] ["character"] (defScope s_is_sign) := ⟨rfl, rfl, rfl, by decide +kernel, rfl, by decide +kernel, by decide +kernel⟩
abbrev s_has_only_signs : Stmt := topS 14
theorem sc_has_only_signs : FnScope ["string", "character"] ["string"] (defScope s_has_only_signs) := ⟨rfl, rfl, rfl, by decide +kernel, rfl, by decide +kernel, by decide +kernel⟩
abbrev s_may_be_prepared : Stmt := topS 15
theorem sc_may_be_prepared : FnScope ["string"] ["string"] (defScope s_may_be_prepared) := ⟨rfl, rfl, rfl, by decide +kernel, rfl, by decide +kernel, by decide +kernel⟩
abbrev s_is_name : Stmt := topS 16
theorem sc_is_name : FnScope ["string", "letter"] ["string"] (defScope s_is_name) := ⟨rfl, rfl, rfl, by decide +kernel, rfl, by decide +kernel, by decide +kernel⟩
abbrev s_is_text : Stmt := topS 17
theorem sc_is_text : FnScope ["string"] ["string"] (defScope s_is_text) := ⟨rfl, rfl, rfl, by decide +kernel, rfl, by decide +kernel, by decide +kernel⟩
abbrev s_is_number : Stmt := topS 18
theorem sc_is_number : FnScope ["number"] ["number"] (defScope s_is_number) := ⟨rfl, rfl, rfl, by decide +kernel, rfl, by decide +kernel, by decide +kernel⟩
abbrev s_value_order : Stmt := topS 19
theorem sc_value_order : FnScope ["value"] ["value"] (defScope s_value_order) := ⟨rfl, rfl, rfl, by decide +kernel, rfl, by decide +kernel, by decide +kernel⟩
abbrev s_parse_statement : Stmt := topS 23
theorem sc_parse_statement : FnScope ["string", "word", "pieces", "form", "parts", "n", "letter", "piece"] ["string"] (defScope s_parse_statement) := ⟨rfl, rfl, rfl, by decide +kernel, rfl, by decide +kernel, by decide +kernel⟩
abbrev s_parameters : Stmt := topS 24
theorem sc_parameters : FnScope ["parts", "part"] ["parts"] (defScope s_parameters) := ⟨rfl, rfl, rfl, by decide +kernel, rfl, by decide +kernel, by decide +kernel⟩
abbrev s_fill_parts : Stmt := topS 25
theorem sc_fill_parts : FnScope ["parts", "values", "part"] ["parts", "values"] (defScope s_fill_parts) := ⟨rfl, rfl, rfl, by decide +kernel, rfl, by decide +kernel, by decide +kernel⟩
abbrev s_fill_part : Stmt := topS 26
theorem sc_fill_part : FnScope ["part", "values"] ["part", "values"] (defScope s_fill_part) := ⟨rfl, rfl, rfl, by decide +kernel, rfl, by decide +kernel, by decide +kernel⟩
abbrev s_is_parameter : Stmt := topS 27
theorem sc_is_parameter : FnScope ["part"] ["part"] (defScope s_is_parameter) := ⟨rfl, rfl, rfl, by decide +kernel, rfl, by decide +kernel, by decide +kernel⟩
abbrev s_split_pieces : Stmt := topS 28
theorem sc_split_pieces : FnScope ["string", "pieces", "in_text", "sign"] ["string"] (defScope s_split_pieces) := ⟨rfl, rfl, rfl, by decide +kernel, rfl, by decide +kernel, by decide +kernel⟩
abbrev s_find_form : Stmt := topS 29
theorem sc_find_form : FnScope ["word", "many", "form"] ["word", "many"] (defScope s_find_form) := ⟨rfl, rfl, rfl, by decide +kernel, rfl, by decide +kernel, by decide +kernel⟩
abbrev s_parse_part : Stmt := topS 30
theorem sc_parse_part : FnScope ["letter", "piece"] ["letter", "piece"] (defScope s_parse_part) := ⟨rfl, rfl, rfl, by decide +kernel, rfl, by decide +kernel, by decide +kernel⟩
abbrev s_parse_name : Stmt := topS 31
theorem sc_parse_name : FnScope ["piece"] ["piece"] (defScope s_parse_name) := ⟨rfl, rfl, rfl, by decide +kernel, rfl, by decide +kernel, by decide +kernel⟩
abbrev s_parse_text : Stmt := topS 32
theorem sc_parse_text : FnScope ["piece", "text"] ["piece"] (defScope s_parse_text) := ⟨rfl, rfl, rfl, by decide +kernel, rfl, by decide +kernel, by decide +kernel⟩
abbrev s_parse_number : Stmt := topS 33
theorem sc_parse_number : FnScope ["piece", "digits", "number"] ["piece"] (defScope s_parse_number) := ⟨rfl, rfl, rfl, by decide +kernel, rfl, by decide +kernel, by decide +kernel⟩
abbrev s_make_store : Stmt := topS 37
theorem sc_make_store : FnScope ["tables", "name", "rows"] ["tables"] (defScope s_make_store) := ⟨rfl, rfl, rfl, by decide +kernel, rfl, by decide +kernel, by decide +kernel⟩
abbrev s_list_tables : Stmt := topS 38
theorem sc_list_tables : FnScope ["store", "name", "rows"] ["store"] (defScope s_list_tables) := ⟨rfl, rfl, rfl, by decide +kernel, rfl, by decide +kernel, by decide +kernel⟩
abbrev s_run_on_store : Stmt := topS 39
theorem sc_run_on_store : FnScope ["store", "parts", "word", "name", "terms", "action"] ["store", "parts"] (defScope s_run_on_store) := ⟨rfl, rfl, rfl, by decide +kernel, rfl, by decide +kernel, by decide +kernel⟩
abbrev s_create_table : Stmt := topS 40
theorem sc_create_table : FnScope ["store", "name"] ["store", "name"] (defScope s_create_table) := ⟨rfl, rfl, rfl, by decide +kernel, rfl, by decide +kernel, by decide +kernel⟩
abbrev s_put_row : Stmt := topS 42
theorem sc_put_row : FnScope ["store", "name", "key", "entry", "rows"] ["store", "name", "key", "entry"] (defScope s_put_row) := ⟨rfl, rfl, rfl, by decide +kernel, rfl, by decide +kernel, by decide +kernel⟩
abbrev s_rows_of : Stmt := topS 47
theorem sc_rows_of : FnScope ["store", "name", "other", "rows"] ["store", "name"] (defScope s_rows_of) := ⟨rfl, rfl, rfl, by decide +kernel, rfl, by decide +kernel, by decide +kernel⟩
abbrev s_rows_without : Stmt := topS 48
theorem sc_rows_without : FnScope ["store", "name", "key", "row"] ["store", "name", "key"] (defScope s_rows_without) := ⟨rfl, rfl, rfl, by decide +kernel, rfl, by decide +kernel, by decide +kernel⟩
abbrev s_with_rows : Stmt := topS 49
theorem sc_with_rows : FnScope ["store", "name", "rows", "other", "old"] ["store", "name", "rows"] (defScope s_with_rows) := ⟨rfl, rfl, rfl, by decide +kernel, rfl, by decide +kernel, by decide +kernel⟩
abbrev s_in_order : Stmt := topS 50
theorem sc_in_order : FnScope ["rows", "row"] ["rows"] (defScope s_in_order) := ⟨rfl, rfl, rfl, by decide +kernel, rfl, by decide +kernel, by decide +kernel⟩
abbrev s_row_order : Stmt := topS 51
theorem sc_row_order : FnScope ["row"] ["row"] (defScope s_row_order) := ⟨rfl, rfl, rfl, by decide +kernel, rfl, by decide +kernel, by decide +kernel⟩
abbrev s_Session___init__ : Stmt := inClass (topS 58) 0
theorem sc_Session___init__ : FnScope ["self", "tables"] ["self", "tables"] (defScope s_Session___init__) := ⟨rfl, rfl, rfl, by decide +kernel, rfl, by decide +kernel, by decide +kernel⟩
abbrev s_Session_tables : Stmt := inClass (topS 58) 1
theorem sc_Session_tables : FnScope ["self"] ["self"] (defScope s_Session_tables) := ⟨rfl, rfl, rfl, by decide +kernel, rfl, by decide +kernel, by decide +kernel⟩
abbrev s_Session_run_batch : Stmt := inClass (topS 58) 3
theorem sc_Session_run_batch : FnScope ["self", "commands", "replies", "failed", "command", "reply"] ["self", "commands"] (defScope s_Session_run_batch) := ⟨rfl, rfl, rfl, by decide +kernel, rfl, by decide +kernel, by decide +kernel⟩
abbrev s_Session__go_back : Stmt := inClass (topS 58) 4
theorem sc_Session__go_back : FnScope ["self"] ["self"] (defScope s_Session__go_back) := ⟨rfl, rfl, rfl, by decide +kernel, rfl, by decide +kernel, by decide +kernel⟩
abbrev s_Session__run_command : Stmt := inClass (topS 58) 5
theorem sc_Session__run_command : FnScope ["self", "command", "name", "string", "portal", "values", "most"] ["self", "command"] (defScope s_Session__run_command) := ⟨rfl, rfl, rfl, by decide +kernel, rfl, by decide +kernel, by decide +kernel⟩
abbrev s_Session__prepare : Stmt := inClass (topS 58) 6
theorem sc_Session__prepare : FnScope ["self", "name", "string", "parts"] ["self", "name", "string"] (defScope s_Session__prepare) := ⟨rfl, rfl, rfl, by decide +kernel, rfl, by decide +kernel, by decide +kernel⟩
abbrev s_Session__bind : Stmt := inClass (topS 58) 7
theorem sc_Session__bind : FnScope ["self", "portal", "name", "values", "parts"] ["self", "portal", "name", "values"] (defScope s_Session__bind) := ⟨rfl, rfl, rfl, by decide +kernel, rfl, by decide +kernel, by decide +kernel⟩
abbrev s_Session__forget : Stmt := inClass (topS 58) 8
theorem sc_Session__forget : FnScope ["self", "name"] ["self", "name"] (defScope s_Session__forget) := ⟨rfl, rfl, rfl, by decide +kernel, rfl, by decide +kernel, by decide +kernel⟩
abbrev s_Session__close : Stmt := inClass (topS 58) 9
theorem sc_Session__close : FnScope ["self", "portal"] ["self", "portal"] (defScope s_Session__close) := ⟨rfl, rfl, rfl, by decide +kernel, rfl, by decide +kernel, by decide +kernel⟩
abbrev s_Session__run : Stmt := inClass (topS 58) 10
theorem sc_Session__run : FnScope ["self", "name", "most", "portal", "answer"] ["self", "name", "most"] (defScope s_Session__run) := ⟨rfl, rfl, rfl, by decide +kernel, rfl, by decide +kernel, by decide +kernel⟩
abbrev s_Session__run_statement : Stmt := inClass (topS 58) 11
theorem sc_Session__run_statement : FnScope ["self", "parts", "name", "answer"] ["self", "parts"] (defScope s_Session__run_statement) := ⟨rfl, rfl, rfl, by decide +kernel, rfl, by decide +kernel, by decide +kernel⟩
abbrev s_Session__begin : Stmt := inClass (topS 58) 12
theorem sc_Session__begin : FnScope ["self"] ["self"] (defScope s_Session__begin) := ⟨rfl, rfl, rfl, by decide +kernel, rfl, by decide +kernel, by decide +kernel⟩
abbrev s_Session__commit : Stmt := inClass (topS 58) 13
theorem sc_Session__commit : FnScope ["self"] ["self"] (defScope s_Session__commit) := ⟨rfl, rfl, rfl, by decide +kernel, rfl, by decide +kernel, by decide +kernel⟩
abbrev s_Session__roll_back : Stmt := inClass (topS 58) 14
theorem sc_Session__roll_back : FnScope ["self"] ["self"] (defScope s_Session__roll_back) := ⟨rfl, rfl, rfl, by decide +kernel, rfl, by decide +kernel, by decide +kernel⟩
abbrev s_Session__end_transaction : Stmt := inClass (topS 58) 15
theorem sc_Session__end_transaction : FnScope ["self"] ["self"] (defScope s_Session__end_transaction) := ⟨rfl, rfl, rfl, by decide +kernel, rfl, by decide +kernel, by decide +kernel⟩
abbrev s_Session__save : Stmt := inClass (topS 58) 16
theorem sc_Session__save : FnScope ["self", "name"] ["self", "name"] (defScope s_Session__save) := ⟨rfl, rfl, rfl, by decide +kernel, rfl, by decide +kernel, by decide +kernel⟩
abbrev s_Session__undo : Stmt := inClass (topS 58) 17
theorem sc_Session__undo : FnScope ["self", "name", "at"] ["self", "name"] (defScope s_Session__undo) := ⟨rfl, rfl, rfl, by decide +kernel, rfl, by decide +kernel, by decide +kernel⟩
abbrev s_law_cell : Stmt := topS 60
theorem sc_law_cell : FnScope ["script", "k"] ["script", "k"] (defScope s_law_cell) := ⟨rfl, rfl, rfl, by decide +kernel, rfl, by decide +kernel, by decide +kernel⟩
abbrev s_law_did : Stmt := topS 62
theorem sc_law_did : FnScope ["session", "string", "values", "commands"] ["session", "string", "values"] (defScope s_law_did) := ⟨rfl, rfl, rfl, by decide +kernel, rfl, by decide +kernel, by decide +kernel⟩
abbrev s_law_tables_hold : Stmt := topS 64
theorem sc_law_tables_hold : FnScope ["count", "session", "k", "due", "table"] ["count"] (defScope s_law_tables_hold) := ⟨rfl, rfl, rfl, by decide +kernel, rfl, by decide +kernel, by decide +kernel⟩
abbrev s_law_named_hold : Stmt := topS 65
theorem sc_law_named_hold : FnScope ["count", "session", "k", "told", "commands", "replies", "due"] ["count"] (defScope s_law_named_hold) := ⟨rfl, rfl, rfl, by decide +kernel, rfl, by decide +kernel, by decide +kernel⟩
abbrev s_law_portals_hold : Stmt := topS 66
theorem sc_law_portals_hold : FnScope ["session", "commands", "command", "word", "told", "k"] [] (defScope s_law_portals_hold) := ⟨rfl, rfl, rfl, by decide +kernel, rfl, by decide +kernel, by decide +kernel⟩
abbrev s_law_saves_hold : Stmt := topS 67
theorem sc_law_saves_hold : FnScope ["count", "session", "k", "due"] ["count"] (defScope s_law_saves_hold) := ⟨rfl, rfl, rfl, by decide +kernel, rfl, by decide +kernel, by decide +kernel⟩
abbrev s_law : Stmt := topS 68
theorem sc_law : FnScope ["script", "session", "key", "k"] ["script"] (defScope s_law) := ⟨rfl, rfl, rfl, by decide +kernel, rfl, by decide +kernel, by decide +kernel⟩
end P09
end
section
namespace P09
open PySem PySem.Spec PyProof.Rows L2 Tl XM Cm
structure Txt (w : World) (K : PySem.W.Frag) (mg : Str → Option Value) : Prop where
  i_Portal___init___0 : IniD K mg "Portal" "Portal.__init__" s_Portal___init__ ["self", "parts"] []
  d_is_sign : Dn K mg "is_sign" s_is_sign ["character"]
  d_has_only_signs : Dn K mg "has_only_signs" s_has_only_signs ["string"]
  d_may_be_prepared : Dn K mg "may_be_prepared" s_may_be_prepared ["string"]
  d_is_name : Dn K mg "is_name" s_is_name ["string"]
  d_is_text : Dn K mg "is_text" s_is_text ["string"]
  d_is_number : Dn K mg "is_number" s_is_number ["number"]
  d_value_order : Dn K mg "value_order" s_value_order ["value"]
  d_parse_statement : Dn K mg "parse_statement" s_parse_statement ["string"]
  d_parameters : Dn K mg "parameters" s_parameters ["parts"]
  d_fill_parts : Dn K mg "fill_parts" s_fill_parts ["parts", "values"]
  d_fill_part : Dn K mg "fill_part" s_fill_part ["part", "values"]
  d_is_parameter : Dn K mg "is_parameter" s_is_parameter ["part"]
  d_split_pieces : Dn K mg "split_pieces" s_split_pieces ["string"]
  d_find_form : Dn K mg "find_form" s_find_form ["word", "many"]
  d_parse_part : Dn K mg "parse_part" s_parse_part ["letter", "piece"]
  d_parse_name : Dn K mg "parse_name" s_parse_name ["piece"]
  d_parse_text : Dn K mg "parse_text" s_parse_text ["piece"]
  d_parse_number : Dn K mg "parse_number" s_parse_number ["piece"]
  d_make_store : Dn K mg "make_store" s_make_store ["tables"]
  d_list_tables : Dn K mg "list_tables" s_list_tables ["store"]
  d_run_on_store : Dn K mg "run_on_store" s_run_on_store ["store", "parts"]
  d_create_table : Dn K mg "create_table" s_create_table ["store", "name"]
  d_put_row : Dn K mg "put_row" s_put_row ["store", "name", "key", "entry"]
  d_rows_of : Dn K mg "rows_of" s_rows_of ["store", "name"]
  d_rows_without : Dn K mg "rows_without" s_rows_without ["store", "name", "key"]
  d_with_rows : Dn K mg "with_rows" s_with_rows ["store", "name", "rows"]
  d_in_order : Dn K mg "in_order" s_in_order ["rows"]
  d_row_order : Dn K mg "row_order" s_row_order ["row"]
  i_Session___init___0 : IniE K mg "Session" "Session.__init__" s_Session___init__ ["self", "tables"] []
  i_Session___init___1 : IniE K mg "Session" "Session.__init__" s_Session___init__ ["self", "tables"] [(.tuple [])]
  m_Session_tables : MDnG K mg "Session" "tables" "Session.tables" s_Session_tables ["self"] []
  m_Session_run_batch : MDnG K mg "Session" "run_batch" "Session.run_batch" s_Session_run_batch ["self", "commands"] []
  m_Session__go_back : MDnG K mg "Session" "_go_back" "Session._go_back" s_Session__go_back ["self"] []
  m_Session__run_command : MDnG K mg "Session" "_run_command" "Session._run_command" s_Session__run_command ["self", "command"] []
  m_Session__prepare : MDnG K mg "Session" "_prepare" "Session._prepare" s_Session__prepare ["self", "name", "string"] []
  m_Session__bind : MDnG K mg "Session" "_bind" "Session._bind" s_Session__bind ["self", "portal", "name", "values"] []
  m_Session__forget : MDnG K mg "Session" "_forget" "Session._forget" s_Session__forget ["self", "name"] []
  m_Session__close : MDnG K mg "Session" "_close" "Session._close" s_Session__close ["self", "portal"] []
  m_Session__run : MDnG K mg "Session" "_run" "Session._run" s_Session__run ["self", "name", "most"] []
  m_Session__run_statement : MDnG K mg "Session" "_run_statement" "Session._run_statement" s_Session__run_statement ["self", "parts"] []
  m_Session__begin : MDnG K mg "Session" "_begin" "Session._begin" s_Session__begin ["self"] []
  m_Session__commit : MDnG K mg "Session" "_commit" "Session._commit" s_Session__commit ["self"] []
  m_Session__roll_back : MDnG K mg "Session" "_roll_back" "Session._roll_back" s_Session__roll_back ["self"] []
  m_Session__end_transaction : MDnG K mg "Session" "_end_transaction" "Session._end_transaction" s_Session__end_transaction ["self"] []
  m_Session__save : MDnG K mg "Session" "_save" "Session._save" s_Session__save ["self", "name"] []
  m_Session__undo : MDnG K mg "Session" "_undo" "Session._undo" s_Session__undo ["self", "name"] []
  d_law_cell : Dn K mg "_law_cell" s_law_cell ["script", "k"]
  d_law_did : Dn K mg "_law_did" s_law_did ["session", "string", "values"]
  d_law_tables_hold : Dn K mg "_law_tables_hold" s_law_tables_hold ["count"]
  d_law_named_hold : Dn K mg "_law_named_hold" s_law_named_hold ["count"]
  d_law_portals_hold : Dn K mg "_law_portals_hold" s_law_portals_hold []
  d_law_saves_hold : Dn K mg "_law_saves_hold" s_law_saves_hold ["count"]
  d_law : Dn K mg "law" s_law ["script"]
  c_ENDINGS : CD K mg "ENDINGS" (.tuple [(.str "commit"), (.str "rollback"), (.str "undo")])
  c_GREATEST_NUMBER : CD K mg "GREATEST_NUMBER" (.int 2147483647)
  c_LEAST_NUMBER : CD K mg "LEAST_NUMBER" (.int (-2147483648))
  c_LETTERS : CD K mg "LETTERS" (.str "abcdefghijklmnopqrstuvwxyz")
  c_LONGEST_NAME : CD K mg "LONGEST_NAME" (.int 8)
  c_LONGEST_STRING : CD K mg "LONGEST_STRING" (.int 200)
  c_LONGEST_TEXT : CD K mg "LONGEST_TEXT" (.int 40)
  c_MOST_PORTALS : CD K mg "MOST_PORTALS" (.int 8)
  c_MOST_ROWS : CD K mg "MOST_ROWS" (.int 20)
  c_MOST_SAVEPOINTS : CD K mg "MOST_SAVEPOINTS" (.int 10)
  c_MOST_STATEMENTS : CD K mg "MOST_STATEMENTS" (.int 8)
  c_MOST_TABLES : CD K mg "MOST_TABLES" (.int 4)
  c_PARAMETERS : CD K mg "PARAMETERS" (.tuple [(.str "$1"), (.str "$2"), (.str "$3"), (.str "$4")])
  c_PERCENT : CD K mg "PERCENT" (.int 37)
  f__base_Session : FldK K mg "_base" "Session"
  f__portals_Session : FldK K mg "_portals" "Session"
  f__prepared_Session : FldK K mg "_prepared" "Session"
  f__savepoints_Session : FldK K mg "_savepoints" "Session"
  f__state_Session : FldK K mg "_state" "Session"
  f__store_Session : FldK K mg "_store" "Session"
  f_ended_Portal : FldK K mg "ended" "Portal"
  f_parts_Portal : FldK K mg "parts" "Portal"
  f_rows_Portal : FldK K mg "rows" "Portal"
  g_FORMS : GD K w mg "FORMS" gd_FORMS
  n_all : mg "all" = none
  n_int : mg "int" = none
  n_isinstance : mg "isinstance" = none
  n_len : mg "len" = none
  n_list : mg "list" = none
  n_max : mg "max" = none
  n_min : mg "min" = none
  n_ord : mg "ord" = none
  n_range : mg "range" = none
  n_sorted : mg "sorted" = none
  n_str : mg "str" = none
  n_tuple : mg "tuple" = none
  n_zip : mg "zip" = none
  t_ACTIONS : FD K w mg "ACTIONS" tb_ACTIONS
section
variable {P : Program} {w : World} {K : PySem.W.Frag} {mg : Str → Option Value} {base : Heap}
theorem ok_value_order (T : Txt w K mg) : PrG P w K mg base CX0 1 "value_order" ["value"] (sp0 K mg 1 m_value_order) :=
  fn0n T.d_value_order sc_value_order (by decide) rfl rfl fun f cdv A outer s H E qt hr =>
  (dss_cons (ds_if (dt_val (de_isi (ty := .str) (by rfl) T.n_isinstance (pe_bltn (v := .ty "str") (by rfl) T.n_str boot_str rfl) (by decide) (dv 0)))
    (dss_one (ds_ret (de_tup (da_cons de_int (da_cons (dv 0) da_nil))))) dss_nil)
  (dss_one (ds_ret (de_tup (da_cons de_int (da_cons (dv 0) da_nil))))))
theorem ok_row_order (T : Txt w K mg) : PrG P w K mg base CX0 2 "row_order" ["row"] (sp0 K mg 1 m_row_order) :=
  fn0n T.d_row_order sc_row_order (by decide) rfl rfl fun f cdv A outer s H E qt hr =>
  (dss_one (ds_ret (de_call (ok_value_order T) qt hr (by decide) (by rfl) rfl (da_cons (de_ix (dv 0) de_int (fun _ _ => rfl)) da_nil))))
theorem ok_in_order (T : Txt w K mg) : PrG P w K mg base CX0 5 "in_order" ["rows"] (sp0 K mg 1 m_in_order) :=
  fn0n T.d_in_order sc_in_order (by decide) rfl rfl fun f cdv A outer s H E qt hr =>
  (dss_one (ds_ret (de_callTy call_tuple_of leaf_tup (by rfl) T.n_tuple boot_tuple (da_cons (de_sortK (ok_row_order T) qt hr (by decide) (by rfl) (by rfl) T.n_sorted (de_lcO (own := [("row", 1)]) rfl sc_in_order.nd (dv 0) (blkOk_by (N := ["rows", "row"]) (sc := defScope s_in_order) (by decide +kernel))
        (fun _ _ _ _ _ => dg_name (i := 1) sc_in_order.nd rfl (by first | exact .inl rfl | exact .inr rfl)) (fun _ _ _ _ _ => dts_nil)
        (fun _ _ _ _ _ => (de_callTy call_tuple_of leaf_tup (by rfl) T.n_tuple boot_tuple (da_cons (dv 1) da_nil))))) da_nil))))
theorem ok_make_store (T : Txt w K mg) : PrG P w K mg base CX0 6 "make_store" ["tables"] (sp0 K mg 1 m_make_store) :=
  fn0n T.d_make_store sc_make_store (by decide) rfl rfl fun f cdv A outer s H E qt hr =>
  (dss_one (ds_ret (de_callTy call_tuple_of leaf_tup (by rfl) T.n_tuple boot_tuple (da_cons (de_lcO (own := [("name", 1), ("rows", 2)]) rfl sc_make_store.nd (dv 0) (blkOk_by (N := ["tables", "name", "rows"]) (sc := defScope s_make_store) (by decide +kernel))
        (fun _ _ _ _ _ => dg_seq rfl (dgs_cons (dg_name (i := 1) sc_make_store.nd rfl (by first | exact .inl rfl | exact .inr rfl)) (dgs_cons (dg_name (i := 2) sc_make_store.nd rfl (by first | exact .inl rfl | exact .inr rfl)) dgs_nil))) (fun _ _ _ _ _ => dts_nil)
        (fun _ _ _ _ _ => (de_tup (da_cons (dv 1) (da_cons (de_call (ok_in_order T) qt hr (by decide) (by rfl) rfl (da_cons (dv 2) da_nil)) da_nil))))) da_nil))))
theorem ok_Session___init___0 (T : Txt w K mg) : IniG P w K mg base CX0 7 "Session" 2 [] (sp0 K mg 2 m_Session___init__) :=
  in0e T.i_Session___init___0 sc_Session___init__ (by decide) rfl rfl fun f cdv A outer s H E qt hr =>
  (dss_cons (ds_setFld (fk1 T.f__store_Session) (dv 0) (de_call (ok_make_store T) qt hr (by decide) (by rfl) rfl (da_cons (dv 1) da_nil)))
  (dss_cons (ds_setFld (fk1 T.f__base_Session) (dv 0) (de_fld (fk1 T.f__store_Session) (dv 0)))
  (dss_cons (ds_setFld (fk1 T.f__state_Session) (dv 0) de_str)
  (dss_cons (ds_setFld (fk1 T.f__savepoints_Session) (dv 0) (de_lst da_nil))
  (dss_cons (ds_setFld (fk1 T.f__prepared_Session) (dv 0) de_dnew)
  (dss_one (ds_setFld (fk1 T.f__portals_Session) (dv 0) de_dnew)))))))
theorem ok_Session___init___1 (T : Txt w K mg) : IniG P w K mg base CX0 7 "Session" 2 [(.tuple [])] (sp0 K mg 2 m_Session___init__) :=
  in0e T.i_Session___init___1 sc_Session___init__ (by decide) rfl rfl fun f cdv A outer s H E qt hr =>
  (dss_cons (ds_setFld (fk1 T.f__store_Session) (dv 0) (de_call (ok_make_store T) qt hr (by decide) (by rfl) rfl (da_cons (dv 1) da_nil)))
  (dss_cons (ds_setFld (fk1 T.f__base_Session) (dv 0) (de_fld (fk1 T.f__store_Session) (dv 0)))
  (dss_cons (ds_setFld (fk1 T.f__state_Session) (dv 0) de_str)
  (dss_cons (ds_setFld (fk1 T.f__savepoints_Session) (dv 0) (de_lst da_nil))
  (dss_cons (ds_setFld (fk1 T.f__prepared_Session) (dv 0) de_dnew)
  (dss_one (ds_setFld (fk1 T.f__portals_Session) (dv 0) de_dnew)))))))
theorem ok_list_tables (T : Txt w K mg) : PrG P w K mg base CX0 1 "list_tables" ["store"] (sp0 K mg 1 m_list_tables) :=
  fn0n T.d_list_tables sc_list_tables (by decide) rfl rfl fun f cdv A outer s H E qt hr =>
  (dss_one (ds_ret (de_lcO (own := [("name", 1), ("rows", 2)]) rfl sc_list_tables.nd (dv 0) (blkOk_by (N := ["store", "name", "rows"]) (sc := defScope s_list_tables) (by decide +kernel))
        (fun _ _ _ _ _ => dg_seq rfl (dgs_cons (dg_name (i := 1) sc_list_tables.nd rfl (by first | exact .inl rfl | exact .inr rfl)) (dgs_cons (dg_name (i := 2) sc_list_tables.nd rfl (by first | exact .inl rfl | exact .inr rfl)) dgs_nil))) (fun _ _ _ _ _ => dts_nil)
        (fun _ _ _ _ _ => (de_tup (da_cons (dv 1) (da_cons (de_callTy call_list_of leaf_list (by rfl) T.n_list boot_list (da_cons (dv 2) da_nil)) da_nil)))))))
theorem ok_Session_tables (T : Txt w K mg) : MetG P w K mg base CX0 2 "Session" "tables" 1 [] (sp0 K mg 1 m_Session_tables) :=
  mt0n T.m_Session_tables sc_Session_tables (by decide) rfl rfl fun f cdv A outer s H E qt hr =>
  (dss_one (ds_ret (de_call (ok_list_tables T) qt hr (by decide) (by rfl) rfl (da_cons (de_fld (fk1 T.f__store_Session) (dv 0)) da_nil))))
theorem ok_law_cell (T : Txt w K mg) : PrG P w K mg base CX0 1 "_law_cell" ["script", "k"] (sp0 K mg 2 m_law_cell) :=
  fn0n T.d_law_cell sc_law_cell (by decide) rfl rfl fun f cdv A outer s H E qt hr =>
  (dss_cons (ds_if (dt_cmp op_lt opa_cmp (nomark _) (dv 1) (de_callB call_lenA leaf_len (by rfl) T.n_len PySem.boot_len (da_cons (dv 0) da_nil)))
    (dss_one (ds_ret (de_ix (dv 0) (dv 1) (fun _ _ => rfl)))) dss_nil)
  (dss_one (ds_ret de_int)))
theorem ok_Session__go_back (T : Txt w K mg) : MetG P w K mg base CX0 1 "Session" "_go_back" 1 [] (sp0 K mg 1 m_Session__go_back) :=
  mt0n T.m_Session__go_back sc_Session__go_back (by decide) rfl rfl fun f cdv A outer s H E qt hr =>
  (dss_one (ds_if (dt_cmp op_eq opa_eq (nomark _) (de_fld (fk1 T.f__state_Session) (dv 0)) de_str)
    (dss_one (ds_setFld (fk1 T.f__store_Session) (dv 0) (de_fld (fk1 T.f__base_Session) (dv 0))))
    (dss_one (ds_setFld (fk1 T.f__state_Session) (dv 0) de_str))))
theorem ok_is_sign (T : Txt w K mg) : PrG P w K mg base CX0 1 "is_sign" ["character"] (sp0 K mg 1 m_is_sign) :=
  fn0n T.d_is_sign sc_is_sign (by decide) rfl rfl fun f cdv A outer s H E qt hr =>
  (dss_cons (ds_set (i := 1) sc_is_sign.nd rfl (.inl rfl) (de_callB call_ord leaf_ord (by rfl) T.n_ord boot_ord (da_cons (dv 0) da_nil)))
  (dss_one (ds_ret (de_and (de_chain op_le op_le opa_cmp opa_cmp de_int (dv 1) de_int) (de_one (de_cmp op_ne opa_ne (nomark _) (dv 1) (de_glob T.c_PERCENT (by rfl))))))))
theorem ok_has_only_signs (T : Txt w K mg) : PrG P w K mg base CX0 2 "has_only_signs" ["string"] (sp0 K mg 1 m_has_only_signs) :=
  fn0n T.d_has_only_signs sc_has_only_signs (by decide) rfl rfl fun f cdv A outer s H E qt hr =>
  (dss_one (ds_ret (de_callB (cr_all rfl) leaf_all (by rfl) T.n_all boot_all (da_cons (de_lc (own := [("character", 1)]) rfl sc_has_only_signs.nd (di_str (dv 0)) (blkOk_by (N := ["string", "character"]) (sc := defScope s_has_only_signs) (by decide +kernel))
        (fun _ _ _ _ _ => dg_name (i := 1) sc_has_only_signs.nd rfl (by first | exact .inl rfl | exact .inr rfl)) (fun _ _ _ _ _ => dts_nil)
        (fun _ _ _ _ _ => (de_call (ok_is_sign T) qt hr (by decide) (by rfl) rfl (da_cons (dv 1) da_nil)))) da_nil))))
theorem ok_may_be_prepared (T : Txt w K mg) : PrG P w K mg base CX0 3 "may_be_prepared" ["string"] (sp0 K mg 1 m_may_be_prepared) :=
  fn0n T.d_may_be_prepared sc_may_be_prepared (by decide) rfl rfl fun f cdv A outer s H E qt hr =>
  (dss_one (ds_ret (de_and (de_cmp op_le opa_cmp (nomark _) (de_callB call_lenA leaf_len (by rfl) T.n_len PySem.boot_len (da_cons (dv 0) da_nil)) (de_glob T.c_LONGEST_STRING (by rfl))) (de_one (de_call (ok_has_only_signs T) qt hr (by decide) (by rfl) rfl (da_cons (dv 0) da_nil))))))
theorem ok_is_parameter (T : Txt w K mg) : PrG P w K mg base CX0 1 "is_parameter" ["part"] (sp0 K mg 1 m_is_parameter) :=
  fn0n T.d_is_parameter sc_is_parameter (by decide) rfl rfl fun f cdv A outer s H E qt hr =>
  (dss_one (ds_ret (de_and (de_isTL (by rfl) T.n_isinstance (pe_bltn (v := .ty "tuple") (by rfl) T.n_tuple boot_tuple rfl) (pe_bltn (v := .ty "list") (by rfl) T.n_list boot_list rfl) (dv 0)) (de_one (de_cmp op_eq opa_eq (nomark _) (de_ix (dv 0) de_int (fun _ _ => rfl)) de_str)))))
theorem ok_parameters (T : Txt w K mg) : PrG P w K mg base CX0 2 "parameters" ["parts"] (sp0 K mg 1 m_parameters) :=
  fn0n T.d_parameters sc_parameters (by decide) rfl rfl fun f cdv A outer s H E qt hr =>
  (dss_one (ds_ret (de_maxD rfl (by rfl) T.n_max (de_lcO (own := [("part", 1)]) rfl sc_parameters.nd (dv 0) (blkOk_by (N := ["parts", "part"]) (sc := defScope s_parameters) (by decide +kernel))
        (fun _ _ _ _ _ => dg_name (i := 1) sc_parameters.nd rfl (by first | exact .inl rfl | exact .inr rfl)) (fun _ _ _ _ _ => dts_one (dt_val (de_call (ok_is_parameter T) qt hr (by decide) (by rfl) rfl (da_cons (dv 1) da_nil))))
        (fun _ _ _ _ _ => (de_ix (dv 1) de_int (fun _ _ => rfl)))))))
theorem ok_split_pieces (T : Txt w K mg) : PrG P w K mg base CX0 1 "split_pieces" ["string"] (sp0 K mg 1 m_split_pieces) :=
  fn0n T.d_split_pieces sc_split_pieces (by decide) rfl rfl fun f cdv A outer s H E qt hr =>
  (dss_cons (ds_set (i := 1) sc_split_pieces.nd rfl (.inl rfl) (de_lst (da_cons de_str da_nil)))
  (dss_cons (ds_set (i := 2) sc_split_pieces.nd rfl (.inl rfl) de_bl)
  (dss_cons (ds_for PassesOwn.never rfl (di_str (dv 0)) (dg_name (i := 3) sc_split_pieces.nd rfl (by first | exact .inl rfl | exact .inr rfl))
    (dss_cons (ds_if (dt_cmp op_eq opa_eq (nomark _) (dv 3) de_str)
      (dss_one (ds_set (i := 2) sc_split_pieces.nd rfl (.inl rfl) (de_not (dv 2)))) dss_nil)
    (dss_one (ds_if (DW.dt (dw_and (dt_cmp op_eq opa_eq (nomark _) (dv 3) de_str) (dw_and1 (dt_not (dt_val (dv 2))))))
      (dss_one (ds_expr (de_append (dv 1) de_str)))
      (dss_one (ds_augLast (dv 1) (dv 3)))))))
  (dss_one (ds_ret (dv 1))))))
theorem ok_find_form (T : Txt w K mg) : PrG P w K mg base CX0 1 "find_form" ["word", "many"] (sp0 K mg 2 m_find_form) :=
  fn0n T.d_find_form sc_find_form (by decide) rfl rfl fun f cdv A outer s H E qt hr =>
  (dss_cons (ds_forO PassesOwn.never rfl (de_kget2 T.g_FORMS (by rfl) (dv 0) (de_tup da_nil) ⟨rfl, rfl, rfl, rfl⟩) (dg_name (i := 2) sc_find_form.nd rfl (by first | exact .inl rfl | exact .inr rfl))
    (dss_one (ds_if (dt_cmp op_eq opa_eq (nomark _) (de_callB call_lenA leaf_len (by rfl) T.n_len PySem.boot_len (da_cons (dv 2) da_nil)) (dv 1))
      (dss_one (ds_ret (dv 2))) dss_nil)))
  (dss_one ds_dead))
theorem ok_is_name (T : Txt w K mg) : PrG P w K mg base CX0 1 "is_name" ["string"] (sp0 K mg 1 m_is_name) :=
  fn0n T.d_is_name sc_is_name (by decide) rfl rfl fun f cdv A outer s H E qt hr =>
  (dss_one (ds_ret (de_and (de_chain op_le op_le opa_cmp opa_cmp de_int (de_callB call_lenA leaf_len (by rfl) T.n_len PySem.boot_len (da_cons (dv 0) da_nil)) (de_glob T.c_LONGEST_NAME (by rfl))) (de_one (de_callB (cr_all rfl) leaf_all (by rfl) T.n_all boot_all (da_cons (de_lc (own := [("letter", 1)]) rfl sc_is_name.nd (di_str (dv 0)) (blkOk_by (N := ["string", "letter"]) (sc := defScope s_is_name) (by decide +kernel))
        (fun _ _ _ _ _ => dg_name (i := 1) sc_is_name.nd rfl (by first | exact .inl rfl | exact .inr rfl)) (fun _ _ _ _ _ => dts_nil)
        (fun _ _ _ _ _ => (de_cmp op_in_sign opa_inC (by rfl) (dv 1) (de_glob T.c_LETTERS (by rfl))))) da_nil))))))
theorem ok_parse_name (T : Txt w K mg) : PrG P w K mg base CX0 2 "parse_name" ["piece"] (sp0 K mg 1 m_parse_name) :=
  fn0n T.d_parse_name sc_parse_name (by decide) rfl rfl fun f cdv A outer s H E qt hr =>
  (dss_cons (ds_if (dt_not (dt_val (de_call (ok_is_name T) qt hr (by decide) (by rfl) rfl (da_cons (dv 0) da_nil))))
    (dss_one ds_dead) dss_nil)
  (dss_one (ds_ret (dv 0))))
theorem ok_is_text (T : Txt w K mg) : PrG P w K mg base CX0 3 "is_text" ["string"] (sp0 K mg 1 m_is_text) :=
  fn0n T.d_is_text sc_is_text (by decide) rfl rfl fun f cdv A outer s H E qt hr =>
  (dss_one (ds_ret (de_and (de_cmp op_le opa_cmp (nomark _) (de_callB call_lenA leaf_len (by rfl) T.n_len PySem.boot_len (da_cons (dv 0) da_nil)) (de_glob T.c_LONGEST_TEXT (by rfl))) (de_and (de_cmp op_notIn_sign opa_notInC (by rfl) de_str (dv 0)) (de_one (de_call (ok_has_only_signs T) qt hr (by decide) (by rfl) rfl (da_cons (dv 0) da_nil)))))))
theorem ok_parse_text (T : Txt w K mg) : PrG P w K mg base CX0 4 "parse_text" ["piece"] (sp0 K mg 1 m_parse_text) :=
  fn0n T.d_parse_text sc_parse_text (by decide) rfl rfl fun f cdv A outer s H E qt hr =>
  (dss_cons (ds_set (i := 1) sc_parse_text.nd rfl (.inl rfl) (de_slice (dv 0) (do_some de_int) (do_some (de_neg de_int))))
  (dss_cons (ds_if (DW.dt (dw_or (dt_cmp op_lt opa_cmp (nomark _) (de_callB call_lenA leaf_len (by rfl) T.n_len PySem.boot_len (da_cons (dv 0) da_nil)) de_int) (dw_or (dt_not (dt_val (de_endswith (dv 0) de_str))) (dw_or1 (dt_not (dt_val (de_call (ok_is_text T) qt hr (by decide) (by rfl) rfl (da_cons (dv 1) da_nil))))))))
    (dss_one ds_dead) dss_nil)
  (dss_one (ds_ret (de_tup (da_cons de_str (da_cons (dv 1) da_nil)))))))
theorem ok_is_number (T : Txt w K mg) : PrG P w K mg base CX0 1 "is_number" ["number"] (sp0 K mg 1 m_is_number) :=
  fn0n T.d_is_number sc_is_number (by decide) rfl rfl fun f cdv A outer s H E qt hr =>
  (dss_one (ds_ret (de_chain op_le op_le opa_cmp opa_cmp (de_glob T.c_LEAST_NUMBER (by rfl)) (dv 0) (de_glob T.c_GREATEST_NUMBER (by rfl)))))
theorem ok_parse_number (T : Txt w K mg) : PrG P w K mg base CX0 2 "parse_number" ["piece"] (sp0 K mg 1 m_parse_number) :=
  fn0n T.d_parse_number sc_parse_number (by decide) rfl rfl fun f cdv A outer s H E qt hr =>
  (dss_cons (ds_set (i := 1) sc_parse_number.nd rfl (.inl rfl) (de_removeprefix (dv 0) de_str))
  (dss_cons (ds_if (dt_not (dt_val (de_isdigit (dv 1))))
    (dss_one ds_dead) dss_nil)
  (dss_cons (ds_set (i := 2) sc_parse_number.nd rfl (.inl rfl) (de_callTy call_int_str leaf_intStr (by rfl) T.n_int boot_int (da_cons (dv 0) da_nil)))
  (dss_cons (ds_if (DW.dt (dw_or (dt_cmp op_ne opa_ne (nomark _) (de_callTy call_str_int leaf_strI (by rfl) T.n_str boot_str (da_cons (dv 2) da_nil)) (dv 0)) (dw_or1 (dt_not (dt_val (de_call (ok_is_number T) qt hr (by decide) (by rfl) rfl (da_cons (dv 2) da_nil)))))))
    (dss_one ds_dead) dss_nil)
  (dss_one (ds_ret (dv 2)))))))
theorem ok_parse_part (T : Txt w K mg) : PrG P w K mg base CX0 5 "parse_part" ["letter", "piece"] (sp0 K mg 2 m_parse_part) :=
  fn0n T.d_parse_part sc_parse_part (by decide) rfl rfl fun f cdv A outer s H E qt hr =>
  (dss_cons (ds_if (dt_cmp op_in_sign opa_inC (by rfl) (dv 0) de_str)
    (dss_one (ds_ret (de_call (ok_parse_name T) qt hr (by decide) (by rfl) rfl (da_cons (dv 1) da_nil)))) dss_nil)
  (dss_cons (ds_if (dt_val (de_startswith (dv 1) de_str))
    (dss_one (ds_ret (de_call (ok_parse_text T) qt hr (by decide) (by rfl) rfl (da_cons (dv 1) da_nil)))) dss_nil)
  (dss_cons (ds_if (dt_cmp op_in_seq opa_in (by rfl) (dv 1) (de_glob T.c_PARAMETERS (by rfl)))
    (dss_one (ds_ret (de_tup (da_cons de_str (da_cons (de_callTy call_int_str leaf_intStr (by rfl) T.n_int boot_int (da_cons (de_slice (dv 1) (do_some de_int) do_none) da_nil)) da_nil))))) dss_nil)
  (dss_one (ds_ret (de_call (ok_parse_number T) qt hr (by decide) (by rfl) rfl (da_cons (dv 1) da_nil)))))))
theorem ok_parse_statement (T : Txt w K mg) : PrG P w K mg base CX0 6 "parse_statement" ["string"] (sp0 K mg 1 m_parse_statement) :=
  fn0n T.d_parse_statement sc_parse_statement (by decide) rfl rfl fun f cdv A outer s H E qt hr =>
  (dss_cons (ds_if (DW.dt (dw_or (dt_not (dt_val (de_isi (ty := .str) (by rfl) T.n_isinstance (pe_bltn (v := .ty "str") (by rfl) T.n_str boot_str rfl) (by decide) (dv 0)))) (dw_or1 (dt_not (dt_val (de_call (ok_may_be_prepared T) qt hr (by decide) (by rfl) rfl (da_cons (dv 0) da_nil)))))))
    (dss_one ds_dead) dss_nil)
  (dss_cons (ds_unp1 (i := 1) (j := 2) rfl sc_parse_statement.nd rfl (.inl rfl) rfl (.inl rfl) (de_call (ok_split_pieces T) qt hr (by decide) (by rfl) rfl (da_cons (dv 0) da_nil)))
  (dss_cons (ds_set (i := 3) sc_parse_statement.nd rfl (.inl rfl) (de_call (ok_find_form T) qt hr (by decide) (by rfl) rfl (da_cons (dv 1) (da_cons (de_callB call_lenA leaf_len (by rfl) T.n_len PySem.boot_len (da_cons (dv 2) da_nil)) da_nil))))
  (dss_cons (ds_set (i := 4) sc_parse_statement.nd rfl (.inl rfl) (de_tupA (da_consA (dv 1) (da_star (de_lc (own := [("letter", 6), ("piece", 7)]) rfl sc_parse_statement.nd (di_zipSL (by rfl) T.n_zip (dv 3) (dv 2)) (blkOk_by (N := ["string", "word", "pieces", "form", "parts", "n", "letter", "piece"]) (sc := defScope s_parse_statement) (by decide +kernel))
        (fun _ _ _ _ _ => dg_seq rfl (dgs_cons (dg_name (i := 6) sc_parse_statement.nd rfl (by first | exact .inl rfl | exact .inr rfl)) (dgs_cons (dg_name (i := 7) sc_parse_statement.nd rfl (by first | exact .inl rfl | exact .inr rfl)) dgs_nil))) (fun _ _ _ _ _ => dts_nil)
        (fun _ _ _ _ _ => (de_call (ok_parse_part T) qt hr (by decide) (by rfl) rfl (da_cons (dv 6) (da_cons (dv 7) da_nil))))) da_nilA))))
  (dss_cons (ds_for PassesOwn.never rfl (di_rng2 (by rfl) T.n_range de_int (de_call (ok_parameters T) qt hr (by decide) (by rfl) rfl (da_cons (dv 4) da_nil))) (dg_name (i := 5) sc_parse_statement.nd rfl (by first | exact .inl rfl | exact .inr rfl))
    (dss_one ds_dead))
  (dss_one (ds_ret (dv 4))))))))
theorem ok_Session__prepare (T : Txt w K mg) : MetG P w K mg base CX0 7 "Session" "_prepare" 3 [] (sp0 K mg 3 m_Session__prepare) :=
  mt0n T.m_Session__prepare sc_Session__prepare (by decide) rfl rfl fun f cdv A outer s H E qt hr =>
  (dss_cons (ds_if (dt_din (hu1 hr) (dv 1) (de_fld (fk1 T.f__prepared_Session) (dv 0)))
    (dss_one (ds_ret (de_tup (da_cons de_str (da_cons de_str da_nil))))) dss_nil)
  (dss_cons (ds_if (dt_cmp op_ge opa_cmp (nomark _) (de_callB call_lenD leaf_lenD (by rfl) T.n_len PySem.boot_len (da_cons (de_fld (fk1 T.f__prepared_Session) (dv 0)) da_nil)) (de_glob T.c_MOST_STATEMENTS (by rfl)))
    (dss_one (ds_ret (de_tup (da_cons de_str (da_cons de_str da_nil))))) dss_nil)
  (dss_cons (ds_try (dss_one (ds_set (i := 3) sc_Session__prepare.nd rfl (.inl rfl) (de_call (ok_parse_statement T) qt hr (by decide) (by rfl) rfl (da_cons (dv 2) da_nil)))))
  (dss_cons (ds_dput (hu1 hr) (de_fld (fk1 T.f__prepared_Session) (dv 0)) (dv 1) (dv 3))
  (dss_one (ds_ret (de_tup (da_cons de_str (da_cons (de_call (ok_parameters T) qt hr (by decide) (by rfl) rfl (da_cons (dv 3) da_nil)) da_nil)))))))))
theorem ok_Portal___init___0 (T : Txt w K mg) : IniG P w K mg base CX0 1 "Portal" 2 [] (sp0 K mg 2 m_Portal___init__) :=
  in0n T.i_Portal___init___0 sc_Portal___init__ (by decide) rfl rfl fun f cdv A outer s H E qt hr =>
  (dss_cons (ds_setFld (fk1 T.f_parts_Portal) (dv 0) (dv 1))
  (dss_cons (ds_setFld (fk1 T.f_rows_Portal) (dv 0) de_non)
  (dss_one (ds_setFld (fk1 T.f_ended_Portal) (dv 0) de_bl))))
theorem ok_fill_part (T : Txt w K mg) : PrG P w K mg base CX0 2 "fill_part" ["part", "values"] (sp0 K mg 2 m_fill_part) :=
  fn0n T.d_fill_part sc_fill_part (by decide) rfl rfl fun f cdv A outer s H E qt hr =>
  (dss_cons (ds_if (dt_not (dt_val (de_isi (ty := .tuple) (by rfl) T.n_isinstance (pe_bltn (v := .ty "tuple") (by rfl) T.n_tuple boot_tuple rfl) (by decide) (dv 0))))
    (dss_one (ds_ret (dv 0))) dss_nil)
  (dss_cons (ds_if (dt_val (de_call (ok_is_parameter T) qt hr (by decide) (by rfl) rfl (da_cons (dv 0) da_nil)))
    (dss_one (ds_ret (de_ix (dv 1) (de_op op_sub opa_sub (de_ix (dv 0) de_int (fun _ _ => rfl)) de_int) (fun _ _ => rfl)))) dss_nil)
  (dss_one (ds_ret (de_ix (dv 0) de_int (fun _ _ => rfl))))))
theorem ok_fill_parts (T : Txt w K mg) : PrG P w K mg base CX0 3 "fill_parts" ["parts", "values"] (sp0 K mg 2 m_fill_parts) :=
  fn0n T.d_fill_parts sc_fill_parts (by decide) rfl rfl fun f cdv A outer s H E qt hr =>
  (dss_one (ds_ret (de_callTy call_tuple_of leaf_tup (by rfl) T.n_tuple boot_tuple (da_cons (de_lcO (own := [("part", 2)]) rfl sc_fill_parts.nd (dv 0) (blkOk_by (N := ["parts", "values", "part"]) (sc := defScope s_fill_parts) (by decide +kernel))
        (fun _ _ _ _ _ => dg_name (i := 2) sc_fill_parts.nd rfl (by first | exact .inl rfl | exact .inr rfl)) (fun _ _ _ _ _ => dts_nil)
        (fun _ _ _ _ _ => (de_call (ok_fill_part T) qt hr (by decide) (by rfl) rfl (da_cons (dv 2) (da_cons (dv 1) da_nil))))) da_nil))))
theorem ok_Session__bind (T : Txt w K mg) : MetG P w K mg base CX0 4 "Session" "_bind" 4 [] (sp0 K mg 4 m_Session__bind) :=
  mt0n T.m_Session__bind sc_Session__bind (by decide) rfl rfl fun f cdv A outer s H E qt hr =>
  (dss_cons (ds_if (dt_din (hu1 hr) (dv 1) (de_fld (fk1 T.f__portals_Session) (dv 0)))
    (dss_one (ds_ret (de_tup (da_cons de_str (da_cons de_str da_nil))))) dss_nil)
  (dss_cons (ds_if (dt_cmp op_ge opa_cmp (nomark _) (de_callB call_lenD leaf_lenD (by rfl) T.n_len PySem.boot_len (da_cons (de_fld (fk1 T.f__portals_Session) (dv 0)) da_nil)) (de_glob T.c_MOST_PORTALS (by rfl)))
    (dss_one (ds_ret (de_tup (da_cons de_str (da_cons de_str da_nil))))) dss_nil)
  (dss_cons (ds_if (dt_dnotin (hu1 hr) (dv 2) (de_fld (fk1 T.f__prepared_Session) (dv 0)))
    (dss_one (ds_ret (de_tup (da_cons de_str (da_cons de_str da_nil))))) dss_nil)
  (dss_cons (ds_set (i := 4) sc_Session__bind.nd rfl (.inl rfl) (de_dget (hu1 hr) (de_fld (fk1 T.f__prepared_Session) (dv 0)) (dv 2) (fun _ _ => rfl)))
  (dss_cons (ds_if (dt_cmp op_ne opa_ne (nomark _) (de_callB call_lenA leaf_len (by rfl) T.n_len PySem.boot_len (da_cons (dv 3) da_nil)) (de_call (ok_parameters T) qt hr (by decide) (by rfl) rfl (da_cons (dv 4) da_nil)))
    (dss_one (ds_ret (de_tup (da_cons de_str (da_cons de_str da_nil))))) dss_nil)
  (dss_cons (ds_dput (hu1 hr) (de_fld (fk1 T.f__portals_Session) (dv 0)) (dv 1) (de_new (ok_Portal___init___0 T) qt hr (by decide) (by rfl) rfl (da_cons (de_call (ok_fill_parts T) qt hr (by decide) (by rfl) rfl (da_cons (dv 4) (da_cons (dv 3) da_nil))) da_nil)))
  (dss_one (ds_ret (de_tup (da_cons de_str da_nil))))))))))
theorem ok_Session__forget (T : Txt w K mg) : MetG P w K mg base CX0 1 "Session" "_forget" 2 [] (sp0 K mg 2 m_Session__forget) :=
  mt0n T.m_Session__forget sc_Session__forget (by decide) rfl rfl fun f cdv A outer s H E qt hr =>
  (dss_cons (ds_expr (de_dpop (de_fld (fk1 T.f__prepared_Session) (dv 0)) (dv 1) de_non ⟨rfl, rfl, rfl, rfl⟩))
  (dss_one (ds_ret (de_tup (da_cons de_str da_nil)))))
theorem ok_Session__close (T : Txt w K mg) : MetG P w K mg base CX0 1 "Session" "_close" 2 [] (sp0 K mg 2 m_Session__close) :=
  mt0n T.m_Session__close sc_Session__close (by decide) rfl rfl fun f cdv A outer s H E qt hr =>
  (dss_cons (ds_expr (de_dpop (de_fld (fk1 T.f__portals_Session) (dv 0)) (dv 1) de_non ⟨rfl, rfl, rfl, rfl⟩))
  (dss_one (ds_ret (de_tup (da_cons de_str da_nil)))))
theorem ok_rows_of (T : Txt w K mg) : PrG P w K mg base CX0 1 "rows_of" ["store", "name"] (sp0 K mg 2 m_rows_of) :=
  fn0n T.d_rows_of sc_rows_of (by decide) rfl rfl fun f cdv A outer s H E qt hr =>
  (dss_cons (ds_forO PassesOwn.never rfl (dv 0) (dg_seq rfl (dgs_cons (dg_name (i := 2) sc_rows_of.nd rfl (by first | exact .inl rfl | exact .inr rfl)) (dgs_cons (dg_name (i := 3) sc_rows_of.nd rfl (by first | exact .inl rfl | exact .inr rfl)) dgs_nil)))
    (dss_one (ds_if (dt_cmp op_eq opa_eq (nomark _) (dv 2) (dv 1))
      (dss_one (ds_ret (dv 3))) dss_nil)))
  (dss_one (ds_ret de_non)))
theorem ok_create_table (T : Txt w K mg) : PrG P w K mg base CX0 2 "create_table" ["store", "name"] (sp0 K mg 2 m_create_table) :=
  fn0n T.d_create_table sc_create_table (by decide) rfl rfl fun f cdv A outer s H E qt hr =>
  (dss_cons (ds_if (dt_cmp op_notN opa_notN (nomark _) (de_call (ok_rows_of T) qt hr (by decide) (by rfl) rfl (da_cons (dv 0) (da_cons (dv 1) da_nil))) de_non)
    (dss_one (ds_ret (de_tup (da_cons (dv 0) (da_cons (de_tup (da_cons de_str (da_cons de_str da_nil))) da_nil))))) dss_nil)
  (dss_cons (ds_if (dt_cmp op_ge opa_cmp (nomark _) (de_callB call_lenA leaf_len (by rfl) T.n_len PySem.boot_len (da_cons (dv 0) da_nil)) (de_glob T.c_MOST_TABLES (by rfl)))
    (dss_one (ds_ret (de_tup (da_cons (dv 0) (da_cons (de_tup (da_cons de_str (da_cons de_str da_nil))) da_nil))))) dss_nil)
  (dss_one (ds_ret (de_tup (da_cons (de_tupA (da_star (dv 0) (da_consA (de_tup (da_cons (dv 1) (da_cons (de_tup da_nil) da_nil))) da_nilA))) (da_cons (de_tup (da_cons de_str (da_cons de_int da_nil))) da_nil)))))))
theorem ok_rows_without (T : Txt w K mg) : PrG P w K mg base CX0 2 "rows_without" ["store", "name", "key"] (sp0 K mg 3 m_rows_without) :=
  fn0n T.d_rows_without sc_rows_without (by decide) rfl rfl fun f cdv A outer s H E qt hr =>
  (dss_one (ds_ret (de_callTy call_tuple_of leaf_tup (by rfl) T.n_tuple boot_tuple (da_cons (de_lcO (own := [("row", 3)]) rfl sc_rows_without.nd (de_call (ok_rows_of T) qt hr (by decide) (by rfl) rfl (da_cons (dv 0) (da_cons (dv 1) da_nil))) (blkOk_by (N := ["store", "name", "key", "row"]) (sc := defScope s_rows_without) (by decide +kernel))
        (fun _ _ _ _ _ => dg_name (i := 3) sc_rows_without.nd rfl (by first | exact .inl rfl | exact .inr rfl)) (fun _ _ _ _ _ => dts_one (dt_cmp op_ne opa_ne (nomark _) (de_ix (dv 3) de_int (fun _ _ => rfl)) (dv 2)))
        (fun _ _ _ _ _ => (dv 3))) da_nil))))
theorem ok_with_rows (T : Txt w K mg) : PrG P w K mg base CX0 1 "with_rows" ["store", "name", "rows"] (sp0 K mg 3 m_with_rows) :=
  fn0n T.d_with_rows sc_with_rows (by decide) rfl rfl fun f cdv A outer s H E qt hr =>
  (dss_one (ds_ret (de_callTy call_tuple_of leaf_tup (by rfl) T.n_tuple boot_tuple (da_cons (de_lcO (own := [("other", 3), ("old", 4)]) rfl sc_with_rows.nd (dv 0) (blkOk_by (N := ["store", "name", "rows", "other", "old"]) (sc := defScope s_with_rows) (by decide +kernel))
        (fun _ _ _ _ _ => dg_seq rfl (dgs_cons (dg_name (i := 3) sc_with_rows.nd rfl (by first | exact .inl rfl | exact .inr rfl)) (dgs_cons (dg_name (i := 4) sc_with_rows.nd rfl (by first | exact .inl rfl | exact .inr rfl)) dgs_nil))) (fun _ _ _ _ _ => dts_nil)
        (fun _ _ _ _ _ => (de_tup (da_cons (dv 3) (da_cons (de_ifE (dt_cmp op_eq opa_eq (nomark _) (dv 3) (dv 1)) (dv 2) (dv 4)) da_nil))))) da_nil))))
theorem ok_put_row (T : Txt w K mg) : PrG P w K mg base CX0 6 "put_row" ["store", "name", "key", "entry"] (sp0 K mg 4 m_put_row) :=
  fn0n T.d_put_row sc_put_row (by decide) rfl rfl fun f cdv A outer s H E qt hr =>
  (dss_cons (ds_set (i := 4) sc_put_row.nd rfl (.inl rfl) (de_lstA (da_star (de_call (ok_rows_without T) qt hr (by decide) (by rfl) rfl (da_cons (dv 0) (da_cons (dv 1) (da_cons (dv 2) da_nil)))) (da_consA (de_tup (da_cons (dv 2) (da_cons (dv 3) da_nil))) da_nilA))))
  (dss_cons (ds_if (dt_cmp op_gt opa_cmp (nomark _) (de_callB call_lenA leaf_len (by rfl) T.n_len PySem.boot_len (da_cons (dv 4) da_nil)) (de_glob T.c_MOST_ROWS (by rfl)))
    (dss_one (ds_ret (de_tup (da_cons (dv 0) (da_cons (de_tup (da_cons de_str (da_cons de_str da_nil))) da_nil))))) dss_nil)
  (dss_one (ds_ret (de_tup (da_cons (de_call (ok_with_rows T) qt hr (by decide) (by rfl) rfl (da_cons (dv 0) (da_cons (dv 1) (da_cons (de_call (ok_in_order T) qt hr (by decide) (by rfl) rfl (da_cons (dv 4) da_nil)) da_nil)))) (da_cons (de_tup (da_cons de_str (da_cons de_int da_nil))) da_nil)))))))
theorem fm_ACTIONS_ok (T : Txt w K mg) : ∀ q ∈ fm_ACTIONS, ∃ k, k ≤ 6 ∧ CalG P w K mg base k q.1.1 q.1.2 q.2.1 q.2.2 := by
  intro q h
  unfold fm_ACTIONS at h
  rcases List.mem_cons.mp h with h | h
  · subst h; exact ⟨6, by decide, CalG.of (ok_put_row T) rfl⟩
  cases h
theorem ok_run_on_store (T : Txt w K mg) : PrG P w K mg base CX0 7 "run_on_store" ["store", "parts"] (sp0 K mg 2 m_run_on_store) :=
  fn0n T.d_run_on_store sc_run_on_store (by decide) rfl rfl fun f cdv A outer s H E qt hr =>
  (dss_cons (ds_unp2 (i := 2) (j := 3) (k := 4) rfl sc_run_on_store.nd rfl (.inl rfl) rfl (.inl rfl) rfl (.inl rfl) (dv 1))
  (dss_cons (ds_if (dt_cmp op_eq opa_eq (nomark _) (dv 2) de_str)
    (dss_one (ds_ret (de_call (ok_create_table T) qt hr (by decide) (by rfl) rfl (da_cons (dv 0) (da_cons (dv 3) da_nil))))) dss_nil)
  (dss_cons (ds_if (dt_cmp op_isN opa_isN (nomark _) (de_call (ok_rows_of T) qt hr (by decide) (by rfl) rfl (da_cons (dv 0) (da_cons (dv 3) da_nil))) de_non)
    (dss_one (ds_ret (de_tup (da_cons (dv 0) (da_cons (de_tup (da_cons de_str (da_cons de_str da_nil))) da_nil))))) dss_nil)
  (dss_cons (ds_set (i := 5) sc_run_on_store.nd rfl (.inl rfl) (de_fd T.t_ACTIONS (by rfl) (dv 2) (fun _ _ => rfl)))
  (dss_one (ds_ret (de_callFS (i := 5) rfl (by first | exact .inl rfl | exact .inr (.inl rfl) | exact .inr (.inr rfl)) qt hr (fm_ACTIONS_ok T) (da_consA (dv 0) (da_consA (dv 3) (da_star (dv 4) da_nilA))))))))))
theorem ok_Session__begin (T : Txt w K mg) : MetG P w K mg base CX0 1 "Session" "_begin" 1 [] (sp0 K mg 1 m_Session__begin) :=
  mt0n T.m_Session__begin sc_Session__begin (by decide) rfl rfl fun f cdv A outer s H E qt hr =>
  (dss_cons (ds_if (dt_cmp op_ne opa_ne (nomark _) (de_fld (fk1 T.f__state_Session) (dv 0)) de_str)
    (dss_one (ds_ret (de_tup (da_cons de_str (da_cons de_str da_nil))))) dss_nil)
  (dss_cons (ds_setFld (fk1 T.f__state_Session) (dv 0) de_str)
  (dss_one (ds_ret (de_tup (da_cons de_str (da_cons de_int da_nil)))))))
theorem ok_Session__end_transaction (T : Txt w K mg) : MetG P w K mg base CX0 1 "Session" "_end_transaction" 1 [] (sp0 K mg 1 m_Session__end_transaction) :=
  mt0n T.m_Session__end_transaction sc_Session__end_transaction (by decide) rfl rfl fun f cdv A outer s H E qt hr =>
  (dss_cons (ds_setFld (fk1 T.f__state_Session) (dv 0) de_str)
  (dss_cons (ds_setFld (fk1 T.f__savepoints_Session) (dv 0) (de_lst da_nil))
  (dss_one (ds_setFld (fk1 T.f__portals_Session) (dv 0) de_dnew))))
theorem ok_Session__commit (T : Txt w K mg) : MetG P w K mg base CX0 2 "Session" "_commit" 1 [] (sp0 K mg 1 m_Session__commit) :=
  mt0n T.m_Session__commit sc_Session__commit (by decide) rfl rfl fun f cdv A outer s H E qt hr =>
  (dss_cons (ds_if (dt_cmp op_eq opa_eq (nomark _) (de_fld (fk1 T.f__state_Session) (dv 0)) de_str)
    (dss_one (ds_ret (de_tup (da_cons de_str (da_cons de_str da_nil))))) dss_nil)
  (dss_cons (ds_if (dt_cmp op_eq opa_eq (nomark _) (de_fld (fk1 T.f__state_Session) (dv 0)) de_str)
    (dss_cons (ds_setFld (fk1 T.f__store_Session) (dv 0) (de_fld (fk1 T.f__base_Session) (dv 0)))
    (dss_cons (ds_expr (de_meth0 (ok_Session__end_transaction T) qt hr (by decide) rfl (dv 0)))
    (dss_one (ds_ret (de_tup (da_cons de_str (da_cons de_str da_nil))))))) dss_nil)
  (dss_cons (ds_setFld (fk1 T.f__base_Session) (dv 0) (de_fld (fk1 T.f__store_Session) (dv 0)))
  (dss_cons (ds_expr (de_meth0 (ok_Session__end_transaction T) qt hr (by decide) rfl (dv 0)))
  (dss_one (ds_ret (de_tup (da_cons de_str (da_cons de_int da_nil)))))))))
theorem ok_Session__roll_back (T : Txt w K mg) : MetG P w K mg base CX0 2 "Session" "_roll_back" 1 [] (sp0 K mg 1 m_Session__roll_back) :=
  mt0n T.m_Session__roll_back sc_Session__roll_back (by decide) rfl rfl fun f cdv A outer s H E qt hr =>
  (dss_cons (ds_if (dt_cmp op_eq opa_eq (nomark _) (de_fld (fk1 T.f__state_Session) (dv 0)) de_str)
    (dss_one (ds_ret (de_tup (da_cons de_str (da_cons de_str da_nil))))) dss_nil)
  (dss_cons (ds_setFld (fk1 T.f__store_Session) (dv 0) (de_fld (fk1 T.f__base_Session) (dv 0)))
  (dss_cons (ds_expr (de_meth0 (ok_Session__end_transaction T) qt hr (by decide) rfl (dv 0)))
  (dss_one (ds_ret (de_tup (da_cons de_str (da_cons de_int da_nil))))))))
theorem ok_Session__save (T : Txt w K mg) : MetG P w K mg base CX0 1 "Session" "_save" 2 [] (sp0 K mg 2 m_Session__save) :=
  mt0n T.m_Session__save sc_Session__save (by decide) rfl rfl fun f cdv A outer s H E qt hr =>
  (dss_cons (ds_if (dt_cmp op_eq opa_eq (nomark _) (de_fld (fk1 T.f__state_Session) (dv 0)) de_str)
    (dss_one (ds_ret (de_tup (da_cons de_str (da_cons de_str da_nil))))) dss_nil)
  (dss_cons (ds_if (dt_cmp op_ge opa_cmp (nomark _) (de_callB call_lenA leaf_len (by rfl) T.n_len PySem.boot_len (da_cons (de_fld (fk1 T.f__savepoints_Session) (dv 0)) da_nil)) (de_glob T.c_MOST_SAVEPOINTS (by rfl)))
    (dss_one (ds_ret (de_tup (da_cons de_str (da_cons de_str da_nil))))) dss_nil)
  (dss_cons (ds_expr (de_append (de_fld (fk1 T.f__savepoints_Session) (dv 0)) (de_tup (da_cons (dv 1) (da_cons (de_fld (fk1 T.f__store_Session) (dv 0)) da_nil)))))
  (dss_one (ds_ret (de_tup (da_cons de_str (da_cons de_int da_nil))))))))
theorem ok_Session__undo (T : Txt w K mg) : MetG P w K mg base CX0 1 "Session" "_undo" 2 [] (sp0 K mg 2 m_Session__undo) :=
  mt0n T.m_Session__undo sc_Session__undo (by decide) rfl rfl fun f cdv A outer s H E qt hr =>
  (dss_cons (ds_if (dt_cmp op_eq opa_eq (nomark _) (de_fld (fk1 T.f__state_Session) (dv 0)) de_str)
    (dss_one (ds_ret (de_tup (da_cons de_str (da_cons de_str da_nil))))) dss_nil)
  (dss_cons (ds_set (i := 2) sc_Session__undo.nd rfl (.inl rfl) (de_op op_sub opa_sub (de_callB call_lenA leaf_len (by rfl) T.n_len PySem.boot_len (da_cons (de_fld (fk1 T.f__savepoints_Session) (dv 0)) da_nil)) de_int))
  (dss_cons (ds_while PassesOwn.never (DW.dt (dw_and (dt_cmp op_ge opa_cmp (nomark _) (dv 2) de_int) (dw_and1 (dt_cmp op_ne opa_ne (nomark _) (de_ix (de_ix (de_fld (fk1 T.f__savepoints_Session) (dv 0)) (dv 2) (fun _ _ => rfl)) de_int (fun _ _ => rfl)) (dv 1)))))
    (dss_one (ds_augI (i := 2) ip_sub sc_Session__undo.nd rfl (.inl rfl) de_int)))
  (dss_cons (ds_if (dt_cmp op_lt opa_cmp (nomark _) (dv 2) de_int)
    (dss_one (ds_ret (de_tup (da_cons de_str (da_cons de_str da_nil))))) dss_nil)
  (dss_cons (ds_setFld (fk1 T.f__savepoints_Session) (dv 0) (de_slice (de_fld (fk1 T.f__savepoints_Session) (dv 0)) do_none (do_some (de_op op_addA opa_add (dv 2) de_int))))
  (dss_cons (ds_setFld (fk1 T.f__store_Session) (dv 0) (de_ix (de_ix (de_fld (fk1 T.f__savepoints_Session) (dv 0)) (dv 2) (fun _ _ => rfl)) de_int (fun _ _ => rfl)))
  (dss_cons (ds_setFld (fk1 T.f__state_Session) (dv 0) de_str)
  (dss_one (ds_ret (de_tup (da_cons de_str (da_cons de_int da_nil))))))))))))
theorem ok_Session__run_statement (T : Txt w K mg) : MetG P w K mg base CX0 8 "Session" "_run_statement" 2 [] (sp0 K mg 2 m_Session__run_statement) :=
  mt0n T.m_Session__run_statement sc_Session__run_statement (by decide) rfl rfl fun f cdv A outer s H E qt hr =>
  (dss_cons (ds_match (dv 1)
    (dmc_cons rfl (dpat_word dpat_nil) .nil (dss_one (ds_ret (de_meth0 (ok_Session__begin T) qt hr (by decide) rfl (dv 0))))
    (dmc_cons rfl (dpat_word dpat_nil) .nil (dss_one (ds_ret (de_meth0 (ok_Session__commit T) qt hr (by decide) rfl (dv 0))))
    (dmc_cons rfl (dpat_word dpat_nil) .nil (dss_one (ds_ret (de_meth0 (ok_Session__roll_back T) qt hr (by decide) rfl (dv 0))))
    (dmc_cons rfl (dpat_word (dpat_cap dpat_nil)) (.cons (i := 2) sc_Session__run_statement.nd rfl (.inl rfl) (.inl rfl) .nil) (dss_one (ds_ret (de_meth (ok_Session__save T) qt hr (by decide) rfl (dv 0) (da_cons (dv 2) da_nil))))
    (dmc_cons rfl (dpat_word (dpat_cap dpat_nil)) (.cons (i := 2) sc_Session__run_statement.nd rfl (.inl rfl) (.inl rfl) .nil) (dss_one (ds_ret (de_meth (ok_Session__undo T) qt hr (by decide) rfl (dv 0) (da_cons (dv 2) da_nil))))
    dmc_nil))))))
  (dss_cons (ds_fldTup (j := 3) (fk1 T.f__store_Session) rfl sc_Session__run_statement.nd rfl (.inl rfl) (dv 0) (de_call (ok_run_on_store T) qt hr (by decide) (by rfl) rfl (da_cons (de_fld (fk1 T.f__store_Session) (dv 0)) (da_cons (dv 1) da_nil))))
  (dss_one (ds_ret (dv 3)))))
theorem ok_Session__run (T : Txt w K mg) : MetG P w K mg base CX0 9 "Session" "_run" 3 [] (sp0 K mg 3 m_Session__run) :=
  mt0n T.m_Session__run sc_Session__run (by decide) rfl rfl fun f cdv A outer s H E qt hr =>
  (dss_cons (ds_if (dt_dnotin (hu1 hr) (dv 1) (de_fld (fk1 T.f__portals_Session) (dv 0)))
    (dss_one (ds_retS (de_tup (da_cons de_str (da_cons de_str da_nil))))) dss_nil)
  (dss_cons (ds_set (i := 3) sc_Session__run.nd rfl (.inl rfl) (de_dget (hu1 hr) (de_fld (fk1 T.f__portals_Session) (dv 0)) (dv 1) (fun _ _ => rfl)))
  (dss_cons (ds_if (DW.dt (dw_and (dt_cmp op_eq opa_eq (nomark _) (de_fld (fk1 T.f__state_Session) (dv 0)) de_str) (dw_and1 (dt_cmp op_notIn_seq opa_notIn (by rfl) (de_ix (de_fld (fk1 T.f_parts_Portal) (dv 3)) de_int (fun _ _ => rfl)) (de_glob T.c_ENDINGS (by rfl))))))
    (dss_one (ds_retS (de_tup (da_cons de_str (da_cons de_str da_nil))))) dss_nil)
  (dss_cons (ds_if (dt_val (de_fld (fk1 T.f_ended_Portal) (dv 3)))
    (dss_one (ds_retS (de_tup (da_cons de_str (da_cons de_str da_nil))))) dss_nil)
  (dss_cons (ds_if (dt_cmp op_notN opa_notN (nomark _) (de_fld (fk1 T.f_rows_Portal) (dv 3)) de_non)
    (dss_one ds_dead) dss_nil)
  (dss_cons (ds_set (i := 4) sc_Session__run.nd rfl (.inl rfl) (de_hold 3 (de_meth (ok_Session__run_statement T) qt hr (by decide) rfl (dv 0) (da_cons (de_fld (fk1 T.f_parts_Portal) (dv 3)) da_nil))))
  (dss_cons (ds_if (dt_cmp op_eq opa_eq (nomark _) (de_ix (dv 4) de_int (fun _ _ => rfl)) de_str)
    (dss_cons (ds_setFld (fk1 T.f_rows_Portal) (dv 3) (de_ix (dv 4) de_int (fun _ _ => rfl)))
    (dss_one ds_dead)) dss_nil)
  (dss_cons (ds_setFld (fk1 T.f_ended_Portal) (dv 3) (de_cmp op_eq opa_eq (nomark _) (de_ix (dv 4) de_int (fun _ _ => rfl)) de_str))
  (dss_one (ds_retS (dv 4)))))))))))
theorem ok_Session__run_command (T : Txt w K mg) : MetG P w K mg base CX0 10 "Session" "_run_command" 2 [] (sp0 K mg 2 m_Session__run_command) :=
  mt0n T.m_Session__run_command sc_Session__run_command (by decide) rfl rfl fun f cdv A outer s H E qt hr =>
  (dss_one (ds_match (dv 1)
    (dmc_cons rfl (dpat_word (dpat_cap (dpat_cap dpat_nil))) (.cons (i := 2) sc_Session__run_command.nd rfl (.inl rfl) (.inl rfl) (.cons (i := 3) sc_Session__run_command.nd rfl (.inl rfl) (.inl rfl) .nil)) (dss_one (ds_ret (de_meth (ok_Session__prepare T) qt hr (by decide) rfl (dv 0) (da_cons (dv 2) (da_cons (dv 3) da_nil)))))
    (dmc_cons rfl (dpat_word (dpat_cap (dpat_cap (dpat_cap dpat_nil)))) (.cons (i := 4) sc_Session__run_command.nd rfl (.inl rfl) (.inl rfl) (.cons (i := 2) sc_Session__run_command.nd rfl (.inl rfl) (.inl rfl) (.cons (i := 5) sc_Session__run_command.nd rfl (.inl rfl) (.inl rfl) .nil))) (dss_one (ds_ret (de_meth (ok_Session__bind T) qt hr (by decide) rfl (dv 0) (da_cons (dv 4) (da_cons (dv 2) (da_cons (dv 5) da_nil))))))
    (dmc_cons rfl (dpat_word (dpat_cap (dpat_cap dpat_nil))) (.cons (i := 4) sc_Session__run_command.nd rfl (.inl rfl) (.inl rfl) (.cons (i := 6) sc_Session__run_command.nd rfl (.inl rfl) (.inl rfl) .nil)) (dss_one (ds_ret (de_meth (ok_Session__run T) qt hr (by decide) rfl (dv 0) (da_cons (dv 4) (da_cons (dv 6) da_nil)))))
    (dmc_cons rfl (dpat_word (dpat_cap dpat_nil)) (.cons (i := 2) sc_Session__run_command.nd rfl (.inl rfl) (.inl rfl) .nil) (dss_one (ds_ret (de_meth (ok_Session__forget T) qt hr (by decide) rfl (dv 0) (da_cons (dv 2) da_nil))))
    (dmc_cons rfl (dpat_word (dpat_cap dpat_nil)) (.cons (i := 4) sc_Session__run_command.nd rfl (.inl rfl) (.inl rfl) .nil) (dss_one (ds_ret (de_meth (ok_Session__close T) qt hr (by decide) rfl (dv 0) (da_cons (dv 4) da_nil))))
    dmc_nil)))))))
theorem ok_Session_run_batch (T : Txt w K mg) : MetG P w K mg base CX0 11 "Session" "run_batch" 2 [] (sp0 K mg 2 m_Session_run_batch) :=
  mt0n T.m_Session_run_batch sc_Session_run_batch (by decide) rfl rfl fun f cdv A outer s H E qt hr =>
  (dss_cons (ds_set (i := 2) sc_Session_run_batch.nd rfl (.inl rfl) (de_lst da_nil))
  (dss_cons (ds_set (i := 3) sc_Session_run_batch.nd rfl (.inl rfl) de_bl)
  (dss_cons (ds_forO PassesOwn.never rfl (dv 1) (dg_name (i := 4) sc_Session_run_batch.nd rfl (by first | exact .inl rfl | exact .inr rfl))
    (dss_one (ds_if (dt_val (dv 3))
      (dss_one (ds_expr (de_append (dv 2) (de_tup (da_cons de_str da_nil)))))
      (dss_cons (ds_set (i := 5) sc_Session_run_batch.nd rfl (.inl rfl) (de_meth (ok_Session__run_command T) qt hr (by decide) rfl (dv 0) (da_cons (dv 4) da_nil)))
      (dss_cons (ds_expr (de_append (dv 2) (dv 5)))
      (dss_one (ds_set (i := 3) sc_Session_run_batch.nd rfl (.inl rfl) (de_cmp op_eq opa_eq (nomark _) (de_ix (dv 5) de_int (fun _ _ => rfl)) de_str))))))))
  (dss_cons (ds_if (dt_val (dv 3))
    (dss_one (ds_expr (de_meth0 (ok_Session__go_back T) qt hr (by decide) rfl (dv 0)))) dss_nil)
  (dss_cons (ds_if (dt_cmp op_eq opa_eq (nomark _) (de_fld (fk1 T.f__state_Session) (dv 0)) de_str)
    (dss_cons (ds_setFld (fk1 T.f__base_Session) (dv 0) (de_fld (fk1 T.f__store_Session) (dv 0)))
    (dss_one (ds_setFld (fk1 T.f__portals_Session) (dv 0) de_dnew))) dss_nil)
  (dss_one (ds_ret (de_tup (da_cons (de_fld (fk1 T.f__state_Session) (dv 0)) (da_cons (dv 2) da_nil))))))))))
theorem ok_law_did (T : Txt w K mg) : PrG P w K mg base CX0 12 "_law_did" ["session", "string", "values"] (sp0 K mg 3 m_law_did) :=
  fn0n T.d_law_did sc_law_did (by decide) rfl rfl fun f cdv A outer s H E qt hr =>
  (dss_cons (ds_set (i := 3) sc_law_did.nd rfl (.inl rfl) (de_lst (da_cons (de_tup (da_cons de_str (da_cons de_str da_nil))) (da_cons (de_tup (da_cons de_str (da_cons de_str da_nil))) (da_cons (de_tup (da_cons de_str (da_cons de_str (da_cons (dv 1) da_nil)))) (da_cons (de_tup (da_cons de_str (da_cons de_str (da_cons de_str (da_cons (dv 2) da_nil))))) (da_cons (de_tup (da_cons de_str (da_cons de_str (da_cons de_int da_nil)))) da_nil)))))))
  (dss_one (ds_ret (de_ix (de_ix (de_meth (ok_Session_run_batch T) qt hr (by decide) rfl (dv 0) (da_cons (dv 3) da_nil)) de_int (fun _ _ => rfl)) de_int (fun _ _ => rfl)))))
theorem ok_law_tables_hold (T : Txt w K mg) : PrG P w K mg base CX0 13 "_law_tables_hold" ["count"] (sp0 K mg 1 m_law_tables_hold) :=
  fn0n T.d_law_tables_hold sc_law_tables_hold (by decide) rfl rfl fun f cdv A outer s H E qt hr =>
  (dss_cons (ds_set (i := 1) sc_law_tables_hold.nd rfl (.inl rfl) (de_new0 (ok_Session___init___1 T) qt hr (by decide) (by rfl) rfl))
  (dss_cons (ds_for PassesOwn.never rfl (di_rng1 (by rfl) T.n_range (dv 0)) (dg_name (i := 2) sc_law_tables_hold.nd rfl (by first | exact .inl rfl | exact .inr rfl))
    (dss_cons (ds_set (i := 3) sc_law_tables_hold.nd rfl (.inl rfl) (de_tup (da_cons de_str (da_cons de_int da_nil))))
    (dss_cons (ds_if (dt_cmp op_ge opa_cmp (nomark _) (dv 2) de_int)
      (dss_one (ds_set (i := 3) sc_law_tables_hold.nd rfl (.inl rfl) (de_tup (da_cons de_str (da_cons de_str da_nil))))) dss_nil)
    (dss_one (ds_if (dt_cmp (op_neD (hu64 hr)) opa_neD (nomark _) (de_call (ok_law_did T) qt hr (by decide) (by rfl) rfl (da_cons (dv 1) (da_cons (de_op op_addA opa_add de_str (de_ixA de_str (dv 2) (fun _ _ => rfl))) (da_cons (de_tup da_nil) da_nil)))) (dv 3))
      (dss_one (ds_ret de_bl)) dss_nil)))))
  (dss_cons (ds_if (DW.dt (dw_and (dt_cmp op_gt opa_cmp (nomark _) (dv 0) de_int) (dw_and1 (dt_cmp (op_neD (hu64 hr)) opa_neD (nomark _) (de_call (ok_law_did T) qt hr (by decide) (by rfl) rfl (da_cons (dv 1) (da_cons de_str (da_cons (de_tup da_nil) da_nil)))) (de_tup (da_cons de_str (da_cons de_str da_nil)))))))
    (dss_one (ds_ret de_bl)) dss_nil)
  (dss_one (ds_ret (de_cmp (op_eqD (hu64 hr)) opa_eqD (nomark _) (de_lcO (own := [("table", 4)]) rfl sc_law_tables_hold.nd (de_meth0 (ok_Session_tables T) qt hr (by decide) rfl (dv 1)) (blkOk_by (N := ["count", "session", "k", "due", "table"]) (sc := defScope s_law_tables_hold) (by decide +kernel))
        (fun _ _ _ _ _ => dg_name (i := 4) sc_law_tables_hold.nd rfl (by first | exact .inl rfl | exact .inr rfl)) (fun _ _ _ _ _ => dts_nil)
        (fun _ _ _ _ _ => (de_ix (dv 4) de_int (fun _ _ => rfl)))) (de_slice (de_lst (da_cons de_str (da_cons de_str (da_cons de_str (da_cons de_str da_nil))))) do_none (do_some (dv 0)))))))))
theorem ok_law_named_hold (T : Txt w K mg) : PrG P w K mg base CX0 12 "_law_named_hold" ["count"] (sp0 K mg 1 m_law_named_hold) :=
  fn0n T.d_law_named_hold sc_law_named_hold (by decide) rfl rfl fun f cdv A outer s H E qt hr =>
  (dss_cons (ds_set (i := 1) sc_law_named_hold.nd rfl (.inl rfl) (de_new0 (ok_Session___init___1 T) qt hr (by decide) (by rfl) rfl))
  (dss_cons (ds_for PassesOwn.never rfl (di_rng1 (by rfl) T.n_range (dv 0)) (dg_name (i := 2) sc_law_named_hold.nd rfl (by first | exact .inl rfl | exact .inr rfl))
    (dss_cons (ds_set (i := 3) sc_law_named_hold.nd rfl (.inl rfl) (de_ix (de_meth (ok_Session_run_batch T) qt hr (by decide) rfl (dv 1) (da_cons (de_lst (da_cons (de_tup (da_cons de_str (da_cons (de_op op_addA opa_add de_str (de_ixA de_str (dv 2) (fun _ _ => rfl))) (da_cons de_str da_nil)))) da_nil)) da_nil)) de_int (fun _ _ => rfl)))
    (dss_one (ds_if (dt_cmp (op_neD (hu64 hr)) opa_neD (nomark _) (dv 3) (de_ix (de_lst (da_cons (de_lst (da_cons (de_tup (da_cons de_str (da_cons de_int da_nil))) da_nil)) (da_cons (de_lst (da_cons (de_tup (da_cons de_str (da_cons de_str da_nil))) da_nil)) da_nil))) (de_callTy call_int1 leaf_int (by rfl) T.n_int boot_int (da_cons (de_cmp op_ge opa_cmp (nomark _) (dv 2) de_int) da_nil)) (fun _ _ => rfl)))
      (dss_one (ds_ret de_bl)) dss_nil))))
  (dss_cons (ds_if (DW.dt (dw_and (dt_cmp op_gt opa_cmp (nomark _) (dv 0) de_int) (dw_and1 (dt_cmp (op_neD (hu64 hr)) opa_neD (nomark _) (de_ix (de_meth (ok_Session_run_batch T) qt hr (by decide) rfl (dv 1) (da_cons (de_lst (da_cons (de_tup (da_cons de_str (da_cons de_str (da_cons de_str da_nil)))) da_nil)) da_nil)) de_int (fun _ _ => rfl)) (de_lst (da_cons (de_tup (da_cons de_str (da_cons de_str da_nil))) da_nil))))))
    (dss_one (ds_ret de_bl)) dss_nil)
  (dss_cons (ds_if (DW.dt (dw_and (dt_cmp op_gt opa_cmp (nomark _) (dv 0) de_int) (dw_and1 (dt_cmp (op_neD (hu64 hr)) opa_neD (nomark _) (de_ix (de_meth (ok_Session_run_batch T) qt hr (by decide) rfl (dv 1) (da_cons (de_lst (da_cons (de_tup (da_cons de_str (da_cons de_str (da_cons de_str da_nil)))) da_nil)) da_nil)) de_int (fun _ _ => rfl)) (de_lst (da_cons (de_tup (da_cons de_str (da_cons de_str da_nil))) da_nil))))))
    (dss_one (ds_ret de_bl)) dss_nil)
  (dss_cons (ds_set (i := 4) sc_law_named_hold.nd rfl (.inl rfl) (de_lst (da_cons (de_tup (da_cons de_str (da_cons de_str da_nil))) (da_cons (de_tup (da_cons de_str (da_cons de_str (da_cons de_str da_nil)))) da_nil))))
  (dss_cons (ds_set (i := 4) sc_law_named_hold.nd rfl (.inl rfl) (de_cat (dv 4) (de_lc (own := [("k", 2)]) rfl sc_law_named_hold.nd (di_rng1 (by rfl) T.n_range (dv 0)) (blkOk_by (N := ["count", "session", "k", "told", "commands", "replies", "due"]) (sc := defScope s_law_named_hold) (by decide +kernel))
        (fun _ _ _ _ _ => dg_name (i := 2) sc_law_named_hold.nd rfl (by first | exact .inl rfl | exact .inr rfl)) (fun _ _ _ _ _ => dts_nil)
        (fun _ _ _ _ _ => (de_tup (da_cons de_str (da_cons (de_op op_addA opa_add de_str (de_ixA de_str (dv 2) (fun _ _ => rfl))) (da_cons de_str (da_cons (de_tup (da_cons (dv 2) da_nil)) da_nil)))))))))
  (dss_cons (ds_set (i := 5) sc_law_named_hold.nd rfl (.inl rfl) (de_ix (de_meth (ok_Session_run_batch T) qt hr (by decide) rfl (dv 1) (da_cons (dv 4) da_nil)) de_int (fun _ _ => rfl)))
  (dss_cons (ds_set (i := 6) sc_law_named_hold.nd rfl (.inl rfl) (de_cat (de_lst (da_cons (de_tup (da_cons de_str da_nil)) (da_cons (de_tup (da_cons de_str (da_cons de_int da_nil))) da_nil))) (de_lc (own := [("k", 2)]) rfl sc_law_named_hold.nd (di_rng1 (by rfl) T.n_range (de_callB (call_min2 rfl) leaf_min2 (by rfl) T.n_min boot_min (da_cons (dv 0) (da_cons de_int da_nil)))) (blkOk_by (N := ["count", "session", "k", "told", "commands", "replies", "due"]) (sc := defScope s_law_named_hold) (by decide +kernel))
        (fun _ _ _ _ _ => dg_name (i := 2) sc_law_named_hold.nd rfl (by first | exact .inl rfl | exact .inr rfl)) (fun _ _ _ _ _ => dts_nil)
        (fun _ _ _ _ _ => (de_tup (da_cons de_str da_nil))))))
  (dss_cons (ds_if (dt_cmp op_gt opa_cmp (nomark _) (dv 0) de_int)
    (dss_one (ds_set (i := 6) sc_law_named_hold.nd rfl (.inl rfl) (de_cat (de_cat (dv 6) (de_lst (da_cons (de_tup (da_cons de_str (da_cons de_str da_nil))) da_nil))) (de_lc (own := [("k", 2)]) rfl sc_law_named_hold.nd (di_rng1 (by rfl) T.n_range (de_op op_sub opa_sub (dv 0) de_int)) (blkOk_by (N := ["count", "session", "k", "told", "commands", "replies", "due"]) (sc := defScope s_law_named_hold) (by decide +kernel))
        (fun _ _ _ _ _ => dg_name (i := 2) sc_law_named_hold.nd rfl (by first | exact .inl rfl | exact .inr rfl)) (fun _ _ _ _ _ => dts_nil)
        (fun _ _ _ _ _ => (de_tup (da_cons de_str da_nil))))))) dss_nil)
  (dss_one (ds_ret (de_cmp (op_eqD (hu64 hr)) opa_eqD (nomark _) (dv 5) (dv 6)))))))))))))
theorem ok_law_portals_hold (T : Txt w K mg) : PrG P w K mg base CX0 13 "_law_portals_hold" [] (sp0 K mg 0 m_law_portals_hold) :=
  fn0n T.d_law_portals_hold sc_law_portals_hold (by decide) rfl rfl fun f cdv A outer s H E qt hr =>
  (dss_cons (ds_set (i := 0) sc_law_portals_hold.nd rfl (.inl rfl) (de_new0 (ok_Session___init___1 T) qt hr (by decide) (by rfl) rfl))
  (dss_cons (ds_if (DW.dt (dw_or (dt_cmp (op_neD (hu64 hr)) opa_neD (nomark _) (de_call (ok_law_did T) qt hr (by decide) (by rfl) rfl (da_cons (dv 0) (da_cons de_str (da_cons (de_tup da_nil) da_nil)))) (de_tup (da_cons de_str (da_cons de_int da_nil)))) (dw_or1 (dt_cmp (op_neD (hu64 hr)) opa_neD (nomark _) (de_call (ok_law_did T) qt hr (by decide) (by rfl) rfl (da_cons (dv 0) (da_cons de_str (da_cons (de_tup da_nil) da_nil)))) (de_tup (da_cons de_str (da_cons de_int da_nil)))))))
    (dss_one (ds_ret de_bl)) dss_nil)
  (dss_cons (ds_set (i := 1) sc_law_portals_hold.nd rfl (.inl rfl) (de_lst (da_cons (de_tup (da_cons de_str (da_cons de_str da_nil))) (da_cons (de_tup (da_cons de_str (da_cons de_str (da_cons de_str da_nil)))) (da_cons (de_tup (da_cons de_str (da_cons de_str (da_cons de_str da_nil)))) da_nil)))))
  (dss_cons (ds_set (i := 1) sc_law_portals_hold.nd rfl (.inl rfl) (de_cat (de_cat (dv 1) (de_lc (own := [("k", 5)]) rfl sc_law_portals_hold.nd (di_rng1 (by rfl) T.n_range de_int) (blkOk_by (N := ["session", "commands", "command", "word", "told", "k"]) (sc := defScope s_law_portals_hold) (by decide +kernel))
        (fun _ _ _ _ _ => dg_name (i := 5) sc_law_portals_hold.nd rfl (by first | exact .inl rfl | exact .inr rfl)) (fun _ _ _ _ _ => dts_nil)
        (fun _ _ _ _ _ => (de_tup (da_cons de_str (da_cons (de_op op_addA opa_add de_str (de_ixA de_str (dv 5) (fun _ _ => rfl))) (da_cons de_str (da_cons (de_tup (da_cons (dv 5) da_nil)) da_nil)))))))) (de_lst (da_cons (de_tup (da_cons de_str (da_cons de_str (da_cons de_str (da_cons (de_tup da_nil) da_nil))))) da_nil))))
  (dss_cons (ds_if (dt_cmp (op_neD (hu64 hr)) opa_neD (nomark _) (de_ix (de_ix (de_meth (ok_Session_run_batch T) qt hr (by decide) rfl (dv 0) (da_cons (dv 1) da_nil)) de_int (fun _ _ => rfl)) (de_neg de_int) (fun _ _ => rfl)) (de_tup (da_cons de_str da_nil)))
    (dss_one (ds_ret de_bl)) dss_nil)
  (dss_cons (ds_forO PassesOwn.never rfl (de_lst (da_cons (de_lst (da_cons (de_tup (da_cons de_str (da_cons de_str (da_cons de_str (da_cons (de_tup (da_cons de_int (da_cons de_int da_nil))) da_nil))))) (da_cons de_str da_nil))) (da_cons (de_lst (da_cons (de_tup (da_cons de_str (da_cons de_str (da_cons de_str (da_cons (de_tup da_nil) da_nil))))) (da_cons de_str da_nil))) (da_cons (de_lst (da_cons (de_tup (da_cons de_str (da_cons de_str (da_cons de_str (da_cons (de_tup da_nil) da_nil))))) (da_cons de_str da_nil))) da_nil)))) (dg_seq rfl (dgs_cons (dg_name (i := 2) sc_law_portals_hold.nd rfl (by first | exact .inl rfl | exact .inr rfl)) (dgs_cons (dg_name (i := 3) sc_law_portals_hold.nd rfl (by first | exact .inl rfl | exact .inr rfl)) dgs_nil)))
    (dss_one (ds_if (dt_cmp (op_neD (hu64 hr)) opa_neD (nomark _) (de_meth (ok_Session_run_batch T) qt hr (by decide) rfl (dv 0) (da_cons (de_lst (da_cons (dv 2) da_nil)) da_nil)) (de_tup (da_cons de_str (da_cons (de_lst (da_cons (de_tup (da_cons de_str (da_cons (dv 3) da_nil))) da_nil)) da_nil))))
      (dss_one (ds_ret de_bl)) dss_nil)))
  (dss_cons (ds_set (i := 4) sc_law_portals_hold.nd rfl (.inl rfl) (de_meth (ok_Session_run_batch T) qt hr (by decide) rfl (dv 0) (da_cons (de_lst (da_cons (de_tup (da_cons de_str (da_cons de_str (da_cons de_int da_nil)))) (da_cons (de_tup (da_cons de_str (da_cons de_str da_nil))) (da_cons (de_tup (da_cons de_str (da_cons de_str (da_cons de_str (da_cons (de_tup (da_cons de_int da_nil)) da_nil))))) (da_cons (de_tup (da_cons de_str (da_cons de_str (da_cons de_str (da_cons (de_tup da_nil) da_nil))))) da_nil))))) da_nil)))
  (dss_one (ds_ret (de_cmp (op_eqD (hu64 hr)) opa_eqD (nomark _) (dv 4) (de_tup (da_cons de_str (da_cons (de_lst (da_cons (de_tup (da_cons de_str (da_cons de_int da_nil))) (da_cons (de_tup (da_cons de_str da_nil)) (da_cons (de_tup (da_cons de_str da_nil)) (da_cons (de_tup (da_cons de_str (da_cons de_str da_nil))) da_nil))))) da_nil)))))))))))))
theorem ok_law_saves_hold (T : Txt w K mg) : PrG P w K mg base CX0 13 "_law_saves_hold" ["count"] (sp0 K mg 1 m_law_saves_hold) :=
  fn0n T.d_law_saves_hold sc_law_saves_hold (by decide) rfl rfl fun f cdv A outer s H E qt hr =>
  (dss_cons (ds_set (i := 1) sc_law_saves_hold.nd rfl (.inl rfl) (de_new0 (ok_Session___init___1 T) qt hr (by decide) (by rfl) rfl))
  (dss_cons (ds_if (dt_cmp (op_neD (hu64 hr)) opa_neD (nomark _) (de_call (ok_law_did T) qt hr (by decide) (by rfl) rfl (da_cons (dv 1) (da_cons de_str (da_cons (de_tup da_nil) da_nil)))) (de_tup (da_cons de_str (da_cons de_int da_nil))))
    (dss_one (ds_ret de_bl)) dss_nil)
  (dss_cons (ds_for PassesOwn.never rfl (di_rng1 (by rfl) T.n_range (dv 0)) (dg_name (i := 2) sc_law_saves_hold.nd rfl (by first | exact .inl rfl | exact .inr rfl))
    (dss_cons (ds_set (i := 3) sc_law_saves_hold.nd rfl (.inl rfl) (de_tup (da_cons de_str (da_cons de_int da_nil))))
    (dss_cons (ds_if (dt_cmp op_ge opa_cmp (nomark _) (dv 2) de_int)
      (dss_one (ds_set (i := 3) sc_law_saves_hold.nd rfl (.inl rfl) (de_tup (da_cons de_str (da_cons (de_ix (de_lst (da_cons de_str (da_cons de_str da_nil))) (de_callTy call_int1 leaf_int (by rfl) T.n_int boot_int (da_cons (de_cmp op_gt opa_cmp (nomark _) (dv 2) de_int) da_nil)) (fun _ _ => rfl)) da_nil))))) dss_nil)
    (dss_one (ds_if (dt_cmp (op_neD (hu64 hr)) opa_neD (nomark _) (de_call (ok_law_did T) qt hr (by decide) (by rfl) rfl (da_cons (dv 1) (da_cons (de_op op_addA opa_add de_str (de_ixA de_str (de_op op_mod opa_mod (dv 2) de_int) (fun _ _ => rfl))) (da_cons (de_tup da_nil) da_nil)))) (dv 3))
      (dss_one (ds_ret de_bl)) dss_nil)))))
  (dss_one (ds_ret (de_or (de_cmp op_le opa_cmp (nomark _) (dv 0) de_int) (de_one (de_cmp (op_eqD (hu64 hr)) opa_eqD (nomark _) (de_call (ok_law_did T) qt hr (by decide) (by rfl) rfl (da_cons (dv 1) (da_cons de_str (da_cons (de_tup da_nil) da_nil)))) (de_tup (da_cons de_str (da_cons de_int da_nil)))))))))))
theorem ok_law (T : Txt w K mg) : PrG P w K mg base CX0 14 "law" ["script"] (sp0 K mg 1 m_law_k09) :=
  fn0n T.d_law sc_law (by decide) rfl rfl fun f cdv A outer s H E qt hr =>
  (dss_cons (ds_if (DW.dt (dw_or (dt_not (dt_val (de_call (ok_law_tables_hold T) qt hr (by decide) (by rfl) rfl (da_cons (de_op op_mod opa_mod (de_call (ok_law_cell T) qt hr (by decide) (by rfl) rfl (da_cons (dv 0) (da_cons de_int da_nil))) de_int) da_nil)))) (dw_or1 (dt_not (dt_val (de_call (ok_law_named_hold T) qt hr (by decide) (by rfl) rfl (da_cons (de_op op_mod opa_mod (de_call (ok_law_cell T) qt hr (by decide) (by rfl) rfl (da_cons (dv 0) (da_cons de_int da_nil))) de_int) da_nil)))))))
    (dss_one (ds_ret de_bl)) dss_nil)
  (dss_cons (ds_if (DW.dt (dw_or (dt_not (dt_val (de_call0 (ok_law_portals_hold T) qt hr (by decide) (by rfl)))) (dw_or1 (dt_not (dt_val (de_call (ok_law_saves_hold T) qt hr (by decide) (by rfl) rfl (da_cons (de_op op_mod opa_mod (de_call (ok_law_cell T) qt hr (by decide) (by rfl) rfl (da_cons (dv 0) (da_cons de_int da_nil))) de_int) da_nil)))))))
    (dss_one (ds_ret de_bl)) dss_nil)
  (dss_cons (ds_set (i := 1) sc_law.nd rfl (.inl rfl) (de_new (ok_Session___init___0 T) qt hr (by decide) (by rfl) rfl (da_cons (de_lst (da_cons (de_tup (da_cons de_str (da_cons (de_lc (own := [("k", 3)]) rfl sc_law.nd (di_rng1 (by rfl) T.n_range de_int) (blkOk_by (N := ["script", "session", "key", "k"]) (sc := defScope s_law) (by decide +kernel))
        (fun _ _ _ _ _ => dg_name (i := 3) sc_law.nd rfl (by first | exact .inl rfl | exact .inr rfl)) (fun _ _ _ _ _ => dts_nil)
        (fun _ _ _ _ _ => (de_tup (da_cons (dv 3) (da_cons (dv 3) da_nil))))) da_nil))) da_nil)) da_nil)))
  (dss_cons (ds_if (DW.dt (dw_or (dt_cmp (op_neD (hu64 hr)) opa_neD (nomark _) (de_call (ok_law_did T) qt hr (by decide) (by rfl) rfl (da_cons (dv 1) (da_cons de_str (da_cons (de_tup da_nil) da_nil)))) (de_tup (da_cons de_str (da_cons de_str da_nil)))) (dw_or1 (dt_cmp (op_neD (hu64 hr)) opa_neD (nomark _) (de_call (ok_law_did T) qt hr (by decide) (by rfl) rfl (da_cons (dv 1) (da_cons de_str (da_cons (de_tup da_nil) da_nil)))) (de_tup (da_cons de_str (da_cons de_str da_nil)))))))
    (dss_one (ds_ret de_bl)) dss_nil)
  (dss_cons (ds_set (i := 2) sc_law.nd rfl (.inr rfl) (de_op op_mod opa_mod (de_call (ok_law_cell T) qt hr (by decide) (by rfl) rfl (da_cons (dv 0) (da_cons de_int da_nil))) de_int))
  (dss_cons (ds_if (dt_cmp (op_neD (hu64 hr)) opa_neD (nomark _) (de_call (ok_law_did T) qt hr (by decide) (by rfl) rfl (da_cons (dv 1) (da_cons de_str (da_cons (de_tup (da_cons (dv 2) da_nil)) da_nil)))) (de_tup (da_cons de_str (da_cons de_int da_nil))))
    (dss_one (ds_ret de_bl)) dss_nil)
  (dss_one (ds_ret (de_cmp (op_eqD (hu64 hr)) opa_eqD (nomark _) (de_meth0 (ok_Session_tables T) qt hr (by decide) rfl (dv 1)) (de_lst (da_cons (de_tup (da_cons de_str (da_cons (de_lc (own := [("k", 3)]) rfl sc_law.nd (di_rng1 (by rfl) T.n_range de_int) (blkOk_by (N := ["script", "session", "key", "k"]) (sc := defScope s_law) (by decide +kernel))
        (fun _ _ _ _ _ => dg_name (i := 3) sc_law.nd rfl (by first | exact .inl rfl | exact .inr rfl)) (fun _ _ _ _ _ => dts_nil)
        (fun _ _ _ _ _ => (de_tup (da_cons (dv 3) (da_cons (de_ix (de_lst (da_cons (dv 3) (da_cons de_str da_nil))) (de_callTy call_int1 leaf_int (by rfl) T.n_int boot_int (da_cons (de_cmp op_eq opa_eq (nomark _) (dv 3) (dv 2)) da_nil)) (fun _ _ => rfl)) da_nil))))) da_nil))) da_nil)))))))))))
end
end P09
end
section
/-! a law's end over a promise for quiet callers -/
namespace XM
open PySem PySem.Spec PyProof.Rows L2 Tl
section
variable {P : Program} {w : World} {K : PySem.W.Frag} {mg : Str → Option Value} {k : Nat} {fa a : Addr} {d x : Str} {sp : Sp} {s1 : Shared}
/-- H tracks nothing but the script -/
structure OnlyA (a : Addr) (o : Obj) (xs : List V) (H : Hp) : Prop where
  at_ : ∀ b u, H b = some u → b = a ∧ u = .frz o (.lst xs)
theorem OnlyA.no {o : Obj} {xs : List V} {H : Hp} (h : OnlyA a o xs H) {b : Addr} (n : b ≠ a) : H b = none := by
  cases e : H b with
  | none => rfl
  | some u => exact absurd (h.at_ b u e).1 n
/-- a namespace is not the script -/
theorem ns_hid {o : Obj} {xs : List V} {H : Hp} {h : Heap} (hO : OnlyA a o xs H) (ha : h.get? a = some o) (hd : ∀ es ep, o.data ≠ .dict es ep) {b : Addr} {m : Str → Option Value} (n : h.Ns b m) : (hidT h H).Ns b m := by
  obtain ⟨ob, es, ep, e, d, r⟩ := n
  refine ⟨ob, es, ep, hidT_get e (hO.no fun z => ?_), d, r⟩
  subst z
  rw [ha] at e
  cases e
  exact hd _ _ d
theorem runG_core {mb : Str → Option Value} {H : Hp} {o : Obj} {xs : List V}
    (KX : K.In s1.heap) (hns : s1.heap.Ns mainGlobals mg)
    (hb : s1.heap.Ns builtinsNs mb ∧ ∀ x : Str, x ≠ "__name__" → mb x = bootBuiltins x)
    (hlim : s1.heap.NoLimit) (hg : s1.gens = #[])
    (ha : s1.heap.get? a = some o) (hd : ∀ es ep, o.data ≠ .dict es ep)
    (hO : OnlyA a o xs H) (hok : HOk P w H s1.heap) (hK : H a ≠ none → K.lookup a = none)
    (hr : Room k callerA)
    (hfa : mg d = some (.ref fa))
    (F : ∀ base : Heap, K.In base → base.Ns mainGlobals mg → PrG P w K mg base CX0 k d [x] sp)
    (hsp : sp [.ref a] H (fun v _ => v = .bl true) fun _ _ _ => False) :
    codeAny (model P w) callerA (.call (.ref fa) ⟨[.ref a], []⟩)
      (fun r s' => r = .ok (.ret (.bool true)) ∧ OldK s1.heap s'.heap ∧ s'.os = s1.os ∧ AllBare s'.gens) s1 := by
  have inb : K.In (hidT s1.heap H) := fun b ob e => hidT_get (KX b ob e) (by
    cases q : H b with
    | none => rfl
    | some u =>
      obtain ⟨rfl, _⟩ := hO.at_ b u q
      rw [hK (by rw [q]; exact fun z => by cases z)] at e
      cases e)
  have gl := ns_hid hO ha hd hns
  obtain ⟨mc, l1, l2⟩ := hlim
  have md : Mod K mg (hidT s1.heap H) := ⟨inb, gl, ⟨mb, ns_hid hO ha hd hb.1, hb.2⟩, mc, ns_hid hO ha hd l1, l2⟩
  have env : Env0 P w K mg (hidT s1.heap H) callerA [] s1 H :=
    ⟨rfl, md, fun _ _ z => of_hidT z, Nat.le_of_eq (hidT_size _ _), trivial, fun b z => absurd (show b ∈ ([] : List Addr) from z) (by simp), hok, .of_eq hg⟩
  obtain ⟨f, fd, hm, _, hbind, ok⟩ := (F _ inb gl).ex
  have e : f = fa := by have z := hm.symm.trans hfa; cases z; rfl
  subst e
  have run := ok.run callerA [] s1 H ⟨[.ref a], []⟩ [.ref a] [.ref a] _ _ rfl hr env (hbind s1 [.ref a] KX rfl) (.cons rfl .nil) hsp
  refine codeAny_mono run fun r s' q => ?_
  match r, q with
  | .error e, q => exact q.elim
  | .ok .next, q => exact q.elim
  | .ok .brk, q => exact q.elim
  | .ok .cont, q => exact q.elim
  | .ok (.ret u), q =>
    obtain ⟨v, H', os, bare, un, hok', ru, qv⟩ := q
    have qv : v = .bl true := qv
    subst qv
    obtain rfl : u = Value.bool true := ru
    refine ⟨rfl, OldK.of_keep fun b ob e => ?_, os, bare⟩
    cases z : H b with
    | none => exact un.keep b ob e z (fun h => absurd (show b ∈ ([] : List Addr) from h) (by simp)) (by simp)
    | some u =>
      obtain ⟨rfl, rfl⟩ := hO.at_ b u z
      have z2 := un.frzs b o _ z
      rw [ha] at e
      cases e
      exact (hok' b _ z2).1
end
/-- the goal that the head leaves, from the promise of the law's def -/
theorem walkG {l : PySem.W.OpenLaw} {n k : Nat} {q : Program} {loose : List Str} {XP : (Str → Option Value) → Heap → Prop} {YP : World → Heap → Prop} {d : DefRec} {K : Params → PySem.W.Frag}
    {m : FM} {x : Str}
    (hn : l.most = some n) (hn2 : n ≤ sizeLine) (hdf : d.params.defaults = []) (hr : Room k callerA)
    (hY : ∀ (w : World) (h : Heap), YP w h → (K w.params).In h)
    (hm : ∀ ns : List Int, ns.length ≤ n → ∃ ts, m [.frz ns] = some (.ret (.dat (.bool true)) ts))
    (F : ∀ (w : World) (mg : Str → Option Value) (h : Heap), (K w.params).In h → h.Ns mainGlobals mg →
      ∀ base : Heap, (K w.params).In base → base.Ns mainGlobals mg → PrG l.prog w (K w.params) mg base CX0 k d.name [x] (sp0 (K w.params) mg 1 m)) :
    PySem.W.WalkO q loose XP YP l.row.toRowW d [] (fun f vs => PySem.call f vs) := by
  refine Att.attach_call hn hdf fun w s₀ s1 mg mb fa o pm cd doc a vs ns G Y ho hd hcd hmg hobj hints hlen hg => ?_
  have KX := hY w _ Y
  have hF := F w mg _ KX G.T.g
  obtain ⟨ts, hts⟩ := hm ns hlen
  have rv := vals_ints hints
  have lenV := hints.length
  have lim : ns.length ≤ sizeLine := Nat.le_trans hlen hn2
  have want : ∀ H : Hp, SqL (K w.params) H a (ns.map V.int) → sp0 (K w.params) mg 1 m [.ref a] H (fun v _ => v = .bl true) fun _ _ _ => False := fun H hS => by
    have h0 : Same H (hid (add zer zer) H) := fun b u e => hid_at rfl e
    have tr : TRs (K w.params) ⟨mg, fun _ => .non⟩ (hid (add zer zer) H) H [.frz ns] [.ref a] zer := by
      have := TRs.cons (.frz (h0.seq hS)) (.nil (K := K w.params) (mg := ⟨mg, fun _ => .non⟩) (G := hid (add zer zer) H) (H := H))
      rw [add_zer] at this
      exact this
    refine ⟨fun _ => .non, zer, zer, [.frz ns], _, rfl, tr, fun _ => Nat.zero_le _, fun _ z => absurd rfl z, hts, fun v H' F' Ft got => ?_⟩
    obtain ⟨_, t, _⟩ := got
    cases t with
    | dat h => cases h; rfl
  have nd : ∀ es ep, ({ cls := .type "list", data := .seq vs.toArray } : Obj).data ≠ .dict es ep := fun _ _ z => by cases z
  cases hk : (K w.params).lookup a with
  | some ob =>
    have e := KX a ob hk
    rw [hobj] at e
    cases e
    exact runG_core (H := fun _ => none) (xs := ns.map V.int) KX G.T.g ⟨G.T.b, G.T.builtins⟩ G.T.nolimit hg hobj nd ⟨fun _ _ z => by cases z⟩ (fun _ _ z => by cases z) (fun z => absurd rfl z) hr hmg hF
      (want _ (.inr ⟨_, vs.toArray, _, hk, rfl, rfl, rfl, by rw [List.size_toArray, lenV]; exact lim, by simpa using rv⟩))
  | none =>
    have only : OnlyA a { cls := .type "list", data := .seq vs.toArray } (ns.map V.int) fun b => if b = a then some (.frz { cls := .type "list", data := .seq vs.toArray } (.lst (ns.map V.int))) else none := ⟨fun b u z => by
      by_cases c : b = a
      · rw [if_pos c] at z; cases z; exact ⟨c, rfl⟩
      · rw [if_neg c] at z; cases z⟩
    refine runG_core KX G.T.g ⟨G.T.b, G.T.builtins⟩ G.T.nolimit hg hobj nd only (fun b u z => ?_) (fun _ => hk) hr hmg hF
      (want _ (.inl (.inr ⟨{ cls := .type "list", data := .seq vs.toArray }, if_pos rfl⟩)))
    obtain ⟨rfl, rfl⟩ := only.at_ b u z
    exact ⟨hobj, by rw [List.length_map]; exact lim, vs, _, rv, hobj⟩
end XM
end
section
/-! facts of the top -/
namespace XM
open PySem PySem.Spec PyProof.Rows L2 Tl
section
variable {K : PySem.W.Frag} {mg : Str → Option Value} {w : World} {h : Heap}
theorem tupD {a : Addr} {od : Option Addr} {its : Array Value} {n : Nat} {sl : Array (Option Value)} {xs : List V} {ds : List D}
    (l : K.lookup a = some ⟨.type "tuple", od, .seq its n, sl⟩) (hv : Vals xs its.toList) (hz : its.size ≤ sizeLine) (hd : ∀ G, DqAll K G xs ds) : ∀ G, Dq K G (.ref a) (.tuple ds) :=
  fun G => .tup (.inr ⟨_, its, n, l, rfl, rfl, hz, hv⟩) (hd G)
theorem cd_mk {x : Str} {u : Value} {v : V} {d : D} (X : K.In h) (G : h.Ns mainGlobals mg) (g : PySem.W.nsIn K mainGlobals x = some (some u)) (r : RelV v u) (hd : ∀ G, Dq K G v d) : CD K mg x d :=
  ⟨_, _, PySem.W.mg_of X G g, r, hd⟩
theorem kt_mk {x : Str} {a : Addr} {its : Array Value} {n : Nat} {sl : Array (Option Value)} {ys : List Str} (X : K.In h) (G : h.Ns mainGlobals mg) (g : PySem.W.nsIn K mainGlobals x = some (some (.ref a)))
    (l : K.lookup a = some ⟨.type "tuple", none, .seq its n, sl⟩) (hv : Vals (ys.map V.str) its.toList) (hz : its.size ≤ sizeLine) : KT K mg x ys :=
  ⟨a, _, ⟨_, PySem.W.mg_of X G g, rfl⟩, l, rfl, rfl, fun H => .inr ⟨_, its, n, l, rfl, rfl, hz, hv⟩⟩
theorem fd_mk {x : Str} {a : Addr} {es : Array DictEntry} {n : Nat} {tb : List (Str × Str)} (X : K.In h) (G : h.Ns mainGlobals mg) (g : PySem.W.nsIn K mainGlobals x = some (some (.ref a)))
    (l : K.lookup a = some ⟨.type "dict", none, .dict es n, #[]⟩) (hk : PySem.W.KeysLit w.params es.toList)
    (hd : ∀ q ∈ tb, ∃ f, PySem.W.nsIn K a q.1 = some (some (.ref f)) ∧ PySem.W.nsIn K mainGlobals q.2 = some (some (.ref f))) : FD K w mg x tb := by
  refine ⟨a, ⟨_, PySem.W.mg_of X G g, rfl⟩, fun k n e => ?_⟩
  have m : (k, n) ∈ tb := by
    induction tb with
    | nil => cases e
    | cons q r ih =>
      rw [List.lookup_cons] at e
      split at e
      · rename_i c
        rw [beq_iff_eq] at c
        subst c
        cases e
        exact List.mem_cons_self
      · exact List.mem_cons_of_mem _ (ih (fun z hz => hd z (List.mem_cons_of_mem _ hz)) e)
  obtain ⟨f, h1, h2⟩ := hd _ m
  exact ⟨f, PySem.W.mg_of X G h2, _, _, _, l, hk, h1, rfl⟩
/-- one default, an object of the text -/
theorem dfl_one {T e : Addr} {od : Option Addr} {n : Nat} {sl : Array (Option Value)} (l : K.lookup T = some ⟨.type "tuple", od, .seq #[.ref e] n, sl⟩) : L2.DflV K (.ref T) [.ref e] :=
  .inr ⟨List.cons_ne_nil _ _, T, _, [.ref e], n, rfl, l, rfl, .cons rfl .nil⟩
end
end XM
end
open PySem PySem.W PyProof.Rows
set_option maxHeartbeats 0 in
theorem PySem.Challenge.cw_batchends_k09_bounds_of_sessions_holds : PySem.Challenge.rw_batchends_k09_bounds_of_sessions.Holds := by
  w_on; o_law; k_head; (case hw => w_witness2)
  k_fill
  refine XM.walkG (l := PySem.Challenge.rw_batchends_k09_bounds_of_sessions) (n := 63) (k := 14) (m := Cm.m_law_k09) (x := "script") rfl (by decide) rfl ⟨rfl, by decide, by decide⟩ (fun w h Y => PySem.W.kIn_of Y) ?RUN ?PROM
  case RUN => exact fun ns hn => Cm.e_law9 ns hn
  case PROM =>
    intro w mg h KX G base _ _
    obtain ⟨i_Portal___init___0, f_ended_Portal, f_parts_Portal, f_rows_Portal⟩ : (XM.IniD (PySem.Challenge.cw_batchends_k09_bounds_of_sessions_holds.heap_39 w.params) mg "Portal" "Portal.__init__" P09.s_Portal___init__ ["self", "parts"] []) ∧ (XM.FldK (PySem.Challenge.cw_batchends_k09_bounds_of_sessions_holds.heap_39 w.params) mg "ended" "Portal") ∧ (XM.FldK (PySem.Challenge.cw_batchends_k09_bounds_of_sessions_holds.heap_39 w.params) mg "parts" "Portal") ∧ (XM.FldK (PySem.Challenge.cw_batchends_k09_bounds_of_sessions_holds.heap_39 w.params) mg "rows" "Portal") := by
      refine' ⟨(XM.ini_mk KX G ?g_cPortal ⟨?mk_cPortal, ?mi_cPortal, ?mf_cPortal, ?mp_cPortal⟩ ?kf_1 ?l_1 ?c_1 ?b_1), (XM.fldk_mk KX G ?g_cPortal ⟨?pg_cPortal, ?hd_cPortal, ?po_cPortal, ?sa_cPortal⟩ ?n_2), (XM.fldk_mk KX G ?g_cPortal ⟨?pg_cPortal, ?hd_cPortal, ?po_cPortal, ?sa_cPortal⟩ ?n_3), (XM.fldk_mk KX G ?g_cPortal ⟨?pg_cPortal, ?hd_cPortal, ?po_cPortal, ?sa_cPortal⟩ ?n_4)⟩
      (case g_cPortal => k_is)
      (case pg_cPortal => k_is)
      (case hd_cPortal => k_is)
      (case po_cPortal => k_is)
      (case sa_cPortal => k_is)
      (case mk_cPortal => k_is)
      (case mi_cPortal => k_is)
      (case mf_cPortal => k_is)
      (case mp_cPortal => k_is)
      (case kf_1 => k_is)
      (case l_1 => k_is)
      (case c_1 => k_is)
      (case b_1 => intro _ _ _ _ _ _ us hl; exact match us, hl with | [_, _], _ => rfl)
      (case n_2 => unfold L2.NoAttr; k_is)
      (case n_3 => unfold L2.NoAttr; k_is)
      (case n_4 => unfold L2.NoAttr; k_is)
    obtain ⟨i_Session___init___0, i_Session___init___1, m_Session_tables, m_Session_run_batch, m_Session__go_back, m_Session__run_command, m_Session__prepare, m_Session__bind, m_Session__forget, m_Session__close, m_Session__run, m_Session__run_statement, m_Session__begin, m_Session__commit, m_Session__roll_back, m_Session__end_transaction, m_Session__save, m_Session__undo, f__base_Session, f__portals_Session, f__prepared_Session, f__savepoints_Session, f__state_Session, f__store_Session⟩ : (XM.IniE (PySem.Challenge.cw_batchends_k09_bounds_of_sessions_holds.heap_39 w.params) mg "Session" "Session.__init__" P09.s_Session___init__ ["self", "tables"] []) ∧ (XM.IniE (PySem.Challenge.cw_batchends_k09_bounds_of_sessions_holds.heap_39 w.params) mg "Session" "Session.__init__" P09.s_Session___init__ ["self", "tables"] [(.tuple [])]) ∧ (XM.MDnG (PySem.Challenge.cw_batchends_k09_bounds_of_sessions_holds.heap_39 w.params) mg "Session" "tables" "Session.tables" P09.s_Session_tables ["self"] []) ∧ (XM.MDnG (PySem.Challenge.cw_batchends_k09_bounds_of_sessions_holds.heap_39 w.params) mg "Session" "run_batch" "Session.run_batch" P09.s_Session_run_batch ["self", "commands"] []) ∧ (XM.MDnG (PySem.Challenge.cw_batchends_k09_bounds_of_sessions_holds.heap_39 w.params) mg "Session" "_go_back" "Session._go_back" P09.s_Session__go_back ["self"] []) ∧ (XM.MDnG (PySem.Challenge.cw_batchends_k09_bounds_of_sessions_holds.heap_39 w.params) mg "Session" "_run_command" "Session._run_command" P09.s_Session__run_command ["self", "command"] []) ∧ (XM.MDnG (PySem.Challenge.cw_batchends_k09_bounds_of_sessions_holds.heap_39 w.params) mg "Session" "_prepare" "Session._prepare" P09.s_Session__prepare ["self", "name", "string"] []) ∧ (XM.MDnG (PySem.Challenge.cw_batchends_k09_bounds_of_sessions_holds.heap_39 w.params) mg "Session" "_bind" "Session._bind" P09.s_Session__bind ["self", "portal", "name", "values"] []) ∧ (XM.MDnG (PySem.Challenge.cw_batchends_k09_bounds_of_sessions_holds.heap_39 w.params) mg "Session" "_forget" "Session._forget" P09.s_Session__forget ["self", "name"] []) ∧ (XM.MDnG (PySem.Challenge.cw_batchends_k09_bounds_of_sessions_holds.heap_39 w.params) mg "Session" "_close" "Session._close" P09.s_Session__close ["self", "portal"] []) ∧ (XM.MDnG (PySem.Challenge.cw_batchends_k09_bounds_of_sessions_holds.heap_39 w.params) mg "Session" "_run" "Session._run" P09.s_Session__run ["self", "name", "most"] []) ∧ (XM.MDnG (PySem.Challenge.cw_batchends_k09_bounds_of_sessions_holds.heap_39 w.params) mg "Session" "_run_statement" "Session._run_statement" P09.s_Session__run_statement ["self", "parts"] []) ∧ (XM.MDnG (PySem.Challenge.cw_batchends_k09_bounds_of_sessions_holds.heap_39 w.params) mg "Session" "_begin" "Session._begin" P09.s_Session__begin ["self"] []) ∧ (XM.MDnG (PySem.Challenge.cw_batchends_k09_bounds_of_sessions_holds.heap_39 w.params) mg "Session" "_commit" "Session._commit" P09.s_Session__commit ["self"] []) ∧ (XM.MDnG (PySem.Challenge.cw_batchends_k09_bounds_of_sessions_holds.heap_39 w.params) mg "Session" "_roll_back" "Session._roll_back" P09.s_Session__roll_back ["self"] []) ∧ (XM.MDnG (PySem.Challenge.cw_batchends_k09_bounds_of_sessions_holds.heap_39 w.params) mg "Session" "_end_transaction" "Session._end_transaction" P09.s_Session__end_transaction ["self"] []) ∧ (XM.MDnG (PySem.Challenge.cw_batchends_k09_bounds_of_sessions_holds.heap_39 w.params) mg "Session" "_save" "Session._save" P09.s_Session__save ["self", "name"] []) ∧ (XM.MDnG (PySem.Challenge.cw_batchends_k09_bounds_of_sessions_holds.heap_39 w.params) mg "Session" "_undo" "Session._undo" P09.s_Session__undo ["self", "name"] []) ∧ (XM.FldK (PySem.Challenge.cw_batchends_k09_bounds_of_sessions_holds.heap_39 w.params) mg "_base" "Session") ∧ (XM.FldK (PySem.Challenge.cw_batchends_k09_bounds_of_sessions_holds.heap_39 w.params) mg "_portals" "Session") ∧ (XM.FldK (PySem.Challenge.cw_batchends_k09_bounds_of_sessions_holds.heap_39 w.params) mg "_prepared" "Session") ∧ (XM.FldK (PySem.Challenge.cw_batchends_k09_bounds_of_sessions_holds.heap_39 w.params) mg "_savepoints" "Session") ∧ (XM.FldK (PySem.Challenge.cw_batchends_k09_bounds_of_sessions_holds.heap_39 w.params) mg "_state" "Session") ∧ (XM.FldK (PySem.Challenge.cw_batchends_k09_bounds_of_sessions_holds.heap_39 w.params) mg "_store" "Session") := by
      refine' ⟨(XM.inie_mk 2 1 KX G ?g_cSession ⟨?mk_cSession, ?mi_cSession, ?mf_cSession, ?mp_cSession⟩ (XM.fund_mk ?l_eSession ?c_eSession (XM.dfl_one ?t_eSession) ?kf_eSession) (List.cons_ne_nil _ _) rfl ?b_5 ?d_5), (XM.inie_mk 1 0 KX G ?g_cSession ⟨?mk_cSession, ?mi_cSession, ?mf_cSession, ?mp_cSession⟩ (XM.fund_mk ?l_eSession ?c_eSession (XM.dfl_one ?t_eSession) ?kf_eSession) (List.cons_ne_nil _ _) rfl ?b_6 ?d_6), (XM.mdn_mk KX G ?g_cSession ⟨?pg_cSession, ?hd_cSession, ?po_cSession, ?sa_cSession⟩ ⟨?a_7, ?f_7, ?k_7⟩ ?l_7 ?c_7 ?b_7), (XM.mdn_mk KX G ?g_cSession ⟨?pg_cSession, ?hd_cSession, ?po_cSession, ?sa_cSession⟩ ⟨?a_8, ?f_8, ?k_8⟩ ?l_8 ?c_8 ?b_8), (XM.mdn_mk KX G ?g_cSession ⟨?pg_cSession, ?hd_cSession, ?po_cSession, ?sa_cSession⟩ ⟨?a_9, ?f_9, ?k_9⟩ ?l_9 ?c_9 ?b_9), (XM.mdn_mk KX G ?g_cSession ⟨?pg_cSession, ?hd_cSession, ?po_cSession, ?sa_cSession⟩ ⟨?a_10, ?f_10, ?k_10⟩ ?l_10 ?c_10 ?b_10), (XM.mdn_mk KX G ?g_cSession ⟨?pg_cSession, ?hd_cSession, ?po_cSession, ?sa_cSession⟩ ⟨?a_11, ?f_11, ?k_11⟩ ?l_11 ?c_11 ?b_11), (XM.mdn_mk KX G ?g_cSession ⟨?pg_cSession, ?hd_cSession, ?po_cSession, ?sa_cSession⟩ ⟨?a_12, ?f_12, ?k_12⟩ ?l_12 ?c_12 ?b_12), (XM.mdn_mk KX G ?g_cSession ⟨?pg_cSession, ?hd_cSession, ?po_cSession, ?sa_cSession⟩ ⟨?a_13, ?f_13, ?k_13⟩ ?l_13 ?c_13 ?b_13), (XM.mdn_mk KX G ?g_cSession ⟨?pg_cSession, ?hd_cSession, ?po_cSession, ?sa_cSession⟩ ⟨?a_14, ?f_14, ?k_14⟩ ?l_14 ?c_14 ?b_14), (XM.mdn_mk KX G ?g_cSession ⟨?pg_cSession, ?hd_cSession, ?po_cSession, ?sa_cSession⟩ ⟨?a_15, ?f_15, ?k_15⟩ ?l_15 ?c_15 ?b_15), (XM.mdn_mk KX G ?g_cSession ⟨?pg_cSession, ?hd_cSession, ?po_cSession, ?sa_cSession⟩ ⟨?a_16, ?f_16, ?k_16⟩ ?l_16 ?c_16 ?b_16), (XM.mdn_mk KX G ?g_cSession ⟨?pg_cSession, ?hd_cSession, ?po_cSession, ?sa_cSession⟩ ⟨?a_17, ?f_17, ?k_17⟩ ?l_17 ?c_17 ?b_17), (XM.mdn_mk KX G ?g_cSession ⟨?pg_cSession, ?hd_cSession, ?po_cSession, ?sa_cSession⟩ ⟨?a_18, ?f_18, ?k_18⟩ ?l_18 ?c_18 ?b_18), (XM.mdn_mk KX G ?g_cSession ⟨?pg_cSession, ?hd_cSession, ?po_cSession, ?sa_cSession⟩ ⟨?a_19, ?f_19, ?k_19⟩ ?l_19 ?c_19 ?b_19), (XM.mdn_mk KX G ?g_cSession ⟨?pg_cSession, ?hd_cSession, ?po_cSession, ?sa_cSession⟩ ⟨?a_20, ?f_20, ?k_20⟩ ?l_20 ?c_20 ?b_20), (XM.mdn_mk KX G ?g_cSession ⟨?pg_cSession, ?hd_cSession, ?po_cSession, ?sa_cSession⟩ ⟨?a_21, ?f_21, ?k_21⟩ ?l_21 ?c_21 ?b_21), (XM.mdn_mk KX G ?g_cSession ⟨?pg_cSession, ?hd_cSession, ?po_cSession, ?sa_cSession⟩ ⟨?a_22, ?f_22, ?k_22⟩ ?l_22 ?c_22 ?b_22), (XM.fldk_mk KX G ?g_cSession ⟨?pg_cSession, ?hd_cSession, ?po_cSession, ?sa_cSession⟩ ?n_23), (XM.fldk_mk KX G ?g_cSession ⟨?pg_cSession, ?hd_cSession, ?po_cSession, ?sa_cSession⟩ ?n_24), (XM.fldk_mk KX G ?g_cSession ⟨?pg_cSession, ?hd_cSession, ?po_cSession, ?sa_cSession⟩ ?n_25), (XM.fldk_mk KX G ?g_cSession ⟨?pg_cSession, ?hd_cSession, ?po_cSession, ?sa_cSession⟩ ?n_26), (XM.fldk_mk KX G ?g_cSession ⟨?pg_cSession, ?hd_cSession, ?po_cSession, ?sa_cSession⟩ ?n_27), (XM.fldk_mk KX G ?g_cSession ⟨?pg_cSession, ?hd_cSession, ?po_cSession, ?sa_cSession⟩ ?n_28)⟩
      (case g_cSession => k_is)
      (case pg_cSession => k_is)
      (case hd_cSession => k_is)
      (case po_cSession => k_is)
      (case sa_cSession => k_is)
      (case mk_cSession => k_is)
      (case mi_cSession => k_is)
      (case mf_cSession => k_is)
      (case mp_cSession => k_is)
      (case l_eSession => k_is)
      (case c_eSession => k_is)
      (case t_eSession => k_is)
      (case kf_eSession => k_is)
      (case b_5 => intro _ _ _ _ _ _ _ us its h1 h2; exact match us, h1, its, h2 with | [_, _], _, [_], _ => ⟨_, rfl, rfl⟩)
      (case d_5 => exact fun _ => .nil)
      (case b_6 => intro _ _ _ _ _ _ _ us its h1 h2; exact match us, h1, its, h2 with | [_], _, [_], _ => ⟨_, rfl, rfl⟩)
      (case d_6 => refine' fun G => .cons (XM.tupD (xs := []) ?y_6 ?w_6 ?x_6 (fun _ => .nil) G) .nil; (case y_6 => k_is); (case w_6 => exact .nil); (case x_6 => rw [sizeLine_eq]; simp))
      (case a_7 => k_is)
      (case f_7 => k_is)
      (case k_7 => k_is)
      (case l_7 => k_is)
      (case c_7 => k_is)
      (case b_7 => intro _ _ _ _ _ _ us hl; exact match us, hl with | [_], _ => rfl)
      (case a_8 => k_is)
      (case f_8 => k_is)
      (case k_8 => k_is)
      (case l_8 => k_is)
      (case c_8 => k_is)
      (case b_8 => intro _ _ _ _ _ _ us hl; exact match us, hl with | [_, _], _ => rfl)
      (case a_9 => k_is)
      (case f_9 => k_is)
      (case k_9 => k_is)
      (case l_9 => k_is)
      (case c_9 => k_is)
      (case b_9 => intro _ _ _ _ _ _ us hl; exact match us, hl with | [_], _ => rfl)
      (case a_10 => k_is)
      (case f_10 => k_is)
      (case k_10 => k_is)
      (case l_10 => k_is)
      (case c_10 => k_is)
      (case b_10 => intro _ _ _ _ _ _ us hl; exact match us, hl with | [_, _], _ => rfl)
      (case a_11 => k_is)
      (case f_11 => k_is)
      (case k_11 => k_is)
      (case l_11 => k_is)
      (case c_11 => k_is)
      (case b_11 => intro _ _ _ _ _ _ us hl; exact match us, hl with | [_, _, _], _ => rfl)
      (case a_12 => k_is)
      (case f_12 => k_is)
      (case k_12 => k_is)
      (case l_12 => k_is)
      (case c_12 => k_is)
      (case b_12 => intro _ _ _ _ _ _ us hl; exact match us, hl with | [_, _, _, _], _ => rfl)
      (case a_13 => k_is)
      (case f_13 => k_is)
      (case k_13 => k_is)
      (case l_13 => k_is)
      (case c_13 => k_is)
      (case b_13 => intro _ _ _ _ _ _ us hl; exact match us, hl with | [_, _], _ => rfl)
      (case a_14 => k_is)
      (case f_14 => k_is)
      (case k_14 => k_is)
      (case l_14 => k_is)
      (case c_14 => k_is)
      (case b_14 => intro _ _ _ _ _ _ us hl; exact match us, hl with | [_, _], _ => rfl)
      (case a_15 => k_is)
      (case f_15 => k_is)
      (case k_15 => k_is)
      (case l_15 => k_is)
      (case c_15 => k_is)
      (case b_15 => intro _ _ _ _ _ _ us hl; exact match us, hl with | [_, _, _], _ => rfl)
      (case a_16 => k_is)
      (case f_16 => k_is)
      (case k_16 => k_is)
      (case l_16 => k_is)
      (case c_16 => k_is)
      (case b_16 => intro _ _ _ _ _ _ us hl; exact match us, hl with | [_, _], _ => rfl)
      (case a_17 => k_is)
      (case f_17 => k_is)
      (case k_17 => k_is)
      (case l_17 => k_is)
      (case c_17 => k_is)
      (case b_17 => intro _ _ _ _ _ _ us hl; exact match us, hl with | [_], _ => rfl)
      (case a_18 => k_is)
      (case f_18 => k_is)
      (case k_18 => k_is)
      (case l_18 => k_is)
      (case c_18 => k_is)
      (case b_18 => intro _ _ _ _ _ _ us hl; exact match us, hl with | [_], _ => rfl)
      (case a_19 => k_is)
      (case f_19 => k_is)
      (case k_19 => k_is)
      (case l_19 => k_is)
      (case c_19 => k_is)
      (case b_19 => intro _ _ _ _ _ _ us hl; exact match us, hl with | [_], _ => rfl)
      (case a_20 => k_is)
      (case f_20 => k_is)
      (case k_20 => k_is)
      (case l_20 => k_is)
      (case c_20 => k_is)
      (case b_20 => intro _ _ _ _ _ _ us hl; exact match us, hl with | [_], _ => rfl)
      (case a_21 => k_is)
      (case f_21 => k_is)
      (case k_21 => k_is)
      (case l_21 => k_is)
      (case c_21 => k_is)
      (case b_21 => intro _ _ _ _ _ _ us hl; exact match us, hl with | [_, _], _ => rfl)
      (case a_22 => k_is)
      (case f_22 => k_is)
      (case k_22 => k_is)
      (case l_22 => k_is)
      (case c_22 => k_is)
      (case b_22 => intro _ _ _ _ _ _ us hl; exact match us, hl with | [_, _], _ => rfl)
      (case n_23 => unfold L2.NoAttr; k_is)
      (case n_24 => unfold L2.NoAttr; k_is)
      (case n_25 => unfold L2.NoAttr; k_is)
      (case n_26 => unfold L2.NoAttr; k_is)
      (case n_27 => unfold L2.NoAttr; k_is)
      (case n_28 => unfold L2.NoAttr; k_is)
    have d_is_sign : Tl.Dn (PySem.Challenge.cw_batchends_k09_bounds_of_sessions_holds.heap_39 w.params) mg "is_sign" P09.s_is_sign ["character"] := by
      refine' Tl.dn_mk KX G ?a ?l ?c ?k ?b; (case a => k_is); (case l => k_is); (case c => k_is); (case k => k_is)
      case b => intro _ _ _ _ _ _ us hl; exact match us, hl with | [_], _ => rfl
    have d_has_only_signs : Tl.Dn (PySem.Challenge.cw_batchends_k09_bounds_of_sessions_holds.heap_39 w.params) mg "has_only_signs" P09.s_has_only_signs ["string"] := by
      refine' Tl.dn_mk KX G ?a ?l ?c ?k ?b; (case a => k_is); (case l => k_is); (case c => k_is); (case k => k_is)
      case b => intro _ _ _ _ _ _ us hl; exact match us, hl with | [_], _ => rfl
    have d_may_be_prepared : Tl.Dn (PySem.Challenge.cw_batchends_k09_bounds_of_sessions_holds.heap_39 w.params) mg "may_be_prepared" P09.s_may_be_prepared ["string"] := by
      refine' Tl.dn_mk KX G ?a ?l ?c ?k ?b; (case a => k_is); (case l => k_is); (case c => k_is); (case k => k_is)
      case b => intro _ _ _ _ _ _ us hl; exact match us, hl with | [_], _ => rfl
    have d_is_name : Tl.Dn (PySem.Challenge.cw_batchends_k09_bounds_of_sessions_holds.heap_39 w.params) mg "is_name" P09.s_is_name ["string"] := by
      refine' Tl.dn_mk KX G ?a ?l ?c ?k ?b; (case a => k_is); (case l => k_is); (case c => k_is); (case k => k_is)
      case b => intro _ _ _ _ _ _ us hl; exact match us, hl with | [_], _ => rfl
    have d_is_text : Tl.Dn (PySem.Challenge.cw_batchends_k09_bounds_of_sessions_holds.heap_39 w.params) mg "is_text" P09.s_is_text ["string"] := by
      refine' Tl.dn_mk KX G ?a ?l ?c ?k ?b; (case a => k_is); (case l => k_is); (case c => k_is); (case k => k_is)
      case b => intro _ _ _ _ _ _ us hl; exact match us, hl with | [_], _ => rfl
    have d_is_number : Tl.Dn (PySem.Challenge.cw_batchends_k09_bounds_of_sessions_holds.heap_39 w.params) mg "is_number" P09.s_is_number ["number"] := by
      refine' Tl.dn_mk KX G ?a ?l ?c ?k ?b; (case a => k_is); (case l => k_is); (case c => k_is); (case k => k_is)
      case b => intro _ _ _ _ _ _ us hl; exact match us, hl with | [_], _ => rfl
    have d_value_order : Tl.Dn (PySem.Challenge.cw_batchends_k09_bounds_of_sessions_holds.heap_39 w.params) mg "value_order" P09.s_value_order ["value"] := by
      refine' Tl.dn_mk KX G ?a ?l ?c ?k ?b; (case a => k_is); (case l => k_is); (case c => k_is); (case k => k_is)
      case b => intro _ _ _ _ _ _ us hl; exact match us, hl with | [_], _ => rfl
    have d_parse_statement : Tl.Dn (PySem.Challenge.cw_batchends_k09_bounds_of_sessions_holds.heap_39 w.params) mg "parse_statement" P09.s_parse_statement ["string"] := by
      refine' Tl.dn_mk KX G ?a ?l ?c ?k ?b; (case a => k_is); (case l => k_is); (case c => k_is); (case k => k_is)
      case b => intro _ _ _ _ _ _ us hl; exact match us, hl with | [_], _ => rfl
    have d_parameters : Tl.Dn (PySem.Challenge.cw_batchends_k09_bounds_of_sessions_holds.heap_39 w.params) mg "parameters" P09.s_parameters ["parts"] := by
      refine' Tl.dn_mk KX G ?a ?l ?c ?k ?b; (case a => k_is); (case l => k_is); (case c => k_is); (case k => k_is)
      case b => intro _ _ _ _ _ _ us hl; exact match us, hl with | [_], _ => rfl
    have d_fill_parts : Tl.Dn (PySem.Challenge.cw_batchends_k09_bounds_of_sessions_holds.heap_39 w.params) mg "fill_parts" P09.s_fill_parts ["parts", "values"] := by
      refine' Tl.dn_mk KX G ?a ?l ?c ?k ?b; (case a => k_is); (case l => k_is); (case c => k_is); (case k => k_is)
      case b => intro _ _ _ _ _ _ us hl; exact match us, hl with | [_, _], _ => rfl
    have d_fill_part : Tl.Dn (PySem.Challenge.cw_batchends_k09_bounds_of_sessions_holds.heap_39 w.params) mg "fill_part" P09.s_fill_part ["part", "values"] := by
      refine' Tl.dn_mk KX G ?a ?l ?c ?k ?b; (case a => k_is); (case l => k_is); (case c => k_is); (case k => k_is)
      case b => intro _ _ _ _ _ _ us hl; exact match us, hl with | [_, _], _ => rfl
    have d_is_parameter : Tl.Dn (PySem.Challenge.cw_batchends_k09_bounds_of_sessions_holds.heap_39 w.params) mg "is_parameter" P09.s_is_parameter ["part"] := by
      refine' Tl.dn_mk KX G ?a ?l ?c ?k ?b; (case a => k_is); (case l => k_is); (case c => k_is); (case k => k_is)
      case b => intro _ _ _ _ _ _ us hl; exact match us, hl with | [_], _ => rfl
    have d_split_pieces : Tl.Dn (PySem.Challenge.cw_batchends_k09_bounds_of_sessions_holds.heap_39 w.params) mg "split_pieces" P09.s_split_pieces ["string"] := by
      refine' Tl.dn_mk KX G ?a ?l ?c ?k ?b; (case a => k_is); (case l => k_is); (case c => k_is); (case k => k_is)
      case b => intro _ _ _ _ _ _ us hl; exact match us, hl with | [_], _ => rfl
    have d_find_form : Tl.Dn (PySem.Challenge.cw_batchends_k09_bounds_of_sessions_holds.heap_39 w.params) mg "find_form" P09.s_find_form ["word", "many"] := by
      refine' Tl.dn_mk KX G ?a ?l ?c ?k ?b; (case a => k_is); (case l => k_is); (case c => k_is); (case k => k_is)
      case b => intro _ _ _ _ _ _ us hl; exact match us, hl with | [_, _], _ => rfl
    have d_parse_part : Tl.Dn (PySem.Challenge.cw_batchends_k09_bounds_of_sessions_holds.heap_39 w.params) mg "parse_part" P09.s_parse_part ["letter", "piece"] := by
      refine' Tl.dn_mk KX G ?a ?l ?c ?k ?b; (case a => k_is); (case l => k_is); (case c => k_is); (case k => k_is)
      case b => intro _ _ _ _ _ _ us hl; exact match us, hl with | [_, _], _ => rfl
    have d_parse_name : Tl.Dn (PySem.Challenge.cw_batchends_k09_bounds_of_sessions_holds.heap_39 w.params) mg "parse_name" P09.s_parse_name ["piece"] := by
      refine' Tl.dn_mk KX G ?a ?l ?c ?k ?b; (case a => k_is); (case l => k_is); (case c => k_is); (case k => k_is)
      case b => intro _ _ _ _ _ _ us hl; exact match us, hl with | [_], _ => rfl
    have d_parse_text : Tl.Dn (PySem.Challenge.cw_batchends_k09_bounds_of_sessions_holds.heap_39 w.params) mg "parse_text" P09.s_parse_text ["piece"] := by
      refine' Tl.dn_mk KX G ?a ?l ?c ?k ?b; (case a => k_is); (case l => k_is); (case c => k_is); (case k => k_is)
      case b => intro _ _ _ _ _ _ us hl; exact match us, hl with | [_], _ => rfl
    have d_parse_number : Tl.Dn (PySem.Challenge.cw_batchends_k09_bounds_of_sessions_holds.heap_39 w.params) mg "parse_number" P09.s_parse_number ["piece"] := by
      refine' Tl.dn_mk KX G ?a ?l ?c ?k ?b; (case a => k_is); (case l => k_is); (case c => k_is); (case k => k_is)
      case b => intro _ _ _ _ _ _ us hl; exact match us, hl with | [_], _ => rfl
    have d_make_store : Tl.Dn (PySem.Challenge.cw_batchends_k09_bounds_of_sessions_holds.heap_39 w.params) mg "make_store" P09.s_make_store ["tables"] := by
      refine' Tl.dn_mk KX G ?a ?l ?c ?k ?b; (case a => k_is); (case l => k_is); (case c => k_is); (case k => k_is)
      case b => intro _ _ _ _ _ _ us hl; exact match us, hl with | [_], _ => rfl
    have d_list_tables : Tl.Dn (PySem.Challenge.cw_batchends_k09_bounds_of_sessions_holds.heap_39 w.params) mg "list_tables" P09.s_list_tables ["store"] := by
      refine' Tl.dn_mk KX G ?a ?l ?c ?k ?b; (case a => k_is); (case l => k_is); (case c => k_is); (case k => k_is)
      case b => intro _ _ _ _ _ _ us hl; exact match us, hl with | [_], _ => rfl
    have d_run_on_store : Tl.Dn (PySem.Challenge.cw_batchends_k09_bounds_of_sessions_holds.heap_39 w.params) mg "run_on_store" P09.s_run_on_store ["store", "parts"] := by
      refine' Tl.dn_mk KX G ?a ?l ?c ?k ?b; (case a => k_is); (case l => k_is); (case c => k_is); (case k => k_is)
      case b => intro _ _ _ _ _ _ us hl; exact match us, hl with | [_, _], _ => rfl
    have d_create_table : Tl.Dn (PySem.Challenge.cw_batchends_k09_bounds_of_sessions_holds.heap_39 w.params) mg "create_table" P09.s_create_table ["store", "name"] := by
      refine' Tl.dn_mk KX G ?a ?l ?c ?k ?b; (case a => k_is); (case l => k_is); (case c => k_is); (case k => k_is)
      case b => intro _ _ _ _ _ _ us hl; exact match us, hl with | [_, _], _ => rfl
    have d_put_row : Tl.Dn (PySem.Challenge.cw_batchends_k09_bounds_of_sessions_holds.heap_39 w.params) mg "put_row" P09.s_put_row ["store", "name", "key", "entry"] := by
      refine' Tl.dn_mk KX G ?a ?l ?c ?k ?b; (case a => k_is); (case l => k_is); (case c => k_is); (case k => k_is)
      case b => intro _ _ _ _ _ _ us hl; exact match us, hl with | [_, _, _, _], _ => rfl
    have d_rows_of : Tl.Dn (PySem.Challenge.cw_batchends_k09_bounds_of_sessions_holds.heap_39 w.params) mg "rows_of" P09.s_rows_of ["store", "name"] := by
      refine' Tl.dn_mk KX G ?a ?l ?c ?k ?b; (case a => k_is); (case l => k_is); (case c => k_is); (case k => k_is)
      case b => intro _ _ _ _ _ _ us hl; exact match us, hl with | [_, _], _ => rfl
    have d_rows_without : Tl.Dn (PySem.Challenge.cw_batchends_k09_bounds_of_sessions_holds.heap_39 w.params) mg "rows_without" P09.s_rows_without ["store", "name", "key"] := by
      refine' Tl.dn_mk KX G ?a ?l ?c ?k ?b; (case a => k_is); (case l => k_is); (case c => k_is); (case k => k_is)
      case b => intro _ _ _ _ _ _ us hl; exact match us, hl with | [_, _, _], _ => rfl
    have d_with_rows : Tl.Dn (PySem.Challenge.cw_batchends_k09_bounds_of_sessions_holds.heap_39 w.params) mg "with_rows" P09.s_with_rows ["store", "name", "rows"] := by
      refine' Tl.dn_mk KX G ?a ?l ?c ?k ?b; (case a => k_is); (case l => k_is); (case c => k_is); (case k => k_is)
      case b => intro _ _ _ _ _ _ us hl; exact match us, hl with | [_, _, _], _ => rfl
    have d_in_order : Tl.Dn (PySem.Challenge.cw_batchends_k09_bounds_of_sessions_holds.heap_39 w.params) mg "in_order" P09.s_in_order ["rows"] := by
      refine' Tl.dn_mk KX G ?a ?l ?c ?k ?b; (case a => k_is); (case l => k_is); (case c => k_is); (case k => k_is)
      case b => intro _ _ _ _ _ _ us hl; exact match us, hl with | [_], _ => rfl
    have d_row_order : Tl.Dn (PySem.Challenge.cw_batchends_k09_bounds_of_sessions_holds.heap_39 w.params) mg "row_order" P09.s_row_order ["row"] := by
      refine' Tl.dn_mk KX G ?a ?l ?c ?k ?b; (case a => k_is); (case l => k_is); (case c => k_is); (case k => k_is)
      case b => intro _ _ _ _ _ _ us hl; exact match us, hl with | [_], _ => rfl
    have d_law_cell : Tl.Dn (PySem.Challenge.cw_batchends_k09_bounds_of_sessions_holds.heap_39 w.params) mg "_law_cell" P09.s_law_cell ["script", "k"] := by
      refine' Tl.dn_mk KX G ?a ?l ?c ?k ?b; (case a => k_is); (case l => k_is); (case c => k_is); (case k => k_is)
      case b => intro _ _ _ _ _ _ us hl; exact match us, hl with | [_, _], _ => rfl
    have d_law_did : Tl.Dn (PySem.Challenge.cw_batchends_k09_bounds_of_sessions_holds.heap_39 w.params) mg "_law_did" P09.s_law_did ["session", "string", "values"] := by
      refine' Tl.dn_mk KX G ?a ?l ?c ?k ?b; (case a => k_is); (case l => k_is); (case c => k_is); (case k => k_is)
      case b => intro _ _ _ _ _ _ us hl; exact match us, hl with | [_, _, _], _ => rfl
    have d_law_tables_hold : Tl.Dn (PySem.Challenge.cw_batchends_k09_bounds_of_sessions_holds.heap_39 w.params) mg "_law_tables_hold" P09.s_law_tables_hold ["count"] := by
      refine' Tl.dn_mk KX G ?a ?l ?c ?k ?b; (case a => k_is); (case l => k_is); (case c => k_is); (case k => k_is)
      case b => intro _ _ _ _ _ _ us hl; exact match us, hl with | [_], _ => rfl
    have d_law_named_hold : Tl.Dn (PySem.Challenge.cw_batchends_k09_bounds_of_sessions_holds.heap_39 w.params) mg "_law_named_hold" P09.s_law_named_hold ["count"] := by
      refine' Tl.dn_mk KX G ?a ?l ?c ?k ?b; (case a => k_is); (case l => k_is); (case c => k_is); (case k => k_is)
      case b => intro _ _ _ _ _ _ us hl; exact match us, hl with | [_], _ => rfl
    have d_law_portals_hold : Tl.Dn (PySem.Challenge.cw_batchends_k09_bounds_of_sessions_holds.heap_39 w.params) mg "_law_portals_hold" P09.s_law_portals_hold [] := by
      refine' Tl.dn_mk KX G ?a ?l ?c ?k ?b; (case a => k_is); (case l => k_is); (case c => k_is); (case k => k_is)
      case b => intro _ _ _ _ _ _ us hl; exact match us, hl with | [], _ => rfl
    have d_law_saves_hold : Tl.Dn (PySem.Challenge.cw_batchends_k09_bounds_of_sessions_holds.heap_39 w.params) mg "_law_saves_hold" P09.s_law_saves_hold ["count"] := by
      refine' Tl.dn_mk KX G ?a ?l ?c ?k ?b; (case a => k_is); (case l => k_is); (case c => k_is); (case k => k_is)
      case b => intro _ _ _ _ _ _ us hl; exact match us, hl with | [_], _ => rfl
    have d_law : Tl.Dn (PySem.Challenge.cw_batchends_k09_bounds_of_sessions_holds.heap_39 w.params) mg "law" P09.s_law ["script"] := by
      refine' Tl.dn_mk KX G ?a ?l ?c ?k ?b; (case a => k_is); (case l => k_is); (case c => k_is); (case k => k_is)
      case b => intro _ _ _ _ _ _ us hl; exact match us, hl with | [_], _ => rfl
    have c_ENDINGS : XM.CD (PySem.Challenge.cw_batchends_k09_bounds_of_sessions_holds.heap_39 w.params) mg "ENDINGS" (.tuple [(.str "commit"), (.str "rollback"), (.str "undo")]) := by
      refine' XM.cd_mk KX G ?g_83 (v := .ref _) rfl (XM.tupD (xs := [.str "commit", .str "rollback", .str "undo"]) ?l_83_0 ?v_83_0 ?z_83_0 (fun G => (.cons (.str _) (.cons (.str _) (.cons (.str _) .nil)))))
      (case g_83 => k_is); (case l_83_0 => k_is); (case v_83_0 => exact .cons ⟨_, rfl⟩ (.cons ⟨_, rfl⟩ (.cons ⟨_, rfl⟩ (.nil)))); (case z_83_0 => rw [sizeLine_eq]; simp)
    have c_GREATEST_NUMBER : XM.CD (PySem.Challenge.cw_batchends_k09_bounds_of_sessions_holds.heap_39 w.params) mg "GREATEST_NUMBER" (.int 2147483647) := by
      refine' XM.cd_mk KX G ?g_84 (v := .int (2147483647)) ?r_84 (fun _ => .int _); (case g_84 => k_is); (case r_84 => first | exact ⟨_, rfl⟩ | rfl)
    have c_LEAST_NUMBER : XM.CD (PySem.Challenge.cw_batchends_k09_bounds_of_sessions_holds.heap_39 w.params) mg "LEAST_NUMBER" (.int (-2147483648)) := by
      refine' XM.cd_mk KX G ?g_85 (v := .int (-2147483648)) ?r_85 (fun _ => .int _); (case g_85 => k_is); (case r_85 => first | exact ⟨_, rfl⟩ | rfl)
    have c_LETTERS : XM.CD (PySem.Challenge.cw_batchends_k09_bounds_of_sessions_holds.heap_39 w.params) mg "LETTERS" (.str "abcdefghijklmnopqrstuvwxyz") := by
      refine' XM.cd_mk KX G ?g_86 (v := .str "abcdefghijklmnopqrstuvwxyz") ?r_86 (fun _ => .str _); (case g_86 => k_is); (case r_86 => first | exact ⟨_, rfl⟩ | rfl)
    have c_LONGEST_NAME : XM.CD (PySem.Challenge.cw_batchends_k09_bounds_of_sessions_holds.heap_39 w.params) mg "LONGEST_NAME" (.int 8) := by
      refine' XM.cd_mk KX G ?g_87 (v := .int (8)) ?r_87 (fun _ => .int _); (case g_87 => k_is); (case r_87 => first | exact ⟨_, rfl⟩ | rfl)
    have c_LONGEST_STRING : XM.CD (PySem.Challenge.cw_batchends_k09_bounds_of_sessions_holds.heap_39 w.params) mg "LONGEST_STRING" (.int 200) := by
      refine' XM.cd_mk KX G ?g_88 (v := .int (200)) ?r_88 (fun _ => .int _); (case g_88 => k_is); (case r_88 => first | exact ⟨_, rfl⟩ | rfl)
    have c_LONGEST_TEXT : XM.CD (PySem.Challenge.cw_batchends_k09_bounds_of_sessions_holds.heap_39 w.params) mg "LONGEST_TEXT" (.int 40) := by
      refine' XM.cd_mk KX G ?g_89 (v := .int (40)) ?r_89 (fun _ => .int _); (case g_89 => k_is); (case r_89 => first | exact ⟨_, rfl⟩ | rfl)
    have c_MOST_PORTALS : XM.CD (PySem.Challenge.cw_batchends_k09_bounds_of_sessions_holds.heap_39 w.params) mg "MOST_PORTALS" (.int 8) := by
      refine' XM.cd_mk KX G ?g_90 (v := .int (8)) ?r_90 (fun _ => .int _); (case g_90 => k_is); (case r_90 => first | exact ⟨_, rfl⟩ | rfl)
    have c_MOST_ROWS : XM.CD (PySem.Challenge.cw_batchends_k09_bounds_of_sessions_holds.heap_39 w.params) mg "MOST_ROWS" (.int 20) := by
      refine' XM.cd_mk KX G ?g_91 (v := .int (20)) ?r_91 (fun _ => .int _); (case g_91 => k_is); (case r_91 => first | exact ⟨_, rfl⟩ | rfl)
    have c_MOST_SAVEPOINTS : XM.CD (PySem.Challenge.cw_batchends_k09_bounds_of_sessions_holds.heap_39 w.params) mg "MOST_SAVEPOINTS" (.int 10) := by
      refine' XM.cd_mk KX G ?g_92 (v := .int (10)) ?r_92 (fun _ => .int _); (case g_92 => k_is); (case r_92 => first | exact ⟨_, rfl⟩ | rfl)
    have c_MOST_STATEMENTS : XM.CD (PySem.Challenge.cw_batchends_k09_bounds_of_sessions_holds.heap_39 w.params) mg "MOST_STATEMENTS" (.int 8) := by
      refine' XM.cd_mk KX G ?g_93 (v := .int (8)) ?r_93 (fun _ => .int _); (case g_93 => k_is); (case r_93 => first | exact ⟨_, rfl⟩ | rfl)
    have c_MOST_TABLES : XM.CD (PySem.Challenge.cw_batchends_k09_bounds_of_sessions_holds.heap_39 w.params) mg "MOST_TABLES" (.int 4) := by
      refine' XM.cd_mk KX G ?g_94 (v := .int (4)) ?r_94 (fun _ => .int _); (case g_94 => k_is); (case r_94 => first | exact ⟨_, rfl⟩ | rfl)
    have c_PARAMETERS : XM.CD (PySem.Challenge.cw_batchends_k09_bounds_of_sessions_holds.heap_39 w.params) mg "PARAMETERS" (.tuple [(.str "$1"), (.str "$2"), (.str "$3"), (.str "$4")]) := by
      refine' XM.cd_mk KX G ?g_95 (v := .ref _) rfl (XM.tupD (xs := [.str "$1", .str "$2", .str "$3", .str "$4"]) ?l_95_0 ?v_95_0 ?z_95_0 (fun G => (.cons (.str _) (.cons (.str _) (.cons (.str _) (.cons (.str _) .nil))))))
      (case g_95 => k_is); (case l_95_0 => k_is); (case v_95_0 => exact .cons ⟨_, rfl⟩ (.cons ⟨_, rfl⟩ (.cons ⟨_, rfl⟩ (.cons ⟨_, rfl⟩ (.nil))))); (case z_95_0 => rw [sizeLine_eq]; simp)
    have c_PERCENT : XM.CD (PySem.Challenge.cw_batchends_k09_bounds_of_sessions_holds.heap_39 w.params) mg "PERCENT" (.int 37) := by
      refine' XM.cd_mk KX G ?g_96 (v := .int (37)) ?r_96 (fun _ => .int _); (case g_96 => k_is); (case r_96 => first | exact ⟨_, rfl⟩ | rfl)
    have g_FORMS : XM.GD (PySem.Challenge.cw_batchends_k09_bounds_of_sessions_holds.heap_39 w.params) w mg "FORMS" Cm.gd_FORMS := by
      refine' XM.gd_mk KX G ?g_106 ?w_106 ?l_106 ?k_106 ?r_106; (case g_106 => k_is); (case w_106 => rfl); (case l_106 => k_is)
      case k_106 => exact ⟨⟨_, _, rfl, rfl⟩, ⟨⟨_, _, rfl, rfl⟩, ⟨⟨_, _, rfl, rfl⟩, ⟨⟨_, _, rfl, rfl⟩, ⟨⟨_, _, rfl, rfl⟩, ⟨⟨_, _, rfl, rfl⟩, ⟨⟨_, _, rfl, rfl⟩, ⟨⟨_, _, rfl, rfl⟩, ⟨⟨_, _, rfl, rfl⟩, ⟨⟨_, _, rfl, rfl⟩, ⟨⟨_, _, rfl, rfl⟩, ⟨⟨_, _, rfl, rfl⟩, trivial⟩⟩⟩⟩⟩⟩⟩⟩⟩⟩⟩⟩
      case r_106 =>
        unfold Cm.gd_FORMS
        refine' (.cons ⟨⟨_, rfl⟩, _, rfl, XM.tupKG ?m_106_0 ?v_106_0 ?z_106_0⟩ (.cons ⟨⟨_, rfl⟩, _, rfl, XM.tupKG ?m_106_1 ?v_106_1 ?z_106_1⟩ (.cons ⟨⟨_, rfl⟩, _, rfl, XM.tupKG ?m_106_2 ?v_106_2 ?z_106_2⟩ (.cons ⟨⟨_, rfl⟩, _, rfl, XM.tupKG ?m_106_3 ?v_106_3 ?z_106_3⟩ (.cons ⟨⟨_, rfl⟩, _, rfl, XM.tupKG ?m_106_4 ?v_106_4 ?z_106_4⟩ (.cons ⟨⟨_, rfl⟩, _, rfl, XM.tupKG ?m_106_5 ?v_106_5 ?z_106_5⟩ (.cons ⟨⟨_, rfl⟩, _, rfl, XM.tupKG ?m_106_6 ?v_106_6 ?z_106_6⟩ (.cons ⟨⟨_, rfl⟩, _, rfl, XM.tupKG ?m_106_7 ?v_106_7 ?z_106_7⟩ (.cons ⟨⟨_, rfl⟩, _, rfl, XM.tupKG ?m_106_8 ?v_106_8 ?z_106_8⟩ (.cons ⟨⟨_, rfl⟩, _, rfl, XM.tupKG ?m_106_9 ?v_106_9 ?z_106_9⟩ (.cons ⟨⟨_, rfl⟩, _, rfl, XM.tupKG ?m_106_10 ?v_106_10 ?z_106_10⟩ (.cons ⟨⟨_, rfl⟩, _, rfl, XM.tupKG ?m_106_11 ?v_106_11 ?z_106_11⟩ .nil))))))))))))
        (case m_106_0 => k_is); (case v_106_0 => exact .cons ⟨_, rfl⟩ (.nil)); (case z_106_0 => rw [sizeLine_eq]; simp)
        (case m_106_1 => k_is); (case v_106_1 => exact .cons ⟨_, rfl⟩ (.nil)); (case z_106_1 => rw [sizeLine_eq]; simp)
        (case m_106_2 => k_is); (case v_106_2 => exact .cons ⟨_, rfl⟩ (.nil)); (case z_106_2 => rw [sizeLine_eq]; simp)
        (case m_106_3 => k_is); (case v_106_3 => exact .cons ⟨_, rfl⟩ (.nil)); (case z_106_3 => rw [sizeLine_eq]; simp)
        (case m_106_4 => k_is); (case v_106_4 => exact .cons ⟨_, rfl⟩ (.nil)); (case z_106_4 => rw [sizeLine_eq]; simp)
        (case m_106_5 => k_is); (case v_106_5 => exact .cons ⟨_, rfl⟩ (.cons ⟨_, rfl⟩ (.nil))); (case z_106_5 => rw [sizeLine_eq]; simp)
        (case m_106_6 => k_is); (case v_106_6 => exact .cons ⟨_, rfl⟩ (.nil)); (case z_106_6 => rw [sizeLine_eq]; simp)
        (case m_106_7 => k_is); (case v_106_7 => exact .cons ⟨_, rfl⟩ (.nil)); (case z_106_7 => rw [sizeLine_eq]; simp)
        (case m_106_8 => k_is); (case v_106_8 => exact .cons ⟨_, rfl⟩ (.nil)); (case z_106_8 => rw [sizeLine_eq]; simp)
        (case m_106_9 => k_is); (case v_106_9 => exact .cons ⟨_, rfl⟩ (.nil)); (case z_106_9 => rw [sizeLine_eq]; simp)
        (case m_106_10 => k_is); (case v_106_10 => exact .cons ⟨_, rfl⟩ (.nil)); (case z_106_10 => rw [sizeLine_eq]; simp)
        (case m_106_11 => k_is); (case v_106_11 => exact .cons ⟨_, rfl⟩ (.nil)); (case z_106_11 => rw [sizeLine_eq]; simp)
    have n_all : mg "all" = none := by
      refine' PySem.W.mg_none_of KX G ?z; (case z => k_is)
    have n_int : mg "int" = none := by
      refine' PySem.W.mg_none_of KX G ?z; (case z => k_is)
    have n_isinstance : mg "isinstance" = none := by
      refine' PySem.W.mg_none_of KX G ?z; (case z => k_is)
    have n_len : mg "len" = none := by
      refine' PySem.W.mg_none_of KX G ?z; (case z => k_is)
    have n_list : mg "list" = none := by
      refine' PySem.W.mg_none_of KX G ?z; (case z => k_is)
    have n_max : mg "max" = none := by
      refine' PySem.W.mg_none_of KX G ?z; (case z => k_is)
    have n_min : mg "min" = none := by
      refine' PySem.W.mg_none_of KX G ?z; (case z => k_is)
    have n_ord : mg "ord" = none := by
      refine' PySem.W.mg_none_of KX G ?z; (case z => k_is)
    have n_range : mg "range" = none := by
      refine' PySem.W.mg_none_of KX G ?z; (case z => k_is)
    have n_sorted : mg "sorted" = none := by
      refine' PySem.W.mg_none_of KX G ?z; (case z => k_is)
    have n_str : mg "str" = none := by
      refine' PySem.W.mg_none_of KX G ?z; (case z => k_is)
    have n_tuple : mg "tuple" = none := by
      refine' PySem.W.mg_none_of KX G ?z; (case z => k_is)
    have n_zip : mg "zip" = none := by
      refine' PySem.W.mg_none_of KX G ?z; (case z => k_is)
    have t_ACTIONS : XM.FD (PySem.Challenge.cw_batchends_k09_bounds_of_sessions_holds.heap_39 w.params) w mg "ACTIONS" Cm.tb_ACTIONS := by
      refine' XM.fd_mk KX G ?g_120 ?l_120 ?k_120 ?d_120; (case g_120 => k_is); (case l_120 => k_is)
      case k_120 => exact ⟨⟨_, _, rfl, rfl⟩, ⟨⟨_, _, rfl, rfl⟩, ⟨⟨_, _, rfl, rfl⟩, ⟨⟨_, _, rfl, rfl⟩, ⟨⟨_, _, rfl, rfl⟩, ⟨⟨_, _, rfl, rfl⟩, trivial⟩⟩⟩⟩⟩⟩
      case d_120 =>
        intro q hq; unfold Cm.tb_ACTIONS at hq; simp only [List.mem_cons, List.not_mem_nil, or_false] at hq
        rcases hq with rfl | rfl | rfl | rfl | rfl | rfl
        · exact ⟨_, by k_is, by k_is⟩
        · exact ⟨_, by k_is, by k_is⟩
        · exact ⟨_, by k_is, by k_is⟩
        · exact ⟨_, by k_is, by k_is⟩
        · exact ⟨_, by k_is, by k_is⟩
        · exact ⟨_, by k_is, by k_is⟩
    have T := P09.Txt.mk i_Portal___init___0 d_is_sign d_has_only_signs d_may_be_prepared d_is_name d_is_text d_is_number d_value_order d_parse_statement d_parameters d_fill_parts d_fill_part d_is_parameter d_split_pieces d_find_form d_parse_part d_parse_name d_parse_text d_parse_number d_make_store d_list_tables d_run_on_store d_create_table d_put_row d_rows_of d_rows_without d_with_rows d_in_order d_row_order i_Session___init___0 i_Session___init___1 m_Session_tables m_Session_run_batch m_Session__go_back m_Session__run_command m_Session__prepare m_Session__bind m_Session__forget m_Session__close m_Session__run m_Session__run_statement m_Session__begin m_Session__commit m_Session__roll_back m_Session__end_transaction m_Session__save m_Session__undo d_law_cell d_law_did d_law_tables_hold d_law_named_hold d_law_portals_hold d_law_saves_hold d_law c_ENDINGS c_GREATEST_NUMBER c_LEAST_NUMBER c_LETTERS c_LONGEST_NAME c_LONGEST_STRING c_LONGEST_TEXT c_MOST_PORTALS c_MOST_ROWS c_MOST_SAVEPOINTS c_MOST_STATEMENTS c_MOST_TABLES c_PARAMETERS c_PERCENT f__base_Session f__portals_Session f__prepared_Session f__savepoints_Session f__state_Session f__store_Session f_ended_Portal f_parts_Portal f_rows_Portal g_FORMS n_all n_int n_isinstance n_len n_list n_max n_min n_ord n_range n_sorted n_str n_tuple n_zip t_ACTIONS
    exact P09.ok_law T
