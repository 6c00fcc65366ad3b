import PyProof.Rows.All
import Wide.All
import OpenK.AllK
import Wide.FinOn
import HandS.ForMost
import HandS.ForExc
import HandS.Walk
import HandS.Codes
import HandS.IsInst
import HandS.Star
import HandS.StrMore
import HandS.RaiseMore
import HandS.FStr
import HandS.Small
import HandS.Deep
import KE.KUnpackStar
import HandS.TupAny
import HandS.Text
import HandS.ExcCtx
import HandS.CallSlots
import HandS.RevRange
import HandS.Strs
import HandS.Defaults
import PyProof.ReprRoads
import KE.GoesZip
import KE.GoesMore
import HandS.Style
import HandS.SortKw
import KE.SortUse
import HandS.NoneIn
import KE.DataCmp
import KE.BitLaws
import HandS.Property
import HandS.MakeKw
import HandS.ExcIs
import HandS.HotCalls
import HandS.Ends
import KE.KStateDown
import HandS.Head0
import HandS.Head1
import HandS.Head2
import PySem.Challenge.RW_batchends_k11_commands_of_clients
set_option Elab.async false
set_option linter.all false
set_option maxRecDepth 100000
section
/-! tools of mine over the layer: a def by its name, pure comprehensions -/
namespace Tl
open PySem PySem.Spec PyProof.Rows L2
/-- the def x stands in the text as st -/
structure Dn (K : PySem.W.Frag) (mg : Str → Option Value) (x : Str) (st : Stmt) (ps : List Str) : Prop where
  ex : ∃ f fd, mg x = some (.ref f) ∧ Fun K x x st f fd ∧ Binds K fd ps []
theorem dn_mk {K : PySem.W.Frag} {h : Heap} {mg : Str → Option Value} {x : Str} {st : Stmt} {ps : List Str} {f : Addr} {oc : Value} {od an : Option Addr} {osl : Array (Option Value)} {kV doc pm cdv ct : Value} (X : K.In h) (G : h.Ns mainGlobals mg)
    (a : PySem.W.nsIn K mainGlobals x = some (some (.ref f))) (l : K.lookup f = some ⟨oc, od, .func (PySem.W.fnOf x x (defArgs st) (defBody st) (defScope st) .none kV doc pm an cdv ct), osl⟩)
    (c : PySem.W.codeIn K cdv x = true) (k : PySem.W.keepIn K (.ref f) = true)
    (b : ∀ (kV doc pm : Value) (an : Option Addr) (cdv ct : Value) (us : List Value), us.length = ps.length → bindArgs (PySem.W.fnOf x x (defArgs st) (defBody st) (defScope st) .none kV doc pm an cdv ct) ⟨us, []⟩ = pure (ps.zip us)) : Dn K mg x st ps := by
  have F := fun_mk l c k
  exact ⟨⟨_, _, PySem.W.mg_of X G a, F, F.binds b⟩⟩
/-- the promise of the def named x -/
structure Pr (P : Program) (w : World) (K : PySem.W.Frag) (mg : Str → Option Value) (base : Heap) (CX : CXT) (k : Nat) (x : Str) (ps : List Str) (sp : Sp) : Prop where
  ex : ∃ f fd, mg x = some (.ref f) ∧ PySem.W.keepIn K (.ref f) = true ∧ Binds K fd ps [] ∧ FnOk P w K mg base CX k f fd ps sp
section
variable {P : Program} {w : World} {K : PySem.W.Frag} {mg : Str → Option Value} {base : Heap}
/-- a def that lets no exception out -/
theorem pr0 {x : Str} {st : Stmt} {N ps : List Str} {k : Nat} {sp : Sp} (D : Dn K mg x st ps) (S : FnScope N ps (defScope st)) (len : ∀ vs H Q E, sp vs H Q E → vs.length = ps.length)
    (hbody : ∀ (f : Addr) (cdv : Value) (A : Around) (outer : List Env) (s : Shared) (H : Hp) (vs : List V) (Q : VK) (E : XK), Room k (A.deeper (envOfC x (defScope st) s.heap.objs.size f cdv)) → sp vs H Q E →
      ∃ t, PSs (cxOf CX0 P w K mg base N x (defScope st) f cdv A outer s H E).nox (defBody st) t ∧ t { nx := fun _ H' => Q .non H', rt := Q } (start N vs) H) : Pr P w K mg base CX0 (k + 1) x ps sp := by
  obtain ⟨f, fd, hm, F, b⟩ := D.ex
  exact ⟨f, fd, hm, F.kp, b, F.ok S len (hbody f)⟩
end
/-! ### heaps -/
theorem same_upd {H : Hp} {p : Addr} {o : HO} (h : H p = none) : Same H (upd H p o) := fun b x e => by
  rw [upd_ne (ne_of_none e h)]
  exact e
/-- what is new behind H1 may change: a store at an address that was free -/
theorem same_put {H H' : Hp} {p : Addr} {o : HO} (h : H p = none) (s : Same H H') : Same H (upd H' p o) := fun b x e => by
  rw [upd_ne (ne_of_none e h)]
  exact s b x e
theorem Same.tup {K : PySem.W.Frag} {H H' : Hp} {a : Addr} {xs : List V} (e : Same H H') (h : SqT K H a xs) : SqT K H' a xs := by
  rcases h with (h | ⟨o, h⟩) | h
  · exact .inl (.inl (e _ _ h))
  · exact .inl (.inr ⟨o, e _ _ h⟩)
  · exact .inr h
/-! ### a comprehension whose elements are flat values known before -/
theorem lc_acc {J : It} {n : Nat} {G : Hp → Prop} {Y : Nat → Hp → V → Hp → Prop} (w : Walk J n G Y) {g : TG} {tt : TT} {te : TE} {vs : List Nat} {σ : L2.St} {H1 : Hp} {Qd : Addr → Hp → Prop} (acc : Nat → List V) (h0 : acc 0 = [])
    (hz : ∀ i, i < n → (acc i).length < sizeLine) (hG : ∀ H, Same H1 H → G H)
    (hs : ∀ (i : Nat) (x : V) (H H' : Hp) (R : V → Hp → Prop) (Nn : Hp → Prop), i < n → Same H1 H → Y i H x H' → (∀ z H4, Same H H4 → acc (i + 1) = acc i ++ [z] → R z H4) → (∀ H4, Same H H4 → acc (i + 1) = acc i → Nn H4) →
      g x (wipe σ vs) H' fun σ2 H2 => wipe σ2 vs = wipe σ vs ∧ tt σ2 H2 fun b H3 => if b = true then te σ2 H3 R else Nn H3)
    (hd : ∀ H D, Same H1 H → H1 D = none → H D = some (.lst (acc n)) → Qd D H) :
    ∀ D, H1 D = none → ∃ W : Nat → Nat → Hp → Prop, (∃ m, W 0 m (upd H1 D (.lst []))) ∧ ∀ i m H, W i m H →
      (J.stop i H ∧ Qd D H) ∨ (J.go i H ∧ ∃ Nx : Hp → Prop, (∀ H', Nx H' → ∃ m', m' < m ∧ W (i + 1) m' H') ∧ ∀ x H', J.yld i H x H' → g x (wipe σ vs) H' fun σ2 H2 => wipe σ2 vs = wipe σ vs ∧ tt σ2 H2 fun b H3 =>
        if b = true then te σ2 H3 fun y H4 => ∃ acc, H4 D = some (.lst acc) ∧ acc.length < sizeLine ∧ Nx (upd H4 D (.lst (acc ++ [y]))) else Nx H3) := by
  intro D hD
  refine lc_it (Qd := fun H => Qd D H) w (fun i H => Same H1 H ∧ H D = some (.lst (acc i))) ⟨same_upd hD, by rw [h0]; exact upd_same⟩ (fun i H _ h => hG H h.1) ?_ (fun H h => hd H D h.1 hD h.2)
  intro i x H H' hi hP hY
  obtain ⟨sm, eD⟩ := hP
  refine hs i x H H' _ _ hi sm hY (fun z H4 s4 e => ?_) (fun H4 s4 e => ?_)
  · exact ⟨acc i, s4 _ _ eD, hz i hi, same_put hD (sm.trans s4), by rw [upd_same, e]⟩
  · exact ⟨sm.trans s4, by rw [e]; exact s4 _ _ eD⟩
end Tl
end
section
/-! what a program does, as a function over trees of values: the trees, how they stand in the heap -/
namespace XM
open PySem PySem.Spec PyProof.Rows L2 Tl
abbrev D := PyData
/-- which addresses belong to whom (0 or 1 times) -/
abbrev Ft := Addr → Nat
def zer : Ft := fun _ => 0
def one (a : Addr) : Ft := fun b => if b = a then 1 else 0
def add (F G : Ft) : Ft := fun a => F a + G a
theorem one_self {a : Addr} : one a a = 1 := if_pos rfl
theorem one_ne {a b : Addr} (h : b ≠ a) : one a b = 0 := if_neg h
/-- the heap without what belongs to somebody -/
def hid (P : Ft) (H : Hp) : Hp := fun a => if P a = 0 then H a else none
theorem hid_some {P : Ft} {H : Hp} {a : Addr} {o : HO} (h : hid P H a = some o) : P a = 0 ∧ H a = some o := by
  unfold hid at h
  split at h
  · exact ⟨by assumption, h⟩
  · cases h
theorem hid_at {P : Ft} {H : Hp} {a : Addr} {o : HO} (p : P a = 0) (h : H a = some o) : hid P H a = some o := by
  unfold hid; rw [if_pos p]; exact h
theorem hid_sub {P : Ft} {H : Hp} : Same (hid P H) H := fun _ _ h => (hid_some h).2
theorem hid_mono {P P' : Ft} {H : Hp} (h : ∀ a, P a = 0 → P' a = 0) : Same (hid P H) (hid P' H) := fun a o e => by
  obtain ⟨p, e⟩ := hid_some e
  exact hid_at (h a p) e
def keyD : Key → D
  | .inl i => .int i
  | .inr s => .str s
mutual
/-- data that all may read: tracked lists, tuples, dicts -/
inductive Dq (K : PySem.W.Frag) (H : Hp) : V → D → Prop
  | non : Dq K H .non .none
  | bl (b : Bool) : Dq K H (.bl b) (.bool b)
  | int (i : Int) : Dq K H (.int i) (.int i)
  | str (x : Str) : Dq K H (.str x) (.str x)
  | lst {a : Addr} {xs : List V} {ds : List D} : H a = some (.lst xs) → DqAll K H xs ds → Dq K H (.ref a) (.list ds)
  | tup {a : Addr} {xs : List V} {ds : List D} : SqT K H a xs → DqAll K H xs ds → Dq K H (.ref a) (.tuple ds)
  | dct {a : Addr} {kvs : List (Key × V)} {l : List (Key × D)} : H a = some (.dK kvs) → kvs.map (·.1) = l.map (·.1) → DqAll K H (kvs.map (·.2)) (l.map (·.2)) → Dq K H (.ref a) (.dict (l.map fun p => (keyD p.1, p.2)))
inductive DqAll (K : PySem.W.Frag) (H : Hp) : List V → List D → Prop
  | nil : DqAll K H [] []
  | cons {v : V} {vs : List V} {d : D} {ds : List D} : Dq K H v d → DqAll K H vs ds → DqAll K H (v :: vs) (d :: ds)
end
mutual
theorem Dq_p {K : PySem.W.Frag} {H : Hp} : ∀ {v : V} {d : D}, Dq K H v d → d.canLay0 = true → Dp K H v d
  | _, _, .non, _ => .non
  | _, _, .bl b, _ => .bl b
  | _, _, .int i, _ => .int i
  | _, _, .str x, _ => .str x
  | _, _, .lst h r, c => .lst (.of h) (DqAll_p r (by unfold PyData.canLay0 at c; exact c))
  | _, _, .tup h r, c => .tup h (DqAll_p r (by unfold PyData.canLay0 at c; exact c))
  | _, _, .dct h k r, c => by unfold PyData.canLay0 at c; cases c
theorem DqAll_p {K : PySem.W.Frag} {H : Hp} : ∀ {vs : List V} {ds : List D}, DqAll K H vs ds → PyData.canLayAll0 ds = true → DpAll K H vs ds
  | _, _, .nil, _ => .nil
  | _, _, .cons h r, c => by
    unfold PyData.canLayAll0 at c
    rw [Bool.and_eq_true] at c
    exact .cons (Dq_p h c.1) (DqAll_p r c.2)
end
mutual
theorem Dq_ph {K : PySem.W.Frag} {H : Hp} : ∀ {v : V} {d : D}, Dq K H v d → d.hasDict = false → Dp K H v d
  | _, _, .non, _ => .non
  | _, _, .bl b, _ => .bl b
  | _, _, .int i, _ => .int i
  | _, _, .str x, _ => .str x
  | _, _, .lst h r, c => .lst (.of h) (DqAll_ph r (by unfold PyData.hasDict at c; exact c))
  | _, _, .tup h r, c => .tup h (DqAll_ph r (by unfold PyData.hasDict at c; exact c))
  | _, _, .dct h k r, c => by unfold PyData.hasDict at c; cases c
theorem DqAll_ph {K : PySem.W.Frag} {H : Hp} : ∀ {vs : List V} {ds : List D}, DqAll K H vs ds → PyData.hasDictAll ds = false → DpAll K H vs ds
  | _, _, .nil, _ => .nil
  | _, _, .cons h r, c => by
    unfold PyData.hasDictAll at c
    rw [Bool.or_eq_false_iff] at c
    exact .cons (Dq_ph h c.1) (DqAll_ph r c.2)
end
theorem shaped_can {d : D} (h : SeqAt.shaped d = true) : d.canLay0 = true := by
  unfold SeqAt.shaped at h
  rw [Bool.and_eq_true] at h
  exact h.1
/-- a tree: what belongs to somebody, and the data in it -/
inductive T where
  | dat (d : D)
  | fn (x : Str)
  | dl (l : List D)
  | ol (l : List T)
  | ot (l : List T)
  | dd (l : List (Key × D))
  | od (l : List (Key × T))
  | ins (c : Str) (fs : List (Str × T))
  | gone
  | frz (ns : List Int)
  | hole (i : Nat)
mutual
theorem Dq_same {K : PySem.W.Frag} {H H' : Hp} (s : Same H H') : ∀ {v : V} {d : D}, Dq K H v d → Dq K H' v d
  | _, _, .non => .non
  | _, _, .bl b => .bl b
  | _, _, .int i => .int i
  | _, _, .str x => .str x
  | _, _, .lst h r => .lst (s _ _ h) (DqAll_same s r)
  | _, _, .tup h r => .tup (Tl.Same.tup s h) (DqAll_same s r)
  | _, _, .dct h k r => .dct (s _ _ h) k (DqAll_same s r)
theorem DqAll_same {K : PySem.W.Frag} {H H' : Hp} (s : Same H H') : ∀ {vs : List V} {ds : List D}, DqAll K H vs ds → DqAll K H' vs ds
  | _, _, .nil => .nil
  | _, _, .cons h r => .cons (Dq_same s h) (DqAll_same s r)
end
theorem DqAll_len {K : PySem.W.Frag} {H : Hp} : ∀ {vs : List V} {ds : List D}, DqAll K H vs ds → vs.length = ds.length
  | _, _, .nil => rfl
  | _, _, .cons _ r => by rw [List.length_cons, List.length_cons, DqAll_len r]
theorem DqAll_at {K : PySem.W.Frag} {H : Hp} : ∀ {vs : List V} {ds : List D} {i : Nat} {d : D}, DqAll K H vs ds → ds[i]? = some d → ∃ v, vs[i]? = some v ∧ Dq K H v d
  | _, _, _, _, .nil, h => by simp at h
  | _, _, 0, _, .cons a _, h => by simp at h; subst h; exact ⟨_, rfl, a⟩
  | _, _, i + 1, _, .cons _ r, h => by
    obtain ⟨v, e, q⟩ := DqAll_at (i := i) r (by simpa using h)
    exact ⟨v, by simpa using e, q⟩
theorem DqAll_app {K : PySem.W.Frag} {H : Hp} : ∀ {vs ws : List V} {ds es : List D}, DqAll K H vs ds → DqAll K H ws es → DqAll K H (vs ++ ws) (ds ++ es)
  | _, _, _, _, .nil, s => s
  | _, _, _, _, .cons a r, s => .cons a (DqAll_app r s)
theorem DqAll_take {K : PySem.W.Frag} {H : Hp} : ∀ {vs : List V} {ds : List D} (n : Nat), DqAll K H vs ds → DqAll K H (vs.take n) (ds.take n)
  | _, _, 0, _ => .nil
  | _, _, _ + 1, .nil => .nil
  | _, _, n + 1, .cons a r => .cons a (DqAll_take n r)
theorem DqAll_drop {K : PySem.W.Frag} {H : Hp} : ∀ {vs : List V} {ds : List D} (n : Nat), DqAll K H vs ds → DqAll K H (vs.drop n) (ds.drop n)
  | _, _, 0, r => r
  | _, _, _ + 1, .nil => .nil
  | _, _, n + 1, .cons _ r => DqAll_drop n r
theorem DqAll_set {K : PySem.W.Frag} {H : Hp} {v : V} {d : D} (h : Dq K H v d) : ∀ {vs : List V} {ds : List D} (i : Nat), DqAll K H vs ds → DqAll K H (vs.set i v) (ds.set i d)
  | _, _, _, .nil => .nil
  | _, _, 0, .cons _ r => .cons h r
  | _, _, i + 1, .cons a r => .cons a (DqAll_set h i r)
/-- the module's names, and the values at holes -/
structure Mg where
  g : Str → Option Value
  η : Nat → V
mutual
/-- how a tree stands: G is what all may read -/
inductive TR (K : PySem.W.Frag) (mg : Mg) (G H : Hp) : T → V → Ft → Prop
  | dat {d : D} {v : V} : Dq K G v d → TR K mg G H (.dat d) v zer
  | fn {x : Str} {f : Addr} : mg.g x = some (.ref f) → TR K mg G H (.fn x) (.ref f) zer
  | dl {a : Addr} {vs : List V} {l : List D} : H a = some (.lst vs) → DqAll K G vs l → TR K mg G H (.dl l) (.ref a) (one a)
  | ol {a : Addr} {vs : List V} {l : List T} {F : Ft} : H a = some (.lst vs) → TRs K mg G H l vs F → TR K mg G H (.ol l) (.ref a) (add (one a) F)
  | ot {a : Addr} {vs : List V} {l : List T} {F : Ft} : G a = some (.tup vs) → TRs K mg G H l vs F → TR K mg G H (.ot l) (.ref a) F
  | dd {a : Addr} {kvs : List (Key × V)} {l : List (Key × D)} : H a = some (.dK kvs) → kvs.map (·.1) = l.map (·.1) → DqAll K G (kvs.map (·.2)) (l.map (·.2)) → TR K mg G H (.dd l) (.ref a) (one a)
  | od {a : Addr} {kvs : List (Key × V)} {l : List (Key × T)} {F : Ft} : H a = some (.dK kvs) → kvs.map (·.1) = l.map (·.1) → TRs K mg G H (l.map (·.2)) (kvs.map (·.2)) F → TR K mg G H (.od l) (.ref a) (add (one a) F)
  | ins {a C dx : Addr} {fvs : List (Str × V)} {c : Str} {fs : List (Str × T)} {F : Ft} : mg.g c = some (.ref C) → H a = some (.ins C dx fvs) → fvs.map (·.1) = fs.map (·.1) → TRs K mg G H (fs.map (·.2)) (fvs.map (·.2)) F → TR K mg G H (.ins c fs) (.ref a) (add (one a) F)
  | gone {v : V} : TR K mg G H .gone v zer
  | hole {i : Nat} : TR K mg G H (.hole i) (mg.η i) zer
  | frz {a : Addr} {ns : List Int} : SqL K G a (ns.map V.int) → TR K mg G H (.frz ns) (.ref a) zer
inductive TRs (K : PySem.W.Frag) (mg : Mg) (G H : Hp) : List T → List V → Ft → Prop
  | nil : TRs K mg G H [] [] zer
  | cons {t : T} {v : V} {F : Ft} {ts : List T} {vs : List V} {F' : Ft} : TR K mg G H t v F → TRs K mg G H ts vs F' → TRs K mg G H (t :: ts) (v :: vs) (add F F')
end
section
variable {K : PySem.W.Frag} {mm : Mg} {G G' H H' : Hp}
theorem add_l {F F' : Ft} {a : Addr} (h : F a ≠ 0) : add F F' a ≠ 0 := by unfold add; omega
theorem add_r {F F' : Ft} {a : Addr} (h : F' a ≠ 0) : add F F' a ≠ 0 := by unfold add; omega
theorem one_at {a : Addr} : one a a ≠ 0 := by rw [one_self]; decide
mutual
theorem TR.step (s : Same G G') : ∀ {t : T} {v : V} {F : Ft}, TR K mm G H t v F → (∀ a, F a ≠ 0 → H' a = H a) → TR K mm G' H' t v F
  | _, _, _, .dat h, _ => .dat (Dq_same s h)
  | _, _, _, .fn h, _ => .fn h
  | _, _, _, .dl h r, q => .dl (by rw [q _ one_at]; exact h) (DqAll_same s r)
  | _, _, _, .ol h r, q => .ol (by rw [q _ (add_l one_at)]; exact h) (TRs.step s r fun a z => q a (add_r z))
  | _, _, _, .ot h r, q => .ot (s _ _ h) (TRs.step s r q)
  | _, _, _, .dd h k r, q => .dd (by rw [q _ one_at]; exact h) k (DqAll_same s r)
  | _, _, _, .od h k r, q => .od (by rw [q _ (add_l one_at)]; exact h) k (TRs.step s r fun a z => q a (add_r z))
  | _, _, _, .ins c h k r, q => .ins c (by rw [q _ (add_l one_at)]; exact h) k (TRs.step s r fun a z => q a (add_r z))
  | _, _, _, .gone, _ => .gone
  | _, _, _, .hole, _ => .hole
  | _, _, _, .frz h, _ => .frz (s.seq h)
theorem TRs.step (s : Same G G') : ∀ {ts : List T} {vs : List V} {F : Ft}, TRs K mm G H ts vs F → (∀ a, F a ≠ 0 → H' a = H a) → TRs K mm G' H' ts vs F
  | _, _, _, .nil, _ => .nil
  | _, _, _, .cons h r, q => .cons (TR.step s h fun a z => q a (add_l z)) (TRs.step s r fun a z => q a (add_r z))
end
theorem TRs.len : ∀ {ts : List T} {vs : List V} {F : Ft}, TRs K mm G H ts vs F → ts.length = vs.length
  | _, _, _, .nil => rfl
  | _, _, _, .cons _ r => by rw [List.length_cons, List.length_cons, TRs.len r]
mutual
/-- a tree as data: what is read, what is given away for good -/
def T.view : T → Option D
  | .dat d => some d
  | .dl l => some (.list l)
  | .ol l => (viewAll l).map .list
  | .ot l => (viewAll l).map .tuple
  | .dd l => some (.dict (l.map fun p => (keyD p.1, p.2)))
  | _ => none
def viewAll : List T → Option (List D)
  | [] => some []
  | t :: ts => match t.view, viewAll ts with
    | some d, some ds => some (d :: ds)
    | _, _ => none
end
mutual
theorem TR.view (s : Same G G') : ∀ {t : T} {v : V} {F : Ft} {d : D}, TR K mm G H t v F → (∀ a o, F a ≠ 0 → H a = some o → G' a = some o) → t.view = some d → Dq K G' v d
  | _, _, _, _, .dat h, _, e => by unfold T.view at e; cases e; exact Dq_same s h
  | _, _, _, _, .dl h r, q, e => by unfold T.view at e; cases e; exact .lst (q _ _ one_at h) (DqAll_same s r)
  | _, _, _, _, .ol (l := l) h r, q, e => by
    unfold T.view at e
    cases e1 : viewAll l with
    | none => rw [e1] at e; cases e
    | some ds => rw [e1] at e; cases e; exact .lst (q _ _ (add_l one_at) h) (TRs.view s r (fun a o z => q a o (add_r z)) e1)
  | _, _, _, _, .ot (l := l) h r, q, e => by
    unfold T.view at e
    cases e1 : viewAll l with
    | none => rw [e1] at e; cases e
    | some ds => rw [e1] at e; cases e; exact .tup (.of (s _ _ h)) (TRs.view s r q e1)
  | _, _, _, _, .fn _, _, e => by unfold T.view at e; cases e
  | _, _, _, _, .dd h k r, q, e => by unfold T.view at e; cases e; exact .dct (q _ _ one_at h) k (DqAll_same s r)
  | _, _, _, _, .od _ _ _, _, e => by unfold T.view at e; cases e
  | _, _, _, _, .ins _ _ _ _, _, e => by unfold T.view at e; cases e
  | _, _, _, _, .gone, _, e => by unfold T.view at e; cases e
  | _, _, _, _, .frz _, _, e => by unfold T.view at e; cases e
theorem TRs.view (s : Same G G') : ∀ {ts : List T} {vs : List V} {F : Ft} {ds : List D}, TRs K mm G H ts vs F → (∀ a o, F a ≠ 0 → H a = some o → G' a = some o) → viewAll ts = some ds → DqAll K G' vs ds
  | _, _, _, _, .nil, _, e => by unfold viewAll at e; cases e; exact .nil
  | _, _, _, _, .cons (t := t) (ts := ts) h r, q, e => by
    unfold viewAll at e
    cases e1 : t.view with
    | none => rw [e1] at e; cases e
    | some d =>
      cases e2 : viewAll ts with
      | none => rw [e1, e2] at e; cases e
      | some ds => rw [e1, e2] at e; cases e; exact .cons (TR.view s h (fun a o z => q a o (add_l z)) e1) (TRs.view s r (fun a o z => q a o (add_r z)) e2)
end
/-! ### children -/
inductive Pl where
  | fld (f : Str) | idx (n : Nat) | key (k : Key)
  deriving DecidableEq
/-- the first pair with this key gets another value -/
def putA {κ β : Type} [DecidableEq κ] (k : κ) (x : β) : List (κ × β) → List (κ × β)
  | [] => []
  | p :: r => if p.1 = k then (p.1, x) :: r else p :: putA k x r
def getA {κ β : Type} [DecidableEq κ] (k : κ) : List (κ × β) → Option β
  | [] => none
  | p :: r => if p.1 = k then some p.2 else getA k r
def getc : Pl → T → Option T
  | .fld f, .ins _ fs => getA f fs
  | .idx n, .ol l => l[n]?
  | .idx n, .ot l => l[n]?
  | .key k, .od l => getA k l
  | _, _ => none
def setc (s : T) : Pl → T → T
  | .fld f, .ins c fs => .ins c (putA f s fs)
  | .idx n, .ol l => .ol (l.set n s)
  | .idx n, .ot l => .ot (l.set n s)
  | .key k, .od l => .od (putA k s l)
  | _, t => t
def chO : Pl → HO → Option V
  | .fld f, .ins _ _ fvs => getA f fvs
  | .idx n, .lst vs => vs[n]?
  | .idx n, .tup vs => vs[n]?
  | .key k, .dK kvs => getA k kvs
  | _, _ => none
def chAt (H : Hp) (v : V) (p : Pl) : Option V := match v with
  | .ref a => (H a).bind (chO p)
  | _ => none
theorem TRs.nth : ∀ {ts : List T} {vs : List V} {F : Ft} {n : Nat} {c : T}, TRs K mm G H ts vs F → ts[n]? = some c → ∃ vc Fc Fr, vs[n]? = some vc ∧ TR K mm G H c vc Fc ∧ F = add Fr Fc ∧ ∀ s Fs, TR K mm G H s vc Fs → TRs K mm G H (ts.set n s) vs (add Fr Fs)
  | _, _, _, _, _, .nil, h => by simp at h
  | _, _, _, 0, c, .cons (F := F1) (F' := F2) a r, h => by
    simp at h; subst h
    refine ⟨_, F1, F2, rfl, a, by funext x; show F1 x + F2 x = F2 x + F1 x; omega, fun s Fs hs => ?_⟩
    have e : add F2 Fs = add Fs F2 := by funext x; show F2 x + Fs x = Fs x + F2 x; omega
    rw [e]
    exact .cons hs r
  | _, _, _, n + 1, c, .cons (F := F1) (F' := F2) a r, h => by
    obtain ⟨vc, Fc, Fr, e1, e2, e3, k⟩ := TRs.nth (n := n) r (by simpa using h)
    refine ⟨vc, Fc, add F1 Fr, by simpa using e1, e2, by subst e3; funext x; show F1 x + (Fr x + Fc x) = (F1 x + Fr x) + Fc x; omega, fun s Fs hs => ?_⟩
    have e : add (add F1 Fr) Fs = add F1 (add Fr Fs) := by funext x; show F1 x + Fr x + Fs x = F1 x + (Fr x + Fs x); omega
    rw [e]
    exact .cons a (k s Fs hs)
theorem TRs.byKey {κ : Type} [DecidableEq κ] : ∀ {fs : List (κ × T)} {fvs : List (κ × V)} {F : Ft} {f : κ} {c : T}, fvs.map (·.1) = fs.map (·.1) → TRs K mm G H (fs.map (·.2)) (fvs.map (·.2)) F → getA f fs = some c →
    ∃ vc Fc Fr, getA f fvs = some vc ∧ TR K mm G H c vc Fc ∧ F = add Fr Fc ∧ ∀ s Fs, TR K mm G H s vc Fs → fvs.map (·.1) = (putA f s fs).map (·.1) ∧ TRs K mm G H ((putA f s fs).map (·.2)) (fvs.map (·.2)) (add Fr Fs)
  | [], _, _, _, _, _, _, h => by cases h
  | p :: fs, [], _, _, _, e, _, _ => by simp at e
  | p :: fs, q :: fvs, F, f, c, e, r, h => by
    obtain ⟨e1, e2⟩ : q.1 = p.1 ∧ fvs.map (·.1) = fs.map (·.1) := by simpa using e
    cases r with
    | cons a r =>
      rename_i F1 F2
      unfold getA at h ⊢
      by_cases z : p.1 = f
      · rw [if_pos z] at h
        rw [if_pos (e1.trans z)]
        cases h
        refine ⟨_, F1, F2, rfl, a, by funext x; show F1 x + F2 x = F2 x + F1 x; omega, fun s Fs hs => ?_⟩
        have e : add F2 Fs = add Fs F2 := by funext x; show F2 x + Fs x = Fs x + F2 x; omega
        rw [e]
        unfold putA
        rw [if_pos z]
        exact ⟨by simp [e1, e2], .cons hs r⟩
      · rw [if_neg z] at h
        rw [if_neg (by rw [e1]; exact z)]
        obtain ⟨vc, Fc, Fr, g1, g2, g3, k⟩ := TRs.byKey e2 r h
        refine ⟨vc, Fc, add F1 Fr, g1, g2, by subst g3; funext x; show F1 x + (Fr x + Fc x) = (F1 x + Fr x) + Fc x; omega, fun s Fs hs => ?_⟩
        have e : add (add F1 Fr) Fs = add F1 (add Fr Fs) := by funext x; show F1 x + Fr x + Fs x = F1 x + (Fr x + Fs x); omega
        rw [e]
        unfold putA
        rw [if_neg z]
        obtain ⟨k1, k2⟩ := k s Fs hs
        exact ⟨by simp [e1, k1], .cons a k2⟩
/-- a child of a tree, and another one in its place -/
theorem TR.child (sG : Same G H) {t : T} {v : V} {F : Ft} {p : Pl} {c : T} (h : TR K mm G H t v F) (g : getc p t = some c) : ∃ vc Fc Fr, chAt H v p = some vc ∧ TR K mm G H c vc Fc ∧ F = add Fr Fc ∧ ∀ s Fs, TR K mm G H s vc Fs → TR K mm G H (setc s p t) v (add Fr Fs) := by
  have as : ∀ {F1 F2 F3 : Ft}, add (add F1 F2) F3 = add F1 (add F2 F3) := by intro F1 F2 F3; funext x; show F1 x + F2 x + F3 x = F1 x + (F2 x + F3 x); omega
  cases h with
  | dat _ => cases p <;> cases g
  | fn _ => cases p <;> cases g
  | dl _ _ => cases p <;> cases g
  | dd _ _ _ => cases p <;> cases g
  | gone => cases p <;> cases g
  | hole => cases p <;> cases g
  | frz _ => cases p <;> cases g
  | ol ha r =>
    cases p with
    | idx n =>
      obtain ⟨vc, Fc, Fr, e1, e2, e3, k⟩ := TRs.nth r g
      exact ⟨vc, Fc, add (one _) Fr, by simp [chAt, ha, chO, e1], e2, by rw [e3, as], fun s Fs hs => by rw [as]; exact .ol ha (k s Fs hs)⟩
    | fld _ => cases g
    | key _ => cases g
  | ot ha r =>
    cases p with
    | idx n =>
      obtain ⟨vc, Fc, Fr, e1, e2, e3, k⟩ := TRs.nth r g
      exact ⟨vc, Fc, Fr, by simp [chAt, sG _ _ ha, chO, e1], e2, e3, fun s Fs hs => .ot ha (k s Fs hs)⟩
    | fld _ => cases g
    | key _ => cases g
  | od ha hk r =>
    cases p with
    | key n =>
      obtain ⟨vc, Fc, Fr, e1, e2, e3, k⟩ := TRs.byKey hk r g
      exact ⟨vc, Fc, add (one _) Fr, by simp [chAt, ha, chO, e1], e2, by rw [e3, as], fun s Fs hs => by rw [as]; exact .od ha (k s Fs hs).1 (k s Fs hs).2⟩
    | fld _ => cases g
    | idx _ => cases g
  | ins hc ha hk r =>
    cases p with
    | fld n =>
      obtain ⟨vc, Fc, Fr, e1, e2, e3, k⟩ := TRs.byKey hk r g
      exact ⟨vc, Fc, add (one _) Fr, by simp [chAt, ha, chO, e1], e2, by rw [e3, as], fun s Fs hs => by rw [as]; exact .ins hc ha (k s Fs hs).1 (k s Fs hs).2⟩
    | key _ => cases g
    | idx _ => cases g
/-- trees with places -/
def T.cont : T → Bool
  | .ol _ | .ot _ | .od _ | .ins _ _ => true
  | _ => false
theorem chAt_keep (s : Same G G') (sG : Same G H) (sG' : Same G' H') {t : T} {v : V} {F : Ft} (h : TR K mm G H t v F) (c : t.cont = true) (q : ∀ a, F a ≠ 0 → H' a = H a) (p : Pl) : chAt H' v p = chAt H v p := by
  cases h with
  | dat _ => cases c
  | fn _ => cases c
  | dl _ _ => cases c
  | dd _ _ _ => cases c
  | gone => cases c
  | hole => cases c
  | frz _ => cases c
  | ol ha r => simp only [chAt]; rw [q _ (add_l one_at)]
  | ot ha r => simp only [chAt]; rw [sG _ _ ha, sG' _ _ (s _ _ ha)]
  | od ha hk r => simp only [chAt]; rw [q _ (add_l one_at)]
  | ins hc ha hk r => simp only [chAt]; rw [q _ (add_l one_at)]
end
end XM
end
section
namespace XM
open PySem PySem.Spec PyProof.Rows L2 Tl
/-! states of a body, what stands for them, runs -/
structure Rt where
  t : T
  par : Option (Nat × Pl)
inductive Sl where
  | un | dat (d : D) | fn (x : Str) | ref (r : Nat)
structure Fr where
  sl : List Sl
  rt : List Rt
  np : Nat := 0
inductive R where
  | dat (d : D) | fn (x : Str) | own (t : T) | ref (r : Nat)
inductive Out (β : Type) where
  | ok (r : β) (ρ : Fr) | ex (c : Str) (ρ : Fr)
abbrev M (β : Type) := Fr → Option (Out β)
def bnd {β γ : Type} (m : M β) (k : β → M γ) : M γ := fun ρ => match m ρ with
  | none => none
  | some (.ex c ρ1) => some (.ex c ρ1)
  | some (.ok r ρ1) => k r ρ1
abbrev Al := List (V × Ft)
def al (A : Al) : Nat → Option V := fun r => (A[r]?).map (·.1)
def sumF : Al → Ft
  | [] => zer
  | x :: xs => add x.2 (sumF xs)
def tot (O : Ft) (A : Al) : Ft := add O (sumF A)
section
variable (K : PySem.W.Frag) (mg : Str → Option Value)
def SlOk (α : Nat → Option V) (G : Hp) (o : Option V) : Sl → Prop
  | .un => True
  | .dat d => ∃ v, o = some v ∧ Dq K G v d
  | .fn x => ∃ f, o = some (.ref f) ∧ mg x = some (.ref f)
  | .ref r => ∃ v, α r = some v ∧ o = some v
/-- the values of the parameters, those at holes -/
structure Bs where
  l : List V
  η : Nat → V
structure StC (B : Bs) (O : Ft) (A : Al) (ρ : Fr) (σ : L2.St) (H : Hp) : Prop where
  le1 : ∀ a, tot O A a ≤ 1
  al : ∀ a, tot O A a ≠ 0 → H a ≠ none
  len : A.length = ρ.rt.length
  rts : ∀ (r : Nat) (x : V × Ft) (t : Rt), A[r]? = some x → ρ.rt[r]? = some t → TR K ⟨mg, B.η⟩ (hid (tot O A) H) H t.t x.1 x.2
  par : ∀ (k j : Nat) (p : Pl) (x xj : Rt) (y z : V × Ft), ρ.rt[k]? = some x → x.par = some (j, p) → ρ.rt[j]? = some xj → xj.t.cont = true → A[k]? = some y → A[j]? = some z → chAt H z.1 p = some y.1
  parL : ∀ (m j : Nat) (p : Pl) (x : Rt), ρ.rt[m]? = some x → x.par = some (j, p) → j < ρ.rt.length
  bas : ∀ r v, B.l[r]? = some v → XM.al A r = some v
  bnp : B.l.length = ρ.np
  slen : σ.length = ρ.sl.length
  sls : ∀ (i : Nat) (s : Sl) (o : Option V), ρ.sl[i]? = some s → σ[i]? = some o → SlOk K mg (XM.al A) (hid (tot O A) H) o s
end
def RR (K : PySem.W.Frag) (mm : Mg) (α : Nat → Option V) (G H : Hp) (v : V) (F : Ft) : R → Prop
  | .dat d => F = zer ∧ Dq K G v d
  | .fn x => F = zer ∧ ∃ f, v = .ref f ∧ mm.g x = some (.ref f)
  | .own t => TR K mm G H t v F
  | .ref r => F = zer ∧ α r = some v
structure Sto (O : Ft) (A : Al) (H : Hp) (O' : Ft) (A' : Al) (H' : Hp) : Prop where
  out : ∀ a, O a ≠ 0 → H' a = H a
  sh : Same (hid (tot O A) H) (hid (tot O' A') H')
structure Stp (O : Ft) (A : Al) (H : Hp) (O' : Ft) (A' : Al) (H' : Hp) : Prop extends Sto O A H O' A' H' where
  al : ∀ r v, al A r = some v → XM.al A' r = some v
theorem Sto.refl {O : Ft} {A : Al} {H : Hp} : Sto O A H O A H := ⟨fun _ _ => rfl, Same.refl _⟩
theorem Sto.trans {O O1 O2 : Ft} {A A1 A2 : Al} {H H1 H2 : Hp} (a : Sto O A H O1 A1 H1) (b : Sto O1 A1 H1 O2 A2 H2) (h : ∀ a, O a ≠ 0 → O1 a ≠ 0) : Sto O A H O2 A2 H2 :=
  ⟨fun c n => (b.out c (h c n)).trans (a.out c n), a.sh.trans b.sh⟩
theorem Stp.refl {O : Ft} {A : Al} {H : Hp} : Stp O A H O A H := ⟨Sto.refl, fun _ _ h => h⟩
theorem Stp.trans {O O1 O2 : Ft} {A A1 A2 : Al} {H H1 H2 : Hp} (a : Stp O A H O1 A1 H1) (b : Stp O1 A1 H1 O2 A2 H2) (h : ∀ a, O a ≠ 0 → O1 a ≠ 0) : Stp O A H O2 A2 H2 :=
  ⟨a.toSto.trans b.toSto h, fun r v e => b.al r v (a.al r v e)⟩
section
variable {K : PySem.W.Frag} {mg : Str → Option Value} {mm : Mg}
/-- what an exception finds: the locals too -/
abbrev EK := L2.St → XK
/-- what must hold behind a run -/
def Aft {β : Type} (K : PySem.W.Frag) (mg : Str → Option Value) (B : Bs) (O : Ft) (A : Al) (σ : L2.St) (H : Hp) (E : EK) (ok : β → Fr → Prop) : Out β → Prop
  | .ok r ρ' => ok r ρ'
  | .ex c ρ' => ∀ C H' A', mg c = some (.ref C) → StC K mg B O A' ρ' σ H' → Sto O A H O A' H' → E σ (.ref C) none H'
def okE (K : PySem.W.Frag) (mg : Str → Option Value) (B : Bs) (O : Ft) (A : Al) (σ : L2.St) (H : Hp) (Q : VK) (r : R) (ρ' : Fr) : Prop :=
  ∀ v H' A' F, StC K mg B (add O F) A' ρ' σ H' → RR K ⟨mg, B.η⟩ (al A') (hid (tot (add O F) A') H') H' v F r → Stp O A H (add O F) A' H' → Q v H'
def okT (K : PySem.W.Frag) (mg : Str → Option Value) (B : Bs) (O : Ft) (A : Al) (σ : L2.St) (H : Hp) (Q : Bool → Hp → Prop) (r : Bool) (ρ' : Fr) : Prop :=
  ∀ H' A', StC K mg B O A' ρ' σ H' → Stp O A H O A' H' → Q r H'
/-- the reading of an expression whose run is m -/
def ERun (K : PySem.W.Frag) (mg : Str → Option Value) (m : M R) (E : EK) : TE := fun σ H Q => ∃ B O A ρ out, StC K mg B O A ρ σ H ∧ m ρ = some out ∧ Aft K mg B O A σ H E (okE K mg B O A σ H Q) out
structure DE (X : Cx) (E : EK) (e : Expr) (m : M R) : Prop where
  pe : PE X e (ERun X.K X.mg m E)
/-- a test -/
def TRun (K : PySem.W.Frag) (mg : Str → Option Value) (m : M Bool) (E : EK) : TT := fun σ H Q => ∃ B O A ρ out, StC K mg B O A ρ σ H ∧ m ρ = some out ∧ Aft K mg B O A σ H E (okT K mg B O A σ H Q) out
structure DT (X : Cx) (E : EK) (e : Expr) (m : M Bool) : Prop where
  pt : PT X e (TRun X.K X.mg m E)
structure DW (X : Cx) (E : EK) (e : Expr) (m : M Bool) : Prop where
  pw : PW X e (TRun X.K X.mg m E)
/-- arguments -/
inductive RRs (K : PySem.W.Frag) (mm : Mg) (α : Nat → Option V) (G H : Hp) : List V → Ft → List R → Prop
  | nil : RRs K mm α G H [] zer []
  | cons {v : V} {F : Ft} {r : R} {vs : List V} {F' : Ft} {rs : List R} : RR K mm α G H v F r → RRs K mm α G H vs F' rs → RRs K mm α G H (v :: vs) (add F F') (r :: rs)
def okA (K : PySem.W.Frag) (mg : Str → Option Value) (B : Bs) (O : Ft) (A : Al) (σ : L2.St) (H : Hp) (Q : List V → Hp → Prop) (rs : List R) (ρ' : Fr) : Prop :=
  ∀ vs H' A' F, StC K mg B (add O F) A' ρ' σ H' → RRs K ⟨mg, B.η⟩ (al A') (hid (tot (add O F) A') H') H' vs F rs → Stp O A H (add O F) A' H' → Q vs H'
def ARun (K : PySem.W.Frag) (mg : Str → Option Value) (m : M (List R)) (E : EK) : TA := fun σ H Q => ∃ B O A ρ out, StC K mg B O A ρ σ H ∧ m ρ = some out ∧ Aft K mg B O A σ H E (okA K mg B O A σ H Q) out
structure DA (X : Cx) (E : EK) (es : List Expr) (m : M (List R)) : Prop where
  pa : PA X es (ARun X.K X.mg m E)
end
/-! ### readings may be weakened -/
theorem pe_imp {X : Cx} {e : Expr} {t t' : TE} (h : PE X e t) (i : ∀ σ H Q, t' σ H Q → t σ H Q) : PE X e t' := ⟨fun pins s σ H Q I q => h.run pins s σ H Q I (i _ _ _ q)⟩
theorem pt_imp {X : Cx} {e : Expr} {t t' : TT} (h : PT X e t) (i : ∀ σ H Q, t' σ H Q → t σ H Q) : PT X e t' := ⟨fun pins s σ H Q I q => h.run pins s σ H Q I (i _ _ _ q)⟩
theorem pw_imp {X : Cx} {e : Expr} {t t' : TT} (h : PW X e t) (i : ∀ σ H Q, t' σ H Q → t σ H Q) : PW X e t' := ⟨fun wh pins s σ H Q I q => h.run wh pins s σ H Q I (i _ _ _ q)⟩
theorem pa_imp {X : Cx} {es : List Expr} {t t' : TA} (h : PA X es t) (i : ∀ σ H Q, t' σ H Q → t σ H Q) : PA X es t' := ⟨fun pos pins s σ H Q I q => h.run pos pins s σ H Q I (i _ _ _ q)⟩
/-! ### the state -/
section
variable {K : PySem.W.Frag} {mg : Str → Option Value} {mm : Mg} {B : Bs} {O O' : Ft} {A A' : Al} {ρ : Fr} {σ : L2.St} {H H' : Hp} {E : EK}
theorem sumF_at : ∀ {A : Al} {r : Nat} {x : V × Ft} (a : Addr), A[r]? = some x → x.2 a ≤ sumF A a
  | [], _, _, _, h => by simp at h
  | y :: ys, 0, x, a, h => by simp at h; subst h; show y.2 a ≤ y.2 a + sumF ys a; omega
  | y :: ys, r + 1, x, a, h => by
    have := sumF_at (A := ys) (r := r) a (by simpa using h)
    show x.2 a ≤ y.2 a + sumF ys a
    omega
/-- the same roots, elsewhere -/
theorem StC.move (S : StC K mg B O A ρ σ H) (s : Same (hid (tot O A) H) (hid (tot O' A) H')) (k : ∀ a, sumF A a ≠ 0 → H' a = H a) (l : ∀ a, tot O' A a ≤ 1) (n : ∀ a, tot O' A a ≠ 0 → H' a ≠ none) : StC K mg B O' A ρ σ H' where
  le1 := l
  al := n
  len := S.len
  rts := fun r x t hx ht => (S.rts r x t hx ht).step s fun a z => k a (by have := sumF_at a hx; omega)
  par := fun k' j p x xj y z h1 h2 h3 h4 h5 h6 => by
    rw [chAt_keep s hid_sub hid_sub (S.rts j z xj h6 h3) h4 (fun a n => k a (by have := sumF_at a h6; omega)) p]
    exact S.par k' j p x xj y z h1 h2 h3 h4 h5 h6
  parL := S.parL
  bas := S.bas
  bnp := S.bnp
  slen := S.slen
  sls := fun i sl o h1 h2 => by
    have := S.sls i sl o h1 h2
    cases sl with
    | un => exact trivial
    | dat d => obtain ⟨v, e, h⟩ := this; exact ⟨v, e, Dq_same s h⟩
    | fn x => exact this
    | ref r => exact this
theorem hid_weak (h : ∀ a, O' a ≤ O a) : Same (hid (tot O A) H) (hid (tot O' A) H) := hid_mono fun a z => by unfold tot add at *; have := h a; omega
theorem StC.weak (S : StC K mg B O A ρ σ H) (h : ∀ a, O' a ≤ O a) : StC K mg B O' A ρ σ H :=
  S.move (hid_weak h) (fun _ _ => rfl) (fun a => by have := S.le1 a; have := h a; unfold tot add at *; omega) (fun a z => S.al a (by have := h a; unfold tot add at *; omega))
theorem StC.free (S : StC K mg B O A ρ σ H) {p : Addr} (np : H p = none) : tot O A p = 0 := by
  cases e : tot O A p with
  | zero => rfl
  | succ n => exact absurd np (S.al p (by rw [e]; simp))
/-- a new object that all may read -/
theorem StC.newS (S : StC K mg B O A ρ σ H) {p : Addr} {o : HO} (np : H p = none) : StC K mg B O A ρ σ (upd H p o) ∧ Stp O A H O A (upd H p o) ∧ (hid (tot O A) (upd H p o)) p = some o := by
  have z := S.free np
  have sh : Same (hid (tot O A) H) (hid (tot O A) (upd H p o)) := fun a u h => by
    obtain ⟨q, h⟩ := hid_some h
    exact hid_at q (by rw [upd_ne (ne_of_none h np)]; exact h)
  have k : ∀ a, tot O A a ≠ 0 → upd H p o a = H a := fun a n => upd_ne (fun e => n (by rw [e]; exact z))
  refine ⟨S.move sh (fun a n => k a (by unfold tot add; omega)) S.le1 (fun a n => by rw [k a n]; exact S.al a n), ⟨⟨fun a n => k a (by unfold tot add; omega), sh⟩, fun _ _ h => h⟩, hid_at z upd_same⟩
/-- a new object that belongs to its maker -/
theorem StC.newO (S : StC K mg B O A ρ σ H) {p : Addr} {o : HO} (np : H p = none) : StC K mg B (add O (one p)) A ρ σ (upd H p o) ∧ Stp O A H (add O (one p)) A (upd H p o) := by
  have z := S.free np
  have sh : Same (hid (tot O A) H) (hid (tot (add O (one p)) A) (upd H p o)) := fun a u h => by
    obtain ⟨q, h⟩ := hid_some h
    have ne := ne_of_none h np
    refine hid_at ?_ (by rw [upd_ne ne]; exact h)
    unfold tot add at *
    rw [one_ne ne]; omega
  have k : ∀ a, tot O A a ≠ 0 → upd H p o a = H a := fun a n => upd_ne (fun e => n (by rw [e]; exact z))
  refine ⟨S.move sh (fun a n => k a (by unfold tot add; omega)) (fun a => ?_) (fun a n => ?_), ⟨⟨fun a n => k a (by unfold tot add; omega), sh⟩, fun _ _ h => h⟩⟩
  · by_cases e : a = p
    · subst e
      unfold tot add at *
      rw [one_self]; omega
    · have := S.le1 a
      unfold tot add at *
      rw [one_ne e]; omega
  · by_cases e : a = p
    · subst e; rw [upd_same]; simp
    · rw [upd_ne e]
      refine S.al a ?_
      unfold tot add at *
      rw [one_ne e] at n; omega
theorem RR.step {F : Ft} {r : R} {v : V} {O1 O2 : Ft} (h : RR K mm (al A) (hid (tot O1 A) H) H v F r) (s : Stp O1 A H O2 A' H') (hf : ∀ a, F a ≠ 0 → O1 a ≠ 0) : RR K mm (al A') (hid (tot O2 A') H') H' v F r := by
  cases r with
  | dat d => exact ⟨h.1, Dq_same s.sh h.2⟩
  | fn x => exact h
  | own t => exact TR.step s.sh h fun a n => s.out a (hf a n)
  | ref r => exact ⟨h.1, s.al _ _ h.2⟩
theorem RRs.step {O1 O2 : Ft} (s : Stp O1 A H O2 A' H') : ∀ {vs : List V} {F : Ft} {rs : List R}, RRs K mm (al A) (hid (tot O1 A) H) H vs F rs → (∀ a, F a ≠ 0 → O1 a ≠ 0) → RRs K mm (al A') (hid (tot O2 A') H') H' vs F rs
  | _, _, _, .nil, _ => .nil
  | _, _, _, .cons h r, q => .cons (h.step s fun a z => q a (add_l z)) (RRs.step s r fun a z => q a (add_r z))
/-- what is pending may be forgotten -/
theorem Stp.weak {O1 : Ft} (s : Stp O A H O1 A' H') (h : ∀ a, O' a ≤ O1 a) : Stp O A H O' A' H' := ⟨⟨s.out, s.sh.trans (hid_weak h)⟩, s.al⟩
theorem Sto.weak {O1 : Ft} (s : Sto O A H O1 A' H') (h : ∀ a, O' a ≤ O1 a) : Sto O A H O' A' H' := ⟨s.out, s.sh.trans (hid_weak h)⟩
/-! ### views -/
def vw : R → Fr → Option D
  | .dat d, _ => some d
  | .own t, _ => t.view
  | .ref r, ρ => (ρ.rt[r]?).bind fun t => t.t.view
  | .fn _, _ => none
theorem StC.root (S : StC K mg B O A ρ σ H) {r : Nat} {t : Rt} {v : V} (h : ρ.rt[r]? = some t) (a : XM.al A r = some v) : ∃ F, A[r]? = some (v, F) ∧ TR K ⟨mg, B.η⟩ (hid (tot O A) H) H t.t v F := by
  unfold XM.al at a
  cases e : A[r]? with
  | none => rw [e] at a; cases a
  | some x =>
    rw [e] at a
    cases Option.some.inj a
    exact ⟨x.2, rfl, S.rts r x t e h⟩
theorem StC.view (S : StC K mg B O A ρ σ H) {r : R} {v : V} {F : Ft} {d : D} (h : RR K ⟨mg, B.η⟩ (XM.al A) (hid (tot O A) H) H v F r) (e : vw r ρ = some d) : Dq K H v d := by
  cases r with
  | dat d' => cases e; exact Dq_same hid_sub h.2
  | fn x => cases e
  | own t => exact TR.view hid_sub h (fun _ _ _ z => z) e
  | ref r =>
    simp only [vw] at e
    cases e1 : ρ.rt[r]? with
    | none => rw [e1] at e; cases e
    | some t =>
      rw [e1] at e
      obtain ⟨F', _, h'⟩ := S.root e1 h.2
      exact TR.view hid_sub h' (fun _ _ _ z => z) e
end
end XM
end
section
namespace XM
open PySem PySem.Spec PyProof.Rows L2 Tl
section
variable {K : PySem.W.Frag} {mg : Str → Option Value} {mm : Mg} {B : Bs} {O O' : Ft} {A A1 : Al} {ρ : Fr} {σ : L2.St} {H H1 : Hp} {E : EK} {β : Type}
/-- what an exception's way asks -/
def Exc (K : PySem.W.Frag) (mg : Str → Option Value) (B : Bs) (O : Ft) (A : Al) (σ : L2.St) (H : Hp) (E : EK) (out : Out β) : Prop :=
  ∀ c ρ', out = .ex c ρ' → ∀ C H' A', mg c = some (.ref C) → StC K mg B O A' ρ' σ H' → Sto O A H O A' H' → E σ (.ref C) none H'
theorem Aft.exc {ok : β → Fr → Prop} {out : Out β} (h : Aft K mg B O A σ H E ok out) : Exc K mg B O A σ H E out := fun c ρ' e => by subst e; exact h
theorem Aft.oks {ok : β → Fr → Prop} {r : β} {ρ' : Fr} (h : Aft K mg B O A σ H E ok (.ok r ρ')) : ok r ρ' := h
theorem zer_add {F : Ft} : add zer F = F := by funext a; show 0 + F a = F a; omega
theorem add_zer {F : Ft} : add F zer = F := by funext a; show F a + 0 = F a; omega
theorem add_assoc {F F1 F2 : Ft} : add (add F F1) F2 = add F (add F1 F2) := by funext a; show F a + F1 a + F2 a = F a + (F1 a + F2 a); omega
theorem le_add {F F1 : Ft} (a : Addr) : F a ≤ add F F1 a := by unfold add; omega
theorem Exc.later {out : Out β} {O1 : Ft} (h : Exc K mg B O A σ H E out) (s : Sto O A H O1 A1 H1) (le : ∀ a, O a ≤ O1 a) : Exc K mg B O1 A1 σ H1 E out := fun c ρ' e C H' A' hc S st =>
  h c ρ' e C H' A' hc (S.weak le) ((s.trans st (fun a n => by have := le a; omega)).weak le)
theorem aft_of {ok : β → Fr → Prop} {out : Out β} (h : Exc K mg B O A σ H E out) (k : ∀ r ρ', out = .ok r ρ' → ok r ρ') : Aft K mg B O A σ H E ok out := by
  cases out with
  | ok r ρ' => exact k r ρ' rfl
  | ex c ρ' => exact h c ρ' rfl
theorem bnd_some {γ : Type} {m : M β} {k : β → M γ} {out : Out γ} (h : bnd m k ρ = some out) : (∃ c ρ1, m ρ = some (.ex c ρ1) ∧ out = .ex c ρ1) ∨ ∃ r ρ1, m ρ = some (.ok r ρ1) ∧ k r ρ1 = some out := by
  unfold bnd at h
  split at h
  · cases h
  · rename_i c ρ1 e; exact .inl ⟨c, ρ1, e, (Option.some.inj h).symm⟩
  · rename_i r ρ1 e; exact .inr ⟨r, ρ1, e, h⟩
/-- an expression, then the rest -/
theorem run_bnd {γ : Type} {m : M R} {k : R → M γ} {out : Out γ} {Q : VK} (S : StC K mg B O A ρ σ H) (h : bnd m k ρ = some out) (x : Exc K mg B O A σ H E out)
    (c : ∀ r ρ1 v H1 A1 F, k r ρ1 = some out → StC K mg B (add O F) A1 ρ1 σ H1 → RR K ⟨mg, B.η⟩ (al A1) (hid (tot (add O F) A1) H1) H1 v F r → Stp O A H (add O F) A1 H1 → Exc K mg B (add O F) A1 σ H1 E out → Q v H1) : ERun K mg m E σ H Q := by
  rcases bnd_some h with ⟨c', ρ1, e, eo⟩ | ⟨r, ρ1, e, hk⟩
  · exact ⟨B, O, A, ρ, _, S, e, fun C H' A' hc S' st => x c' ρ1 eo C H' A' hc S' st⟩
  · exact ⟨B, O, A, ρ, _, S, e, fun v H1 A1 F S1 rr st => c r ρ1 v H1 A1 F hk S1 rr st (x.later st.toSto fun a => le_add a)⟩
theorem run_bndT {γ : Type} {m : M Bool} {k : Bool → M γ} {out : Out γ} {Q : Bool → Hp → Prop} (S : StC K mg B O A ρ σ H) (h : bnd m k ρ = some out) (x : Exc K mg B O A σ H E out)
    (c : ∀ r ρ1 H1 A1, k r ρ1 = some out → StC K mg B O A1 ρ1 σ H1 → Stp O A H O A1 H1 → Exc K mg B O A1 σ H1 E out → Q r H1) : TRun K mg m E σ H Q := by
  rcases bnd_some h with ⟨c', ρ1, e, eo⟩ | ⟨r, ρ1, e, hk⟩
  · exact ⟨B, O, A, ρ, _, S, e, fun C H' A' hc S' st => x c' ρ1 eo C H' A' hc S' st⟩
  · exact ⟨B, O, A, ρ, _, S, e, fun H1 A1 S1 st => c r ρ1 H1 A1 hk S1 st (x.later st.toSto fun a => Nat.le_refl _)⟩
theorem run_bndA {γ : Type} {m : M (List R)} {k : List R → M γ} {out : Out γ} {Q : List V → Hp → Prop} (S : StC K mg B O A ρ σ H) (h : bnd m k ρ = some out) (x : Exc K mg B O A σ H E out)
    (c : ∀ r ρ1 v H1 A1 F, k r ρ1 = some out → StC K mg B (add O F) A1 ρ1 σ H1 → RRs K ⟨mg, B.η⟩ (al A1) (hid (tot (add O F) A1) H1) H1 v F r → Stp O A H (add O F) A1 H1 → Exc K mg B (add O F) A1 σ H1 E out → Q v H1) : ARun K mg m E σ H Q := by
  rcases bnd_some h with ⟨c', ρ1, e, eo⟩ | ⟨r, ρ1, e, hk⟩
  · exact ⟨B, O, A, ρ, _, S, e, fun C H' A' hc S' st => x c' ρ1 eo C H' A' hc S' st⟩
  · exact ⟨B, O, A, ρ, _, S, e, fun v H1 A1 F S1 rr st => c r ρ1 v H1 A1 F hk S1 rr st (x.later st.toSto fun a => le_add a)⟩
/-- the end of an expression: data in the heap as it is -/
theorem fin_dat {Q : VK} {d : D} {ρ' : Fr} {v : V} {O1 : Ft} (k : okE K mg B O A σ H Q (.dat d) ρ') (S : StC K mg B O1 A1 ρ' σ H1) (le : ∀ a, O a ≤ O1 a) (st : Stp O A H O1 A1 H1) (h : Dq K (hid (tot O A1) H1) v d) : Q v H1 := by
  have S' : StC K mg B (add O zer) A1 ρ' σ H1 := by rw [add_zer]; exact S.weak le
  exact k v H1 A1 zer S' ⟨rfl, by rw [add_zer]; exact h⟩ (by rw [add_zer]; exact st.weak le)
def atomD : D → Bool
  | .none | .bool _ | .int _ | .str _ => true
  | _ => false
theorem atom_any {H' : Hp} {v : V} {d : D} (h : Dq K H v d) (a : atomD d = true) : Dq K H' v d := by
  cases h with
  | non => exact .non
  | bl b => exact .bl b
  | int i => exact .int i
  | str x => exact .str x
  | lst _ _ => cases a
  | tup _ _ => cases a
  | dct _ _ _ => cases a
end
theorem at_len {α γ : Type} {l : List α} {l' : List γ} {i : Nat} {x : γ} (e : l.length = l'.length) (h : l'[i]? = some x) : ∃ y, l[i]? = some y := by
  obtain ⟨hi, _⟩ := List.getElem?_eq_some_iff.mp h
  exact ⟨_, List.getElem?_eq_getElem (by rw [e]; exact hi)⟩
/-! ### names and constants -/
def mSlot (i : Nat) : M R := fun ρ => match ρ.sl[i]? with
  | some (.dat d) => some (.ok (.dat d) ρ)
  | some (.fn x) => some (.ok (.fn x) ρ)
  | some (.ref r) => match ρ.rt[r]? with
    | some _ => some (.ok (.ref r) ρ)
    | none => none
  | _ => none
def mC (d : D) : M R := fun ρ => some (.ok (.dat d) ρ)
def mF (x : Str) : M R := fun ρ => some (.ok (.fn x) ρ)
section
variable {X : Cx} {E : EK} {e a b : Expr} {pos : Pos}
theorem de_slot {i : Nat} {x : Str} (hN : X.N[i]? = some x) (hv : Vis X.env.scope x) (hd : (x == ("__debug__" : Str)) = false := by decide) (hcd : (x == ("__classdict__" : Str)) = false := by decide) : DE X E (.Name x pos) (mSlot i) := by
  refine ⟨pe_imp (pe_var hN hv hd hcd) fun σ H Q h => ?_⟩
  obtain ⟨B, O, A, ρ, out, S, hm, k⟩ := h
  unfold mSlot at hm
  split at hm
  · rename_i d hs
    obtain rfl := Option.some.inj hm
    obtain ⟨o, hσ⟩ := at_len S.slen hs
    obtain ⟨v, e, h⟩ := S.sls i _ _ hs hσ
    exact ⟨v, by rw [hσ, e], fin_dat k.oks S (fun _ => Nat.le_refl _) Stp.refl h⟩
  · rename_i y hs
    obtain rfl := Option.some.inj hm
    obtain ⟨o, hσ⟩ := at_len S.slen hs
    obtain ⟨f, e, h⟩ := S.sls i _ _ hs hσ
    exact ⟨_, by rw [hσ, e], k.oks _ H A zer (by rw [add_zer]; exact S) ⟨rfl, f, rfl, h⟩ (by rw [add_zer]; exact Stp.refl)⟩
  · rename_i r hs
    split at hm
    · rename_i t ht
      obtain rfl := Option.some.inj hm
      obtain ⟨o, hσ⟩ := at_len S.slen hs
      obtain ⟨v, e1, e⟩ := S.sls i _ _ hs hσ
      exact ⟨_, by rw [hσ, e], k.oks _ H A zer (by rw [add_zer]; exact S) ⟨rfl, e1⟩ (by rw [add_zer]; exact Stp.refl)⟩
    · cases hm
  · cases hm
theorem de_const {v : V} {d : D} (h : PE X e (tC v)) (hd : ∀ K G, Dq K G v d) : DE X E e (mC d) := by
  refine ⟨pe_imp h fun σ H Q h => ?_⟩
  obtain ⟨B, O, A, ρ, out, S, hm, k⟩ := h
  obtain rfl := Option.some.inj hm
  exact fin_dat k.oks S (fun _ => Nat.le_refl _) Stp.refl (hd _ _)
theorem de_int {i : Int} {j pos} : DE X E (.Constant (.int i) j pos) (mC (.int i)) := de_const pe_int fun _ _ => .int i
theorem de_str {x : Str} {j pos} : DE X E (.Constant (.str x) j pos) (mC (.str x)) := de_const pe_str fun _ _ => .str x
theorem de_bl {b : Bool} {j pos} : DE X E (.Constant (.bool b) j pos) (mC (.bool b)) := de_const pe_bl fun _ _ => .bl b
theorem de_non {j pos} : DE X E (.Constant .none j pos) (mC .none) := de_const pe_non fun _ _ => .non
/-- a module's constant -/
def CD (K : PySem.W.Frag) (mg : Str → Option Value) (x : Str) (d : D) : Prop := ∃ u v, mg x = some u ∧ RelV v u ∧ ∀ G, Dq K G v d
theorem de_glob {x : Str} {d : D} (c : CD X.K X.mg x d) (hg : Gl X x) (hd : (x == ("__debug__" : Str)) = false := by decide) : DE X E (.Name x pos) (mC d) := by
  obtain ⟨u, v, hm, r, h⟩ := c
  refine ⟨pe_imp (pe_glob hg hm r hd) fun σ H Q hq => ?_⟩
  obtain ⟨B, O, A, ρ, out, S, hm, k⟩ := hq
  obtain rfl := Option.some.inj hm
  exact fin_dat k.oks S (fun _ => Nat.le_refl _) Stp.refl (h _)
/-! ### operators on data, with an atom as result -/
def OpA (K : PySem.W.Frag) (r : R2) (f : D → D → Option D) : Prop := ∀ (H : Hp) (x y : V) (d e z : D) (Q : VK), Dq K H x d → Dq K H y e → f d e = some z → (∀ v, Dq K H v z → Q v H) → r x y H Q
def mOp (f : D → D → Option D) (ma mb : M R) : M R := bnd ma fun ra => bnd mb fun rb ρ => match vw ra ρ, vw rb ρ with
  | some d, some e => match f d e with
    | some z => if atomD z = true then some (.ok (.dat z) ρ) else none
    | none => none
  | _, _ => none
theorem mOp_ok {f : D → D → Option D} {ra rb : R} {ρ : Fr} {out : Out R} (h : (match vw ra ρ, vw rb ρ with
  | some d, some e => match f d e with
    | some z => if atomD z = true then some (Out.ok (R.dat z) ρ) else none
    | none => none
  | _, _ => none) = some out) : ∃ d e z, vw ra ρ = some d ∧ vw rb ρ = some e ∧ f d e = some z ∧ atomD z = true ∧ out = .ok (.dat z) ρ := by
  split at h
  · rename_i d e h1 h2
    split at h
    · rename_i z h3
      split at h
      · exact ⟨d, e, z, h1, h2, h3, by assumption, (Option.some.inj h).symm⟩
      · cases h
    · cases h
  · cases h
theorem run_op {r : R2} {f : D → D → Option D} {ma mb : M R} {σ : L2.St} {H : Hp} {Q : VK} (hf : OpA X.K r f) (h : ERun X.K X.mg (mOp f ma mb) E σ H Q) : tOp r (ERun X.K X.mg ma E) (ERun X.K X.mg mb E) σ H Q := by
  obtain ⟨B, O, A, ρ, out, S, hm, k⟩ := h
  refine run_bnd S hm k.exc fun ra ρ1 v H1 A1 F hk S1 rr1 st1 x1 => ?_
  refine run_bnd S1 hk x1 fun rb ρ2 w H2 A2 F2 hk2 S2 rr2 st2 x2 => ?_
  obtain ⟨d, e, z, e1, e2, e3, az, rfl⟩ := mOp_ok hk2
  have rr1' := rr1.step st2 (fun a n => add_r n)
  refine hf H2 v w d e z Q (S2.view rr1' e1) (S2.view rr2 e2) e3 fun u hu => ?_
  exact fin_dat k.oks S2 (fun a => by have := le_add (F := O) (F1 := F) a; have := le_add (F := add O F) (F1 := F2) a; omega) (st1.trans st2 fun a n => add_l n) (atom_any hu az)
theorem de_op {op : Operator} {r : R2} {f : D → D → Option D} {ma mb : M R} (ho : OpR X (binaryOp op) r) (hf : OpA X.K r f) (ha : DE X E a ma) (hb : DE X E b mb) : DE X E (.BinOp a op b pos) (mOp f ma mb) :=
  ⟨pe_imp (pe_op ho ha.pe hb.pe) fun _ _ _ h => run_op hf h⟩
theorem de_cmp {op : CmpOp} {r : R2} {f : D → D → Option D} {ma mb : M R} (ho : OpR X (compareOp op) r) (hf : OpA X.K r f) (hm : behindInMarks op b = false) (ha : DE X E a ma) (hb : DE X E b mb) : DE X E (.Compare a [op] [b] pos) (mOp f ma mb) :=
  ⟨pe_imp (pe_cmpR ho ha.pe hb.pe hm) fun _ _ _ h => run_op hf h⟩
/-! ### tests -/
def asB (m : M R) : M Bool := bnd m fun r ρ => match vw r ρ with
  | some (.bool b) => some (.ok b ρ)
  | _ => none
theorem asB_ok {r : R} {ρ : Fr} {out : Out Bool} (h : (match vw r ρ with
  | some (.bool b) => some (Out.ok b ρ)
  | _ => none) = some out) : ∃ b, vw r ρ = some (.bool b) ∧ out = .ok b ρ := by
  split at h
  · exact ⟨_, by assumption, (Option.some.inj h).symm⟩
  · cases h
theorem run_tB {m : M R} {σ : L2.St} {H : Hp} {Q : Bool → Hp → Prop} (h : TRun X.K X.mg (asB m) E σ H Q) : tB (ERun X.K X.mg m E) σ H Q := by
  obtain ⟨B, O, A, ρ, out, S, hm, k⟩ := h
  refine run_bnd S hm k.exc fun r ρ1 v H1 A1 F hk S1 rr1 st1 x1 => ?_
  obtain ⟨b, e1, rfl⟩ := asB_ok hk
  have := S1.view rr1 e1
  cases this
  exact ⟨b, rfl, k.oks H1 A1 (S1.weak fun a => le_add a) (st1.weak fun a => le_add a)⟩
theorem dt_val {m : M R} (h : DE X E e m) (he : ∀ whole, isTrue e X.env whole = (do let v ← whole; standAt e.pos; holding [v] (truthy v)) := by intro _; rfl) : DT X E e (asB m) :=
  ⟨pt_imp (pt_val h.pe he) fun _ _ _ h => run_tB h⟩
theorem dt_cmp {op : CmpOp} {r : R2} {f : D → D → Option D} {ma mb : M R} (ho : OpR X (compareOp op) r) (hf : OpA X.K r f) (hm : behindInMarks op b = false) (ha : DE X E a ma) (hb : DE X E b mb) : DT X E (.Compare a [op] [b] pos) (asB (mOp f ma mb)) := by
  refine ⟨pt_imp (pt_cmpR ho ha.pe hb.pe hm) fun σ H Q h => ?_⟩
  have h' : tB (ERun X.K X.mg (mOp f ma mb) E) σ H Q := run_tB h
  exact run_op hf h'
def mNotT (m : M Bool) : M Bool := bnd m fun b ρ => some (.ok (!b) ρ)
theorem dt_not {m : M Bool} (h : DT X E a m) : DT X E (.UnaryOp .Not a pos) (mNotT m) := by
  refine ⟨pt_imp (pt_not h.pt) fun σ H Q h => ?_⟩
  obtain ⟨B, O, A, ρ, out, S, hm, k⟩ := h
  refine run_bndT S hm k.exc fun b ρ1 H1 A1 hk S1 st1 x1 => ?_
  obtain rfl := Option.some.inj hk
  exact k.oks H1 A1 S1 st1
def mAndT (ma mb : M Bool) : M Bool := bnd ma fun b => if b = true then mb else fun ρ => some (.ok false ρ)
def mOrT (ma mb : M Bool) : M Bool := bnd ma fun b => if b = true then fun ρ => some (.ok true ρ) else mb
theorem TRun.of {m : M Bool} {B : Bs} {O O1 : Ft} {A A1 : Al} {ρ1 : Fr} {σ : L2.St} {H H1 : Hp} {out : Out Bool} {Q : Bool → Hp → Prop} (k : Aft X.K X.mg B O A σ H E (okT X.K X.mg B O A σ H Q) out) (S1 : StC X.K X.mg B O A1 ρ1 σ H1) (st : Stp O A H O A1 H1) (h : m ρ1 = some out) : TRun X.K X.mg m E σ H1 Q :=
  ⟨B, O, A1, ρ1, out, S1, h, aft_of (k.exc.later st.toSto fun _ => Nat.le_refl _) fun r ρ' e H' A' S' st' => by subst e; exact k.oks H' A' S' (st.trans st' fun _ n => n)⟩
theorem dw_and {rest : List Expr} {ma mb : M Bool} (ha : DT X E a ma) (hb : DW X E (.BoolOp .And (b :: rest) pos) mb) : DW X E (.BoolOp .And (a :: b :: rest) pos) (mAndT ma mb) := by
  refine ⟨pw_imp (pw_and ha.pt hb.pw) fun σ H Q h => ?_⟩
  obtain ⟨B, O, A, ρ, out, S, hm, k⟩ := h
  refine run_bndT S hm k.exc fun c ρ1 H1 A1 hk S1 st1 x1 => ?_
  cases c with
  | true => exact TRun.of (O1 := O) k S1 st1 hk
  | false =>
    obtain rfl := Option.some.inj hk
    exact k.oks H1 A1 S1 st1
theorem dw_or {rest : List Expr} {ma mb : M Bool} (ha : DT X E a ma) (hb : DW X E (.BoolOp .Or (b :: rest) pos) mb) : DW X E (.BoolOp .Or (a :: b :: rest) pos) (mOrT ma mb) := by
  refine ⟨pw_imp (pw_or ha.pt hb.pw) fun σ H Q h => ?_⟩
  obtain ⟨B, O, A, ρ, out, S, hm, k⟩ := h
  refine run_bndT S hm k.exc fun c ρ1 H1 A1 hk S1 st1 x1 => ?_
  cases c with
  | false => exact TRun.of (O1 := O) k S1 st1 hk
  | true =>
    obtain rfl := Option.some.inj hk
    exact k.oks H1 A1 S1 st1
theorem dw_and1 {ma : M Bool} (ha : DT X E a ma) : DW X E (.BoolOp .And [a] pos) ma := ⟨pw_and1 ha.pt⟩
theorem dw_or1 {ma : M Bool} (ha : DT X E a ma) : DW X E (.BoolOp .Or [a] pos) ma := ⟨pw_or1 ha.pt⟩
theorem DW.dt {m : M Bool} (h : DW X E e m) : DT X E e m := ⟨h.pw.pt⟩
end
end XM
end
section
namespace XM
open PySem PySem.Spec PyProof.Rows L2 Tl
section
variable {K : PySem.W.Frag} {mg : Str → Option Value} {mm : Mg} {B : Bs} {O O' : Ft} {A A' A1 : Al} {ρ ρ1 : Fr} {σ : L2.St} {H H' H1 : Hp} {E : EK} {β : Type}
theorem sumF_set : ∀ {A : Al} {n : Nat} {x y : V × Ft} (a : Addr), A[n]? = some x → sumF (A.set n y) a + x.2 a = sumF A a + y.2 a
  | [], _, _, _, _, h => by simp at h
  | z :: zs, 0, x, y, a, h => by simp at h; subst h; show y.2 a + sumF zs a + z.2 a = z.2 a + sumF zs a + y.2 a; omega
  | z :: zs, n + 1, x, y, a, h => by
    have := sumF_set (A := zs) (n := n) (y := y) a (by simpa using h)
    show z.2 a + sumF (zs.set n y) a + x.2 a = z.2 a + sumF zs a + y.2 a
    omega
theorem sumF_two : ∀ {A : Al} {n m : Nat} {x y : V × Ft} (a : Addr), n ≠ m → A[n]? = some x → A[m]? = some y → x.2 a + y.2 a ≤ sumF A a
  | [], _, _, _, _, _, _, h, _ => by simp at h
  | z :: zs, 0, 0, _, _, _, n, _, _ => absurd rfl n
  | z :: zs, 0, m + 1, x, y, a, _, h1, h2 => by
    simp at h1; subst h1
    have := sumF_at (A := zs) (r := m) a (by simpa using h2)
    show z.2 a + y.2 a ≤ z.2 a + sumF zs a
    omega
  | z :: zs, n + 1, 0, x, y, a, _, h1, h2 => by
    simp at h2; subst h2
    have := sumF_at (A := zs) (r := n) a (by simpa using h1)
    show x.2 a + z.2 a ≤ z.2 a + sumF zs a
    omega
  | z :: zs, n + 1, m + 1, x, y, a, ne, h1, h2 => by
    have := sumF_two (A := zs) (n := n) (m := m) a (by omega) (by simpa using h1) (by simpa using h2)
    show x.2 a + y.2 a ≤ z.2 a + sumF zs a
    omega
theorem sumF_app : ∀ {A B : Al} (a : Addr), sumF (A ++ B) a = sumF A a + sumF B a
  | [], _, a => by show _ = 0 + _; rw [List.nil_append]; omega
  | x :: xs, B, a => by
    have := sumF_app (A := xs) (B := B) a
    show x.2 a + sumF (xs ++ B) a = x.2 a + sumF xs a + sumF B a
    omega
theorem al_set {n : Nat} {v : V} {F F' : Ft} (h : A[n]? = some (v, F)) : al (A.set n (v, F')) = al A := by
  funext r
  unfold al
  rw [List.getElem?_set]
  by_cases e : n = r
  · subst e
    obtain ⟨hi, _⟩ := List.getElem?_eq_some_iff.mp h
    rw [if_pos rfl, if_pos hi, h]; rfl
  · rw [if_neg e]
/-- another tree at a root -/
theorem StC.setR (S : StC K mg B O A ρ σ H) {n : Nat} {v : V} {F F' : Ft} {x : Rt} {t' : T} (hA : A[n]? = some (v, F)) (hx : ρ.rt[n]? = some x)
    (s : Same (hid (tot O A) H) (hid (tot O' (A.set n (v, F'))) H')) (k : ∀ a, sumF A a ≠ 0 → F a = 0 → H' a = H a) (l : ∀ a, tot O' (A.set n (v, F')) a ≤ 1) (nn : ∀ a, tot O' (A.set n (v, F')) a ≠ 0 → H' a ≠ none)
    (ht : TR K ⟨mg, B.η⟩ (hid (tot O' (A.set n (v, F'))) H') H' t' v F')
    (hp : t'.cont = true → ∀ (m : Nat) (p : Pl) (y : Rt) (z : V × Ft), ρ.rt[m]? = some y → y.par = some (n, p) → A[m]? = some z → chAt H' v p = some z.1) :
    StC K mg B O' (A.set n (v, F')) { ρ with rt := ρ.rt.set n ⟨t', x.par⟩ } σ H' := by
  obtain ⟨hn, _⟩ := List.getElem?_eq_some_iff.mp hA
  obtain ⟨hn', _⟩ := List.getElem?_eq_some_iff.mp hx
  have other : ∀ (m : Nat) (z : V × Ft), m ≠ n → A[m]? = some z → ∀ a, z.2 a ≠ 0 → H' a = H a := fun m z ne hm a hz => by
    have h2 : z.2 a + F a ≤ sumF A a := sumF_two a ne hm hA
    have h1 := S.le1 a
    unfold tot add at h1
    exact k a (by omega) (by omega)
  have getA : ∀ (m : Nat) (z : V × Ft), (A.set n (v, F'))[m]? = some z → (m = n ∧ z = (v, F')) ∨ (m ≠ n ∧ A[m]? = some z) := fun m z h => by
    rw [List.getElem?_set] at h
    by_cases e : n = m
    · rw [if_pos e, if_pos (e ▸ hn)] at h; exact .inl ⟨e.symm, (Option.some.inj h).symm⟩
    · rw [if_neg e] at h; exact .inr ⟨fun z => e z.symm, h⟩
  have getR : ∀ (m : Nat) (z : Rt), (ρ.rt.set n ⟨t', x.par⟩)[m]? = some z → (m = n ∧ z = ⟨t', x.par⟩) ∨ (m ≠ n ∧ ρ.rt[m]? = some z) := fun m z h => by
    rw [List.getElem?_set] at h
    by_cases e : n = m
    · rw [if_pos e, if_pos (e ▸ hn')] at h; exact .inl ⟨e.symm, (Option.some.inj h).symm⟩
    · rw [if_neg e] at h; exact .inr ⟨fun z => e z.symm, h⟩
  have valA : ∀ (m : Nat) (z : V × Ft), (A.set n (v, F'))[m]? = some z → ∃ z', A[m]? = some z' ∧ z'.1 = z.1 := fun m z h => by
    rcases getA m z h with ⟨rfl, rfl⟩ | ⟨_, h⟩
    · exact ⟨_, hA, rfl⟩
    · exact ⟨z, h, rfl⟩
  have parR : ∀ (m : Nat) (z : Rt), (ρ.rt.set n ⟨t', x.par⟩)[m]? = some z → ∃ z', ρ.rt[m]? = some z' ∧ z'.par = z.par := fun m z h => by
    rcases getR m z h with ⟨rfl, rfl⟩ | ⟨_, h⟩
    · exact ⟨_, hx, rfl⟩
    · exact ⟨z, h, rfl⟩
  refine ⟨l, nn, by simp [S.len], fun r y t h1 h2 => ?_, fun m j p y yj z w h1 h2 h3 h4 h5 h6 => ?_, fun m j p y h1 h2 => ?_, fun r u h => by rw [al_set hA]; exact S.bas r u h, S.bnp, S.slen, fun i sl o h1 h2 => ?_⟩
  · rcases getA r y h1 with ⟨rfl, rfl⟩ | ⟨ne, h1⟩
    · rcases getR _ t h2 with ⟨_, rfl⟩ | ⟨ne, _⟩
      · exact ht
      · exact absurd rfl ne
    · rcases getR r t h2 with ⟨e, _⟩ | ⟨_, h2⟩
      · exact absurd e ne
      · exact (S.rts r y t h1 h2).step s (other r y ne h1)
  · obtain ⟨z', hz, ez⟩ := valA m z h5
    obtain ⟨y', hy, ey⟩ := parR m y h1
    rw [← ez]
    rcases getR j yj h3 with ⟨rfl, rfl⟩ | ⟨nj, h3⟩
    · rcases getA _ w h6 with ⟨_, rfl⟩ | ⟨ne, _⟩
      · exact hp h4 m p y' z' hy (ey.trans h2) hz
      · exact absurd rfl ne
    · rcases getA j w h6 with ⟨e, _⟩ | ⟨_, h6⟩
      · exact absurd e nj
      · rw [chAt_keep s hid_sub hid_sub (S.rts j w yj h6 h3) h4 (other j w nj h6) p]
        exact S.par m j p y' yj z' w hy (ey.trans h2) h3 h4 hz h6
  · obtain ⟨y', hy, ey⟩ := parR m y h1
    rw [List.length_set]
    exact S.parL m j p y' hy (ey.trans h2)
  · have := S.sls i sl o h1 h2
    rw [al_set hA]
    cases sl with
    | un => exact trivial
    | dat d => obtain ⟨v, e, h⟩ := this; exact ⟨v, e, Dq_same s h⟩
    | fn x => exact this
    | ref r => exact this
/-- the same tree's places, the heap as it is -/
theorem StC.par0 (S : StC K mg B O A ρ σ H) {n : Nat} {v : V} {F : Ft} {x : Rt} (hA : A[n]? = some (v, F)) (hx : ρ.rt[n]? = some x) (c : x.t.cont = true) :
    ∀ (m : Nat) (p : Pl) (y : Rt) (z : V × Ft), ρ.rt[m]? = some y → y.par = some (n, p) → A[m]? = some z → chAt H v p = some z.1 := fun m p y z h1 h2 h3 => S.par m n p y x z (v, F) h1 h2 hx c h3 hA
theorem tot_set {n : Nat} {v : V} {F F' O2 : Ft} (h : A[n]? = some (v, F)) (e : ∀ a, O2 a + F' a = O a + F a) : tot O2 (A.set n (v, F')) = tot O A := by
  funext a
  have h1 := sumF_set (y := (v, F')) a h
  have h2 := sumF_at a h
  have h3 := e a
  dsimp only at h1 h2
  show O2 a + sumF (A.set n (v, F')) a = O a + sumF A a
  omega
/-- a root is taken out -/
theorem StC.take (S : StC K mg B O A ρ σ H) {n : Nat} {v : V} {F : Ft} {x : Rt} (hA : A[n]? = some (v, F)) (hx : ρ.rt[n]? = some x) :
    StC K mg B (add O F) (A.set n (v, zer)) { ρ with rt := ρ.rt.set n ⟨.gone, x.par⟩ } σ H ∧ tot (add O F) (A.set n (v, zer)) = tot O A ∧ TR K ⟨mg, B.η⟩ (hid (tot O A) H) H x.t v F := by
  have e : tot (add O F) (A.set n (v, zer)) = tot O A := tot_set hA fun a => by show O a + F a + 0 = _; omega
  refine ⟨S.setR hA hx (by rw [e]; exact Same.refl _) (fun _ _ _ => rfl) (by rw [e]; exact S.le1) (by rw [e]; exact S.al) .gone (fun c => nomatch c), e, S.rts n _ _ hA hx⟩
/-- behind a push the old roots stand as before -/
theorem al_push {x : V × Ft} {r : Nat} {v : V} (h : al A r = some v) : al (A ++ [x]) r = some v := by
  unfold al at h ⊢
  have q : r < A.length := by
    cases e1 : A[r]? with
    | none => rw [e1] at h; cases h
    | some z => exact (List.getElem?_eq_some_iff.mp e1).1
  rw [List.getElem?_append_left q]
  exact h
/-- a new root -/
theorem StC.push (S : StC K mg B (add O F) A ρ σ H) {t : T} {v : V} {pr : Option (Nat × Pl)} (ht : TR K ⟨mg, B.η⟩ (hid (tot (add O F) A) H) H t v F)
    (hp : ∀ (j : Nat) (p : Pl) (xj : Rt) (z : V × Ft), pr = some (j, p) → ρ.rt[j]? = some xj → xj.t.cont = true → A[j]? = some z → chAt H z.1 p = some v)
    (hj0 : ∀ j p, pr = some (j, p) → j < ρ.rt.length) :
    StC K mg B O (A ++ [(v, F)]) { ρ with rt := ρ.rt ++ [⟨t, pr⟩] } σ H ∧ tot O (A ++ [(v, F)]) = tot (add O F) A := by
  have e : tot O (A ++ [(v, F)]) = tot (add O F) A := by
    funext a
    show O a + sumF (A ++ [(v, F)]) a = O a + F a + sumF A a
    rw [sumF_app]
    show O a + (sumF A a + (F a + 0)) = _
    omega
  have len := S.len
  have getL : ∀ {γ : Type} {l : List γ} {w : γ} (m : Nat) (z : γ), (l ++ [w])[m]? = some z → (m < l.length ∧ l[m]? = some z) ∨ (m = l.length ∧ z = w) := fun {γ l w} m z h => by
    by_cases q : m < l.length
    · rw [List.getElem?_append_left q] at h; exact .inl ⟨q, h⟩
    · rw [List.getElem?_append_right (by omega)] at h
      have : m - l.length = 0 := by
        cases e : m - l.length with
        | zero => rfl
        | succ n => rw [e] at h; simp at h
      rw [this] at h
      exact .inr ⟨by omega, by simpa using h.symm⟩
  refine ⟨⟨by rw [e]; exact S.le1, by rw [e]; exact S.al, by simp [len], fun r y t' h1 h2 => ?_, fun m j p y yj z w h1 h2 h3 h4 h5 h6 => ?_, fun m j p y h1 h2 => ?_, fun r u h => al_push (S.bas r u h), S.bnp, S.slen, fun i sl o h1 h2 => ?_⟩, e⟩
  · rw [e]
    rcases getL r y h1 with ⟨lt, h1⟩ | ⟨e1, rfl⟩
    · rcases getL r t' h2 with ⟨_, h2⟩ | ⟨e2, _⟩
      · exact S.rts r y t' h1 h2
      · omega
    · rcases getL r t' h2 with ⟨lt, _⟩ | ⟨_, rfl⟩
      · omega
      · exact ht
  · have jl : j < ρ.rt.length := by
      rcases getL m y h1 with ⟨_, h1⟩ | ⟨_, rfl⟩
      · exact S.parL m j p y h1 h2
      · exact hj0 j p h2
    have h3 : ρ.rt[j]? = some yj := by rcases getL j yj h3 with ⟨_, h⟩ | ⟨e, _⟩; exact h; omega
    have h6 : A[j]? = some w := by rcases getL j w h6 with ⟨_, h⟩ | ⟨e, _⟩; exact h; omega
    rcases getL m z h5 with ⟨lt, h5⟩ | ⟨e1, rfl⟩
    · rcases getL m y h1 with ⟨_, h1⟩ | ⟨e2, _⟩
      · exact S.par m j p y yj z w h1 h2 h3 h4 h5 h6
      · omega
    · rcases getL m y h1 with ⟨lt, _⟩ | ⟨_, rfl⟩
      · omega
      · exact hp j p yj w h2 h3 h4 h6
  · rw [List.length_append]
    rcases getL m y h1 with ⟨_, h1⟩ | ⟨_, rfl⟩
    · have := S.parL m j p y h1 h2; omega
    · have := hj0 j p h2; omega
  · have := S.sls i sl o h1 h2
    rw [e]
    cases sl with
    | un => exact trivial
    | dat d => exact this
    | fn x => exact this
    | ref r =>
      obtain ⟨v', a, b⟩ := this
      refine ⟨v', ?_, b⟩
      unfold XM.al at a ⊢
      have q : r < A.length := by
        cases e1 : A[r]? with
        | none => rw [e1] at a; cases a
        | some z => exact (List.getElem?_eq_some_iff.mp e1).1
      rw [List.getElem?_append_left q]
      exact a
/-! ### giving away: what is read is from now on everybody's -/
def toD (r : R) : M D := fun ρ => match r with
  | .dat d => some (.ok d ρ)
  | .own t => t.view.map fun d => .ok d ρ
  | .ref n => match ρ.rt[n]? with
    | some x => x.t.view.map fun d => .ok d { ρ with rt := ρ.rt.set n ⟨.dat d, x.par⟩ }
    | none => none
  | .fn _ => none
theorem give (S : StC K mg B (add O F) A ρ σ H) {r : R} {v : V} {out : Out D} (h : RR K ⟨mg, B.η⟩ (al A) (hid (tot (add O F) A) H) H v F r) (e : toD r ρ = some out) :
    ∃ d ρ' A', out = .ok d ρ' ∧ StC K mg B O A' ρ' σ H ∧ Dq K (hid (tot O A') H) v d ∧ Stp (add O F) A H O A' H := by
  cases r with
  | dat d =>
    cases e
    obtain ⟨rfl, h⟩ := h
    rw [add_zer] at S h ⊢
    exact ⟨d, ρ, A, rfl, S, h, Stp.refl⟩
  | fn x => cases e
  | own t =>
    simp only [toD] at e
    cases e1 : t.view with
    | none => rw [e1] at e; cases e
    | some d =>
      rw [e1] at e
      cases e
      have w : Same (hid (tot (add O F) A) H) (hid (tot O A) H) := hid_weak fun a => le_add a
      refine ⟨d, ρ, A, rfl, S.weak fun a => le_add a, TR.view w h (fun a o n z => hid_at ?_ z) e1, ⟨⟨fun _ _ => rfl, w⟩, fun _ _ h => h⟩⟩
      have := S.le1 a
      unfold tot add at this ⊢
      omega
  | ref n =>
    obtain ⟨rfl, h⟩ := h
    rw [add_zer] at S ⊢
    simp only [toD] at e
    cases ex : ρ.rt[n]? with
    | none => rw [ex] at e; cases e
    | some x =>
      rw [ex] at e
      dsimp only at e
      cases e1 : x.t.view with
      | none => rw [e1] at e; cases e
      | some d =>
        rw [e1] at e
        cases e
        obtain ⟨F', hA, ht⟩ := S.root ex h
        obtain ⟨S2, e2, _⟩ := S.take hA ex
        have w : Same (hid (tot O A) H) (hid (tot O (A.set n (v, zer))) H) := by
          rw [← e2]; exact hid_weak fun a => le_add a
        have dp : Dq K (hid (tot O (A.set n (v, zer))) H) v d := TR.view w ht (fun a o z q => hid_at (by
          have h1 := S.le1 a
          have h2 := sumF_set (y := (v, zer)) a hA
          dsimp only [zer] at h2
          unfold tot add at h1 ⊢
          omega) q) e1
        refine ⟨d, _, A.set n (v, zer), rfl, S.setR hA ex w (fun _ _ _ => rfl) (fun a => ?_) (fun a z => ?_) (.dat dp) (fun c => nomatch c), dp, ⟨⟨fun _ _ => rfl, w⟩, fun r u q => by rw [al_set hA]; exact q⟩⟩
        · have := S.le1 a
          have h2 := sumF_set (y := (v, zer)) a hA
          dsimp only [zer] at h2
          unfold tot add at this ⊢
          omega
        · refine S.al a ?_
          have h2 := sumF_set (y := (v, zer)) a hA
          dsimp only [zer] at h2
          unfold tot add at z ⊢
          omega
/-- several at once -/
def toDs : List R → M (List D)
  | [] => fun ρ => some (.ok [] ρ)
  | r :: rs => bnd (toD r) fun d => bnd (toDs rs) fun ds ρ => some (.ok (d :: ds) ρ)
theorem gives : ∀ {rs : List R} {O : Ft} {A : Al} {ρ : Fr} {vs : List V} {F : Ft} {out : Out (List D)}, StC K mg B (add O F) A ρ σ H → RRs K ⟨mg, B.η⟩ (al A) (hid (tot (add O F) A) H) H vs F rs → toDs rs ρ = some out →
    ∃ ds ρ' A', out = .ok ds ρ' ∧ StC K mg B O A' ρ' σ H ∧ DqAll K (hid (tot O A') H) vs ds ∧ Stp (add O F) A H O A' H
  | [], O, A, ρ, _, _, _, S, hh, e => by
    cases hh
    cases e
    rw [add_zer] at S ⊢
    exact ⟨[], ρ, A, rfl, S, .nil, Stp.refl⟩
  | r :: rs, O, A, ρ, _, _, out, S, hh, e => by
    cases hh with
    | cons h hr =>
    rename_i v F1 vs F2
    have eq : add O (add F1 F2) = add (add O F2) F1 := by funext a; show O a + (F1 a + F2 a) = O a + F2 a + F1 a; omega
    rw [eq] at S h hr ⊢
    rcases bnd_some e with ⟨c, ρ1, e1, rfl⟩ | ⟨d, ρ1, e1, e2⟩
    · obtain ⟨_, _, _, z, _⟩ := give S h e1
      cases z
    · obtain ⟨d', ρ1', A1, z, S1, dp, st1⟩ := give S h e1
      cases z
      have hr' : RRs K ⟨mg, B.η⟩ (al A1) (hid (tot (add O F2) A1) H) H vs F2 rs := hr.step st1 (fun a n => by unfold add; omega)
      rcases bnd_some e2 with ⟨c, ρ2, e3, rfl⟩ | ⟨ds, ρ2, e3, e4⟩
      · obtain ⟨_, _, _, z, _⟩ := gives S1 hr' e3
        cases z
      · obtain ⟨ds', ρ2', A2, z, S2, dps, st2⟩ := gives S1 hr' e3
        cases z
        cases e4
        exact ⟨d :: ds, ρ2, A2, rfl, S2, .cons (Dq_same st2.sh dp) dps, ⟨⟨fun _ _ => rfl, st1.sh.trans st2.sh⟩, fun r v q => st2.al r v (st1.al r v q)⟩⟩
end
end XM
end
section
namespace XM
open PySem PySem.Spec PyProof.Rows L2 Tl
/-! ### arguments -/
def mArgs : List (M R) → M (List R)
  | [] => fun ρ => some (.ok [] ρ)
  | m :: ms => bnd m fun r => bnd (mArgs ms) fun rs ρ => some (.ok (r :: rs) ρ)
section
variable {X : Cx} {E : EK} {e a b : Expr} {es : List Expr} {pos : Pos} {B : Bs} {O O' : Ft} {A A' A1 : Al} {ρ ρ1 : Fr} {σ : L2.St} {H H' H1 : Hp}
theorem da_nil : DA X E [] (mArgs []) := by
  refine ⟨pa_imp pa_nil fun σ H Q h => ?_⟩
  obtain ⟨B, O, A, ρ, out, S, hm, k⟩ := h
  obtain rfl := Option.some.inj hm
  exact k.oks [] H A zer (by rw [add_zer]; exact S) .nil (by rw [add_zer]; exact Stp.refl)
theorem da_cons {m : M R} {ms : List (M R)} (ha : DE X E e m) (hr : DA X E es (mArgs ms)) (hs : starEach (e :: es) X.env = (false, eval e X.env) :: starEach es X.env := by rfl) : DA X E (e :: es) (mArgs (m :: ms)) := by
  refine ⟨pa_imp (pa_cons ha.pe hr.pa hs) fun σ H Q h => ?_⟩
  obtain ⟨B, O, A, ρ, out, S, hm, k⟩ := h
  refine run_bnd S hm k.exc fun r ρ1 v H1 A1 F hk S1 rr1 st1 x1 => ?_
  refine run_bndA S1 hk x1 fun rs ρ2 vs H2 A2 F2 hk2 S2 rr2 st2 x2 => ?_
  obtain rfl := Option.some.inj hk2
  have st := st1.trans st2 fun a n => add_l n
  rw [add_assoc] at S2 rr2 st
  have rr1' := rr1.step st2 (fun a n => add_r n)
  rw [add_assoc] at rr1'
  exact k.oks (v :: vs) H2 A2 (add F F2) S2 (.cons rr1' rr2) st
/-! ### tuples, lists -/
def mTup (ms : List (M R)) : M R := bnd (mArgs ms) fun rs => bnd (toDs rs) fun ds ρ => if ds.length ≤ 1000 then some (.ok (.dat (.tuple ds)) ρ) else none
def mLst (ms : List (M R)) : M R := bnd (mArgs ms) fun rs => bnd (toDs rs) fun ds ρ => if ds.length ≤ 1000 then some (.ok (.own (.dl ds)) ρ) else none
theorem le_line {n : Nat} (h : n ≤ 1000) : n ≤ sizeLine := by rw [sizeLine_eq]; omega
/-- behind arguments that are given away -/
theorem gives_bnd {K : PySem.W.Frag} {mg : Str → Option Value} {γ : Type} {F : Ft} {rs : List R} {vs : List V} {k : List D → M γ} {out : Out γ} (S : StC K mg B (add O F) A ρ σ H) (h : RRs K ⟨mg, B.η⟩ (al A) (hid (tot (add O F) A) H) H vs F rs) (e : bnd (toDs rs) k ρ = some out) :
    ∃ ds ρ' A', k ds ρ' = some out ∧ StC K mg B O A' ρ' σ H ∧ DqAll K (hid (tot O A') H) vs ds ∧ Stp (add O F) A H O A' H := by
  rcases bnd_some e with ⟨c, ρ1, e1, rfl⟩ | ⟨ds, ρ1, e1, e2⟩
  · obtain ⟨_, _, _, z, _⟩ := gives S h e1
    cases z
  · obtain ⟨_, _, A', z, r⟩ := gives S h e1
    cases z
    exact ⟨ds, ρ1, A', e2, r⟩
theorem give_bnd {K : PySem.W.Frag} {mg : Str → Option Value} {γ : Type} {F : Ft} {r : R} {v : V} {k : D → M γ} {out : Out γ} (S : StC K mg B (add O F) A ρ σ H) (h : RR K ⟨mg, B.η⟩ (al A) (hid (tot (add O F) A) H) H v F r) (e : bnd (toD r) k ρ = some out) :
    ∃ d ρ' A', k d ρ' = some out ∧ StC K mg B O A' ρ' σ H ∧ Dq K (hid (tot O A') H) v d ∧ Stp (add O F) A H O A' H := by
  rcases bnd_some e with ⟨c, ρ1, e1, rfl⟩ | ⟨ds, ρ1, e1, e2⟩
  · obtain ⟨_, _, _, z, _⟩ := give S h e1
    cases z
  · obtain ⟨_, _, A', z, r⟩ := give S h e1
    cases z
    exact ⟨ds, ρ1, A', e2, r⟩
theorem fin_own {K : PySem.W.Frag} {mg : Str → Option Value} {Q : VK} {t : T} {ρ' : Fr} {v : V} {F : Ft} (k : okE K mg B O A σ H Q (.own t) ρ') (S : StC K mg B (add O F) A1 ρ' σ H1) (st : Stp O A H (add O F) A1 H1) (h : TR K ⟨mg, B.η⟩ (hid (tot (add O F) A1) H1) H1 t v F) : Q v H1 := k v H1 A1 F S h st
/-- a new tuple, a new list of data -/
theorem fin_tup {K : PySem.W.Frag} {mg : Str → Option Value} {Q : VK} {ds : List D} {ρ' : Fr} {vs : List V} {p : Addr} {O1 : Ft} (k : okE K mg B O A σ H Q (.dat (.tuple ds)) ρ') (S : StC K mg B O1 A1 ρ' σ H1) (le : ∀ a, O a ≤ O1 a) (st : Stp O A H O1 A1 H1) (h : DqAll K (hid (tot O A1) H1) vs ds) (np : H1 p = none) : Q (.ref p) (upd H1 p (.tup vs)) := by
  obtain ⟨S2, st2, e⟩ := (S.weak le).newS (o := .tup vs) np
  exact fin_dat k S2 (fun _ => Nat.le_refl _) ((st.weak le).trans st2 fun _ n => n) (.tup (.of e) (DqAll_same st2.sh h))
theorem fin_lst {K : PySem.W.Frag} {mg : Str → Option Value} {Q : VK} {ds : List D} {ρ' : Fr} {vs : List V} {p : Addr} {O1 : Ft} (k : okE K mg B O A σ H Q (.own (.dl ds)) ρ') (S : StC K mg B O1 A1 ρ' σ H1) (le : ∀ a, O a ≤ O1 a) (st : Stp O A H O1 A1 H1) (h : DqAll K (hid (tot O A1) H1) vs ds) (np : H1 p = none) : Q (.ref p) (upd H1 p (.lst vs)) := by
  obtain ⟨S2, st2⟩ := (S.weak le).newO (o := .lst vs) np
  exact fin_own k S2 ((st.weak le).trans st2 fun _ n => n) (.dl upd_same (DqAll_same st2.sh h))
theorem de_tup {ms : List (M R)} {x1} (h : DA X E es (mArgs ms)) : DE X E (.Tuple es x1 pos) (mTup ms) := by
  refine ⟨pe_imp (pe_tup h.pa) fun σ H Q h => ?_⟩
  obtain ⟨B, O, A, ρ, out, S, hm, k⟩ := h
  refine run_bndA S hm k.exc fun rs ρ1 vs H1 A1 F hk S1 rr1 st1 x1 => ?_
  obtain ⟨ds, ρ2, A2, e2, S2, dq, st2⟩ := gives_bnd S1 rr1 hk
  split at e2
  · rename_i z
    cases e2
    refine ⟨by rw [DqAll_len dq]; exact le_line z, fun p np => ?_⟩
    exact fin_tup k.oks S2 (fun _ => Nat.le_refl _) (st1.trans st2 fun a n => add_l n) dq np
  · cases e2
theorem de_lst {ms : List (M R)} (h : DA X E es (mArgs ms)) : DE X E (.List es pos) (mLst ms) := by
  refine ⟨pe_imp (pe_lst h.pa) fun σ H Q h => ?_⟩
  obtain ⟨B, O, A, ρ, out, S, hm, k⟩ := h
  refine run_bndA S hm k.exc fun rs ρ1 vs H1 A1 F hk S1 rr1 st1 x1 => ?_
  obtain ⟨ds, ρ2, A2, e2, S2, dq, st2⟩ := gives_bnd S1 rr1 hk
  split at e2
  · rename_i z
    cases e2
    refine ⟨by rw [DqAll_len dq]; exact le_line z, fun p np => ?_⟩
    exact fin_lst k.oks S2 (fun _ => Nat.le_refl _) (st1.trans st2 fun a n => add_l n) dq np
  · cases e2
/-! ### lists and tuples as they are read -/
/-- the items of a tree's top: a list, a tuple; with b a tracked list only -/
def T.items (b : Bool) : T → Option (List D)
  | .dat (.list l) => some l
  | .dat (.tuple l) => if b = true then none else some l
  | .dl l => some l
  | .frz ns => if b = true then none else some (ns.map .int)
  | _ => none
def its (b : Bool) : R → Fr → Option (List D)
  | .dat d, _ => T.items b (.dat d)
  | .own t, _ => t.items b
  | .ref r, ρ => (ρ.rt[r]?).bind fun t => t.t.items b
  | .fn _, _ => none
theorem ints_all {K : PySem.W.Frag} {G : Hp} : ∀ ns : List Int, DqAll K G (ns.map V.int) (ns.map PyData.int)
  | [] => .nil
  | n :: ns => .cons (.int n) (ints_all ns)
theorem TR.items {K : PySem.W.Frag} {mm : Mg} {G : Hp} (s : Same G H) {b : Bool} {t : T} {v : V} {F : Ft} {l : List D} (h : TR K mm G H t v F) (e : t.items b = some l) :
    ∃ a vs, v = .ref a ∧ (H a = some (.lst vs) ∨ b = false ∧ (SqL K H a vs ∨ SqT K G a vs)) ∧ DqAll K G vs l := by
  cases h with
  | dat h =>
    cases h with
    | lst h r => cases e; exact ⟨_, _, rfl, .inl (s _ _ h), r⟩
    | tup h r =>
      cases b with
      | true => cases e
      | false => cases e; exact ⟨_, _, rfl, .inr ⟨rfl, .inr h⟩, r⟩
    | non => cases e
    | bl _ => cases e
    | int _ => cases e
    | str _ => cases e
    | dct _ _ _ => cases e
  | dl h r => cases e; exact ⟨_, _, rfl, .inl h, r⟩
  | frz h =>
    cases b with
    | true => cases e
    | false => cases e; exact ⟨_, _, rfl, .inr ⟨rfl, .inl (s.seq h)⟩, ints_all _⟩
  | fn _ => cases e
  | ol _ _ => cases e
  | ot _ _ => cases e
  | dd _ _ _ => cases e
  | od _ _ _ => cases e
  | ins _ _ _ _ => cases e
  | gone => cases e
  | hole => cases e
theorem StC.items {K : PySem.W.Frag} {mg : Str → Option Value} (S : StC K mg B O A ρ σ H) {b : Bool} {r : R} {v : V} {F : Ft} {l : List D} (h : RR K ⟨mg, B.η⟩ (XM.al A) (hid (tot O A) H) H v F r) (e : its b r ρ = some l) :
    ∃ a vs, v = .ref a ∧ (H a = some (.lst vs) ∨ b = false ∧ (SqL K H a vs ∨ SqT K (hid (tot O A) H) a vs)) ∧ DqAll K (hid (tot O A) H) vs l := by
  cases r with
  | dat d => exact TR.items (mm := ⟨mg, B.η⟩) hid_sub (.dat h.2) e
  | fn x => cases e
  | own t => exact TR.items hid_sub h e
  | ref r =>
    simp only [its] at e
    cases e1 : ρ.rt[r]? with
    | none => rw [e1] at e; cases e
    | some t =>
      rw [e1] at e
      obtain ⟨F', _, h'⟩ := S.root e1 h.2
      exact TR.items hid_sub h' e
/-- a rule over two values, the first one's items and the second one's data -/
def mItems (b : Bool) (f : List D → D → Option R) (ma mb : M R) : M R := bnd ma fun ra => bnd mb fun rb ρ => match its b ra ρ, vw rb ρ with
  | some l, some e => (f l e).map fun z => .ok z ρ
  | _, _ => none
theorem mItems_ok {b : Bool} {f : List D → D → Option R} {ra rb : R} {ρ : Fr} {out : Out R} (h : (match its b ra ρ, vw rb ρ with
  | some l, some e => (f l e).map fun z => Out.ok z ρ
  | _, _ => none) = some out) : ∃ l e z, its b ra ρ = some l ∧ vw rb ρ = some e ∧ f l e = some z ∧ out = .ok z ρ := by
  split at h
  · rename_i l e h1 h2
    cases h3 : f l e with
    | none => rw [h3] at h; cases h
    | some z => rw [h3] at h; exact ⟨l, e, z, h1, h2, h3, (Option.some.inj h).symm⟩
  · cases h
/-- xs[i] of a list, a tuple -/
def fIx (l : List D) : D → Option R
  | .int i => (atI l i).map .dat
  | _ => none
theorem DqAll_atI {K : PySem.W.Frag} {G : Hp} {vs : List V} {l : List D} {i : Int} {d : D} (h : DqAll K G vs l) (e : atI l i = some d) : ∃ v, atI vs i = some v ∧ Dq K G v d := by
  unfold atI at e ⊢
  rw [DqAll_len h]
  cases e1 : ixN l.length i with
  | none => rw [e1] at e; cases e
  | some j => rw [e1] at e; exact DqAll_at h e
theorem de_ix {ma mb : M R} (ha : DE X E a ma) (hb : DE X E b mb) (hs : PlainIx b) : DE X E (.Subscript a b pos) (mItems false fIx ma mb) := by
  refine ⟨pe_imp (pe_ix ix_seq ha.pe hb.pe hs) fun σ H Q h => ?_⟩
  obtain ⟨B, O, A, ρ, out, S, hm, k⟩ := h
  refine run_bnd S hm k.exc fun ra ρ1 v H1 A1 F hk S1 rr1 st1 x1 => ?_
  refine run_bnd S1 hk x1 fun rb ρ2 w H2 A2 F2 hk2 S2 rr2 st2 x2 => ?_
  obtain ⟨l, e, z, e1, e2, e3, rfl⟩ := mItems_ok hk2
  have rr1' := rr1.step st2 (fun a n => add_r n)
  obtain ⟨p, vs, rfl, hp, dq⟩ := S2.items rr1' e1
  have hw := S2.view rr2 e2
  cases e with
  | int i =>
    cases hw
    simp only [fIx] at e3
    cases e4 : atI l i with
    | none => rw [e4] at e3; cases e3
    | some d =>
      rw [e4] at e3
      cases e3
      obtain ⟨u, h1, h2⟩ := DqAll_atI dq e4
      have le : ∀ a, O a ≤ add (add O F) F2 a := fun a => by unfold add; omega
      have fin : Q u H2 := fin_dat k.oks S2 le (st1.trans st2 fun a n => add_l n) (Dq_same (hid_weak le) h2)
      rcases hp with hp | ⟨_, hp | hp⟩
      · exact .inl ⟨p, vs, i, u, rfl, rfl, .of hp, h1, fin⟩
      · exact .inl ⟨p, vs, i, u, rfl, rfl, hp, h1, fin⟩
      · exact .inr (.inl ⟨p, vs, i, u, rfl, rfl, Tl.Same.tup hid_sub hp, h1, fin⟩)
  | _ => simp only [fIx] at e3; cases e3
theorem big_line {n : Nat} (h : n ≤ 1000000) : n ≤ sizeLine := by rw [sizeLine_eq]; omega
def mCat (ma mb : M R) : M R := bnd ma fun ra => bnd mb fun rb ρ => match its true ra ρ, its true rb ρ with
  | some l, some l2 => if l.length + l2.length ≤ 1000000 then some (.ok (.own (.dl (l ++ l2))) ρ) else none
  | _, _ => none
theorem de_cat {ma mb : M R} (ha : DE X E a ma) (hb : DE X E b mb) : DE X E (.BinOp a .Add b pos) (mCat ma mb) := by
  refine ⟨pe_imp (pe_op op_cat ha.pe hb.pe) fun σ H Q h => ?_⟩
  obtain ⟨B, O, A, ρ, out, S, hm, k⟩ := h
  refine run_bnd S hm k.exc fun ra ρ1 v H1 A1 F hk S1 rr1 st1 x1 => ?_
  refine run_bnd S1 hk x1 fun rb ρ2 w H2 A2 F2 hk2 S2 rr2 st2 x2 => ?_
  have rr1' := rr1.step st2 (fun a n => add_r n)
  split at hk2
  · rename_i l l2 e1 e2
    split at hk2
    · rename_i sm
      cases hk2
      obtain ⟨p, vs, rfl, hp, dq⟩ := S2.items rr1' e1
      obtain ⟨q, ws, rfl, hq, dq2⟩ := S2.items rr2 e2
      have hp : H2 p = some (.lst vs) := hp.elim id fun z => nomatch z.1
      have hq : H2 q = some (.lst ws) := hq.elim id fun z => nomatch z.1
      have le : ∀ a, O a ≤ add (add O F) F2 a := fun a => by unfold add; omega
      refine ⟨p, q, vs, ws, rfl, rfl, hp, hq, by rw [DqAll_len dq, DqAll_len dq2]; exact big_line sm, fun u nu => ?_⟩
      exact fin_lst k.oks S2 le (st1.trans st2 fun a n => add_l n) (DqAll_same (hid_weak le) (DqAll_app dq dq2)) nu
    · cases hk2
  · cases hk2
/-- list * int -/
def mRep (ma mb : M R) : M R := bnd ma fun ra => bnd mb fun rb ρ => match its true ra ρ, vw rb ρ with
  | some l, some (.int n) => if -1000000 ≤ n ∧ n ≤ 1000000 ∧ l.length * n.toNat ≤ 1000000 then some (.ok (.own (.dl (List.replicate n.toNat l).flatten)) ρ) else none
  | _, _ => none
theorem DqAll_rep {K : PySem.W.Frag} {G : Hp} {vs : List V} {l : List D} (h : DqAll K G vs l) : ∀ n, DqAll K G (List.replicate n vs).flatten (List.replicate n l).flatten
  | 0 => .nil
  | n + 1 => by rw [List.replicate_succ, List.replicate_succ, List.flatten_cons, List.flatten_cons]; exact DqAll_app h (DqAll_rep h n)
theorem de_rep {ma mb : M R} (ha : DE X E a ma) (hb : DE X E b mb) : DE X E (.BinOp a .Mult b pos) (mRep ma mb) := by
  refine ⟨pe_imp (pe_op op_rep ha.pe hb.pe) fun σ H Q h => ?_⟩
  obtain ⟨B, O, A, ρ, out, S, hm, k⟩ := h
  refine run_bnd S hm k.exc fun ra ρ1 v H1 A1 F hk S1 rr1 st1 x1 => ?_
  refine run_bnd S1 hk x1 fun rb ρ2 w H2 A2 F2 hk2 S2 rr2 st2 x2 => ?_
  have rr1' := rr1.step st2 (fun a n => add_r n)
  split at hk2
  · rename_i l n e1 e2
    split at hk2
    · rename_i sm
      cases hk2
      obtain ⟨p, vs, rfl, hp, dq⟩ := S2.items rr1' e1
      have hw := S2.view rr2 e2
      cases hw
      have hp : H2 p = some (.lst vs) := hp.elim id fun z => nomatch z.1
      have le : ∀ a, O a ≤ add (add O F) F2 a := fun a => by unfold add; omega
      refine ⟨p, n, vs, rfl, rfl, hp, by omega, by omega, by rw [DqAll_len dq]; exact big_line sm.2.2, fun u nu => ?_⟩
      exact fin_lst k.oks S2 le (st1.trans st2 fun a n => add_l n) (DqAll_same (hid_weak le) (DqAll_rep dq _)) nu
    · cases hk2
  · cases hk2
end
end XM
end
section
namespace XM
open PySem PySem.Spec PyProof.Rows L2 Tl
/-! ### behind a statement: parts are put back, what nobody names is forgotten -/
def trimL : List Rt → List Rt
  | [] => []
  | x :: xs => match trimL xs, x.t with
    | [], .gone => []
    | ys, _ => x :: ys
def trSl (n : Nat) : Sl → Sl
  | .ref r => if r < n then .ref r else .un
  | s => s
def trRt (n : Nat) (x : Rt) : Rt := match x.par with
  | some (j, p) => if j < n then ⟨x.t, some (j, p)⟩ else ⟨x.t, none⟩
  | none => ⟨x.t, none⟩
theorem trRt_t (n : Nat) (x : Rt) : (trRt n x).t = x.t := by
  unfold trRt
  split
  · split <;> rfl
  · rfl
theorem trRt_par {n : Nat} {x : Rt} {j : Nat} {p : Pl} (h : (trRt n x).par = some (j, p)) : x.par = some (j, p) ∧ j < n := by
  unfold trRt at h
  split at h
  · rename_i e
    split at h
    · cases h; exact ⟨e, by assumption⟩
    · cases h
  · cases h
def trim (ρ : Fr) : Fr :=
  let rt := ρ.rt.take ρ.np ++ trimL (ρ.rt.drop ρ.np)
  ⟨ρ.sl.map (trSl rt.length), rt.map (trRt rt.length), ρ.np⟩
/-- root k is put back where it came from, or forgotten -/
def backK (k : Nat) (ρ : Fr) : Fr := match ρ.rt[k]? with
  | some ⟨t, pr⟩ =>
    let rt1 := ρ.rt.set k ⟨.gone, pr⟩
    match pr with
    | some (j, p) => match rt1[j]? with
      | some xj => match getc p xj.t with
        | some .gone => { ρ with rt := rt1.set j ⟨setc t p xj.t, xj.par⟩ }
        | _ => { ρ with rt := rt1 }
      | none => { ρ with rt := rt1 }
    | none => { ρ with rt := rt1 }
  | none => ρ
def T.isGone : T → Bool
  | .gone => true
  | _ => false
/-- something that came from root k stands elsewhere -/
def kidR (k : Nat) (x : Rt) : Bool := match x.par with
  | some (j, _) => j == k && !x.t.isGone
  | none => false
def kid (ρ : Fr) (k : Nat) : Bool := ρ.rt.any (kidR k)
def sweepN (keep : Nat → Bool) : Nat → Fr → Fr
  | 0, ρ => ρ
  | n + 1, ρ => sweepN keep n (if (keep (ρ.np + n) || kid ρ (ρ.np + n)) = true then ρ else backK (ρ.np + n) ρ)
def sweep (keep : Nat → Bool) (ρ : Fr) : Fr := sweepN keep (ρ.rt.length - ρ.np) ρ
def named (ρ : Fr) (k : Nat) : Bool := ρ.sl.any fun s => match s with
  | .ref r => r == k
  | _ => false
def tidy (ρ : Fr) : Fr := trim (sweep (named ρ) ρ)
section
variable {K : PySem.W.Frag} {mg : Str → Option Value} {mm : Mg} {B : Bs} {O O' : Ft} {A A' A1 : Al} {ρ ρ1 : Fr} {σ : L2.St} {H H' H1 : Hp} {E : EK}
theorem TR.goneF {G : Hp} {v : V} {F : Ft} (h : TR K mm G H .gone v F) : F = zer := by cases h; rfl
theorem StC.drop (S : StC K mg B O A ρ σ H) {n : Nat} {v : V} {F : Ft} {x : Rt} (hA : A[n]? = some (v, F)) (hx : ρ.rt[n]? = some x) :
    StC K mg B O (A.set n (v, zer)) { ρ with rt := ρ.rt.set n ⟨.gone, x.par⟩ } σ H ∧ Same (hid (tot O A) H) (hid (tot O (A.set n (v, zer))) H) := by
  obtain ⟨S1, e, _⟩ := S.take hA hx
  have w : Same (hid (tot O A) H) (hid (tot O (A.set n (v, zer))) H) := by rw [← e]; exact hid_weak fun a => le_add a
  exact ⟨S1.weak fun a => le_add a, w⟩
theorem StC.backK (S : StC K mg B O A ρ σ H) (k : Nat) : ∃ A', StC K mg B O A' (XM.backK k ρ) σ H ∧ Same (hid (tot O A) H) (hid (tot O A') H) ∧ XM.al A' = XM.al A := by
  cases hx : ρ.rt[k]? with
  | none => exact ⟨A, by unfold XM.backK; rw [hx]; exact S, Same.refl _, rfl⟩
  | some x =>
    obtain ⟨t, pr⟩ := x
    obtain ⟨⟨v, F⟩, hA⟩ := at_len S.len hx
    have dr := S.drop hA hx
    cases pr with
    | none => exact ⟨A.set k (v, zer), by unfold XM.backK; rw [hx]; exact dr.1, dr.2, al_set hA⟩
    | some jp =>
      obtain ⟨j, p⟩ := jp
      cases hj : (ρ.rt.set k ⟨.gone, some (j, p)⟩)[j]? with
      | none => exact ⟨A.set k (v, zer), by unfold XM.backK; rw [hx]; dsimp only; rw [hj]; exact dr.1, dr.2, al_set hA⟩
      | some xj =>
        cases hg : getc p xj.t with
        | none => exact ⟨A.set k (v, zer), by unfold XM.backK; rw [hx]; dsimp only; rw [hj]; dsimp only; rw [hg]; exact dr.1, dr.2, al_set hA⟩
        | some c =>
          cases c with
          | gone =>
            obtain ⟨S1, e1, ht⟩ := S.take hA hx
            obtain ⟨⟨vj, Fj⟩, hAj⟩ := at_len S1.len hj
            have cj : xj.t.cont = true := by
              cases xj with
              | mk tj pj =>
                dsimp only at hg
                cases tj <;> cases p <;> first | rfl | cases hg
            have hk : (ρ.rt.set k ⟨.gone, some (j, p)⟩)[k]? = some ⟨.gone, some (j, p)⟩ := by
              rw [List.getElem?_set, if_pos rfl, if_pos (List.getElem?_eq_some_iff.mp hx).1]
            have hAk : (A.set k (v, zer))[k]? = some (v, zer) := by
              rw [List.getElem?_set, if_pos rfl, if_pos (List.getElem?_eq_some_iff.mp hA).1]
            have hc := S1.par k j p _ xj _ _ hk rfl hj cj hAk hAj
            obtain ⟨vc, Fc, Fr, c1, c2, c3, c4⟩ := TR.child hid_sub (S1.rts j _ _ hAj hj) hg
            have c1 : chAt H vj p = some vc := c1
            have hc : chAt H vj p = some v := hc
            rw [c1] at hc
            have hc := Option.some.inj hc
            subst hc
            have := c2.goneF
            subst this
            have c3 : Fj = Fr := c3.trans add_zer
            subst c3
            have ht' := c4 t F (by rw [e1]; exact ht)
            have e2 : tot O ((A.set k (vc, zer)).set j (vj, add Fj F)) = tot (add O F) (A.set k (vc, zer)) := tot_set hAj fun a => by unfold add; omega
            refine ⟨(A.set k (vc, zer)).set j (vj, add Fj F), ?_, by rw [e2, e1]; exact Same.refl _, by rw [al_set hAj, al_set hA]⟩
            unfold XM.backK; rw [hx]; dsimp only; rw [hj]; dsimp only; rw [hg]
            exact S1.setR (O' := O) hAj hj (by rw [e2]; exact Same.refl _) (fun _ _ _ => rfl) (by rw [e2]; exact S1.le1) (by rw [e2]; exact S1.al) (by rw [e2]; exact ht') fun _ => S1.par0 hAj hj cj
          | _ => exact ⟨A.set k (v, zer), by unfold XM.backK; rw [hx]; dsimp only; rw [hj]; dsimp only; rw [hg]; exact dr.1, dr.2, al_set hA⟩
theorem StC.sweepN {keep : Nat → Bool} : ∀ (n : Nat) {ρ : Fr} {A : Al}, StC K mg B O A ρ σ H → ∃ A', StC K mg B O A' (XM.sweepN keep n ρ) σ H ∧ Same (hid (tot O A) H) (hid (tot O A') H) ∧ XM.al A' = XM.al A
  | 0, ρ, A, S => ⟨A, S, Same.refl _, rfl⟩
  | n + 1, ρ, A, S => by
    unfold XM.sweepN
    split
    · exact StC.sweepN n S
    · obtain ⟨A1, S1, s1, l1⟩ := S.backK (ρ.np + n)
      obtain ⟨A2, S2, s2, l2⟩ := StC.sweepN n S1
      exact ⟨A2, S2, s1.trans s2, l2.trans l1⟩
theorem trimL_pre : ∀ l : List Rt, ∃ r, l = trimL l ++ r ∧ ∀ x ∈ r, x.t = .gone
  | [] => ⟨[], rfl, fun _ h => nomatch h⟩
  | x :: xs => by
    obtain ⟨r, e, g⟩ := trimL_pre xs
    unfold trimL
    split
    · rename_i e1 e2
      rw [e1] at e
      refine ⟨x :: xs, rfl, fun y hy => ?_⟩
      rcases List.mem_cons.mp hy with rfl | hy
      · exact e2
      · exact g y (by rw [e] at hy; simpa using hy)
    · exact ⟨r, by rw [List.cons_append, ← e], g⟩
theorem trim_pre (ρ : Fr) : ∃ r, ρ.rt = (ρ.rt.take ρ.np ++ trimL (ρ.rt.drop ρ.np)) ++ r ∧ ∀ x ∈ r, x.t = .gone := by
  obtain ⟨r, e, g⟩ := trimL_pre (ρ.rt.drop ρ.np)
  exact ⟨r, by rw [List.append_assoc, ← e, List.take_append_drop], g⟩
theorem sumF_zero : ∀ {A : Al} (a : Addr), (∀ x ∈ A, x.2 = zer) → sumF A a = 0
  | [], _, _ => rfl
  | x :: xs, a, h => by
    show x.2 a + sumF xs a = 0
    rw [h x List.mem_cons_self, sumF_zero a fun y hy => h y (List.mem_cons_of_mem _ hy)]
    rfl
theorem StC.trim (S : StC K mg B O A ρ σ H) : ∃ A', StC K mg B O A' (XM.trim ρ) σ H ∧ tot O A' = tot O A := by
  obtain ⟨r, e, g⟩ := trim_pre ρ
  generalize hh : ρ.rt.take ρ.np ++ trimL (ρ.rt.drop ρ.np) = rt at e
  have lenA : A.length = rt.length + r.length := by rw [S.len, e, List.length_append]
  have eA : A = A.take rt.length ++ A.drop rt.length := (List.take_append_drop _ _).symm
  have z : ∀ x ∈ A.drop rt.length, x.2 = zer := fun x hx => by
    obtain ⟨i, hi, ei⟩ := List.mem_iff_getElem.mp hx
    have h1 : A[rt.length + i]? = some x := by rw [← List.getElem?_drop, List.getElem?_eq_getElem hi, ei]
    have hi' : i < r.length := by rw [List.length_drop] at hi; omega
    have h2 : ρ.rt[rt.length + i]? = some r[i] := by rw [e, List.getElem?_append_right (by omega)]; simp [hi']
    have h3 := S.rts _ _ _ h1 h2
    rw [g _ (List.getElem_mem hi')] at h3
    exact h3.goneF
  have et : tot O (A.take rt.length) = tot O A := by
    funext a
    show O a + sumF (A.take rt.length) a = O a + sumF A a
    conv => rhs; rw [eA, sumF_app, sumF_zero a z]
    rfl
  have getA : ∀ i x, (A.take rt.length)[i]? = some x → A[i]? = some x ∧ i < rt.length := fun i x h => by
    have hi := (List.getElem?_eq_some_iff.mp h).1
    rw [List.length_take] at hi
    rw [List.getElem?_take_of_lt (by omega)] at h
    exact ⟨h, by omega⟩
  have getR : ∀ i x, rt[i]? = some x → ρ.rt[i]? = some x := fun i x h => by
    rw [e, List.getElem?_append_left (List.getElem?_eq_some_iff.mp h).1]; exact h
  have unf : XM.trim ρ = ⟨ρ.sl.map (trSl rt.length), rt.map (trRt rt.length), ρ.np⟩ := by unfold XM.trim; dsimp only; rw [hh]
  rw [unf]
  have cl : ∀ i (y : Rt), (rt.map (trRt rt.length))[i]? = some y → ∃ x : Rt, ρ.rt[i]? = some x ∧ x.t = y.t ∧ ∀ j p, y.par = some (j, p) → x.par = some (j, p) ∧ j < rt.length := fun i y h => by
    rw [List.getElem?_map] at h
    cases e1 : rt[i]? with
    | none => rw [e1] at h; cases h
    | some x =>
      rw [e1] at h
      have h : trRt rt.length x = y := Option.some.inj h
      subst h
      exact ⟨x, getR i x e1, (trRt_t _ _).symm, fun j p hp => trRt_par hp⟩
  refine ⟨A.take rt.length, ⟨by rw [et]; exact S.le1, by rw [et]; exact S.al, by simp [lenA], fun i x t h1 h2 => ?_, fun k j p x xj y z h1 h2 h3 h4 h5 h6 => ?_, fun m j p x h1 h2 => ?_, fun r u h => ?_, S.bnp, by simp [S.slen], fun i s o h1 h2 => ?_⟩, et⟩
  · obtain ⟨x', hx, ex, _⟩ := cl i t h2
    rw [et, ← ex]
    exact S.rts i x x' (getA i x h1).1 hx
  · obtain ⟨x', hx, ex, px⟩ := cl k x h1
    obtain ⟨xj', hxj, exj, _⟩ := cl j xj h3
    exact S.par k j p x' xj' y z hx (px j p h2).1 hxj (by rw [exj]; exact h4) (getA k y h5).1 (getA j z h6).1
  · obtain ⟨x', hx, ex, px⟩ := cl m x h1
    rw [List.length_map]
    exact (px j p h2).2
  · have h1 := S.bas r u h
    have h2 := (List.getElem?_eq_some_iff.mp h).1
    have h3 : r < A.length := by
      unfold XM.al at h1
      cases e1 : A[r]? with
      | none => rw [e1] at h1; cases h1
      | some z => exact (List.getElem?_eq_some_iff.mp e1).1
    have lt : r < rt.length := by
      rw [← hh, List.length_append, List.length_take]
      have := S.len
      have := S.bnp
      omega
    unfold XM.al at h1 ⊢
    rw [List.getElem?_take_of_lt lt]; exact h1
  · rw [et]
    dsimp only at h1
    rw [List.getElem?_map] at h1
    cases e1 : ρ.sl[i]? with
    | none => rw [e1] at h1; cases h1
    | some s' =>
      rw [e1] at h1
      have h1 := Option.some.inj h1
      have := S.sls i s' o e1 h2
      rw [← h1]
      cases s' with
      | un => exact trivial
      | dat d => exact this
      | fn x => exact this
      | ref r =>
        by_cases lt : r < rt.length
        · rw [show trSl rt.length (.ref r) = .ref r from if_pos lt]
          obtain ⟨v, a, b⟩ := this
          refine ⟨v, ?_, b⟩
          unfold XM.al at a ⊢
          rw [List.getElem?_take_of_lt lt]; exact a
        · rw [show trSl rt.length (.ref r) = .un from if_neg lt]
          exact trivial
theorem StC.tidy (S : StC K mg B O A ρ σ H) : ∃ A', StC K mg B O A' (XM.tidy ρ) σ H ∧ Same (hid (tot O A) H) (hid (tot O A') H) := by
  obtain ⟨A1, S1, s1, _⟩ := StC.sweepN (keep := named ρ) (ρ.rt.length - ρ.np) S
  obtain ⟨A2, S2, e2⟩ := S1.trim
  exact ⟨A2, S2, by rw [e2]; exact s1⟩
end
/-! ### statements -/
inductive SO where
  | nx (ρ : Fr) | rt (r : R) (ρ : Fr) | bk (ρ : Fr) | ct (ρ : Fr) | ex (c : Str) (ρ : Fr)
abbrev SM := Fr → Option SO
section
variable (K : PySem.W.Frag) (mg : Str → Option Value)
def onNx (B : Bs) (O : Ft) (A : Al) (H : Hp) (P : L2.St → Hp → Prop) (ρ' : Fr) : Prop := ∀ σ' H' A', StC K mg B O A' ρ' σ' H' → Sto O A H O A' H' → P σ' H'
def AftS (B : Bs) (O : Ft) (A : Al) (H : Hp) (E : EK) (D : Ends) : SO → Prop
  | .nx ρ' => onNx K mg B O A H D.nx ρ'
  | .bk ρ' => onNx K mg B O A H D.bk ρ'
  | .ct ρ' => onNx K mg B O A H D.ct ρ'
  | .rt r ρ' => ∀ σ' v H' A' F, StC K mg B (add O F) A' ρ' σ' H' → RR K ⟨mg, B.η⟩ (al A') (hid (tot (add O F) A') H') H' v F r → Sto O A H (add O F) A' H' → D.rt v H'
  | .ex c ρ' => ∀ C σ' H' A', mg c = some (.ref C) → StC K mg B O A' ρ' σ' H' → Sto O A H O A' H' → E σ' (.ref C) none H'
def SRun (m : SM) (E : EK) : TS := fun D σ H => ∃ B O A ρ out, StC K mg B O A ρ σ H ∧ m ρ = some out ∧ AftS K mg B O A H E D out
end
structure DS (X : Cx) (E : EK) (st : Stmt) (m : SM) : Prop where
  ps : PS X st (SRun X.K X.mg m E)
structure DSs (X : Cx) (E : EK) (sts : List Stmt) (m : SM) : Prop where
  pss : PSs X sts (SRun X.K X.mg m E)
theorem ps_imp {X : Cx} {st : Stmt} {t t' : TS} (h : PS X st t) (i : ∀ D σ H, t' D σ H → t D σ H) : PS X st t' := ⟨fun pins s σ H D I q => h.run pins s σ H D I (i _ _ _ q)⟩
theorem pss_imp {X : Cx} {st : List Stmt} {t t' : TS} (h : PSs X st t) (i : ∀ D σ H, t' D σ H → t D σ H) : PSs X st t' := ⟨fun pins s σ H D I q => h.run pins s σ H D I (i _ _ _ q)⟩
section
variable {X : Cx} {E : EK} {e : Expr} {st : Stmt} {rest : List Stmt} {pos : Pos} {B : Bs} {O O' : Ft} {A A' A1 : Al} {ρ ρ1 : Fr} {σ σ1 : L2.St} {H H' H1 : Hp} {D : Ends}
/-- the rest of a run -/
theorem AftS.later {K : PySem.W.Frag} {mg : Str → Option Value} {out : SO} (h : AftS K mg B O A H E D out) (s : Sto O A H O A1 H1) : AftS K mg B O A1 H1 E D out := by
  cases out with
  | nx ρ' => exact fun σ' H' A' S st => h σ' H' A' S (s.trans st fun _ n => n)
  | bk ρ' => exact fun σ' H' A' S st => h σ' H' A' S (s.trans st fun _ n => n)
  | ct ρ' => exact fun σ' H' A' S st => h σ' H' A' S (s.trans st fun _ n => n)
  | rt r ρ' => exact fun σ' v H' A' F S rr st => h σ' v H' A' F S rr (s.trans st fun _ n => n)
  | ex c ρ' => exact fun C σ' H' A' hc S st => h C σ' H' A' hc S (s.trans st fun _ n => n)
def mSeq (m k : SM) : SM := fun ρ => match m ρ with
  | some (.nx ρ1) => k ρ1
  | o => o
def mNx : SM := fun ρ => some (.nx ρ)
theorem dss_nil : DSs X E [] mNx := ⟨pss_imp pss_nil fun D σ H h => by
  obtain ⟨B, O, A, ρ, out, S, hm, k⟩ := h
  cases hm
  exact k σ H A S Sto.refl⟩
theorem dss_cons {m k : SM} (h1 : DS X E st m) (h2 : DSs X E rest k) : DSs X E (st :: rest) (mSeq m k) := by
  refine ⟨pss_imp (pss_cons h1.ps h2.pss) fun D σ H h => ?_⟩
  obtain ⟨B, O, A, ρ, out, S, hm, kk⟩ := h
  unfold mSeq at hm
  split at hm
  · rename_i ρ1 e
    refine ⟨B, O, A, ρ, _, S, e, fun σ' H' A' S' st => ?_⟩
    exact ⟨B, O, A', ρ1, out, S', hm, kk.later st⟩
  · rename_i o ne
    refine ⟨B, O, A, ρ, out, S, hm, ?_⟩
    cases out with
    | nx ρ' => exact absurd hm (ne ρ')
    | bk ρ' => exact kk
    | ct ρ' => exact kk
    | rt r ρ' => exact kk
    | ex c ρ' => exact kk
theorem dss_one {m : SM} (h1 : DS X E st m) : DSs X E [st] m := ⟨pss_one h1.ps⟩
def sBnd {β : Type} (m : M β) (k : β → Fr → Option SO) : SM := fun ρ => match m ρ with
  | none => none
  | some (.ex c ρ1) => some (.ex c ρ1)
  | some (.ok r ρ1) => k r ρ1
/-- an expression at the head of a statement -/
theorem run_st {K : PySem.W.Frag} {mg : Str → Option Value} {m : M R} {Q : VK} {out : SO} {k : R → Fr → Option SO} (S : StC K mg B O A ρ σ H) (kk : AftS K mg B O A H E D out)
    (h : sBnd m k ρ = some out)
    (c : ∀ r ρ1 v H1 A1 F, k r ρ1 = some out → StC K mg B (add O F) A1 ρ1 σ H1 → RR K ⟨mg, B.η⟩ (al A1) (hid (tot (add O F) A1) H1) H1 v F r → Stp O A H (add O F) A1 H1 → Q v H1) : ERun K mg m E σ H Q := by
  unfold sBnd at h
  split at h
  · cases h
  · rename_i c' ρ1 e
    cases h
    exact ⟨B, O, A, ρ, _, S, e, fun C H' A' hc S' st => kk C σ H' A' hc S' st⟩
  · rename_i r ρ1 e
    exact ⟨B, O, A, ρ, _, S, e, fun v H1 A1 F S1 rr st => c r ρ1 v H1 A1 F h S1 rr st⟩
theorem run_stT {K : PySem.W.Frag} {mg : Str → Option Value} {m : M Bool} {Q : Bool → Hp → Prop} {out : SO} {k : Bool → Fr → Option SO} (S : StC K mg B O A ρ σ H) (kk : AftS K mg B O A H E D out)
    (h : sBnd m k ρ = some out)
    (c : ∀ r ρ1 H1 A1, k r ρ1 = some out → StC K mg B O A1 ρ1 σ H1 → Stp O A H O A1 H1 → Q r H1) : TRun K mg m E σ H Q := by
  unfold sBnd at h
  split at h
  · cases h
  · rename_i c' ρ1 e
    cases h
    exact ⟨B, O, A, ρ, _, S, e, fun C H' A' hc S' st => kk C σ H' A' hc S' st⟩
  · rename_i r ρ1 e
    exact ⟨B, O, A, ρ, _, S, e, fun H1 A1 S1 st => c r ρ1 H1 A1 h S1 st⟩
/-- an expression's value is dropped -/
def mExpr (m : M R) : SM := sBnd m fun _ ρ => some (.nx (tidy ρ))
theorem ds_expr {m : M R} (h : DE X E e m) (hs : swapsWith e none pos.line X.env = pure false := by rfl) : DS X E (.Expr e pos) (mExpr m) := by
  refine ⟨ps_imp (ps_expr h.pe hs) fun D σ H h => ?_⟩
  obtain ⟨B, O, A, ρ, out, S, hm, kk⟩ := h
  refine run_st S kk hm fun r ρ1 v H1 A1 F hk S1 rr st => ?_
  cases hk
  obtain ⟨A2, S2, s2⟩ := (S1.weak fun a => le_add a).tidy
  exact kk σ H1 A2 S2 ⟨st.out, (st.weak fun a => le_add a).sh.trans s2⟩
def mRet (m : M R) : SM := sBnd m fun r ρ => some (.rt r ρ)
theorem ds_ret {m : M R} (h : DE X E e m) : DS X E (.Return (some e) pos) (mRet m) := by
  refine ⟨ps_imp (ps_ret h.pe) fun D σ H h => ?_⟩
  obtain ⟨B, O, A, ρ, out, S, hm, kk⟩ := h
  refine run_st S kk hm fun r ρ1 v H1 A1 F hk S1 rr st => ?_
  cases hk
  exact kk σ v H1 A1 F S1 rr st.toSto
def mRetN : SM := fun ρ => some (.rt (.dat .none) ρ)
def mIf (mt : M Bool) (a b : SM) : SM := sBnd mt fun c => if c = true then a else b
theorem ds_if {c : Expr} {as bs : List Stmt} {mt : M Bool} {a b : SM} (hc : DT X E c mt) (ha : DSs X E as a) (hb : DSs X E bs b) : DS X E (.If c as bs pos) (mIf mt a b) := by
  refine ⟨ps_imp (ps_if hc.pt ha.pss hb.pss) fun D σ H h => ?_⟩
  obtain ⟨B, O, A, ρ, out, S, hm, kk⟩ := h
  refine run_stT S kk hm fun r ρ1 H1 A1 hk S1 st => ?_
  cases r with
  | true => exact ⟨B, O, A1, ρ1, out, S1, hk, kk.later st.toSto⟩
  | false => exact ⟨B, O, A1, ρ1, out, S1, hk, kk.later st.toSto⟩
/-! ### names are set -/
/-- a root that nothing names -/
def isFree (ρ : Fr) (k : Nat) : Bool := (match ρ.rt[k]? with | some ⟨.gone, _⟩ => true | _ => false) && (!named ρ k && ρ.rt.all fun x => match x.par with
  | some (j, _) => !(j == k)
  | none => true)
def freeN (ρ : Fr) : Nat → Nat → Option Nat
  | 0, _ => none
  | n + 1, k => if isFree ρ k = true then some k else freeN ρ n (k + 1)
def freeAt (ρ : Fr) : Option Nat := freeN ρ (ρ.rt.length - ρ.np) ρ.np
/-- a new root, in the first free place -/
def place (t : T) (ρ : Fr) : Nat × Fr := match freeAt ρ with
  | some j => (j, { ρ with rt := ρ.rt.set j ⟨t, none⟩ })
  | none => (ρ.rt.length, { ρ with rt := ρ.rt ++ [⟨t, none⟩] })
def toSl (i : Nat) : R → Fr → Fr
  | .dat d, ρ => { ρ with sl := ρ.sl.set i (.dat d) }
  | .fn x, ρ => { ρ with sl := ρ.sl.set i (.fn x) }
  | .ref r, ρ => { ρ with sl := ρ.sl.set i (.ref r) }
  | .own t, ρ => { (place t ρ).2 with sl := ρ.sl.set i (.ref (place t ρ).1) }
theorem StC.setSl {K : PySem.W.Frag} {mg : Str → Option Value} (S : StC K mg B O A ρ σ H) {i : Nat} {s : Sl} {v : V} (h : SlOk K mg (XM.al A) (hid (tot O A) H) (some v) s) : StC K mg B O A { ρ with sl := ρ.sl.set i s } (σ.set i (some v)) H := by
  refine ⟨S.le1, S.al, S.len, S.rts, S.par, S.parL, S.bas, S.bnp, by simp [S.slen], fun j s' o h1 h2 => ?_⟩
  rw [List.getElem?_set] at h1 h2
  by_cases e : i = j
  · rw [if_pos e] at h1 h2
    split at h1
    · split at h2
      · cases h1; cases h2; exact h
      · cases h2
    · cases h1
  · rw [if_neg e] at h1 h2
    exact S.sls j s' o h1 h2
theorem freeN_ok {ρ : Fr} : ∀ (n k j : Nat), freeN ρ n k = some j → k ≤ j ∧ isFree ρ j = true
  | 0, _, _, h => by cases h
  | n + 1, k, j, h => by
    unfold freeN at h
    split at h
    · rename_i c; cases h; exact ⟨Nat.le_refl _, c⟩
    · obtain ⟨a, b⟩ := freeN_ok n (k + 1) j h; exact ⟨by omega, b⟩
theorem StC.fill {K : PySem.W.Frag} {mg : Str → Option Value} {F : Ft} {t : T} {v : V} (S : StC K mg B (add O F) A ρ σ H) (ht : TR K ⟨mg, B.η⟩ (hid (tot (add O F) A) H) H t v F) {j : Nat} (hj : freeAt ρ = some j) :
    StC K mg B O (A.set j (v, F)) { ρ with rt := ρ.rt.set j ⟨t, none⟩, sl := ρ.sl } σ H ∧ tot O (A.set j (v, F)) = tot (add O F) A ∧ XM.al (A.set j (v, F)) j = some v := by
  obtain ⟨nj, fr⟩ := freeN_ok _ _ _ hj
  unfold isFree at fr
  simp only [Bool.and_eq_true, Bool.not_eq_true'] at fr
  obtain ⟨g, nn, pp⟩ := fr
  cases hx : ρ.rt[j]? with
  | none => rw [hx] at g; cases g
  | some x =>
  obtain ⟨tx, px⟩ := x
  rw [hx] at g
  cases tx <;> try cases g
  have hjl : j < ρ.rt.length := (List.getElem?_eq_some_iff.mp hx).1
  obtain ⟨xA, hA⟩ := at_len S.len hx
  have z0 : xA.2 = zer := by
    obtain ⟨vA, FA⟩ := xA
    have := S.rts j _ _ hA hx
    cases this
    rfl
  have e : tot O (A.set j (v, F)) = tot (add O F) A := by
    funext a
    have h1 := sumF_set (y := (v, F)) a hA
    have h2 := congrFun z0 a
    have h3 : zer a = 0 := rfl
    show O a + sumF (A.set j (v, F)) a = O a + F a + sumF A a
    dsimp only at h1
    omega
  have getA : ∀ (m : Nat) (z : V × Ft), (A.set j (v, F))[m]? = some z → (m = j ∧ z = (v, F)) ∨ (m ≠ j ∧ A[m]? = some z) := fun m z h => by
    rw [List.getElem?_set] at h
    by_cases q : j = m
    · rw [if_pos q, if_pos (by rw [S.len]; exact hjl)] at h; exact .inl ⟨q.symm, (Option.some.inj h).symm⟩
    · rw [if_neg q] at h; exact .inr ⟨fun z => q z.symm, h⟩
  have getR : ∀ (m : Nat) (z : Rt), (ρ.rt.set j ⟨t, none⟩)[m]? = some z → (m = j ∧ z = ⟨t, none⟩) ∨ (m ≠ j ∧ ρ.rt[m]? = some z) := fun m z h => by
    rw [List.getElem?_set] at h
    by_cases q : j = m
    · rw [if_pos q, if_pos (q ▸ hjl)] at h; exact .inl ⟨q.symm, (Option.some.inj h).symm⟩
    · rw [if_neg q] at h; exact .inr ⟨fun z => q z.symm, h⟩
  have alE : ∀ m, m ≠ j → XM.al (A.set j (v, F)) m = XM.al A m := fun m ne => by
    unfold XM.al
    rw [List.getElem?_set, if_neg fun q => ne q.symm]
  refine ⟨⟨by rw [e]; exact S.le1, by rw [e]; exact S.al, by simp [S.len], fun r y t' h1 h2 => ?_, fun m k p y yk z w h1 h2 h3 h4 h5 h6 => ?_, fun m k p y h1 h2 => ?_, fun r u h => ?_, S.bnp, S.slen, fun i sl o h1 h2 => ?_⟩, e, ?_⟩
  · rw [e]
    rcases getA r y h1 with ⟨rfl, rfl⟩ | ⟨ne, h1⟩
    · rcases getR _ t' h2 with ⟨_, rfl⟩ | ⟨ne, _⟩
      · exact ht
      · exact absurd rfl ne
    · rcases getR r t' h2 with ⟨q, _⟩ | ⟨_, h2⟩
      · exact absurd q ne
      · exact S.rts r y t' h1 h2
  · rcases getR m y h1 with ⟨_, rfl⟩ | ⟨ne, h1⟩
    · cases h2
    · have nk : k ≠ j := fun q => by
        have := List.all_eq_true.mp pp y (List.mem_of_getElem? h1)
        rw [h2] at this
        subst q
        simp at this
      rcases getR k yk h3 with ⟨q, _⟩ | ⟨_, h3⟩
      · exact absurd q nk
      rcases getA m z h5 with ⟨q, _⟩ | ⟨_, h5⟩
      · exact absurd q ne
      rcases getA k w h6 with ⟨q, _⟩ | ⟨_, h6⟩
      · exact absurd q nk
      exact S.par m k p y yk z w h1 h2 h3 h4 h5 h6
  · rw [List.length_set]
    rcases getR m y h1 with ⟨_, rfl⟩ | ⟨_, h1⟩
    · cases h2
    · exact S.parL m k p y h1 h2
  · have lt : r < ρ.np := by rw [← S.bnp]; exact (List.getElem?_eq_some_iff.mp h).1
    rw [alE r (by omega)]
    exact S.bas r u h
  · have := S.sls i sl o h1 h2
    rw [e]
    cases sl with
    | un => exact trivial
    | dat d => exact this
    | fn x => exact this
    | ref r =>
      obtain ⟨v', a, b⟩ := this
      refine ⟨v', ?_, b⟩
      rw [alE r fun q => ?_]
      · exact a
      · unfold named at nn
        have h := List.any_eq_false.mp nn _ (List.mem_of_getElem? h1)
        subst q
        simp at h
  · unfold XM.al
    rw [List.getElem?_set, if_pos rfl, if_pos (by rw [S.len]; exact hjl)]
    rfl
theorem StC.place {K : PySem.W.Frag} {mg : Str → Option Value} {F : Ft} {t : T} {v : V} (S : StC K mg B (add O F) A ρ σ H) (ht : TR K ⟨mg, B.η⟩ (hid (tot (add O F) A) H) H t v F) :
    ∃ A', StC K mg B O A' (XM.place t ρ).2 σ H ∧ tot O A' = tot (add O F) A ∧ XM.al A' (XM.place t ρ).1 = some v := by
  unfold XM.place
  cases hj : freeAt ρ with
  | some j =>
    obtain ⟨S1, e1, a1⟩ := S.fill ht hj
    exact ⟨_, S1, e1, a1⟩
  | none =>
    obtain ⟨S1, e1⟩ := S.push (pr := none) ht (fun _ _ _ _ z => nomatch z) (fun _ _ z => nomatch z)
    refine ⟨A ++ [(v, F)], S1, e1, ?_⟩
    unfold XM.al
    rw [← S.len, List.getElem?_append_right (Nat.le_refl _), Nat.sub_self]
    rfl
theorem place_sl {t : T} {ρ : Fr} : (place t ρ).2.sl = ρ.sl := by
  unfold place
  split <;> rfl
theorem StC.toSl {K : PySem.W.Frag} {mg : Str → Option Value} {F : Ft} {r : R} {v : V} (S : StC K mg B (add O F) A ρ σ H) (h : RR K ⟨mg, B.η⟩ (XM.al A) (hid (tot (add O F) A) H) H v F r) (i : Nat) :
    ∃ A', StC K mg B O A' (XM.toSl i r ρ) (σ.set i (some v)) H ∧ tot O A' = tot (add O F) A := by
  cases r with
  | dat d =>
    obtain ⟨rfl, h⟩ := h
    rw [add_zer] at S h ⊢
    exact ⟨A, S.setSl ⟨v, rfl, h⟩, rfl⟩
  | fn x =>
    obtain ⟨rfl, f, rfl, h⟩ := h
    rw [add_zer] at S ⊢
    exact ⟨A, S.setSl ⟨f, rfl, h⟩, rfl⟩
  | ref n =>
    obtain ⟨rfl, h⟩ := h
    rw [add_zer] at S ⊢
    exact ⟨A, S.setSl ⟨v, h, rfl⟩, rfl⟩
  | own t =>
    obtain ⟨A1, S1, e1, a1⟩ := S.place h
    refine ⟨A1, ?_, e1⟩
    have := S1.setSl (i := i) (s := .ref (XM.place t ρ).1) ⟨v, a1, rfl⟩
    rw [place_sl] at this
    exact this
/-- what the slot held is let go -/
def isRef : R → Nat → Bool
  | .ref n, k => n == k
  | _, _ => false
def letGo (i : Nat) (r : R) (ρ : Fr) : Fr := sweep (fun k => named { ρ with sl := ρ.sl.set i .un } k || isRef r k) { ρ with sl := ρ.sl.set i .un }
theorem StC.unS {K : PySem.W.Frag} {mg : Str → Option Value} (S : StC K mg B O A ρ σ H) (i : Nat) : StC K mg B O A { ρ with sl := ρ.sl.set i .un } σ H := by
  refine ⟨S.le1, S.al, S.len, S.rts, S.par, S.parL, S.bas, S.bnp, by simp [S.slen], fun j s' o h1 h2 => ?_⟩
  rw [List.getElem?_set] at h1
  by_cases e : i = j
  · rw [if_pos e] at h1
    split at h1
    · cases h1; exact trivial
    · cases h1
  · rw [if_neg e] at h1
    exact S.sls j s' o h1 h2
theorem StC.letGo {K : PySem.W.Frag} {mg : Str → Option Value} (S : StC K mg B O A ρ σ H) (i : Nat) (r : R) : ∃ A', StC K mg B O A' (XM.letGo i r ρ) σ H ∧ Same (hid (tot O A) H) (hid (tot O A') H) ∧ XM.al A' = XM.al A :=
  StC.sweepN _ (S.unS i)
def setS (i : Nat) (r : R) (ρ : Fr) : Fr := tidy (toSl i r (letGo i r ρ))
theorem StC.setS {K : PySem.W.Frag} {mg : Str → Option Value} {F : Ft} {r : R} {v : V} (S : StC K mg B (add O F) A ρ σ H) (h : RR K ⟨mg, B.η⟩ (XM.al A) (hid (tot (add O F) A) H) H v F r) (i : Nat) :
    ∃ A', StC K mg B O A' (XM.setS i r ρ) (σ.set i (some v)) H ∧ Same (hid (tot (add O F) A) H) (hid (tot O A') H) := by
  obtain ⟨A1, S1, s1, l1⟩ := S.letGo i r
  have h1 : RR K ⟨mg, B.η⟩ (XM.al A1) (hid (tot (add O F) A1) H) H v F r := by
    cases r with
    | dat d => exact ⟨h.1, Dq_same s1 h.2⟩
    | fn x => exact h
    | own t => exact TR.step s1 h fun _ _ => rfl
    | ref r => exact ⟨h.1, by rw [l1]; exact h.2⟩
  obtain ⟨A2, S2, e2⟩ := S1.toSl h1 i
  obtain ⟨A3, S3, s3⟩ := S2.tidy
  exact ⟨A3, S3, s1.trans (by rw [← e2]; exact s3)⟩
def mSet (i : Nat) (m : M R) : SM := sBnd m fun r ρ => some (.nx (setS i r ρ))
theorem ds_set {i : Nat} {x : Str} {m : M R} {pos'} (hN : X.N.Nodup) (hi : X.N[i]? = some x) (hx : Loc X.env.scope x) (he : DE X E e m) (hs : swapsWith e (some (.Name x pos')) pos.line X.env = pure false := by rfl)
    (hf : X.fn x = true ∨ X.env.scope.names.lookup x = some .local := by first | exact .inl rfl | exact .inr rfl | assumption) : DS X E (.Assign [.Name x pos'] e pos) (mSet i m) := by
  refine ⟨ps_imp (ps_set hN hi hx he.pe hs hf) fun D σ H h => ?_⟩
  obtain ⟨B, O, A, ρ, out, S, hm, kk⟩ := h
  refine run_st S kk hm fun r ρ1 v H1 A1 F hk S1 rr st => ?_
  cases hk
  obtain ⟨A3, S3, s3⟩ := S1.setS rr i
  exact kk _ H1 A3 S3 ⟨st.out, st.sh.trans s3⟩
end
end XM
end
section
/-! an exception that leaves from inside a list comprehension -/
namespace CqN
open PySem PySem.Spec PyProof.Rows L2
/-- in flight over the frames l, B the ground, fl what its traceback says -/
def Trk (B : Heap) (l : List Env) (a : Addr) (Z : Obj → Prop) (fl : Value) (h : Heap) : Prop :=
  B.StaysIn h ∧ B.get? a = none ∧ h.FunFrames B l ∧ HandSPX.TracedZ h B a Z fl
/-- as CX, whatever the traceback says of its flight -/
def Fl (P : Program) (w : World) (l : List Env) (H : Hp) (s : Shared) (E : XK) (a : Addr) (fl : Value) (s' : Shared) : Prop :=
  ∃ (B : Heap) (H' : Hp) (cls : Value) (d : Option Addr), Trk B l a (L2N.Zn cls d) fl s'.heap ∧ HOk P w H' B ∧ UB (frs l) H H' s.heap B s'.heap ∧ H' a = none ∧ s'.os = s.os ∧ AllBare s'.gens ∧ E cls d H'
theorem mem_frs {l : List Env} {b : Addr} {B h : Heap} (hl : h.FunFrames B l) (hb : b ∈ frs l) : ∃ o, h.get? b = some o ∧ ∀ vs, o.data ≠ .fields vs := (hl.mem hb).2
section
variable {P : Program} {w : World} {l : List Env} {H : Hp} {s s' : Shared} {E : XK} {a C : Addr} {fl fl' : Value}
/-- the exception's own objects and the frames' slots move -/
theorem Fl.up {h' : Heap} {B : Heap} {H' : Hp} {cls : Value} {d : Option Addr} (t : Trk B l a (L2N.Zn cls d) fl s'.heap) (ok : HOk P w H' B) (ub : UB (frs l) H H' s.heap B s'.heap) (na : H' a = none) (os : s'.os = s.os) (ag : AllBare s'.gens) (e : E cls d H')
    (t' : Trk B l a (L2N.Zn cls d) fl' h') (up : s'.heap.UpToSlots h') : Fl P w l H s E a fl' { s' with heap := h' } := by
  refine ⟨B, H', cls, d, t', ok, ⟨ub.keep, fun b o q hb => ?_, ub.free, ub.there, ub.tups, ub.frzs, ub.tbls⟩, na, os, ag, e⟩
  obtain ⟨sl, q1⟩ := ub.slot b o q hb
  obtain ⟨o2, q2, nf⟩ := mem_frs t.2.2.1 hb
  rw [q1] at q2
  cases q2
  obtain ⟨sl2, q3⟩ := up b _ q1 nf
  exact ⟨sl2, q3⟩
theorem Fl.of {u : Value} (c : L2N.CX P w l H s E u s') : ∃ a, u = .ref a ∧ Fl P w l H s E a .none s' := by
  obtain ⟨a, B, H', cls, d, rfl, ⟨k1, k2, k3, k4⟩, ok, ub, na, os, ag, e⟩ := c
  exact ⟨a, rfl, B, H', cls, d, ⟨k1, k2, k3, k4⟩, ok, ub, na, os, ag, e⟩
section
variable {M : Model} {A : Around} {E₁ : Value → Shared → Prop} {env : Env} {outer : List Env} {L : Addr}
/-- passed on: whatever frame is told -/
theorem Fl.passOn {what : String} {cenv : Env} {α : Type} {Q : α → Shared → Prop} (c : Fl P w l H s E a fl s') (hE : ∀ h' fl', Fl P w l H s E a fl' { s' with heap := h' } → E₁ (.ref a) { s' with heap := h' }) :
    wpAny M A (PySem.passOn what (.ref a) cenv : Sem α) Q E₁ s' := by
  obtain ⟨B, H', cls, d, ⟨t1, t2, t3, t4⟩, ok, ub, na, os, ag, e⟩ := c
  obtain ⟨oe, vs, T, oT, ts, he, hz, hd, h1, hnT, hTe, hT, hdT, h3⟩ := id t4
  unfold PySem.passOn
  refine wpAny_bind (wpAny_field he hd h1 ?_)
  rw [if_neg (show ¬ ((Value.ref T == Value.none) = true) by simp)]
  refine wpAny_bind (HandSPX.setFlight_anyZ t1 t3 t4 fun h' k1 k2 k3 k4 => wpAny_throw (hE h' (cenv.frame.elim Value.none fun f => rawInt f) ?_))
  exact Fl.up ⟨t1, t2, t3, t4⟩ ok ub na os ag e ⟨k1, t2, k2, k3⟩ k4
end
end
/-- how a block stands in its def -/
structure In (X : Cx) (s : Shared) (H : Hp) (scope : Scope) (ce : Env) (fp : List Addr) : Prop where
  inv : ∃ pins σ, Inv X pins σ H s ∧ ∀ b ∈ fp, FpOk X pins H b
  loc : ce.locals = s.heap.objs.size
  frm : ce.frame = X.env.frame
end CqN
end
section
namespace CqN
open PySem PySem.Spec PyProof.Rows L2
/-- a block's own iterator turns within the block -/
theorem turns_in {X : Cx} {s s' : Shared} {H H' : Hp} {scope : Scope} {ce : Env} {fp : List Addr} {τ : L2.St} (J : Inv (X.blk s H scope ce fp) [] τ H' s') (n : ∀ b ∈ fp, H' b = none) : ∀ b ∈ fp, FpOk (X.blk s H scope ce fp) [] H' b := by
  intro b hb
  have z := J.ok.exf b hb
  exact ⟨n b hb, z.1, J.ok.exfs b hb, Or.inl hb, z.2, fun p hp => by
    rw [show (X.blk s H scope ce fp).pn ++ [] = [] from rfl] at hp
    cases hp⟩
end CqN
end
section
/-! defs whose exceptions have no context -/
namespace Tl
open PySem PySem.Spec PyProof.Rows L2
section
variable {X : Cx}
/-- X(e), its context is None -/
theorem pmk_ownN1 {C : Addr} {bmB : List Value} {B newId initId : String} {x : Str} {e : Expr} {ta : TE} {p pos : Pos} (F : ExcBaseFacts B newId initId bmB) (q : PySem.W.excIn X.K C bmB newId = true) (gC : X.mg x = some (.ref C))
    (kC : PySem.W.keepIn X.K (.ref C) = true) (r : Raises X (.ref C)) (hg : Gl X x) (he : PE X e ta)
    (hs : starEach [e] X.env = (false, eval e X.env) :: starEach [] X.env := by rfl) (hdb : (x == ("__debug__" : Str)) = false := by decide) :
    L2N.PMk X (.Call (.Name x p) [e] [] pos) (fun σ H Q => ta σ H fun _ H1 => Q (.ref C) none H1) := by
  intro pins s σ H Q I want
  refine wpAny_Call_Name_kw (ld_glob I hg gC (PySem.W.callWith_K (h₀ := X.base) I.ok.mod.kin kC ?_ hs (by rfl)) hdb)
  rw [hs]
  show wpAny _ _ (spliced ((false, eval e X.env) :: backTo pos (starEach [] X.env))) _ _ s
  refine Calls.spliced_cons (thn (he.run pins s σ H _ I want) fun u s1 hh => Calls.spliced_nil ?_)
  obtain ⟨v, H1, I1, r1, q1⟩ := hh
  refine ⟨I1.kIn, ?_⟩
  show wpAny _ _ (call (.ref C) [u]) _ _ _
  obtain ⟨bm, N, nm, qn, bs, hdct, sn, sub, ab, col, dd, k0, k1, k2, k3, k4, k5, hC, hN, hni, T⟩ := exc_obj I1.kIn q
  exact wpAny_call_exc_subT F T hC hN hni (fun h' e hm => L2N.mk_of I1 hm r q1 (I1.hok.gone hm.new)) (by show 1 ≤ sizeLine; rw [sizeLine_eq]; omega)
end
end Tl
end
section
namespace XM
open PySem PySem.Spec PyProof.Rows L2 Tl
/-! ### defs -/
inductive FO where
  | ret (t : T) (as : List T) | ex (c : Str) (as : List T)
abbrev FM := List T → Option FO
def slFrom (k : Nat) : List T → List Sl
  | [] => []
  | _ :: ts => .ref k :: slFrom (k + 1) ts
def entry (n : Nat) (as : List T) : Fr := ⟨slFrom 0 as ++ List.replicate (n - as.length) .un, as.map (⟨·, none⟩), as.length⟩
def params (ρ : Fr) : List T := (ρ.rt.take ρ.np).map (·.t)
def leave (r : R) (ρ : Fr) : Option (T × List T) := match r with
  | .dat d => some (.dat d, params (sweep (fun _ => false) ρ))
  | .fn x => some (.fn x, params (sweep (fun _ => false) ρ))
  | .own t => some (t, params (sweep (fun _ => false) ρ))
  | .ref k => match ρ.rt[k]? with
    | some ⟨t, none⟩ => if ρ.np ≤ k then
        let ρ1 := sweep (fun j => j == k) ρ
        match ρ1.rt[k]? with
        | some x => some (x.t, params ρ1)
        | none => none
      else match toD (.ref k) ρ with
        | some (.ok d ρ1) => some (.dat d, params (sweep (fun _ => false) ρ1))
        | _ => none
    | _ => match toD (.ref k) ρ with
      | some (.ok d ρ1) => some (.dat d, params (sweep (fun _ => false) ρ1))
      | _ => none
def mDef (n : Nat) (m : SM) : FM := fun as => match m (entry n as) with
  | some (.rt r ρ) => (leave r ρ).map fun p => .ret p.1 p.2
  | some (.nx ρ) => (leave (.dat .none) ρ).map fun p => .ret p.1 p.2
  | some (.ex c ρ) => some (.ex c (params (sweep (fun _ => false) ρ)))
  | _ => none
section
variable {K : PySem.W.Frag} {mg : Str → Option Value} {mm : Mg} {B : Bs} {O O' : Ft} {A A' A1 : Al} {ρ ρ1 : Fr} {σ : L2.St} {H H' H1 : Hp} {E : EK}
theorem TRs.als {G : Hp} : ∀ {ts : List T} {vs : List V} {F : Ft}, TRs K mm G H ts vs F → ∃ A : Al, A.map (·.1) = vs ∧ sumF A = F ∧ A.length = ts.length ∧ ∀ (r : Nat) (x : V × Ft) (t : T), A[r]? = some x → ts[r]? = some t → TR K mm G H t x.1 x.2
  | _, _, _, .nil => ⟨[], rfl, rfl, rfl, fun r x t h => by simp at h⟩
  | _, _, _, .cons (v := v) (F := F) h r => by
    obtain ⟨A, e1, e2, e3, k⟩ := TRs.als r
    refine ⟨(v, F) :: A, by simp [e1], by show add F (sumF A) = _; rw [e2], by simp [e3], fun r x t h1 h2 => ?_⟩
    cases r with
    | zero => simp at h1 h2; subst h1 h2; exact h
    | succ n => exact k n x t (by simpa using h1) (by simpa using h2)
theorem TRs.of {G : Hp} : ∀ {A : Al} {ts : List T}, A.length = ts.length → (∀ (r : Nat) (x : V × Ft) (t : T), A[r]? = some x → ts[r]? = some t → TR K mm G H t x.1 x.2) → TRs K mm G H ts (A.map (·.1)) (sumF A)
  | [], [], _, _ => .nil
  | x :: A, t :: ts, e, k => .cons (k 0 x t rfl rfl) (TRs.of (by simpa using e) fun r x t h1 h2 => k (r + 1) x t (by simpa using h1) (by simpa using h2))
  | [], _ :: _, e, _ => by simp at e
  | _ :: _, [], e, _ => by simp at e
theorem al_at {r : Nat} {v : V} (h : al A r = some v) : ∃ F, A[r]? = some (v, F) := by
  unfold al at h
  cases e : A[r]? with
  | none => rw [e] at h; cases h
  | some x => rw [e] at h; cases Option.some.inj h; exact ⟨x.2, rfl⟩
/-- what a body leaves of its parameters -/
theorem StC.params (S : StC K mg B O A ρ σ H) : ∃ F, TRs K ⟨mg, B.η⟩ (hid (add O F) H) H (XM.params ρ) B.l F ∧ (∀ a, add O F a ≤ 1) ∧ (∀ a, add O F a ≠ 0 → H a ≠ none) ∧ Same (hid (tot O A) H) (hid (add O F) H) := by
  have hB : B.l = (A.take ρ.np).map (·.1) := by
    apply List.ext_getElem?
    intro i
    cases e : B.l[i]? with
    | none =>
      have h1 := List.getElem?_eq_none_iff.mp e
      rw [S.bnp] at h1
      refine (List.getElem?_eq_none_iff.mpr ?_).symm
      rw [List.length_map, List.length_take]; omega
    | some v =>
      obtain ⟨F, hA⟩ := al_at (S.bas i v e)
      have h1 := (List.getElem?_eq_some_iff.mp e).1
      rw [S.bnp] at h1
      rw [List.getElem?_map, List.getElem?_take_of_lt h1, hA]
      rfl
  have le : ∀ a, sumF (A.take ρ.np) a ≤ sumF A a := fun a => by
    have h1 := sumF_app (A := A.take ρ.np) (B := A.drop ρ.np) a
    rw [List.take_append_drop] at h1
    omega
  have w : Same (hid (tot O A) H) (hid (add O (sumF (A.take ρ.np))) H) := hid_mono fun a z => by
    have h1 := le a
    unfold tot add at z
    show O a + sumF (A.take ρ.np) a = 0
    omega
  refine ⟨sumF (A.take ρ.np), ?_, fun a => ?_, fun a z => S.al a ?_, w⟩
  · rw [hB]
    refine TRs.of ?_ fun r x t h1 h2 => ?_
    · unfold XM.params
      rw [List.length_map, List.length_take, List.length_take, S.len]
    · unfold XM.params at h2
      rw [List.getElem?_map] at h2
      cases e : (ρ.rt.take ρ.np)[r]? with
      | none => rw [e] at h2; cases h2
      | some y =>
        rw [e] at h2
        have h2 : y.t = t := Option.some.inj h2
        have lt : r < ρ.np := by
          have := (List.getElem?_eq_some_iff.mp e).1
          rw [List.length_take] at this; omega
        rw [List.getElem?_take_of_lt lt] at e h1
        rw [← h2]
        exact (S.rts r x y h1 e).step w fun _ _ => rfl
  · have h1 := S.le1 a
    have h2 := le a
    unfold tot add at h1
    show O a + _ ≤ 1
    omega
  · have h2 := le a
    have z : O a + sumF (A.take ρ.np) a ≠ 0 := z
    show O a + sumF A a ≠ 0
    omega
/-- what a caller gets back -/
def Got (K : PySem.W.Frag) (mm : Mg) (O F : Ft) (H : Hp) (vs : List V) (as' : List T) (t : T) (v : V) (H' : Hp) (F' Ft : Ft) : Prop :=
  TRs K mm (hid (add O (add F' Ft)) H') H' as' vs F' ∧ TR K mm (hid (add O (add F' Ft)) H') H' t v Ft ∧ (∀ a, add O (add F' Ft) a ≤ 1) ∧ (∀ a, add O (add F' Ft) a ≠ 0 → H' a ≠ none) ∧ (∀ a, O a ≠ 0 → H' a = H a) ∧ Same (hid (add O F) H) (hid (add O (add F' Ft)) H')
theorem add_swap {F1 F2 F3 : Ft} : add (add F1 F2) F3 = add F1 (add F3 F2) := by funext a; show F1 a + F2 a + F3 a = F1 a + (F3 a + F2 a); omega
theorem leave_own {t : T} {v : V} {F : Ft} (S : StC K mg B (add O F) A ρ σ H) (h : TR K ⟨mg, B.η⟩ (hid (tot (add O F) A) H) H t v F) :
    ∃ F', TRs K ⟨mg, B.η⟩ (hid (add O (add F' F)) H) H (XM.params (sweep (fun _ => false) ρ)) B.l F' ∧ TR K ⟨mg, B.η⟩ (hid (add O (add F' F)) H) H t v F ∧ (∀ a, add O (add F' F) a ≤ 1) ∧ (∀ a, add O (add F' F) a ≠ 0 → H a ≠ none) ∧ Same (hid (tot (add O F) A) H) (hid (add O (add F' F)) H) := by
  obtain ⟨A1, S1, s1, _⟩ := StC.sweepN (keep := fun _ => false) (ρ.rt.length - ρ.np) S
  obtain ⟨F', p1, p2, p3, p4⟩ := S1.params
  rw [add_swap] at p1 p2 p3 p4
  have w := s1.trans p4
  exact ⟨F', p1, h.step w fun _ _ => rfl, p2, p3, w⟩
theorem sweepN_np {keep : Nat → Bool} : ∀ (n : Nat) (ρ : Fr), (sweepN keep n ρ).np = ρ.np
  | 0, _ => rfl
  | n + 1, ρ => by
    unfold sweepN
    rw [sweepN_np n]
    split
    · rfl
    · unfold backK
      split
      · dsimp only
        split
        · split
          · split <;> rfl
          · rfl
        · rfl
      · rfl
theorem leave_ok {r : R} {v : V} {F : Ft} {t : T} {as' : List T} (S : StC K mg B (add O F) A ρ σ H) (h : RR K ⟨mg, B.η⟩ (al A) (hid (tot (add O F) A) H) H v F r) (e : leave r ρ = some (t, as')) :
    ∃ F' Ft, TRs K ⟨mg, B.η⟩ (hid (add O (add F' Ft)) H) H as' B.l F' ∧ TR K ⟨mg, B.η⟩ (hid (add O (add F' Ft)) H) H t v Ft ∧ (∀ a, add O (add F' Ft) a ≤ 1) ∧ (∀ a, add O (add F' Ft) a ≠ 0 → H a ≠ none) ∧ Same (hid (tot (add O F) A) H) (hid (add O (add F' Ft)) H) := by
  have viaD : ∀ (k : Nat), r = .ref k → ∀ d ρ1, toD (.ref k) ρ = some (.ok d ρ1) → t = .dat d → as' = XM.params (sweep (fun _ => false) ρ1) → ∃ F' Ft, TRs K ⟨mg, B.η⟩ (hid (add O (add F' Ft)) H) H as' B.l F' ∧ TR K ⟨mg, B.η⟩ (hid (add O (add F' Ft)) H) H t v Ft ∧ (∀ a, add O (add F' Ft) a ≤ 1) ∧ (∀ a, add O (add F' Ft) a ≠ 0 → H a ≠ none) ∧ Same (hid (tot (add O F) A) H) (hid (add O (add F' Ft)) H) := by
    rintro k rfl d ρ1 hd rfl rfl
    obtain ⟨d', ρ', A', z, S', dq, st⟩ := give S h hd
    cases z
    have S'' : StC K mg B (add O zer) A' ρ1 σ H := by rw [add_zer]; exact S'
    obtain ⟨F', p1, p2, p3, p4, p5⟩ := leave_own S'' (t := .dat d) (v := v) (by rw [add_zer]; exact .dat dq)
    refine ⟨F', zer, p1, p2, p3, p4, ?_⟩
    rw [add_zer (F := O)] at p5
    exact st.sh.trans p5
  cases r with
  | dat d =>
    cases e
    obtain ⟨F', p⟩ := leave_own S (t := .dat d) (v := v) (by rw [h.1] at S ⊢; exact .dat (by have := h.2; rw [h.1] at this; exact this))
    exact ⟨F', F, p⟩
  | fn x =>
    cases e
    obtain ⟨z, f, rfl, hf⟩ := h
    obtain ⟨F', p⟩ := leave_own S (t := .fn x) (v := .ref f) (by rw [z]; exact .fn hf)
    exact ⟨F', F, p⟩
  | own t' =>
    cases e
    obtain ⟨F', p⟩ := leave_own S h
    exact ⟨F', F, p⟩
  | ref k =>
    simp only [leave] at e
    split at e
    · rename_i t0 hx
      split at e
      · rename_i hk
        split at e
        · rename_i x hx1
          cases e
          obtain ⟨z, ha⟩ := h
          subst z
          rw [add_zer] at S ⊢
          obtain ⟨A1, S1, s1, l1⟩ := StC.sweepN (keep := fun j => j == k) (ρ.rt.length - ρ.np) S
          rw [← l1] at ha
          obtain ⟨Fk, hAk⟩ := al_at ha
          obtain ⟨S2, e2, ht⟩ := S1.take hAk hx1
          obtain ⟨F', p1, p2, p3, p4⟩ := S2.params
          have ep : XM.params { sweep (fun j => j == k) ρ with rt := (sweep (fun j => j == k) ρ).rt.set k ⟨.gone, x.par⟩ } = XM.params (sweep (fun j => j == k) ρ) := by
            unfold XM.params
            dsimp only
            rw [show (sweep (fun j => j == k) ρ).np = ρ.np from sweepN_np _ _, List.take_set_of_le hk]
          have p1 : TRs K ⟨mg, B.η⟩ (hid (add (add O Fk) F') H) H (XM.params (sweep (fun j => j == k) ρ)) B.l F' := by rw [← ep]; exact p1
          rw [add_swap] at p1 p2 p3 p4
          rw [e2] at p4
          exact ⟨F', Fk, p1, ht.step p4 fun _ _ => rfl, p2, p3, s1.trans p4⟩
        · cases e
      · split at e
        · rename_i d ρ1 hd; cases e; exact viaD k rfl d ρ1 hd rfl rfl
        · cases e
    · split at e
      · rename_i d ρ1 hd; cases e; exact viaD k rfl d ρ1 hd rfl rfl
      · cases e
/-! ### promises -/
def AftF (K : PySem.W.Frag) (mm : Mg) (O F : Ft) (H : Hp) (vs : List V) (Q : VK) (E : XK) : FO → Prop
  | .ret t as' => ∀ v H' F' Ft, Got K mm O F H vs as' t v H' F' Ft → Q v H'
  | .ex c as' => ∀ C H' F', mm.g c = some (.ref C) → TRs K mm (hid (add O F') H') H' as' vs F' → (∀ a, add O F' a ≤ 1) → (∀ a, add O F' a ≠ 0 → H' a ≠ none) → (∀ a, O a ≠ 0 → H' a = H a) → Same (hid (add O F) H) (hid (add O F') H') → E (.ref C) none H'
/-- what a def that runs as m promises -/
def spM (K : PySem.W.Frag) (mg : Str → Option Value) (n : Nat) (m : FM) : Sp := fun vs H Q E => ∃ (η : Nat → V) (O F : Ft) (as : List T) (out : FO), as.length = n ∧ TRs K ⟨mg, η⟩ (hid (add O F) H) H as vs F ∧ (∀ a, add O F a ≤ 1) ∧ (∀ a, add O F a ≠ 0 → H a ≠ none) ∧ m as = some out ∧ AftF K ⟨mg, η⟩ O F H vs Q E out
/-- .. that raises nothing -/
def sp0 (K : PySem.W.Frag) (mg : Str → Option Value) (n : Nat) (m : FM) : Sp := fun vs H Q _ => spM K mg n m vs H Q fun _ _ _ => False
theorem slFrom_len : ∀ (ts : List T) (k : Nat), (slFrom k ts).length = ts.length
  | [], _ => rfl
  | _ :: ts, k => by show (slFrom (k + 1) ts).length + 1 = _; rw [slFrom_len ts]; rfl
theorem slFrom_at : ∀ (ts : List T) (k i : Nat) (s : Sl), (slFrom k ts)[i]? = some s → s = .ref (k + i)
  | [], _, _, _, h => by simp [slFrom] at h
  | _ :: ts, k, 0, s, h => by simp [slFrom] at h; rw [← h]; rfl
  | _ :: ts, k, i + 1, s, h => by
    have := slFrom_at ts (k + 1) i s (by simpa [slFrom] using h)
    rw [this]; congr 1; omega
theorem start_ok {η : Nat → V} {N : List Str} {as : List T} {vs : List V} {F : Ft} (h : TRs K ⟨mg, η⟩ (hid (add O F) H) H as vs F) (l : ∀ a, add O F a ≤ 1) (n : ∀ a, add O F a ≠ 0 → H a ≠ none) (lN : as.length ≤ N.length) :
    ∃ A, StC K mg ⟨vs, η⟩ O A (entry N.length as) (start N vs) H ∧ sumF A = F := by
  obtain ⟨A, e1, e2, e3, k⟩ := h.als
  have lv : as.length = vs.length := h.len
  refine ⟨A, ⟨by unfold tot; rw [e2]; exact l, by unfold tot; rw [e2]; exact n, by simp [entry, e3], fun r x t h1 h2 => ?_, fun k j p x xj y z h1 h2 => ?_, fun m j p x h1 h2 => ?_, fun r v hv => ?_, by simp [entry, lv], ?_, fun i s o h1 h2 => ?_⟩, e2⟩
  · simp only [entry, List.getElem?_map] at h2
    cases e : as[r]? with
    | none => rw [e] at h2; cases h2
    | some t' =>
      rw [e] at h2
      cases Option.some.inj h2
      unfold tot
      rw [e2]
      exact k r x t' h1 e
  · simp only [entry, List.getElem?_map] at h1
    cases e : as[k]? with
    | none => rw [e] at h1; cases h1
    | some t' => rw [e] at h1; cases Option.some.inj h1; cases h2
  · simp only [entry, List.getElem?_map] at h1
    cases e : as[m]? with
    | none => rw [e] at h1; cases h1
    | some t' => rw [e] at h1; cases Option.some.inj h1; cases h2
  · unfold al
    rw [← List.getElem?_map, e1]; exact hv
  · unfold L2.start entry
    simp only [List.length_append, List.length_map, List.length_replicate, slFrom_len]
    omega
  · simp only [entry] at h1
    by_cases lt : i < as.length
    · rw [List.getElem?_append_left (by rw [slFrom_len]; exact lt)] at h1
      obtain rfl := slFrom_at as 0 i s h1
      unfold L2.start at h2
      rw [List.getElem?_append_left (by rw [List.length_map]; omega), List.getElem?_map] at h2
      cases e : vs[i]? with
      | none => rw [e] at h2; cases h2
      | some v =>
        rw [e] at h2
        refine ⟨v, ?_, (Option.some.inj h2).symm⟩
        unfold al
        rw [← List.getElem?_map, e1, Nat.zero_add]; exact e
    · rw [List.getElem?_append_right (by rw [slFrom_len]; omega), List.getElem?_replicate] at h1
      split at h1
      · cases h1; exact trivial
      · cases h1
/-- a body's run gives what the def promises -/
theorem body_run {E : XK} {η : Nat → V} {m : SM} {N : List Str} {vs : List V} {Q : VK} {as : List T} {F : Ft} {out : FO} (h : TRs K ⟨mg, η⟩ (hid (add O F) H) H as vs F) (l : ∀ a, add O F a ≤ 1) (n : ∀ a, add O F a ≠ 0 → H a ≠ none) (lN : as.length ≤ N.length)
    (hm : mDef N.length m as = some out) (k : AftF K ⟨mg, η⟩ O F H vs Q E out) : SRun K mg m (fun _ => E) { nx := fun _ H' => Q .non H', rt := Q } (start N vs) H := by
  obtain ⟨A, S, eA⟩ := start_ok (N := N) h l n lN
  have t0 : tot O A = add O F := by unfold tot; rw [eA]
  unfold mDef at hm
  have back : ∀ (r : R) (ρ : Fr) (σ' : L2.St) (v : V) (H' : Hp) (A' : Al) (F1 : Ft) (p : T × List T), leave r ρ = some p → out = .ret p.1 p.2 → StC K mg ⟨vs, η⟩ (add O F1) A' ρ σ' H' → RR K ⟨mg, η⟩ (al A') (hid (tot (add O F1) A') H') H' v F1 r → Sto O A H (add O F1) A' H' → Q v H' := by
    rintro r ρ σ' v H' A' F1 ⟨t, as'⟩ hl rfl S' rr st
    obtain ⟨F', Ft, p1, p2, p3, p4, p5⟩ := leave_ok S' rr hl
    refine k v H' F' Ft ⟨p1, p2, p3, p4, fun a z => st.out a z, ?_⟩
    rw [← t0]
    exact st.sh.trans p5
  split at hm
  · rename_i r ρ e
    cases hl : leave r ρ with
    | none => rw [hl] at hm; cases hm
    | some p =>
      rw [hl] at hm
      exact ⟨⟨vs, η⟩, O, A, _, _, S, e, fun σ' v H' A' F1 S' rr st => back r ρ σ' v H' A' F1 p hl (Option.some.inj hm).symm S' rr st⟩
  · rename_i ρ e
    cases hl : leave (.dat .none) ρ with
    | none => rw [hl] at hm; cases hm
    | some p =>
      rw [hl] at hm
      refine ⟨⟨vs, η⟩, O, A, _, _, S, e, fun σ' H' A' S' st => ?_⟩
      exact back (.dat .none) ρ σ' .non H' A' zer p hl (Option.some.inj hm).symm (by rw [add_zer]; exact S') ⟨rfl, .non⟩ (by rw [add_zer]; exact st)
  · rename_i c ρ e
    cases hm
    refine ⟨⟨vs, η⟩, O, A, _, _, S, e, fun C σ' H' A' hc S' st => ?_⟩
    obtain ⟨A1, S1, s1, _⟩ := StC.sweepN (keep := fun _ => false) (ρ.rt.length - ρ.np) S'
    obtain ⟨F', p1, p2, p3, p4⟩ := S1.params
    refine k C H' F' hc p1 p2 p3 (fun a z => st.out a z) ?_
    rw [← t0]
    exact (st.sh.trans s1).trans p4
  · cases hm
end
section
variable {P : Program} {w : World} {K : PySem.W.Frag} {mg : Str → Option Value} {mm : Mg} {base : Heap} {x : Str} {st : Stmt} {N ps : List Str} {k : Nat} {m : SM}
theorem sp_len {n : Nat} {m : FM} {vs : List V} {H : Hp} {Q : VK} {E : XK} (h : spM K mg n m vs H Q E) : vs.length = n := by
  obtain ⟨η, O, F, as, out, l, r, _⟩ := h
  rw [← l]; exact r.len.symm
/-! ### promises where no object is being shown -/
def Quiet (A : Around) : Prop := A.guards = some []
structure FnG (P : Program) (w : World) (K : PySem.W.Frag) (mg : Str → Option Value) (base : Heap) (CX : CXT) (k : Nat) (f : Addr) (fd : FuncData) (ps : List Str) (sp : Sp) : Prop where
  len : ∀ vs H Q E, sp vs H Q E → vs.length = ps.length
  run : ∀ (A : Around) (outer : List Env) (s : Shared) (H : Hp) (args : Args) (us : List Value) (vs : List V) (Q : VK) (E : XK), Quiet A → Room k A → Env0 P w K mg base A outer s H → BindsTo s fd args (ps.zip us) → Vals vs us → sp vs H Q E →
    codeAny (model P w) A (.call (.ref f) args) (CR CX outer P w H s Q E) s
theorem FnG.of {base : Heap} {CX : CXT} {f : Addr} {fd : FuncData} {sp : Sp} (F : FnOk P w K mg base CX k f fd ps sp) : FnG P w K mg base CX k f fd ps sp := ⟨F.len, fun A outer s H args us vs Q E _ => F.run A outer s H args us vs Q E⟩
/-- a promise stays one for a callee whose caller is quiet -/
theorem fnG_of {CX : CXT} {f : Addr} {qual : Str} {fd : FuncData} {sp : Sp} (F : Fun K x qual st f fd) (S : FnScope N ps (defScope st)) (len : ∀ vs H Q E, sp vs H Q E → vs.length = ps.length)
    (hb : ∀ (cdv : Value) (A : Around) (outer : List Env) (s : Shared) (H : Hp) (vs : List V) (Q : VK) (E : XK), Quiet (A.deeper (envOfC qual (defScope st) s.heap.objs.size f cdv)) → Room k (A.deeper (envOfC qual (defScope st) s.heap.objs.size f cdv)) → sp vs H Q E →
      ∃ t, PSs (cxOf CX P w K mg base N qual (defScope st) f cdv A outer s H E) (defBody st) t ∧ t { nx := fun _ H' => Q .non H', rt := Q } (L2.start N vs) H) : FnG P w K mg base CX (k + 1) f fd ps sp := by
  obtain ⟨oc, od, kV, doc, pm, an, cdv, ct, osl, rfl, lk, hcd⟩ := F.ex
  refine ⟨len, fun A outer s H args us vs Q E quiet room env bound vals want => ?_⟩
  have size := len _ _ _ _ want
  have written : K.In s.heap := env.mod.kin.keeps fun b o e => (env.bs b o e).1
  have nolim : s.heap.NoLimit := env.mod.nolimit.keeps fun b o e => (env.bs b o e).1
  have kinds : ∀ y ∈ ps.zip us, (defScope st).names.lookup y.1 = some .local ∨ ((defScope st).names.lookup y.1 = some .cell ∧ ((cellsFrom (s.heap.objs.size + 1) (defScope st).names []).lookup y.1).isSome = true) := by
    rintro ⟨n, v⟩ hy
    exact (S.par n (List.of_mem_zip hy).1).imp id fun q => ⟨q, PySem.W.cellsFrom_some _ _ _ (.inl q)⟩
  refine codeAny_call_function room.depth (written _ _ lk) rfl S.co S.gen rfl (PySem.W.codeRec_of written hcd) (bound _ _ _ _ ?_)
  refine wpAny_newFunctionEnv_cells S.kind kinds fun e0 he s1 incall => ?_
  subst he
  refine ⟨nolim.keeps incall.toInCall.keep, codeAny_func ?_⟩
  obtain ⟨t, ht, hq⟩ := hb cdv A outer s H vs Q E quiet (room.deeper _) want
  have I1 : Inv (cxOf CX P w K mg base N qual (defScope st) f cdv A outer s H E) [] (L2.start N vs) H s1 := inv_start S room.hd env size vals incall
  refine wpAny_mono (ht.run [] s1 (L2.start N vs) H _ I1 hq) (fun fl s2 hs => ?_) fun _ _ q => q
  have ended : ∀ {σ2 : L2.St} {H2 : Hp} {v : V} {u : Value}, Inv (cxOf CX P w K mg base N qual (defScope st) f cdv A outer s H E) [] σ2 H2 s2 → RelV v u → Q v H2 → CE outer P w H s Q u s2 := fun {_ H2 v _} J rv q => ⟨v, H2, J.os, J.bare, J.base, J.hok, rv, q⟩
  cases fl with
  | brk => exact hs.elim fun _ h => h.elim fun _ h => h.2.elim
  | cont => exact hs.elim fun _ h => h.elim fun _ h => h.2.elim
  | next => exact hs.elim fun _ h => h.elim fun _ h => ended (v := .non) (u := .none) h.1 rfl h.2
  | ret u => exact hs.elim fun _ h => h.elim fun _ h => h.elim fun _ h => ended h.1 h.2.1 h.2.2
/-- the promise of the def named x, where nothing is being shown -/
structure PrG (P : Program) (w : World) (K : PySem.W.Frag) (mg : Str → Option Value) (base : Heap) (CX : CXT) (k : Nat) (x : Str) (ps : List Str) (sp : Sp) : Prop where
  ex : ∃ f fd, mg x = some (.ref f) ∧ PySem.W.keepIn K (.ref f) = true ∧ L2.Binds K fd ps [] ∧ FnG P w K mg base CX k f fd ps sp
theorem PrG.of {base : Heap} {CX : CXT} {sp : Sp} (h : Pr P w K mg base CX k x ps sp) : PrG P w K mg base CX k x ps sp := by
  obtain ⟨f, fd, a, b, c, F⟩ := h.ex
  exact ⟨f, fd, a, b, c, .of F⟩
/-- a def that raises nothing -/
theorem fn0 (D : Dn K mg x st ps) (S : FnScope N ps (defScope st)) (hl : ps.length ≤ N.length)
    (hb : ∀ (f : Addr) (cdv : Value) (A : Around) (outer : List Env) (s : Shared) (H : Hp) (E : XK), Quiet (A.deeper (envOfC x (defScope st) s.heap.objs.size f cdv)) → Room k (A.deeper (envOfC x (defScope st) s.heap.objs.size f cdv)) → DSs (cxOf CX0 P w K mg base N x (defScope st) f cdv A outer s H E).nox (fun _ _ _ _ => False) (defBody st) m) :
    PrG P w K mg base CX0 (k + 1) x ps (sp0 K mg ps.length (mDef N.length m)) := by
  obtain ⟨f, fd, hm, F, b⟩ := D.ex
  refine ⟨f, fd, hm, F.kp, b, fnG_of F S (fun vs H Q E h => sp_len h) fun cdv A outer s H vs Q E hq hr h => ?_⟩
  obtain ⟨η, O, F, as, out, e, p1, p2, p3, hm, kk⟩ := h
  exact ⟨_, (hb f cdv A outer s H E hq hr).pss.nox, body_run p1 p2 p3 (by rw [e]; exact hl) hm kk⟩
/-- a def that may raise -/
theorem fnX (D : Dn K mg x st ps) (S : FnScope N ps (defScope st)) (hl : ps.length ≤ N.length)
    (hb : ∀ (f : Addr) (cdv : Value) (A : Around) (outer : List Env) (s : Shared) (H : Hp) (E : XK), Quiet (A.deeper (envOfC x (defScope st) s.heap.objs.size f cdv)) → Room k (A.deeper (envOfC x (defScope st) s.heap.objs.size f cdv)) → DSs (cxOf (L2N.CX P w) P w K mg base N x (defScope st) f cdv A outer s H E) (fun _ => E) (defBody st) m) :
    PrG P w K mg base (L2N.CX P w) (k + 1) x ps (spM K mg ps.length (mDef N.length m)) := by
  obtain ⟨f, fd, hm, F, b⟩ := D.ex
  refine ⟨f, fd, hm, F.kp, b, fnG_of F S (fun vs H Q E h => sp_len h) fun cdv A outer s H vs Q E hq hr h => ?_⟩
  obtain ⟨η, O, F, as, out, e, p1, p2, p3, hm, kk⟩ := h
  exact ⟨_, (hb f cdv A outer s H E hq hr).pss, body_run p1 p2 p3 (by rw [e]; exact hl) hm kk⟩
end
section
variable {X : Cx} {k j : Nat} {x : Str} {ps : List Str} {sp : Sp} {p pos : Pos} {e : Expr} {es : List Expr} {t : TA} {CX : CXT} {E : EK} {f : Addr} {fd : FuncData} {dvs : List V} {ds : List Value}
/-- the callee runs -/
theorem run_fnG {pins : List (Addr × Obj)} {σ : L2.St} {H : Hp} {s : Shared} {Q : VK} {us : List Value} {vs : List V} (F : FnG X.prog X.w X.K X.mg X.base CX k f fd ps sp) (quiet : Quiet X.A) (hr : Room k X.A) (hb : L2.Binds X.K fd ps ds) (hd : Vals dvs ds) (hx : PassesAt CX X σ (E σ))
    (I : Inv X pins σ H s) (r : Vals vs us) (h : sp (vs ++ dvs) H Q (E σ)) : wpAny (model X.prog X.w) X.A (call (.ref f) us) (EP X pins σ Q) X.xe s := by
  have both : Vals (vs ++ dvs) (us ++ ds) := r.append hd
  have size : (us ++ ds).length = ps.length := both.length.symm.trans (F.len _ _ _ _ h)
  refine wpAny_call (codeAny_mono (F.run X.A X.stack s H ⟨us, []⟩ (us ++ ds) (vs ++ dvs) Q (E σ) quiet hr I.env0 (hb s us I.kIn size) both h) fun r s2 got => ?_)
  rcases r with e | fl
  · exact hx pins H s e s2 I got
  · cases fl with
    | ret u => exact I.after got
    | next => exact got.elim
    | brk => exact got.elim
    | cont => exact got.elim
/-- a call, its exceptions wished for at the caller's slots -/
def tCallE (sp : Sp) (dvs : List V) (E : EK) (t : TA) : TE := fun σ H Q => t σ H fun vs H1 => sp (vs ++ dvs) H1 Q (E σ)
theorem pe_kG (c : PrG X.prog X.w X.K X.mg X.base CX k x ps sp) (quiet : Quiet X.A) (hr : Room j X.A) (hk : k ≤ j) (hx : ∀ σ, PassesAt CX X σ (E σ)) (hg : Gl X x) (ha : PA X (e :: es) t)
    (hdb : (x == ("__debug__" : Str)) = false := by decide) (he : starEach (e :: es) X.env = (false, eval e X.env) :: starEach es X.env := by rfl) (hpl : (backTo pos (starEach es X.env)).any (·.1) = false := by rfl) :
    PE X (.Call (.Name x p) (e :: es) [] pos) (tCallE sp [] E t) := by
  obtain ⟨f, fd, hm, kp, b, F⟩ := c.ex
  refine ⟨fun pins s σ H Q I h => ?_⟩
  have args : wpAny (model X.prog X.w) X.A (spliced (backTo pos (starEach (e :: es) X.env))) (fun us s1 => X.K.In s1.heap ∧ wpAny (model X.prog X.w) X.A (call (.ref f) us) (EP X pins σ Q) X.xe s1) X.xe s :=
    thn (ha.run pos pins s σ H _ I h) fun us s1 ⟨vs, H1, I1, r, q⟩ => ⟨I1.kIn, run_fnG F quiet (hr.mono hk) b .nil (hx σ) I1 r q⟩
  exact wpAny_Call_Name_kw (ld_glob I hg hm (PySem.W.callWith_K (h₀ := X.base) I.ok.mod.kin kp args he hpl) hdb)
theorem pe_k0G (c : PrG X.prog X.w X.K X.mg X.base CX k x ps sp) (quiet : Quiet X.A) (hr : Room j X.A) (hk : k ≤ j) (hx : ∀ σ, PassesAt CX X σ (E σ)) (hg : Gl X x) (hdb : (x == ("__debug__" : Str)) = false := by decide) : PE X (.Call (.Name x p) [] [] pos) (tCallE sp [] E tNil) := by
  obtain ⟨f, fd, hm, kp, b, F⟩ := c.ex
  refine ⟨fun pins s σ H Q I h => ?_⟩
  exact wpAny_Call_Name_kw (ld_glob I hg hm (PySem.W.callWith_K0 I.kIn kp (run_fnG (us := []) F quiet (hr.mono hk) b .nil (hx σ) I .nil h)) hdb)
end
end XM
end
section
namespace XM
open PySem PySem.Spec PyProof.Rows L2 Tl
/-! ### calls -/
def desc (rt : List Rt) (n : Nat) : Nat → Nat → Bool
  | 0, _ => false
  | f + 1, k => match rt[k]? with
    | some ⟨_, some (j, _)⟩ => j == n || desc rt n f j
    | _ => false
/-- the parts of the roots that are handed over are put back -/
def gathers : List R → Fr → Fr
  | [], ρ => ρ
  | .ref n :: rs, ρ => gathers rs (sweep (fun k => !desc ρ.rt n ρ.rt.length k) ρ)
  | _ :: rs, ρ => gathers rs ρ
def clrR (q : Nat × Pl → Bool) (x : Rt) : Rt := match x.par with
  | some jp => if q jp = true then ⟨x.t, none⟩ else x
  | none => x
def clr (q : Nat × Pl → Bool) (ρ : Fr) : Fr := { ρ with rt := ρ.rt.map (clrR q) }
def takes : List R → Fr → List T × Fr
  | [], ρ => ([], ρ)
  | .dat d :: rs, ρ => let p := takes rs ρ; (.dat d :: p.1, p.2)
  | .fn x :: rs, ρ => let p := takes rs ρ; (.fn x :: p.1, p.2)
  | .own t :: rs, ρ => let p := takes rs ρ; (t :: p.1, p.2)
  | .ref n :: rs, ρ => match ρ.rt[n]? with
    | some x => let p := takes rs { ρ with rt := ρ.rt.set n ⟨.gone, x.par⟩ }; (x.t :: p.1, p.2)
    | none => let p := takes rs ρ; (.gone :: p.1, p.2)
def putR (n : Nat) (t : T) (ρ : Fr) : Fr := match (clr (fun jp => jp.1 == n) ρ).rt[n]? with
  | some x => { ρ with rt := ((clr (fun jp => jp.1 == n) ρ).rt).set n ⟨t, x.par⟩ }
  | none => ρ
def puts : List R → List T → Fr → Fr
  | .ref n :: rs, t :: ts, ρ => puts rs ts (putR n t ρ)
  | _ :: rs, _ :: ts, ρ => puts rs ts ρ
  | _, _, ρ => ρ
def toR : T → R
  | .dat d => .dat d
  | .fn x => .fn x
  | t => .own t
def callM (m : FM) (rs : List R) : M R := fun ρ =>
  let ρ1 := gathers rs ρ
  let p := takes rs ρ1
  match m p.1 with
  | some (.ret t ts) => some (.ok (toR t) (puts rs ts p.2))
  | some (.ex c ts) => some (.ex c (puts rs ts p.2))
  | none => none
def noEx {β : Type} (m : M β) : M β := fun ρ => match m ρ with
  | some (.ok r ρ') => some (.ok r ρ')
  | _ => none
def mCall0 (m : FM) (ms : List (M R)) : M R := bnd (mArgs ms) fun rs => noEx (callM m rs)
def mCall (m : FM) (ms : List (M R)) : M R := bnd (mArgs ms) fun rs => callM m rs
section
variable {K : PySem.W.Frag} {mg : Str → Option Value} {mm : Mg} {B : Bs} {O O' : Ft} {A A' A1 : Al} {ρ ρ1 : Fr} {σ : L2.St} {H H' H1 : Hp} {E : EK}
theorem StC.sweep (S : StC K mg B O A ρ σ H) (keep : Nat → Bool) : ∃ A', StC K mg B O A' (XM.sweep keep ρ) σ H ∧ Same (hid (tot O A) H) (hid (tot O A') H) ∧ XM.al A' = XM.al A := StC.sweepN _ S
theorem StC.gathers : ∀ (rs : List R) {ρ : Fr} {A : Al}, StC K mg B O A ρ σ H → ∃ A', StC K mg B O A' (XM.gathers rs ρ) σ H ∧ Same (hid (tot O A) H) (hid (tot O A') H) ∧ XM.al A' = XM.al A
  | [], _, A, S => ⟨A, S, Same.refl _, rfl⟩
  | .ref n :: rs, ρ, A, S => by
    obtain ⟨A1, S1, s1, l1⟩ := S.sweep (fun k => !desc ρ.rt n ρ.rt.length k)
    obtain ⟨A2, S2, s2, l2⟩ := StC.gathers rs S1
    exact ⟨A2, S2, s1.trans s2, l2.trans l1⟩
  | .dat d :: rs, ρ, A, S => StC.gathers rs S
  | .fn x :: rs, ρ, A, S => StC.gathers rs S
  | .own t :: rs, ρ, A, S => StC.gathers rs S
theorem clrR_t (q : Nat × Pl → Bool) (x : Rt) : (clrR q x).t = x.t := by
  unfold clrR
  split
  · split <;> rfl
  · rfl
theorem clrR_par {q : Nat × Pl → Bool} {x : Rt} {jp : Nat × Pl} (h : (clrR q x).par = some jp) : x.par = some jp ∧ q jp = false := by
  unfold clrR at h
  split at h
  · rename_i y e
    split at h
    · cases h
    · rename_i z
      rw [e] at h
      cases h
      exact ⟨e, Bool.eq_false_iff.mpr z⟩
  · rename_i e; rw [e] at h; cases h
theorem clr_at {q : Nat × Pl → Bool} {i : Nat} {y : Rt} (h : (clr q ρ).rt[i]? = some y) : ∃ x, ρ.rt[i]? = some x ∧ y = clrR q x := by
  unfold clr at h
  dsimp only at h
  rw [List.getElem?_map] at h
  cases e : ρ.rt[i]? with
  | none => rw [e] at h; cases h
  | some x => rw [e] at h; exact ⟨x, rfl, (Option.some.inj h).symm⟩
theorem StC.clr (S : StC K mg B O A ρ σ H) (q : Nat × Pl → Bool) : StC K mg B O A (XM.clr q ρ) σ H := by
  refine ⟨S.le1, S.al, by simp [XM.clr, S.len], fun r x t h1 h2 => ?_, fun k j p x xj y z h1 h2 h3 h4 h5 h6 => ?_, fun m j p x h1 h2 => ?_, S.bas, S.bnp, S.slen, S.sls⟩
  · obtain ⟨x', e, rfl⟩ := clr_at h2
    rw [clrR_t]
    exact S.rts r x x' h1 e
  · obtain ⟨x', e, rfl⟩ := clr_at h1
    obtain ⟨xj', e', rfl⟩ := clr_at h3
    rw [clrR_t] at h4
    exact S.par k j p x' xj' y z e (clrR_par h2).1 e' h4 h5 h6
  · obtain ⟨x', e, rfl⟩ := clr_at h1
    have := S.parL m j p x' e (clrR_par h2).1
    simpa [XM.clr] using this
/-- a root gets the tree that came back -/
theorem StC.putR {n : Nat} {t : T} {v : V} {F : Ft} (S : StC K mg B (add O F) A ρ σ H) (ha : XM.al A n = some v) (ht : TR K ⟨mg, B.η⟩ (hid (tot (add O F) A) H) H t v F) :
    ∃ A', StC K mg B O A' (XM.putR n t ρ) σ H ∧ XM.al A' = XM.al A ∧ Same (hid (tot (add O F) A) H) (hid (tot O A') H) := by
  have S1 := S.clr (fun jp => jp.1 == n)
  obtain ⟨Fn, hA⟩ := al_at ha
  obtain ⟨x, hx⟩ := at_len S1.len.symm hA
  have z := fun a => sumF_set (y := (v, F)) a hA
  have w : Same (hid (tot (add O F) A) H) (hid (tot O (A.set n (v, F))) H) := hid_mono fun a e => by
    have h2 := z a
    have h3 := sumF_at a hA
    dsimp only at h2 h3
    unfold tot add at e ⊢
    omega
  refine ⟨A.set n (v, F), ?_, al_set hA, w⟩
  unfold XM.putR
  rw [hx]
  refine S1.setR (O' := O) hA hx w (fun _ _ _ => rfl) (fun a => ?_) (fun a e => S1.al a ?_) (ht.step w fun _ _ => rfl) fun _ m p y zz h1 h2 h3 => ?_
  · have h1 := S1.le1 a
    have h2 := z a
    have h3 := sumF_at a hA
    dsimp only at h2 h3
    unfold tot add at h1 ⊢
    omega
  · have h2 := z a
    have h3 := sumF_at a hA
    dsimp only at h2 h3
    unfold tot add at e ⊢
    omega
  · obtain ⟨y', _, rfl⟩ := clr_at h1
    have := (clrR_par h2).2
    simp at this
theorem puts_nil : ∀ (rs : List R) (ρ : Fr), puts rs [] ρ = ρ
  | [], _ => rfl
  | .dat _ :: _, _ => rfl
  | .fn _ :: _, _ => rfl
  | .own _ :: _, _ => rfl
  | .ref _ :: _, _ => rfl
theorem StC.puts : ∀ {rs : List R} {ts : List T} {vs : List V} {F : Ft} {O : Ft} {A : Al} {ρ : Fr}, StC K mg B (add O F) A ρ σ H → TRs K ⟨mg, B.η⟩ (hid (tot (add O F) A) H) H ts vs F → (∀ (i : Nat) (n : Nat) (v : V), rs[i]? = some (.ref n) → vs[i]? = some v → XM.al A n = some v) →
    ∃ A', StC K mg B O A' (XM.puts rs ts ρ) σ H ∧ XM.al A' = XM.al A ∧ Same (hid (tot (add O F) A) H) (hid (tot O A') H)
  | [], ts, vs, F, O, A, ρ, S, h, _ => ⟨A, by unfold XM.puts; exact S.weak fun a => le_add a, rfl, hid_weak fun a => le_add a⟩
  | r :: rs, [], vs, F, O, A, ρ, S, h, _ => ⟨A, by rw [puts_nil]; exact S.weak fun a => le_add a, rfl, hid_weak fun a => le_add a⟩
  | r :: rs, t :: ts, vs, F, O, A, ρ, S, h, q => by
    cases h with
    | cons h1 h2 =>
    rename_i v F1 vs F2
    have eq : add O (add F1 F2) = add (add O F2) F1 := by funext a; show O a + (F1 a + F2 a) = O a + F2 a + F1 a; omega
    rw [eq] at S h1 h2 ⊢
    have skip : ∃ A', StC K mg B O A' (XM.puts rs ts ρ) σ H ∧ XM.al A' = XM.al A ∧ Same (hid (tot (add (add O F2) F1) A) H) (hid (tot O A') H) := by
      have w : Same (hid (tot (add (add O F2) F1) A) H) (hid (tot (add O F2) A) H) := hid_weak fun a => le_add a
      obtain ⟨A', S', l', s'⟩ := StC.puts (S.weak fun a => le_add a) (h2.step w fun _ _ => rfl) fun i n v e1 e2 => q (i + 1) n v (by simpa using e1) (by simpa using e2)
      exact ⟨A', S', l', w.trans s'⟩
    cases r with
    | dat d => exact skip
    | fn x => exact skip
    | own t' => exact skip
    | ref n =>
      obtain ⟨A1, S1, l1, s1⟩ := S.putR (q 0 n v rfl rfl) h1
      obtain ⟨A2, S2, l2, s2⟩ := StC.puts (rs := rs) S1 (h2.step s1 fun _ _ => rfl) fun i n v e1 e2 => by rw [l1]; exact q (i + 1) n v (by simpa using e1) (by simpa using e2)
      exact ⟨A2, S2, l2.trans l1, s1.trans s2⟩
theorem takes_ok : ∀ {rs : List R} {vs : List V} {F O : Ft} {A : Al} {ρ : Fr}, StC K mg B (add O F) A ρ σ H → RRs K ⟨mg, B.η⟩ (al A) (hid (tot (add O F) A) H) H vs F rs →
    ∃ A' F', StC K mg B (add O F') A' (takes rs ρ).2 σ H ∧ TRs K ⟨mg, B.η⟩ (hid (tot (add O F') A') H) H (takes rs ρ).1 vs F' ∧ al A' = al A ∧ tot (add O F') A' = tot (add O F) A ∧ (takes rs ρ).1.length = rs.length
  | [], vs, F, O, A, ρ, S, h => by cases h; exact ⟨A, zer, S, .nil, rfl, rfl, rfl⟩
  | r :: rs, vs, F, O, A, ρ, S, h => by
    cases h with
    | cons h1 h2 =>
    rename_i v F1 vs F2
    have eq : add O (add F1 F2) = add (add O F1) F2 := by rw [add_assoc]
    rw [eq] at S h1 h2 ⊢
    have one : ∀ (t : T), TR K ⟨mg, B.η⟩ (hid (tot (add (add O F1) F2) A) H) H t v F1 → ∃ A' F', StC K mg B (add O F') A' (takes rs ρ).2 σ H ∧ TRs K ⟨mg, B.η⟩ (hid (tot (add O F') A') H) H (t :: (takes rs ρ).1) (v :: vs) F' ∧ al A' = al A ∧ tot (add O F') A' = tot (add (add O F1) F2) A ∧ (takes rs ρ).1.length = rs.length := fun t ht => by
      obtain ⟨A', F', S', tr, l', e', n'⟩ := takes_ok S h2
      rw [add_assoc] at S' tr e'
      exact ⟨A', add F1 F', S', .cons (by rw [e']; exact ht) tr, l', e', n'⟩
    cases r with
    | dat d =>
      obtain ⟨A', F', p1, p2, p3, p4, p5⟩ := one (.dat d) (by obtain ⟨z, h⟩ := h1; rw [z] at h ⊢; exact .dat h)
      exact ⟨A', F', p1, p2, p3, p4, by simp [takes, p5]⟩
    | fn x =>
      obtain ⟨A', F', p1, p2, p3, p4, p5⟩ := one (.fn x) (by obtain ⟨z, f, rfl, hf⟩ := h1; rw [z]; exact .fn hf)
      exact ⟨A', F', p1, p2, p3, p4, by simp [takes, p5]⟩
    | own t =>
      obtain ⟨A', F', p1, p2, p3, p4, p5⟩ := one t h1
      exact ⟨A', F', p1, p2, p3, p4, by simp [takes, p5]⟩
    | ref n =>
      obtain ⟨z, ha⟩ := h1
      subst z
      rw [add_zer] at S h2 ⊢
      obtain ⟨Fn, hA⟩ := al_at ha
      obtain ⟨x, hx⟩ := at_len S.len.symm hA
      obtain ⟨S1, e1, ht⟩ := S.take hA hx
      have eq2 : add (add O F2) Fn = add (add O Fn) F2 := by funext a; show O a + F2 a + Fn a = O a + Fn a + F2 a; omega
      rw [eq2] at S1 e1
      have h2' : RRs K ⟨mg, B.η⟩ (al (A.set n (v, zer))) (hid (tot (add (add O Fn) F2) (A.set n (v, zer))) H) H vs F2 rs := by rw [e1, al_set hA]; exact h2
      obtain ⟨A', F', S', tr, l', e', n'⟩ := takes_ok S1 h2'
      rw [add_assoc] at S' tr e'
      unfold takes
      rw [hx]
      exact ⟨A', add Fn F', S', .cons (by rw [e', e1]; exact ht) tr, by rw [l', al_set hA], by rw [e', e1], by simp [n']⟩
theorem RRs.nth_ref {α : Nat → Option V} {G : Hp} : ∀ {vs : List V} {F : Ft} {rs : List R}, RRs K mm α G H vs F rs → ∀ (i n : Nat) (v : V), rs[i]? = some (.ref n) → vs[i]? = some v → α n = some v
  | _, _, _, .nil, i, n, v, h, _ => by simp at h
  | _, _, _, .cons h r, 0, n, v, h1, h2 => by simp at h1 h2; subst h1 h2; exact h.2
  | _, _, _, .cons h r, i + 1, n, v, h1, h2 => RRs.nth_ref r i n v (by simpa using h1) (by simpa using h2)
theorem RRs.len {α : Nat → Option V} {G : Hp} : ∀ {vs : List V} {F : Ft} {rs : List R}, RRs K mm α G H vs F rs → rs.length = vs.length
  | _, _, _, .nil => rfl
  | _, _, _, .cons h r => by rw [List.length_cons, List.length_cons, RRs.len r]
theorem RRs.weakG {α α' : Nat → Option V} {G G' : Hp} (s : Same G G') (l : ∀ r v, α r = some v → α' r = some v) : ∀ {vs : List V} {F : Ft} {rs : List R}, RRs K mm α G H vs F rs → RRs K mm α' G' H vs F rs
  | _, _, _, .nil => .nil
  | _, _, _, .cons (r := r) h rr => .cons (by
    cases r with
    | dat d => exact ⟨h.1, Dq_same s h.2⟩
    | fn x => exact h
    | own t => exact TR.step s h fun _ _ => rfl
    | ref n => exact ⟨h.1, l _ _ h.2⟩) (RRs.weakG s l rr)
theorem toR_ok {α : Nat → Option V} {G : Hp} {t : T} {v : V} {F : Ft} (h : TR K mm G H t v F) : RR K mm α G H v F (toR t) := by
  cases h with
  | dat h => exact ⟨rfl, h⟩
  | fn h => exact ⟨rfl, _, rfl, h⟩
  | dl a b => exact .dl a b
  | ol a b => exact .ol a b
  | ot a b => exact .ot a b
  | dd a b c => exact .dd a b c
  | od a b c => exact .od a b c
  | ins a b c d => exact .ins a b c d
  | gone => exact .gone
  | hole => exact .hole
  | frz a => exact .frz a
/-- the callee's promise, seen from the caller -/
theorem call_ok {m : FM} {n : Nat} {rs : List R} {vs : List V} {F : Ft} {out : Out R} {Q : VK} {A0 : Al} {H0 : Hp} (S : StC K mg B (add O F) A ρ σ H) (h : RRs K ⟨mg, B.η⟩ (al A) (hid (tot (add O F) A) H) H vs F rs) (hn : rs.length = n) (e : callM m rs ρ = some out)
    (st1 : Stp O A0 H0 (add O F) A H) (x : Exc K mg B O A0 σ H0 E out) (c : ∀ r ρ', out = .ok r ρ' → okE K mg B O A0 σ H0 Q r ρ') : spM K mg n m vs H Q (E σ) := by
  obtain ⟨A1, S1, s1, l1⟩ := StC.gathers rs S
  have h1 := h.weakG (α' := al A1) s1 (fun r v q => by rw [l1]; exact q)
  obtain ⟨A2, F2, S2, tr, l2, t2, n2⟩ := takes_ok S1 h1
  unfold callM at e
  dsimp only at e
  generalize hρ : (takes rs (XM.gathers rs ρ)).2 = ρ2 at e S2
  have eO : add (add O (sumF A2)) F2 = tot (add O F2) A2 := by funext a; show O a + sumF A2 a + F2 a = O a + F2 a + sumF A2 a; omega
  have base : ∀ (H' : Hp) (F3 : Ft), (∀ a, add (add O (sumF A2)) F3 a ≤ 1) → (∀ a, add (add O (sumF A2)) F3 a ≠ 0 → H' a ≠ none) → (∀ a, add O (sumF A2) a ≠ 0 → H' a = H a) → Same (hid (add (add O (sumF A2)) F2) H) (hid (add (add O (sumF A2)) F3) H') →
      StC K mg B (add O F3) A2 ρ2 σ H' ∧ tot (add O F3) A2 = add (add O (sumF A2)) F3 ∧ Sto O A0 H0 (add O F3) A2 H' := fun H' F3 q1 q2 q3 q4 => by
    have e3 : tot (add O F3) A2 = add (add O (sumF A2)) F3 := by funext a; show O a + F3 a + sumF A2 a = O a + sumF A2 a + F3 a; omega
    rw [eO] at q4
    refine ⟨S2.move (by rw [e3]; exact q4) (fun a z => q3 a (by unfold add; omega)) (by rw [e3]; exact q1) (by rw [e3]; exact q2), e3, ⟨fun a z => (q3 a (by unfold add; omega)).trans (st1.out a z), ?_⟩⟩
    rw [e3]
    rw [t2] at q4
    exact (st1.sh.trans s1).trans q4
  have refs : ∀ (i n : Nat) (v : V), rs[i]? = some (.ref n) → vs[i]? = some v → al A2 n = some v := fun i n v q1 q2 => by rw [l2]; exact h1.nth_ref i n v q1 q2
  cases em : m (takes rs (XM.gathers rs ρ)).1 with
  | none => rw [em] at e; cases e
  | some fo =>
    rw [em] at e
    refine ⟨B.η, add O (sumF A2), F2, _, fo, by rw [n2, hn], by rw [eO]; exact tr, by rw [eO]; exact S2.le1, by rw [eO]; exact S2.al, em, ?_⟩
    cases fo with
    | ret t ts =>
      have e := Option.some.inj e
      rintro v H' F' Ft ⟨p1, p2, p3, p4, p5, p6⟩
      obtain ⟨S3, e3, sto⟩ := base H' (add F' Ft) p3 p4 p5 p6
      have eq : add O (add F' Ft) = add (add O Ft) F' := by funext a; show O a + (F' a + Ft a) = O a + Ft a + F' a; omega
      rw [← e3] at p1 p2
      rw [eq] at S3 p1 p2 sto
      obtain ⟨A3, S4, l4, s4⟩ := S3.puts (rs := rs) p1 refs
      exact c _ _ e.symm v H' A3 Ft S4 (toR_ok (p2.step s4 fun _ _ => rfl)) ⟨⟨sto.out, sto.sh.trans s4⟩, fun r u q => by rw [l4, l2, l1]; exact st1.al r u q⟩
    | ex c' ts =>
      have e := Option.some.inj e
      intro C H' F' hc p1 p3 p4 p5 p6
      obtain ⟨S3, e3, sto⟩ := base H' F' p3 p4 p5 p6
      rw [← e3] at p1
      obtain ⟨A3, S4, l4, s4⟩ := S3.puts (rs := rs) p1 refs
      exact x c' _ e.symm C H' A3 hc S4 ⟨sto.out, sto.sh.trans s4⟩
end
section
variable {X : Cx} {E : EK} {e : Expr} {es : List Expr} {x : Str} {ps : List Str} {k j : Nat} {p pos : Pos} {m : FM} {CX : CXT} {B : Bs} {O : Ft} {A : Al} {σ : L2.St} {H : Hp}
theorem len_args {ms : List (M R)} : ∀ {ρ ρ1 : Fr} {rs : List R}, mArgs ms ρ = some (.ok rs ρ1) → rs.length = ms.length := by
  induction ms with
  | nil => intro ρ ρ1 rs h; cases h; rfl
  | cons m ms ih =>
    intro ρ ρ1 rs h
    rcases bnd_some h with ⟨c, ρ2, e1, e2⟩ | ⟨r, ρ2, e1, e2⟩
    · cases e2
    · rcases bnd_some e2 with ⟨c, ρ3, e3, e4⟩ | ⟨rs', ρ3, e3, e4⟩
      · cases e4
      · cases e4
        rw [List.length_cons, List.length_cons, ih e3]
/-- behind arguments, with their number -/
theorem run_args {K : PySem.W.Frag} {mg : Str → Option Value} {ρ : Fr} {ms : List (M R)} {k : List R → M R} {out : Out R} {Q : List V → Hp → Prop} (S : StC K mg B O A ρ σ H) (h : bnd (mArgs ms) k ρ = some out) (x : Exc K mg B O A σ H E out)
    (c : ∀ r ρ1 v H1 A1 F, k r ρ1 = some out → r.length = ms.length → StC K mg B (add O F) A1 ρ1 σ H1 → RRs K ⟨mg, B.η⟩ (al A1) (hid (tot (add O F) A1) H1) H1 v F r → Stp O A H (add O F) A1 H1 → Q v H1) : ARun K mg (mArgs ms) E σ H Q := by
  rcases bnd_some h with ⟨c', ρ1, e, eo⟩ | ⟨r, ρ1, e, hk⟩
  · exact ⟨B, O, A, ρ, _, S, e, fun C H' A' hc S' st => x c' ρ1 eo C H' A' hc S' st⟩
  · exact ⟨B, O, A, ρ, _, S, e, fun v H1 A1 F S1 rr st => c r ρ1 v H1 A1 F hk (len_args e) S1 rr st⟩
/-- a call of a def that may raise -/
theorem de_callX {ms : List (M R)} (c : PrG X.prog X.w X.K X.mg X.base CX k x ps (spM X.K X.mg ps.length m)) (quiet : Quiet X.A) (hr : Room j X.A) (hk : k ≤ j) (hx : ∀ σ, PassesAt CX X σ (E σ)) (hg : Gl X x) (hn : ms.length = ps.length) (ha : DA X E (e :: es) (mArgs ms))
    (hdb : (x == ("__debug__" : Str)) = false := by decide) (he : starEach (e :: es) X.env = (false, eval e X.env) :: starEach es X.env := by rfl) (hpl : (backTo pos (starEach es X.env)).any (·.1) = false := by rfl) :
    DE X E (.Call (.Name x p) (e :: es) [] pos) (mCall m ms) := by
  refine ⟨pe_imp (pe_kG c quiet hr hk hx hg ha.pa hdb he hpl) fun σ H Q h => ?_⟩
  obtain ⟨B, O, A, ρ, out, S, hm, k⟩ := h
  refine run_args S hm k.exc fun rs ρ1 vs H1 A1 F hk hl S1 rr1 st1 => ?_
  rw [List.append_nil]
  exact call_ok S1 rr1 (hl.trans hn) hk st1 k.exc fun r ρ' e => by subst e; exact k.oks
theorem noEx_some {β : Type} {m : M β} {ρ : Fr} {out : Out β} (h : noEx m ρ = some out) : ∃ r ρ', out = .ok r ρ' ∧ m ρ = some (.ok r ρ') := by
  unfold noEx at h
  split at h
  · rename_i r ρ' e; cases h; exact ⟨r, ρ', rfl, e⟩
  · cases h
/-- .. of one that raises nothing -/
theorem de_call {ms : List (M R)} (c : PrG X.prog X.w X.K X.mg X.base CX0 k x ps (sp0 X.K X.mg ps.length m)) (quiet : Quiet X.A) (hr : Room j X.A) (hk : k ≤ j) (hg : Gl X x) (hn : ms.length = ps.length) (ha : DA X E (e :: es) (mArgs ms))
    (hdb : (x == ("__debug__" : Str)) = false := by decide) (he : starEach (e :: es) X.env = (false, eval e X.env) :: starEach es X.env := by rfl) (hpl : (backTo pos (starEach es X.env)).any (·.1) = false := by rfl) :
    DE X E (.Call (.Name x p) (e :: es) [] pos) (mCall0 m ms) := by
  refine ⟨pe_imp (pe_kG (E := E) c quiet hr hk (fun _ _ _ _ _ _ _ h => h.elim) hg ha.pa hdb he hpl) fun σ H Q h => ?_⟩
  obtain ⟨B, O, A, ρ, out, S, hm, k⟩ := h
  refine run_args S hm k.exc fun rs ρ1 vs H1 A1 F hk hl S1 rr1 st1 => ?_
  rw [List.append_nil]
  obtain ⟨r, ρ', rfl, e1⟩ := noEx_some hk
  exact call_ok (E := fun _ _ _ _ => False) S1 rr1 (hl.trans hn) e1 st1 (fun c ρ' z => nomatch z) fun r ρ' z => by cases z; exact k.oks
end
end XM
end
section
namespace XM
open PySem PySem.Spec PyProof.Rows L2 Tl
/-! ### what loops walk -/
/-- turn i gives data -/
def Yld (K : PySem.W.Frag) (G : Hp) (l : List D) (i : Nat) (H : Hp) (x : V) (H' : Hp) : Prop :=
  (H' = H ∧ ∃ d, l[i]? = some d ∧ Dq K G x d) ∨ ∃ p xs ds, x = .ref p ∧ H p = none ∧ H' = upd H p (.tup xs) ∧ l[i]? = some (.tuple ds) ∧ DqAll K G xs ds
def ItOk (K : PySem.W.Frag) (G : Hp) (J : It) (l : List D) : Prop := ∃ Gd Y, Walk J l.length Gd Y ∧ (∀ H, Same G H → Gd H) ∧ ∀ i H x H', i < l.length → Y i H x H' → Yld K G l i H x H'
def okI (K : PySem.W.Frag) (mg : Str → Option Value) (B : Bs) (O : Ft) (A : Al) (σ : L2.St) (H : Hp) (R : It → Hp → Prop) (l : List D) (ρ' : Fr) : Prop :=
  ∀ J H' A', StC K mg B O A' ρ' σ H' → Stp O A H O A' H' → ItOk K (hid (tot O A') H') J l → R J H'
def IRun (K : PySem.W.Frag) (mg : Str → Option Value) (m : M (List D)) (E : EK) : TI := fun σ H R => ∃ B O A ρ out, StC K mg B O A ρ σ H ∧ m ρ = some out ∧ Aft K mg B O A σ H E (okI K mg B O A σ H R) out
structure DI (X : Cx) (E : EK) (tg iter : Expr) (m : M (List D)) : Prop where
  pi : PI X tg iter (IRun X.K X.mg m E)
theorem pi_imp {X : Cx} {tg iter : Expr} {t t' : TI} (h : PI X tg iter t) (i : ∀ σ H Q, t' σ H Q → t σ H Q) : PI X tg iter t' := ⟨fun pins s σ H R I q => h.run pins s σ H R I (i _ _ _ q)⟩
section
variable {K : PySem.W.Frag} {mg : Str → Option Value} {mm : Mg} {B : Bs} {O O' : Ft} {A A' A1 : Al} {ρ ρ1 : Fr} {σ σ1 : L2.St} {H H' H1 : Hp} {E : EK}
theorem yat_ok {G : Hp} {vs : List V} {l : List D} (h : DqAll K G vs l) {i : Nat} {H : Hp} {x : V} {H' : Hp} (hi : i < l.length) (y : YAt vs i H x H') : Yld K G l i H x H' := by
  obtain ⟨rfl, e⟩ := y
  obtain ⟨v, e', hv⟩ := DqAll_at h (List.getElem?_eq_getElem hi)
  rw [e] at e'
  cases e'
  exact .inl ⟨rfl, _, List.getElem?_eq_getElem hi, hv⟩
theorem it_list {G : Hp} {a : Addr} {vs : List V} {l : List D} (ha : SqL K G a vs) (h : DqAll K G vs l) : ItOk K G (Itl K a) l :=
  ⟨_, _, by rw [← DqAll_len h]; exact walk_list (xs := vs), fun _ s => s.seq ha, fun i H x H' hi y => yat_ok h hi y⟩
theorem it_tup {G : Hp} {a : Addr} {vs : List V} {l : List D} (ha : SqT K G a vs) (h : DqAll K G vs l) : ItOk K G (Itt K a) l :=
  ⟨_, _, by rw [← DqAll_len h]; exact walk_tup (xs := vs), fun _ s => Tl.Same.tup s ha, fun i H x H' hi y => yat_ok h hi y⟩
def rangeD (lo : Int) (n : Nat) : List D := (List.range n).map fun i => .int (lo + (i : Nat))
theorem it_range {G : Hp} {lo : Int} {n : Nat} : ItOk K G (Itr lo n) (rangeD lo n) := by
  have len : (rangeD lo n).length = n := by simp [rangeD]
  refine ⟨_, _, by rw [len]; exact walk_range (lo := lo), fun _ _ => trivial, fun i H x H' hi y => ?_⟩
  obtain ⟨rfl, rfl⟩ := y
  rw [len] at hi
  exact .inl ⟨rfl, .int (lo + (i : Nat)), by simp [rangeD, hi], .int _⟩
def rangeC (lo c : Int) (n : Nat) : List D := (List.range n).map fun i => .int (lo + (i : Nat) * c)
def strD (z : Str) : List D := z.cps.toList.map fun c => .str ⟨#[c]⟩
theorem it_str {G : Hp} {z : Str} : ItOk K G (Its z) (strD z) := by
  have len : (strD z).length = z.cps.size := by simp [strD]
  refine ⟨_, _, by rw [len]; exact walk_str (z := z), fun _ _ => trivial, fun i H x H' hi y => ?_⟩
  obtain ⟨rfl, c, hc, rfl⟩ := y
  refine .inl ⟨rfl, .str ⟨#[c]⟩, ?_, .str _⟩
  simp only [strD, List.getElem?_map, Array.getElem?_toList, hc]
  rfl
end
/-! what is walked: a list or a tuple that all may read from now on, a text, a range -/
def seqD (r : R) : M (List D) := fun ρ => match r with
  | .ref n => match ρ.rt[n]? with
    | some ⟨.frz ns, _⟩ => some (.ok (ns.map .int) ρ)
    | _ => match toD r ρ with
      | some (.ok (.list l) ρ1) => some (.ok l ρ1)
      | some (.ok (.tuple l) ρ1) => some (.ok l ρ1)
      | _ => none
  | _ => match toD r ρ with
    | some (.ok (.list l) ρ1) => some (.ok l ρ1)
    | some (.ok (.tuple l) ρ1) => some (.ok l ρ1)
    | _ => none
def mSeqI (m : M R) : M (List D) := bnd m seqD
def mStrI (m : M R) : M (List D) := bnd m fun r ρ => match vw r ρ with
  | some (.str z) => some (.ok (strD z) ρ)
  | _ => none
def mRng1 (m : M R) : M (List D) := bnd m fun r ρ => match vw r ρ with
  | some (.int j) => if -1000000 ≤ j ∧ j ≤ 1000000 then some (.ok (rangeD 0 j.toNat) ρ) else none
  | _ => none
def mRng2 (ma mb : M R) : M (List D) := bnd ma fun r => bnd mb fun r2 ρ => match vw r ρ, vw r2 ρ with
  | some (.int i), some (.int j) => if -1000000 ≤ i ∧ i ≤ 1000000 ∧ -1000000 ≤ j ∧ j ≤ 1000000 then some (.ok (rangeD i (j - i).toNat) ρ) else none
  | _, _ => none
/-- reversed(range(n)) -/
def mRev1 (m : M R) : M (List D) := bnd m fun r ρ => match vw r ρ with
  | some (.int j) => if -1000000 ≤ j ∧ j ≤ 1000000 then some (.ok (rangeC (0 + ((j - 0).toNat : Nat) - 1) (-1) (j - 0).toNat) ρ) else none
  | _ => none
section
variable {X : Cx} {E : EK} {e a b tg : Expr} {pos p : Pos} {B : Bs} {O O' : Ft} {A A' A1 : Al} {ρ ρ1 : Fr} {σ : L2.St} {H H' H1 : Hp}
theorem seq_ok {K : PySem.W.Frag} {mg : Str → Option Value} {F : Ft} {r : R} {v : V} {out : Out (List D)} (S : StC K mg B (add O F) A ρ σ H) (h : RR K ⟨mg, B.η⟩ (al A) (hid (tot (add O F) A) H) H v F r) (e : seqD r ρ = some out) :
    ∃ l ρ' A' a vs, out = .ok l ρ' ∧ v = .ref a ∧ StC K mg B O A' ρ' σ H ∧ (SqL K (hid (tot O A') H) a vs ∨ SqT K (hid (tot O A') H) a vs) ∧ DqAll K (hid (tot O A') H) vs l ∧ Stp (add O F) A H O A' H := by
  have viaD : ∀ o, toD r ρ = some o → (∃ l ρ1, out = .ok l ρ1 ∧ (o = .ok (.list l) ρ1 ∨ o = .ok (.tuple l) ρ1)) → ∃ l ρ' A' a vs, out = .ok l ρ' ∧ v = .ref a ∧ StC K mg B O A' ρ' σ H ∧ (SqL K (hid (tot O A') H) a vs ∨ SqT K (hid (tot O A') H) a vs) ∧ DqAll K (hid (tot O A') H) vs l ∧ Stp (add O F) A H O A' H := by
    rintro o ho ⟨l, ρ1, rfl, q⟩
    obtain ⟨d, ρ', A', rfl, S', dq, st⟩ := give S h ho
    rcases q with q | q
    · cases q
      cases dq with
      | lst ha r => exact ⟨l, ρ1, A', _, _, rfl, rfl, S', .inl (.of ha), r, st⟩
    · cases q
      cases dq with
      | tup ha r => exact ⟨l, ρ1, A', _, _, rfl, rfl, S', .inr ha, r, st⟩
  have gen : (match toD r ρ with
      | some (.ok (.list l) ρ1) => some (Out.ok l ρ1)
      | some (.ok (.tuple l) ρ1) => some (.ok l ρ1)
      | _ => none) = some out → ∃ l ρ' A' a vs, out = .ok l ρ' ∧ v = .ref a ∧ StC K mg B O A' ρ' σ H ∧ (SqL K (hid (tot O A') H) a vs ∨ SqT K (hid (tot O A') H) a vs) ∧ DqAll K (hid (tot O A') H) vs l ∧ Stp (add O F) A H O A' H := fun e => by
    split at e
    · rename_i l ρ1 q; cases e; exact viaD _ q ⟨l, ρ1, rfl, .inl rfl⟩
    · rename_i l ρ1 q; cases e; exact viaD _ q ⟨l, ρ1, rfl, .inr rfl⟩
    · cases e
  cases r with
  | ref n =>
    simp only [seqD] at e
    split at e
    · rename_i ns pr hx
      cases e
      obtain ⟨rfl, ha⟩ := h
      rw [add_zer] at S ⊢
      obtain ⟨F', _, ht⟩ := S.root hx ha
      cases ht with
      | frz hs => exact ⟨_, ρ, A, _, _, rfl, rfl, S, .inl hs, ints_all ns, Stp.refl⟩
    · exact gen e
  | dat d => exact gen e
  | own t => exact gen e
  | fn x => exact gen e
def iSeq (K : PySem.W.Frag) (tl : TE) : TI := fun σ H R => tl σ H fun x H1 => ∃ a, x = .ref a ∧ ((∃ xs, SqL K H1 a xs) ∧ R (Itl K a) H1 ∨ (∃ xs, SqT K H1 a xs) ∧ R (Itt K a) H1)
theorem pi_seq {tl : TE} (hl : PE X e tl) : PI X tg e (iSeq X.K tl) := by
  refine ⟨fun pins s σ H R I h => ?_⟩
  refine thn (hl.run pins s σ H _ I h) fun v s1 ⟨x, H1, I1, r1, q1⟩ => ?_
  obtain ⟨a, e, q⟩ := q1
  subst e
  cases r1
  rcases q with ⟨⟨xs, hq⟩, q⟩ | ⟨⟨xs, hq⟩, q⟩
  · obtain ⟨its, rv, p, hz⟩ := I1.list hq
    refine wpAny_pyIter_list p.isList ?_
    refine ⟨s1.heap.objs.size, [s1.heap.objs.size], _, _, H1, rfl, I1.kept (t' := s1.toks) fun b o e => Heap.get?_push_of_some _ e, turn_list a _, ⟨_, Heap.get?_push_size _ rfl, rfl, rfl⟩, fun b hb => ?_, q⟩
    have e : b = s1.heap.objs.size := by simpa using hb
    subst e
    exact I1.fpOk (Nat.le_refl _) (I1.hok.fresh (Nat.le_refl _))
  · obtain ⟨its, rv, p, hz⟩ := I1.tuple hq
    refine wpAny_pyIter_tuple (show s1.heap.IsTuple a its.toArray from p) ?_
    refine ⟨s1.heap.objs.size, [s1.heap.objs.size], _, _, H1, rfl, I1.kept (t' := s1.toks) fun b o e => Heap.get?_push_of_some _ e, turn_tuple a _, ⟨_, Heap.get?_push_size _ rfl, rfl, rfl⟩, fun b hb => ?_, q⟩
    have e : b = s1.heap.objs.size := by simpa using hb
    subst e
    exact I1.fpOk (Nat.le_refl _) (I1.hok.fresh (Nat.le_refl _))
theorem di_str {m : M R} (h : DE X E e m) : DI X E tg e (mStrI m) := by
  refine ⟨pi_imp (pi_str h.pe) fun σ H R h => ?_⟩
  obtain ⟨B, O, A, ρ, out, S, hm, k⟩ := h
  refine run_bnd S hm k.exc fun r ρ1 v H1 A1 F hk S1 rr1 st1 x1 => ?_
  split at hk
  · rename_i z e1
    cases hk
    have := S1.view rr1 e1
    cases this
    exact ⟨z, rfl, k.oks _ H1 A1 (S1.weak fun a => le_add a) (st1.weak fun a => le_add a) it_str⟩
  · cases hk
theorem di_rng1 {m : M R} (hg : Gl X "range") (hm : X.mg "range" = none) (h : DE X E a m) (hs : starEach [a] X.env = [(false, eval a X.env)] := by rfl) : DI X E tg (.Call (.Name "range" p) [a] [] pos) (mRng1 m) := by
  refine ⟨pi_imp (pi_range1 hg hm (pa_cons h.pe pa_nil (by rw [hs]; rfl)) hs) fun σ H R h => ?_⟩
  obtain ⟨B, O, A, ρ, out, S, hm, k⟩ := h
  show ERun _ _ _ _ _ _ _
  refine run_bnd S hm k.exc fun r ρ1 v H1 A1 F hk S1 rr1 st1 x1 => ?_
  split at hk
  · rename_i j e1
    split at hk
    · rename_i sm
      cases hk
      have := S1.view rr1 e1
      cases this
      exact ⟨j, rfl, by omega, by omega, k.oks _ H1 A1 (S1.weak fun a => le_add a) (st1.weak fun a => le_add a) it_range⟩
    · cases hk
  · cases hk
theorem di_rng2 {ma mb : M R} (hg : Gl X "range") (hm : X.mg "range" = none) (ha : DE X E a ma) (hb : DE X E b mb) (hs : starEach [a, b] X.env = [(false, eval a X.env), (false, eval b X.env)] := by rfl) (hs2 : starEach [b] X.env = [(false, eval b X.env)] := by rfl) : DI X E tg (.Call (.Name "range" p) [a, b] [] pos) (mRng2 ma mb) := by
  refine ⟨pi_imp (pi_range2 hg hm (pa_cons ha.pe (pa_cons hb.pe pa_nil (by rw [hs2]; rfl)) (by rw [hs, hs2])) hs hs2) fun σ H R h => ?_⟩
  obtain ⟨B, O, A, ρ, out, S, hm, k⟩ := h
  show ERun _ _ _ _ _ _ _
  refine run_bnd S hm k.exc fun ra ρ1 v H1 A1 F hk S1 rr1 st1 x1 => ?_
  show ERun _ _ _ _ _ _ _
  refine run_bnd S1 hk x1 fun rb ρ2 w H2 A2 F2 hk2 S2 rr2 st2 x2 => ?_
  have rr1' := rr1.step st2 (fun a n => add_r n)
  split at hk2
  · rename_i i j e1 e2
    split at hk2
    · rename_i sm
      cases hk2
      have h1 := S2.view rr1' e1
      have h2 := S2.view rr2 e2
      cases h1
      cases h2
      have le : ∀ a, O a ≤ add (add O F) F2 a := fun a => by unfold add; omega
      exact ⟨i, j, rfl, ⟨by omega, by omega, by omega, by omega⟩, k.oks _ H2 A2 (S2.weak le) ((st1.trans st2 fun a n => add_l n).weak le) it_range⟩
    · cases hk2
  · cases hk2
/-! ### targets -/
/-- only the slots ws are touched -/
def Only (ws : List Nat) (σ σ' : L2.St) : Prop := ∀ vs, (∀ w ∈ ws, w ∈ vs) → wipe σ' vs = wipe σ vs
def GRun (K : PySem.W.Frag) (mg : Str → Option Value) (ws : List Nat) (b : D → Fr → Option Fr) : TG := fun v σ H Q => ∃ B O A ρ ρ' d, StC K mg B O A ρ σ H ∧ Dq K (hid (tot O A) H) v d ∧ b d ρ = some ρ' ∧ ∀ σ', Only ws σ σ' → StC K mg B O A ρ' σ' H → Q σ' H
def GRuns (K : PySem.W.Frag) (mg : Str → Option Value) (ws : List Nat) (b : List D → Fr → Option Fr) : TGs := fun vs σ H Q => ∃ B O A ρ ρ' ds, StC K mg B O A ρ σ H ∧ DqAll K (hid (tot O A) H) vs ds ∧ b ds ρ = some ρ' ∧ ∀ σ', Only ws σ σ' → StC K mg B O A ρ' σ' H → Q σ' H
structure DG (X : Cx) (tg : Expr) (ws : List Nat) (b : D → Fr → Option Fr) : Prop where
  pg : PG X tg (GRun X.K X.mg ws b)
structure DGs (X : Cx) (ts : List Expr) (ws : List Nat) (b : List D → Fr → Option Fr) : Prop where
  pgs : PGs X ts (GRuns X.K X.mg ws b)
theorem pg_imp {X : Cx} {tg : Expr} {t t' : TG} (h : PG X tg t) (i : ∀ v σ H Q, t' v σ H Q → t v σ H Q) : PG X tg t' := ⟨fun pins s σ H v u Q I r q => h.run pins s σ H v u Q I r (i _ _ _ _ q)⟩
theorem pgs_imp {X : Cx} {ts : List Expr} {t t' : TGs} (h : PGs X ts t) (i : ∀ v σ H Q, t' v σ H Q → t v σ H Q) : PGs X ts t' := ⟨fun pins s σ H v u Q I r q => h.run pins s σ H v u Q I r (i _ _ _ _ q)⟩
theorem wipe_get {σ : L2.St} {i : Nat} : ∀ {vs : List Nat}, i ∈ vs → i < σ.length → (wipe σ vs)[i]? = some none
  | v :: vs, h, lt => by
    unfold wipe
    rw [List.getElem?_set]
    by_cases e : v = i
    · rw [if_pos e, if_pos (by rw [wipe_length]; omega)]
    · rw [if_neg e]
      rcases List.mem_cons.mp h with h | h
      · exact absurd h.symm e
      · exact wipe_get h lt
theorem wipe_ext {σ σ' : L2.St} {vs : List Nat} (l : σ'.length = σ.length) (h : ∀ i, i ∉ vs → σ'[i]? = σ[i]?) : wipe σ' vs = wipe σ vs := by
  apply List.ext_getElem?
  intro i
  by_cases m : i ∈ vs
  · by_cases lt : i < σ.length
    · rw [wipe_get m (by omega), wipe_get m lt]
    · rw [List.getElem?_eq_none_iff.mpr (by rw [wipe_length]; omega), List.getElem?_eq_none_iff.mpr (by rw [wipe_length]; omega)]
  · rw [wipe_out m, wipe_out m]; exact h i m
theorem wipe_wipe {σ : L2.St} {vs : List Nat} : wipe (wipe σ vs) vs = wipe σ vs := wipe_ext (wipe_length σ vs) fun i m => wipe_out m
theorem only_set {σ : L2.St} {i : Nat} {x : Option V} : Only [i] σ (σ.set i x) := fun vs h => wipe_ext (by simp) fun j m => by
  rw [List.getElem?_set, if_neg fun (e : i = j) => m (e ▸ h i (by simp))]
theorem Only.refl {σ : L2.St} : Only [] σ σ := fun _ _ => rfl
theorem Only.app {ws ws' : List Nat} {σ σ1 σ2 : L2.St} (a : Only ws σ σ1) (b : Only ws' σ1 σ2) : Only (ws ++ ws') σ σ2 := fun vs h => (b vs fun w m => h w (List.mem_append_right _ m)).trans (a vs fun w m => h w (List.mem_append_left _ m))
def bName (i : Nat) : D → Fr → Option Fr := fun d ρ => some { ρ with sl := ρ.sl.set i (.dat d) }
def bNil : List D → Fr → Option Fr := fun ds ρ => match ds with
  | [] => some ρ
  | _ => none
def bCons (b : D → Fr → Option Fr) (bs : List D → Fr → Option Fr) : List D → Fr → Option Fr := fun ds ρ => match ds with
  | d :: r => match b d ρ with
    | some ρ1 => bs r ρ1
    | none => none
  | [] => none
def bTup (n : Nat) (bs : List D → Fr → Option Fr) : D → Fr → Option Fr := fun d ρ => match d with
  | .tuple ds => if ds.length = n then bs ds ρ else none
  | _ => none
theorem dg_name {i : Nat} {x : Str} (hN : X.N.Nodup) (hi : X.N[i]? = some x) (hx : Loc X.env.scope x) (hf : X.fn x = true ∨ X.env.scope.names.lookup x = some .local := by first | exact .inl rfl | exact .inr rfl | assumption) : DG X (.Name x pos) [i] (bName i) := by
  refine ⟨pg_imp (pg_name hN hi hx hf) fun v σ H Q h => ?_⟩
  obtain ⟨B, O, A, ρ, ρ', d, S, dq, e, k⟩ := h
  cases e
  exact k _ only_set (S.setSl ⟨v, rfl, dq⟩)
theorem dgs_nil : DGs X [] [] bNil := by
  refine ⟨pgs_imp pgs_nil fun v σ H Q h => ?_⟩
  obtain ⟨B, O, A, ρ, ρ', ds, S, dq, e, k⟩ := h
  cases dq with
  | nil => cases e; exact ⟨rfl, k _ Only.refl S⟩
  | cons _ _ => cases e
theorem dgs_cons {es : List Expr} {b : D → Fr → Option Fr} {bs : List D → Fr → Option Fr} {ws ws' : List Nat} (h1 : DG X e ws b) (h2 : DGs X es ws' bs) (hs : (assignEach (e :: es) X.env).map (·.2) = assign e X.env :: (assignEach es X.env).map (·.2) := by rfl) : DGs X (e :: es) (ws ++ ws') (bCons b bs) := by
  refine ⟨pgs_imp (pgs_cons h1.pg h2.pgs hs) fun v σ H Q h => ?_⟩
  obtain ⟨B, O, A, ρ, ρ', ds, S, dq, e, k⟩ := h
  cases dq with
  | nil => cases e
  | cons a r =>
    rename_i v vs d ds
    simp only [bCons] at e
    split at e
    · rename_i ρ1 e1
      exact ⟨v, vs, rfl, B, O, A, ρ, ρ1, d, S, a, e1, fun σ1 o1 S1 => ⟨B, O, A, ρ1, ρ', ds, S1, r, e, fun σ2 o2 S2 => k σ2 (o1.app o2) S2⟩⟩
    · cases e
/-! ### for -/
def forL (b : D → Fr → Option Fr) (m : SM) : List D → SM
  | [], ρ => some (.nx ρ)
  | d :: ds, ρ => match b d ρ with
    | none => none
    | some ρ1 => match m ρ1 with
      | some (.nx ρ2) => forL b m ds ρ2
      | some (.ct ρ2) => forL b m ds ρ2
      | some (.bk ρ2) => some (.nx ρ2)
      | o => o
def mFor (mi : M (List D)) (b : D → Fr → Option Fr) (m : SM) : SM := sBnd mi fun l => forL b m l
theorem StC.yield {K : PySem.W.Frag} {mg : Str → Option Value} {G : Hp} {l : List D} {i : Nat} {x : V} (S : StC K mg B O A ρ σ H) (s : Same G (hid (tot O A) H)) (y : Yld K G l i H x H') : ∃ d, l[i]? = some d ∧ StC K mg B O A ρ σ H' ∧ Stp O A H O A H' ∧ Dq K (hid (tot O A) H') x d := by
  rcases y with ⟨rfl, d, e, dq⟩ | ⟨p, xs, ds, rfl, np, rfl, e, dq⟩
  · exact ⟨d, e, S, Stp.refl, Dq_same s dq⟩
  · obtain ⟨S2, st2, e2⟩ := S.newS (o := .tup xs) np
    exact ⟨_, e, S2, st2, .tup (.of e2) (DqAll_same (s.trans st2.sh) dq)⟩
theorem ds_for {iter : Expr} {body : List Stmt} {mi : M (List D)} {b : D → Fr → Option Fr} {ws : List Nat} {m : SM} (hp : PassesOwn (model X.prog X.w) X.A X.env X.xe) (hc : X.calm = true) (hi : DI X E tg iter mi) (hg : DG X tg ws b) (hb : DSs X E body m)
    (hs : ∀ x, foldedSetIterable iter X.env x = pure x := by intro _; rfl) : DS X E (.For tg iter body [] pos) (mFor mi b m) := by
  refine ⟨ps_imp (ps_for hp hc hi.pi hg.pg hb.pss hs) fun D σ H h => ?_⟩
  obtain ⟨B, O, A, ρ, out, S, hm, kk⟩ := h
  unfold mFor sBnd at hm
  split at hm
  · cases hm
  · rename_i c' ρ1 e
    cases hm
    exact ⟨B, O, A, ρ, _, S, e, fun C H' A' hc S' st => kk C σ H' A' hc S' st⟩
  · rename_i l ρ1 e
    refine ⟨B, O, A, ρ, _, S, e, fun J H1 A1 S1 st1 it => ?_⟩
    obtain ⟨Gd, Y, wk, gd, yl⟩ := it
    refine for_it wk (fun i σ' H' => ∃ A' ρ', StC X.K X.mg B O A' ρ' σ' H' ∧ Sto O A1 H1 O A' H' ∧ forL b m (l.drop i) ρ' = some out) ⟨A1, ρ1, S1, Sto.refl, hm⟩ (fun i σ' H' _ z => ?_) (fun i x σ' H' H2 hi z y => ?_) fun σ' H' z => ?_
    · obtain ⟨A', ρ', _, st, _⟩ := z
      exact gd H' (st.sh.trans hid_sub)
    · obtain ⟨A', ρ', S', st, hf⟩ := z
      obtain ⟨d, ed, S2, st2, dq⟩ := S'.yield st.sh (yl i H' x H2 hi y)
      have eq : l.drop i = d :: l.drop (i + 1) := by
        obtain ⟨h1, h2⟩ := List.getElem?_eq_some_iff.mp ed
        rw [← h2]; exact List.drop_eq_getElem_cons h1
      rw [eq] at hf
      unfold forL at hf
      split at hf
      · cases hf
      · rename_i ρ2 eb
        refine ⟨B, O, A', ρ', ρ2, d, S2, dq, eb, fun σ3 _ S3 => ?_⟩
        have st3 : Sto O A1 H1 O A' H2 := st.trans st2.toSto fun _ n => n
        have later : ∀ {P : L2.St → Hp → Prop} {ρ3 : Fr}, forL b m (l.drop (i + 1)) ρ3 = some out → (∀ σ4 H4 A4, StC X.K X.mg B O A4 ρ3 σ4 H4 → Sto O A' H2 O A4 H4 → ∃ A5 ρ5, StC X.K X.mg B O A5 ρ5 σ4 H4 ∧ Sto O A1 H1 O A5 H4 ∧ forL b m (l.drop (i + 1)) ρ5 = some out) := fun hf σ4 H4 A4 S4 st4 => ⟨A4, _, S4, st3.trans st4 fun _ n => n, hf⟩
        cases em : m ρ2 with
        | none => rw [em] at hf; cases hf
        | some o =>
          rw [em] at hf
          refine ⟨B, O, A', ρ2, o, S3, em, ?_⟩
          cases o with
          | nx ρ3 => exact fun σ4 H4 A4 S4 st4 => later (P := fun _ _ => True) hf σ4 H4 A4 S4 st4
          | ct ρ3 => exact fun σ4 H4 A4 S4 st4 => later (P := fun _ _ => True) hf σ4 H4 A4 S4 st4
          | bk ρ3 =>
            cases hf
            exact fun σ4 H4 A4 S4 st4 => kk σ4 H4 A4 S4 (st1.toSto.trans (st3.trans st4 fun _ n => n) fun _ n => n)
          | rt r ρ3 =>
            cases hf
            exact fun σ4 v H4 A4 F4 S4 rr st4 => kk σ4 v H4 A4 F4 S4 rr (st1.toSto.trans (st3.trans st4 fun _ n => n) fun _ n => n)
          | ex c ρ3 =>
            cases hf
            exact fun C σ4 H4 A4 hc S4 st4 => kk C σ4 H4 A4 hc S4 (st1.toSto.trans (st3.trans st4 fun _ n => n) fun _ n => n)
    · obtain ⟨A', ρ', S', st, hf⟩ := z
      rw [List.drop_length] at hf
      cases hf
      exact kk σ' H' A' S' (st1.toSto.trans st fun _ n => n)
end
end XM
end
section
namespace XM
open PySem PySem.Spec PyProof.Rows L2 Tl
/-! ### comprehensions -/
def wipeS (sl : List Sl) : List Nat → List Sl
  | [] => sl
  | v :: vs => (wipeS sl vs).set v .un
def lcL (vs : List Nat) (b : D → Fr → Option Fr) (mt : M Bool) (me : M R) (sl : List Sl) : List D → List D → Fr → Option (List D × Fr)
  | [], acc, ρ => some (acc, { ρ with sl := sl })
  | d :: ds, acc, ρ => match b d { ρ with sl := wipeS sl vs } with
    | none => none
    | some ρ1 => match mt ρ1 with
      | some (.ok true ρ2) => match me ρ2 with
        | some (.ok r ρ3) => match toD r ρ3 with
          | some (.ok z ρ4) => if acc.length < 1000000 then lcL vs b mt me sl ds (acc ++ [z]) ρ4 else none
          | _ => none
        | _ => none
      | some (.ok false ρ2) => lcL vs b mt me sl ds acc ρ2
      | _ => none
def mLc (vs : List Nat) (mi : M (List D)) (b : D → Fr → Option Fr) (mt : M Bool) (me : M R) : M R := bnd mi fun l ρ => (lcL vs b mt me ρ.sl l [] ρ).map fun p => .ok (.own (.dl p.1)) p.2
def mYes : M Bool := fun ρ => some (.ok true ρ)
section
variable {K : PySem.W.Frag} {mg : Str → Option Value} {mm : Mg} {B : Bs} {O O' O1 : Ft} {A A' A1 : Al} {ρ ρ1 : Fr} {σ : L2.St} {H H' H1 : Hp}
theorem wipeS_len (sl : List Sl) : ∀ vs, (wipeS sl vs).length = sl.length
  | [] => rfl
  | v :: vs => by unfold wipeS; rw [List.length_set, wipeS_len sl vs]
theorem wipeS_at {sl : List Sl} {i : Nat} {s : Sl} : ∀ {vs : List Nat}, (wipeS sl vs)[i]? = some s → s = .un ∨ (i ∉ vs ∧ sl[i]? = some s)
  | [], h => .inr ⟨by simp, h⟩
  | v :: vs, h => by
    unfold wipeS at h
    rw [List.getElem?_set] at h
    by_cases e : v = i
    · rw [if_pos e] at h
      split at h
      · exact .inl (Option.some.inj h).symm
      · cases h
    · rw [if_neg e] at h
      rcases wipeS_at h with h | ⟨n, h⟩
      · exact .inl h
      · exact .inr ⟨by simp [n]; exact fun z => e z.symm, h⟩
theorem StC.wiped (S : StC K mg B O A ρ σ H) (vs : List Nat) : StC K mg B O A { ρ with sl := wipeS ρ.sl vs } (wipe σ vs) H := by
  refine ⟨S.le1, S.al, S.len, S.rts, S.par, S.parL, S.bas, S.bnp, by rw [wipe_length, S.slen, wipeS_len], fun i s o h1 h2 => ?_⟩
  rcases wipeS_at h1 with rfl | ⟨n, h⟩
  · exact trivial
  · rw [wipe_out n] at h2
    exact S.sls i s o h h2
/-- the slots as they were -/
theorem StC.reslot {σ1 : L2.St} (S0 : StC K mg B O A ρ σ H) (S1 : StC K mg B O1 A1 ρ1 σ1 H1) (st : Stp O A H O1 A1 H1) : StC K mg B O1 A1 { ρ1 with sl := ρ.sl } σ H1 := by
  refine ⟨S1.le1, S1.al, S1.len, S1.rts, S1.par, S1.parL, S1.bas, S1.bnp, S0.slen, fun i s o h1 h2 => ?_⟩
  have := S0.sls i s o h1 h2
  cases s with
  | un => exact trivial
  | dat d => obtain ⟨v, e, h⟩ := this; exact ⟨v, e, Dq_same st.sh h⟩
  | fn x => exact this
  | ref r => obtain ⟨v, e, h⟩ := this; exact ⟨v, st.al r v e, h⟩
end
structure DTs (X : Cx) (E : EK) (ifs : List Expr) (m : M Bool) : Prop where
  pts : PTs X ifs (TRun X.K X.mg m E)
theorem dts_one {X : Cx} {E : EK} {c : Expr} {m : M Bool} (h : DT X E c m) : DTs X E [c] m := ⟨pts_one h.pt⟩
theorem dts_nil {X : Cx} {E : EK} : DTs X E [] mYes := ⟨⟨fun pins s σ H Q I h => pts_nil.run pins s σ H Q I (by
  obtain ⟨B, O, A, ρ, out, S, hm, k⟩ := h
  cases hm
  exact k.oks H A S Stp.refl)⟩⟩
abbrev EF : EK := fun _ _ _ _ => False
section
variable {X : Cx} {E : EK} {e elt tg iter : Expr} {ifs : List Expr} {pos : Pos} {scope : Scope} {own : List (Str × Nat)} {ws : List Nat} {mi : M (List D)} {b : D → Fr → Option Fr} {mt : M Bool} {me : M R}
theorem run_lc {σ : L2.St} {H : Hp} {Q : VK} {vs : List Nat} (hw : ∀ w ∈ ws, w ∈ vs) (h : ERun X.K X.mg (mLc vs mi b mt me) E σ H Q) : tLc (IRun X.K X.mg mi E) (GRun X.K X.mg ws b) (TRun X.K X.mg mt EF) (ERun X.K X.mg me EF) vs σ H Q := by
  obtain ⟨B, O, A, ρ, out, S, hm, k⟩ := h
  rcases bnd_some hm with ⟨c, ρ1, e, eo⟩ | ⟨l, ρ1, e, hk⟩
  · exact ⟨B, O, A, ρ, _, S, e, fun C H' A' hc S' st => k.exc c ρ1 eo C H' A' hc S' st⟩
  · refine ⟨B, O, A, ρ, _, S, e, fun J H1 A1 S1 st1 it D nD => ?_⟩
    obtain ⟨Gd, Y, wk, gd, yl⟩ := it
    cases hp : lcL vs b mt me ρ1.sl l [] ρ1 with
    | none => rw [hp] at hk; cases hk
    | some p =>
    rw [hp] at hk
    have hk := Option.some.inj hk
    subst hk
    obtain ⟨S2, st2⟩ := S1.newO (o := .lst []) nD
    have free : tot O A1 D = 0 := S1.free nD
    refine lc_it wk (Qd := fun H' => Q (.ref D) H') (fun i H' => ∃ A' ρ' acc xs, StC X.K X.mg B (add O (one D)) A' { ρ' with sl := ρ1.sl } σ H' ∧ Stp O A1 H1 (add O (one D)) A' H' ∧ H' D = some (.lst xs) ∧ DqAll X.K (hid (tot (add O (one D)) A') H') xs acc ∧ lcL vs b mt me ρ1.sl (l.drop i) acc ρ' = some p)
      ⟨A1, ρ1, [], [], S2, st2, upd_same, .nil, hp⟩ (fun i H' _ z => ?_) (fun i x H' H2 hi z y => ?_) fun H' z => ?_
    · obtain ⟨A', ρ', acc, xs, S', st', _⟩ := z
      exact gd H' (st'.sh.trans hid_sub)
    · obtain ⟨A', ρ', acc, xs, S', st', hD, dq, hl⟩ := z
      obtain ⟨d, ed, S3, st3, dx⟩ := S'.yield st'.sh (yl i H' x H2 hi y)
      have eq : l.drop i = d :: l.drop (i + 1) := by
        obtain ⟨h1, h2⟩ := List.getElem?_eq_some_iff.mp ed
        rw [← h2]; exact List.drop_eq_getElem_cons h1
      rw [eq] at hl
      unfold lcL at hl
      have oD : add O (one D) D ≠ 0 := by unfold add; rw [one_self]; omega
      have st13 := st'.trans st3 fun a n => add_l n
      split at hl
      · cases hl
      · rename_i ρ2 eb
        refine ⟨B, add O (one D), A', _, ρ2, d, S3.wiped vs, dx, eb, fun σ3 o3 S4 => ⟨(o3 vs hw).trans wipe_wipe, ?_⟩⟩
        split at hl
        · rename_i ρ3 et
          refine ⟨B, add O (one D), A', ρ2, _, S4, et, fun H5 A5 S5 st5 => ?_⟩
          dsimp only
          rw [if_pos rfl]
          split at hl
          · rename_i r ρ4 ee
            refine ⟨B, add O (one D), A5, ρ3, _, S5, ee, fun v H6 A6 F6 S6 rr st6 => ?_⟩
            split at hl
            · rename_i zz ρ5 ez
              split at hl
              · rename_i sm
                obtain ⟨d', ρ5', A7, eo, S7, dz, st7⟩ := give S6 rr ez
                cases eo
                have st37 : Stp (add O (one D)) A' H2 (add O (one D)) A7 H6 := (st5.trans st6 fun _ n => n).trans ⟨⟨fun _ _ => rfl, st7.sh⟩, st7.al⟩ fun a n => add_l n
                have hD6 : H6 D = some (.lst xs) := by rw [st37.out D oD, st3.out D oD]; exact hD
                have dq6 : DqAll X.K (hid (tot (add O (one D)) A7) H6) xs acc := DqAll_same (st3.sh.trans st37.sh) dq
                have zD : sumF A7 D = 0 := by have := S7.le1 D; unfold tot add at this; rw [one_self] at this; omega
                have S8 := S3.reslot S7 st37
                have pD : tot (add O (one D)) A7 D ≠ 0 := by unfold tot; exact add_l oD
                have w8 : Same (hid (tot (add O (one D)) A7) H6) (hid (tot (add O (one D)) A7) (upd H6 D (.lst (xs ++ [v])))) := fun a u h => by
                  obtain ⟨q, h⟩ := hid_some h
                  exact hid_at q (by rw [upd_ne fun z => pD (by rw [z] at q; exact q)]; exact h)
                have S9 : StC X.K X.mg B (add O (one D)) A7 { ρ5 with sl := ρ1.sl } σ (upd H6 D (.lst (xs ++ [v]))) := S8.move w8 (fun a n => upd_ne fun z => n (by rw [z]; exact zD)) S8.le1 fun a n => by
                  by_cases q : a = D
                  · rw [q, upd_same]; simp
                  · rw [upd_ne q]; exact S8.al a n
                refine ⟨xs, hD6, by rw [DqAll_len dq, sizeLine_eq]; omega, A7, ρ5, acc ++ [zz], xs ++ [v], S9, ⟨⟨fun a n => ?_, ?_⟩, fun r u q => st37.al r u (st13.al r u q)⟩, upd_same, DqAll_same w8 (DqAll_app dq6 (.cons dz .nil)), hl⟩
                · have ne : a ≠ D := fun z => by rw [z] at n; unfold tot add at free; omega
                  rw [upd_ne ne, st37.out a (add_l n)]
                  exact st13.out a n
                · exact (st13.sh.trans st37.sh).trans w8
              · cases hl
            · cases hl
          · cases hl
        · rename_i ρ3 et
          refine ⟨B, add O (one D), A', ρ2, _, S4, et, fun H5 A5 S5 st5 => ?_⟩
          dsimp only
          rw [if_neg (by decide)]
          have st35 : Stp (add O (one D)) A' H2 (add O (one D)) A5 H5 := st5
          exact ⟨A5, ρ3, acc, xs, S3.reslot S5 st35, st13.trans st5 fun a n => add_l n, by rw [st5.out D oD, st3.out D oD]; exact hD, DqAll_same (st3.sh.trans st5.sh) dq, hl⟩
        · cases hl
    · obtain ⟨A', ρ', acc, xs, S', st', hD, dq, hl⟩ := z
      rw [List.drop_length] at hl
      cases hl
      exact fin_own k.oks (F := one D) S' (st1.trans st' fun _ n => n) (.dl hD dq)
/-- [elt for tg in iter if ..] -/
theorem de_lc (hc : X.calm = true) (hN : X.N.Nodup) (hi : DI X E tg iter mi) (ok : BlkOk X.N X.env.scope scope own) (hg : ∀ (s : Shared) (H : Hp) (C : Addr) (cl : List (Str × Addr)) (fp : List Addr), DG (X.blk s H scope (compEnvC scope cl C X.env) fp) tg ws b)
    (ht : ∀ (s : Shared) (H : Hp) (C : Addr) (cl : List (Str × Addr)) (fp : List Addr), DTs (X.blk s H scope (compEnvC scope cl C X.env) fp) EF ifs mt) (he : ∀ (s : Shared) (H : Hp) (C : Addr) (cl : List (Str × Addr)) (fp : List Addr), DE (X.blk s H scope (compEnvC scope cl C X.env) fp) EF elt me)
    (hw : ∀ w ∈ ws, w ∈ own.map (·.2) := by decide) (hs : ∀ x, foldedSetIterable iter X.env x = pure x := by intro _; rfl) : DE X E (.ListComp elt [⟨tg, iter, ifs, 0⟩] scope pos) (mLc (own.map (·.2)) mi b mt me) :=
  ⟨pe_imp (pe_lc (g := GRun X.K X.mg ws b) (tt := TRun X.K X.mg mt EF) (te := ERun X.K X.mg me EF) hc hN hi.pi ok (fun s H C cl fp => (hg s H C cl fp).pg) (fun s H C cl fp => (ht s H C cl fp).pts) (fun s H C cl fp => (he s H C cl fp).pe) hs) fun σ H Q h => run_lc hw h⟩
/-- y = [elt for tg in iter if ..] -/
theorem ds_setLc {i : Nat} {y : Str} {py spos : Pos} (hc : X.calm = true) (hN : X.N.Nodup) (hy : X.N[i]? = some y) (hyl : X.env.scope.names.lookup y = some .local)
    (hsw : swapsWith (.ListComp elt [⟨tg, iter, ifs, 0⟩] scope pos) (some (.Name y py)) spos.line X.env = pure true) (hi : DI X E tg iter mi) (ok : BlkOk X.N X.env.scope scope own) (hg : ∀ (s : Shared) (H : Hp) (C : Addr) (cl : List (Str × Addr)) (fp : List Addr), DG (X.blk s H scope (compEnvC scope cl C X.env) fp) tg ws b)
    (ht : ∀ (s : Shared) (H : Hp) (C : Addr) (cl : List (Str × Addr)) (fp : List Addr), DTs (X.blk s H scope (compEnvC scope cl C X.env) fp) EF ifs mt) (he : ∀ (s : Shared) (H : Hp) (C : Addr) (cl : List (Str × Addr)) (fp : List Addr), DE (X.blk s H scope (compEnvC scope cl C X.env) fp) EF elt me)
    (hw : ∀ w ∈ ws, w ∈ own.map (·.2) := by decide) (hs : ∀ x, foldedSetIterable iter X.env x = pure x := by intro _; rfl) : DS X E (.Assign [.Name y py] (.ListComp elt [⟨tg, iter, ifs, 0⟩] scope pos) spos) (mSet i (mLc (own.map (·.2)) mi b mt me)) := by
  refine ⟨ps_imp (ps_setLc (g := GRun X.K X.mg ws b) (tt := TRun X.K X.mg mt EF) (te := ERun X.K X.mg me EF) hc hN hy hyl hsw hi.pi ok (fun s H C cl fp => (hg s H C cl fp).pg) (fun s H C cl fp => (ht s H C cl fp).pts) (fun s H C cl fp => (he s H C cl fp).pe) hs) fun D σ H h => ?_⟩
  obtain ⟨B, O, A, ρ, out, S, hm, kk⟩ := h
  refine run_lc hw ?_
  refine run_st S kk hm fun r ρ1 v H1 A1 F hk S1 rr st => ?_
  cases hk
  obtain ⟨A3, S3, s3⟩ := S1.setS rr i
  exact kk _ H1 A3 S3 ⟨st.out, st.sh.trans s3⟩
end
end XM
end
section
namespace XM
open PySem PySem.Spec PyProof.Rows L2 Tl
theorem op_mulS {X : Cx} : OpR X (binaryOp .Mult) (fun x y H Q => ∃ z n, x = .str z ∧ y = .int n ∧ MulOk z n ∧ Q (.str (Txt.mul z n)) H) := by
  intro pins s σ H x y v u Q I rx ry h
  obtain ⟨z, n, rfl, rfl, ok, q⟩ := h
  obtain ⟨t, rfl⟩ := rx
  obtain ⟨t2, rfl⟩ := ry
  exact SB.mul ok fun t' k => ⟨.str _, H, I.tok _, ⟨_, rfl⟩, q⟩
/-! ### operators by data -/
def fAdd : D → D → Option D
  | .int i, .int j => some (.int (i + j))
  | .str x, .str y => if x.length + y.length ≤ 1000000 then some (.str (x ++ y)) else none
  | _, _ => none
def fI (C : Int → Int → Bool) (g : Int → Int → Int) : D → D → Option D
  | .int i, .int j => if C i j = true then some (.int (g i j)) else none
  | _, _ => none
def fCmp (p : Int → Int → Bool) : D → D → Option D
  | .int i, .int j => some (.bool (p i j))
  | _, _ => none
abbrev fSub := fI (fun _ _ => true) fun i j => i - j
abbrev fMul := fI (fun i j => decide (-18446744073709551616 < j ∧ j < 18446744073709551616)) fun i j => i * j
abbrev fMulL := fI (fun i j => decide (-18446744073709551616 < i ∧ i < 18446744073709551616)) fun i j => i * j
abbrev fDiv := fI (fun _ j => decide (0 < j ∧ j < 1073741824)) fun i j => i / j
abbrev fMod := fI (fun _ j => decide (0 < j)) fun i j => i % j
abbrev fPow := fI (fun i j => decide (0 ≤ j ∧ j ≤ 1000000 ∧ i.natAbs < 18446744073709551616)) fun i j => i ^ j.toNat
abbrev fShr := fI (fun _ j => decide (0 ≤ j)) fun i j => i / 2 ^ j.toNat
abbrev fAnd := fI (fun _ _ => true) fun i j => Builtin.bitAnd i j
abbrev fLt := fCmp fun i j => decide (i < j)
abbrev fLe := fCmp fun i j => decide (i ≤ j)
abbrev fGt := fCmp fun i j => decide (j < i)
abbrev fGe := fCmp fun i j => decide (j ≤ i)
/-- == of scalars -/
def eqS : D → D → Option Bool
  | .int i, .int j => some (decide (i = j))
  | .str x, .str y => some (decide (x = y))
  | .bool a, .bool b => some (decide (a = b))
  | .none, .none => some true
  | .none, .int _ => some false
  | .int _, .none => some false
  | .none, .str _ => some false
  | .str _, .none => some false
  | .none, .bool _ => some false
  | .bool _, .none => some false
  | .int _, .str _ => some false
  | .str _, .int _ => some false
  | .bool _, .str _ => some false
  | .str _, .bool _ => some false
  | _, _ => none
def fEq (d e : D) : Option D := (eqS d e).map .bool
def fNe (d e : D) : Option D := (eqS d e).map fun b => .bool (!b)
/-- == of data at any depth -/
def fEqD (d e : D) : Option D := if SeqAt.shaped d = true ∧ SeqAt.shaped e = true then some (.bool (PyData.eqv d e)) else none
def fNeD (d e : D) : Option D := if SeqAt.shaped d = true ∧ SeqAt.shaped e = true then some (.bool (!PyData.eqv d e)) else none
def isNone : D → Bool
  | .none => true
  | _ => false
def fIsN (d e : D) : Option D := if isNone e = true then some (.bool (isNone d)) else none
def fNotN (d e : D) : Option D := if isNone e = true then some (.bool (!isNone d)) else none
/-- in a list or tuple of texts and ints -/
def flatS : D → Bool
  | .int _ | .str _ => true
  | _ => false
def eqF : D → D → Bool
  | .int i, .int j => decide (i = j)
  | .str x, .str y => decide (x = y)
  | _, _ => false
def seqOf : D → Option (List D)
  | .list l => some l
  | .tuple l => some l
  | _ => none
def fIn (d e : D) : Option D := match seqOf e with
  | some l => if flatS d = true ∧ l.all flatS = true then some (.bool (l.any fun z => eqF z d)) else none
  | none => none
def fNotIn (d e : D) : Option D := match seqOf e with
  | some l => if flatS d = true ∧ l.all flatS = true then some (.bool (!l.any fun z => eqF z d)) else none
  | none => none
def fMulS : D → D → Option D
  | .str z, .int n => if -1000000 ≤ n ∧ n ≤ 1000000 ∧ z.length * n.toNat ≤ 1000000 then some (.str (Txt.mul z n)) else none
  | _, _ => none
section
variable {K : PySem.W.Frag} {X : Cx}
theorem opa_add : OpA K (fun x y H Q => (rI0 fun i j => .int (i + j)) x y H Q ∨ ∃ i j, x = .str i ∧ y = .str j ∧ i.length + j.length ≤ sizeLine ∧ Q (.str (i ++ j)) H) fAdd := fun H x y d e z Q hx hy h k => by
  cases hx <;> cases hy <;> simp only [fAdd] at h <;> try cases h
  · exact .inl ⟨_, _, rfl, rfl, k _ (.int _)⟩
  · split at h
    · cases h; exact .inr ⟨_, _, rfl, rfl, big_line (by assumption), k _ (.str _)⟩
    · cases h
theorem opa_I {C : Int → Int → Prop} {g : Int → Int → Int} {C' : Int → Int → Bool} (hC : ∀ i j, C' i j = true → C i j) : OpA K (rI C fun i j => .int (g i j)) (fI C' g) := fun H x y d e z Q hx hy h k => by
  cases hx <;> cases hy <;> simp only [fI] at h <;> try cases h
  split at h
  · rename_i c; cases h; exact ⟨_, _, rfl, rfl, hC _ _ c, k _ (.int _)⟩
  · cases h
theorem opa_I0 {g : Int → Int → Int} : OpA K (rI0 fun i j => .int (g i j)) (fI (fun _ _ => true) g) := fun H x y d e z Q hx hy h k => by
  cases hx <;> cases hy <;> simp only [fI] at h <;> try cases h
  exact ⟨_, _, rfl, rfl, k _ (.int _)⟩
theorem opa_cmp {p : Int → Int → Bool} : OpA K (rI0 fun i j => .bl (p i j)) (fCmp p) := fun H x y d e z Q hx hy h k => by
  cases hx <;> cases hy <;> simp only [fCmp] at h <;> try cases h
  exact ⟨_, _, rfl, rfl, k _ (.bl _)⟩
theorem opa_sub : OpA K (rI0 fun i j => .int (i - j)) fSub := opa_I0
theorem opa_mul : OpA K (rI CMul fun i j => .int (i * j)) fMul := opa_I fun i j h => .inr (of_decide_eq_true h)
theorem opa_mulL : OpA K (rI CMul fun i j => .int (i * j)) fMulL := opa_I fun i j h => .inl (of_decide_eq_true h)
theorem opa_div : OpA K (rI CDiv fun i j => .int (i / j)) fDiv := opa_I fun i j h => (of_decide_eq_true h : 0 < j ∧ j < 1073741824)
theorem opa_mod : OpA K (rI (fun _ j => 0 < j) fun i j => .int (i % j)) fMod := opa_I fun i j h => of_decide_eq_true h
theorem opa_pow : OpA K (rI CPow fun i j => .int (i ^ j.toNat)) fPow := opa_I fun i j h => (of_decide_eq_true h : 0 ≤ j ∧ j ≤ 1000000 ∧ i.natAbs < 18446744073709551616)
theorem eqS_ok {H : Hp} {x y : V} {d e : D} {b : Bool} (hx : Dq K H x d) (hy : Dq K H y e) (h : eqS d e = some b) : scal x y = true ∧ decide (x = y) = b := by
  cases hx <;> cases hy <;> simp only [eqS] at h <;> first | (cases h; done) | (cases h; simp [scal])
theorem opa_eq : OpA K rEq fEq := fun H x y d e z Q hx hy h k => by
  unfold fEq at h
  cases e1 : eqS d e with
  | none => rw [e1] at h; cases h
  | some b => rw [e1] at h; cases h; obtain ⟨s, q⟩ := eqS_ok hx hy e1; exact ⟨s, by rw [q]; exact k _ (.bl _)⟩
theorem opa_ne : OpA K rNe fNe := fun H x y d e z Q hx hy h k => by
  unfold fNe at h
  cases e1 : eqS d e with
  | none => rw [e1] at h; cases h
  | some b => rw [e1] at h; cases h; obtain ⟨s, q⟩ := eqS_ok hx hy e1; exact ⟨s, by rw [q]; exact k _ (.bl _)⟩
theorem opa_eqD : OpA K (rEqD K) fEqD := fun H x y d e z Q hx hy h k => by
  unfold fEqD at h
  split at h
  · rename_i c; cases h; exact ⟨d, e, Dq_p hx (shaped_can c.1), Dq_p hy (shaped_can c.2), c.1, c.2, k _ (.bl _)⟩
  · cases h
theorem opa_neD : OpA K (rNeD K) fNeD := fun H x y d e z Q hx hy h k => by
  unfold fNeD at h
  split at h
  · rename_i c; cases h; exact ⟨d, e, Dq_p hx (shaped_can c.1), Dq_p hy (shaped_can c.2), c.1, c.2, k _ (.bl _)⟩
  · cases h
theorem none_ok {H : Hp} {x : V} {d : D} (h : Dq K H x d) : decide (x = .non) = isNone d := by cases h <;> simp [isNone]
theorem opa_notN : OpA K (fun x y H Q => y = .non ∧ Q (.bl (!decide (x = .non))) H) fNotN := fun H x y d e z Q hx hy h k => by
  unfold fNotN at h
  split at h
  · rename_i c; cases h; refine ⟨?_, by rw [none_ok hx]; exact k _ (.bl _)⟩; cases hy <;> first | rfl | cases c
  · cases h
theorem flat_ok {H : Hp} {x : V} {d : D} (h : Dq K H x d) (f : flatS d = true) : flatV x = true := by cases h <;> first | rfl | cases f
theorem flats_ok {H : Hp} : ∀ {vs : List V} {l : List D}, DqAll K H vs l → l.all flatS = true → vs.all flatV = true
  | _, _, .nil, _ => rfl
  | _, _, .cons a r, f => by
    rw [List.all_cons, Bool.and_eq_true] at f ⊢
    exact ⟨flat_ok a f.1, flats_ok r f.2⟩
theorem eqF_ok {H : Hp} {x y : V} {d e : D} (hx : Dq K H x d) (hy : Dq K H y e) (f : flatS d = true) (g : flatS e = true) : eqV x y = eqF d e := by
  cases hx <;> first | (cases f; done) | (cases hy <;> first | (cases g; done) | rfl | (simp [eqV, eqF, Bool.beq_eq_decide_eq]))
theorem inV_ok {H : Hp} {x : V} {d : D} (hx : Dq K H x d) (f : flatS d = true) : ∀ {vs : List V} {l : List D}, DqAll K H vs l → l.all flatS = true → inV x vs = l.any fun z => eqF z d
  | _, _, .nil, _ => rfl
  | _, _, .cons a r, g => by
    rw [List.all_cons, Bool.and_eq_true] at g
    have := inV_ok hx f r g.2
    unfold inV at this ⊢
    rw [List.any_cons, List.any_cons, this, eqF_ok a hx g.1 f]
theorem seq_view {H : Hp} {y : V} {e : D} {l : List D} (hy : Dq K H y e) (h : seqOf e = some l) : ∃ a vs, y = .ref a ∧ (SqL K H a vs ∨ SqT K H a vs) ∧ DqAll K H vs l := by
  cases hy with
  | lst ha r => cases h; exact ⟨_, _, rfl, .inl (.of ha), r⟩
  | tup ha r => cases h; exact ⟨_, _, rfl, .inr ha, r⟩
  | non => cases h
  | bl _ => cases h
  | int _ => cases h
  | str _ => cases h
  | dct _ _ _ => cases h
theorem opa_in : OpA K (rIn K false) fIn := fun H x y d e z Q hx hy h k => by
  unfold fIn at h
  split at h
  · rename_i l hs
    split at h
    · rename_i c
      cases h
      obtain ⟨a, vs, rfl, sq, r⟩ := seq_view hy hs
      refine ⟨a, vs, rfl, sq, flat_ok hx c.1, flats_ok r c.2, ?_⟩
      rw [if_neg (by decide), inV_ok hx c.1 r c.2]
      exact k _ (.bl _)
    · cases h
  · cases h
theorem mul_ok {z : Str} {n : Int} (c : -1000000 ≤ n ∧ n ≤ 1000000 ∧ z.length * n.toNat ≤ 1000000) : MulOk z n := by
  obtain ⟨c1, c2, c3⟩ := c
  refine ⟨?_, fun h _ q => ?_, fun h _ => ?_⟩
  · rw [decide_eq_false (by omega), decide_eq_false (by omega)]; rfl
  · have p : 0 < n := by omega
    have e : (z.length : Int) * n ≤ 1000000 := by
      have : ((z.length * n.toNat : Nat) : Int) ≤ 1000000 := Int.ofNat_le.mpr c3
      rw [Int.natCast_mul, Int.toNat_of_nonneg (by omega)] at this
      exact this
    have := Int.le_ediv_of_mul_le p (show (z.length : Int) * n ≤ 2 ^ 63 - 1 by omega)
    omega
  · show decide (z.length * n.toNat > sizeLine) = false
    rw [sizeLine_eq]
    exact decide_eq_false (by omega)
theorem opa_mulS : OpA K (fun x y H Q => ∃ z n, x = .str z ∧ y = .int n ∧ MulOk z n ∧ Q (.str (Txt.mul z n)) H) fMulS := fun H x y d e z Q hx hy h k => by
  cases hx <;> cases hy <;> simp only [fMulS] at h <;> try cases h
  split at h
  · rename_i c; cases h; exact ⟨_, _, rfl, rfl, mul_ok c, k _ (.str _)⟩
  · cases h
end
end XM
end
section
namespace XM
open PySem PySem.Spec PyProof.Rows L2 Tl
/-! ### one value -/
def mV1 (f : D → Option D) (m : M R) : M R := bnd m fun r ρ => match vw r ρ with
  | some d => match f d with
    | some z => if atomD z = true then some (.ok (.dat z) ρ) else none
    | none => none
  | none => none
section
variable {X : Cx} {E : EK} {e a b c : Expr} {es : List Expr} {pos p : Pos} {B : Bs} {O O' : Ft} {A A' A1 : Al} {ρ ρ1 : Fr} {σ : L2.St} {H H' H1 : Hp}
theorem run_v1 {f : D → Option D} {m : M R} {W : V → Hp → Prop} {Q : VK} (hW : ∀ x H d z, Dq X.K H x d → f d = some z → (∀ v, Dq X.K H v z → Q v H) → W x H) (h : ERun X.K X.mg (mV1 f m) E σ H Q) : ERun X.K X.mg m E σ H W := by
  obtain ⟨B, O, A, ρ, out, S, hm, k⟩ := h
  refine run_bnd S hm k.exc fun r ρ1 v H1 A1 F hk S1 rr1 st1 x1 => ?_
  split at hk
  · rename_i d e1
    split at hk
    · rename_i z e2
      split at hk
      · rename_i az
        cases hk
        exact hW v H1 d z (S1.view rr1 e1) e2 fun u hu => fin_dat k.oks S1 (fun a => le_add a) st1 (atom_any hu az)
      · cases hk
    · cases hk
  · cases hk
def fNeg : D → Option D
  | .int i => some (.int (-i))
  | _ => none
theorem de_neg {m : M R} (h : DE X E a m) : DE X E (.UnaryOp .USub a pos) (mV1 fNeg m) :=
  ⟨pe_imp (pe_un un_neg h.pe) fun σ H Q h => run_v1 (fun x H d z hx e k => by
    cases hx <;> simp only [fNeg] at e <;> try cases e
    exact ⟨_, rfl, k _ (.int _)⟩) h⟩
def fNotB : D → Option D
  | .bool b => some (.bool (!b))
  | _ => none
theorem de_not {m : M R} (h : DE X E a m) : DE X E (.UnaryOp .Not a pos) (mV1 fNotB m) :=
  ⟨pe_imp (pe_not h.pe) fun σ H Q h => run_v1 (fun x H d z hx e k => by
    cases hx <;> simp only [fNotB] at e <;> try cases e
    exact ⟨_, rfl, k _ (.bl _)⟩) h⟩
/-! ### built-ins -/
/-- what a built-in does with results -/
def Leaf (K : PySem.W.Frag) (mg : Str → Option Value) (r : List V → Hp → VK → Prop) (f : List R → M R) : Prop :=
  ∀ (B : Bs) (O : Ft) (A : Al) (ρ : Fr) (σ : L2.St) (H : Hp) (E : EK) (F : Ft) (rs : List R) (vs : List V) (out : Out R) (Q : VK) (A0 : Al) (H0 : Hp), StC K mg B (add O F) A ρ σ H → RRs K ⟨mg, B.η⟩ (al A) (hid (tot (add O F) A) H) H vs F rs → f rs ρ = some out →
    Stp O A0 H0 (add O F) A H → Aft K mg B O A0 σ H0 E (okE K mg B O A0 σ H0 Q) out → r vs H Q
def mB (f : List R → M R) (ms : List (M R)) : M R := bnd (mArgs ms) f
theorem run_B {ms : List (M R)} {f : List R → M R} {r : List V → Hp → VK → Prop} {σ : L2.St} {H : Hp} {Q : VK} (hl : Leaf X.K X.mg r f) (h : ERun X.K X.mg (mB f ms) E σ H Q) : tCB r (ARun X.K X.mg (mArgs ms) E) σ H Q := by
  obtain ⟨B, O, A, ρ, out, S, hm, k⟩ := h
  refine run_bndA S hm k.exc fun rs ρ1 vs H1 A1 F hk S1 rr1 st1 x1 => ?_
  exact hl B O A1 ρ1 σ H1 E F rs vs out Q A H S1 rr1 hk st1 k
theorem de_callB {x : Str} {id : String} {r : List V → Hp → VK → Prop} {f : List R → M R} {ms : List (M R)} (hc : CallR X (.builtin id) r) (hl : Leaf X.K X.mg r f) (hg : Gl X x) (hm : X.mg x = none) (hv : bootBuiltins x = some (.builtin id)) (ha : DA X E (e :: es) (mArgs ms)) (hn : x ≠ "__name__" := by decide) (hdb : (x == ("__debug__" : Str)) = false := by decide)
    (he : starEach (e :: es) X.env = (false, eval e X.env) :: starEach es X.env := by rfl) (hpl : (backTo pos (starEach es X.env)).any (·.1) = false := by rfl) : DE X E (.Call (.Name x p) (e :: es) [] pos) (mB f ms) :=
  ⟨pe_imp (pe_callB hc hg hm hv ha.pa hn hdb he hpl) fun σ H Q h => run_B hl h⟩
theorem de_callTy {x : Str} {ty : String} {r : List V → Hp → VK → Prop} {f : List R → M R} {ms : List (M R)} (hc : CallR X (.type ty) r) (hl : Leaf X.K X.mg r f) (hg : Gl X x) (hm : X.mg x = none) (hv : bootBuiltins x = some (.type ty)) (ha : DA X E (e :: es) (mArgs ms)) (hn : x ≠ "__name__" := by decide) (hdb : (x == ("__debug__" : Str)) = false := by decide)
    (he : starEach (e :: es) X.env = (false, eval e X.env) :: starEach es X.env := by rfl) (hpl : (backTo pos (starEach es X.env)).any (·.1) = false := by rfl) : DE X E (.Call (.Name x p) (e :: es) [] pos) (mB f ms) :=
  ⟨pe_imp (pe_callTy hc hg hm hv ha.pa hn hdb he hpl) fun σ H Q h => run_B hl h⟩
/-- one value, an atom as result -/
def f1 (f : D → Option D) : List R → M R := fun rs ρ => match rs with
  | [r] => match vw r ρ with
    | some d => match f d with
      | some z => if atomD z = true then some (.ok (.dat z) ρ) else none
      | none => none
    | none => none
  | _ => none
theorem leaf1 {K : PySem.W.Frag} {mg : Str → Option Value} {r : List V → Hp → VK → Prop} {f : D → Option D} (h : ∀ (H : Hp) (x : V) (d z : D) (Q : VK), Dq K H x d → f d = some z → (∀ v, Dq K H v z → Q v H) → r [x] H Q) : Leaf K mg r (f1 f) := fun B O A ρ σ H E F rs vs out Q A0 H0 S rr hf st k => by
  unfold f1 at hf
  split at hf
  · rename_i r1
    cases rr with
    | cons h1 h2 =>
    cases h2
    split at hf
    · rename_i d e1
      split at hf
      · rename_i z e2
        split at hf
        · rename_i az
          cases hf
          rw [add_zer] at S h1 st
          exact h H _ d z Q (S.view h1 e1) e2 fun u hu => fin_dat k.oks S (fun a => le_add a) st (atom_any hu az)
        · cases hf
      · cases hf
    · cases hf
  · cases hf
/-- len -/
def T.len : T → Option Nat
  | .dat (.str z) => if z.length ≤ 1000000 then some z.length else none
  | .dat (.list l) => some l.length
  | .dat (.tuple l) => some l.length
  | .dl l => some l.length
  | .ol l => some l.length
  | .ot l => some l.length
  | .dd l => some l.length
  | .od l => some l.length
  | .frz l => some l.length
  | _ => none
def lenR : R → Fr → Option Nat
  | .dat d, _ => T.len (.dat d)
  | .own t, _ => t.len
  | .ref r, ρ => (ρ.rt[r]?).bind fun t => t.t.len
  | .fn _, _ => none
def fLen : List R → M R := fun rs ρ => match rs with
  | [r] => (lenR r ρ).map fun n => .ok (.dat (.int n)) ρ
  | _ => none
def rLenA (K : PySem.W.Frag) : List V → Hp → VK → Prop := fun xs H Q => (∃ x n, xs = [x] ∧ LenV K x H n ∧ Q (.int n) H) ∨ ∃ a kvs, xs = [.ref a] ∧ H a = some (.dK kvs) ∧ Q (.int kvs.length) H
theorem CallR.or {f : Value} {r r' : List V → Hp → VK → Prop} (h : CallR X f r) (h' : CallR X f r') : CallR X f (fun xs H Q => r xs H Q ∨ r' xs H Q) := by
  intro pins s σ H xs us Q I r q
  rcases q with q | q
  · exact h pins s σ H xs us Q I r q
  · exact h' pins s σ H xs us Q I r q
theorem TR.len {K : PySem.W.Frag} {mm : Mg} {G : Hp} (sG : Same G H) {t : T} {v : V} {F : Ft} {n : Nat} (h : TR K mm G H t v F) (e : t.len = some n) : LenV K v H n ∨ ∃ a kvs, v = .ref a ∧ H a = some (.dK kvs) ∧ n = kvs.length := by
  cases h with
  | dat h =>
    cases h with
    | str x =>
      simp only [T.len] at e
      split at e
      · rename_i c; cases e; exact .inl ⟨big_line c, rfl⟩
      · cases e
    | lst ha r => cases e; exact .inl (.inl ⟨_, .of (sG _ _ ha), (DqAll_len r).symm⟩)
    | tup ha r => cases e; exact .inl (.inr ⟨_, Tl.Same.tup sG ha, (DqAll_len r).symm⟩)
    | non => cases e
    | bl _ => cases e
    | int _ => cases e
    | dct _ _ _ => cases e
  | dl ha r => cases e; exact .inl (.inl ⟨_, .of ha, (DqAll_len r).symm⟩)
  | ol ha r => cases e; exact .inl (.inl ⟨_, .of ha, r.len⟩)
  | ot ha r => cases e; exact .inl (.inr ⟨_, .of (sG _ _ ha), r.len⟩)
  | dd ha k r =>
    cases e
    exact .inr ⟨_, _, rfl, ha, by have := congrArg List.length k; simpa using this.symm⟩
  | od ha k r =>
    cases e
    exact .inr ⟨_, _, rfl, ha, by have := congrArg List.length k; simpa using this.symm⟩
  | frz ha => cases e; exact .inl (.inl ⟨_, sG.seq ha, by simp⟩)
  | fn _ => cases e
  | ins _ _ _ _ => cases e
  | gone => cases e
  | hole => cases e
theorem StC.lenR {K : PySem.W.Frag} {mg : Str → Option Value} (S : StC K mg B O A ρ σ H) {r : R} {v : V} {F : Ft} {n : Nat} (h : RR K ⟨mg, B.η⟩ (XM.al A) (hid (tot O A) H) H v F r) (e : XM.lenR r ρ = some n) : LenV K v H n ∨ ∃ a kvs, v = .ref a ∧ H a = some (.dK kvs) ∧ n = kvs.length := by
  cases r with
  | dat d => exact TR.len (mm := ⟨mg, B.η⟩) hid_sub (.dat h.2) e
  | fn x => cases e
  | own t => exact TR.len hid_sub h e
  | ref r =>
    simp only [XM.lenR] at e
    cases e1 : ρ.rt[r]? with
    | none => rw [e1] at e; cases e
    | some t =>
      rw [e1] at e
      obtain ⟨F', _, h'⟩ := S.root e1 h.2
      exact TR.len hid_sub h' e
theorem call_lenA : CallR X (.builtin "len") (rLenA X.K) := by
  intro pins s σ H xs us Q I r q
  rcases q with q | q
  · exact call_len pins s σ H xs us Q I r q
  · obtain ⟨a, kvs, e, ha, q⟩ := q
    exact call_lenD pins s σ H xs us Q I r ⟨a, kvs, e, ha, q⟩
theorem leaf_len {K : PySem.W.Frag} {mg : Str → Option Value} : Leaf K mg (rLenA K) fLen := fun B O A ρ σ H E F rs vs out Q A0 H0 S rr hf st k => by
  unfold fLen at hf
  split at hf
  · rename_i r1
    cases rr with
    | cons h1 h2 =>
    cases h2
    rw [add_zer] at S h1 st
    cases e1 : XM.lenR r1 ρ with
    | none => rw [e1] at hf; cases hf
    | some n =>
      rw [e1] at hf
      cases hf
      have fin : Q (.int n) H := fin_dat k.oks S (fun a => le_add a) st (.int _)
      rcases S.lenR h1 e1 with h | ⟨a, kvs, rfl, ha, rfl⟩
      · exact .inl ⟨_, n, rfl, h, fin⟩
      · exact .inr ⟨a, kvs, rfl, ha, fin⟩
  · cases hf
/-- int(x), bool(x), str(n), abs, ord -/
def fInt : D → Option D
  | .int i => some (.int i)
  | .bool b => some (.int (if b = true then 1 else 0))
  | _ => none
theorem leaf_int {K : PySem.W.Frag} {mg : Str → Option Value} : Leaf K mg (fun xs H Q => (∃ i, xs = [.int i] ∧ Q (.int i) H) ∨ ∃ k, xs = [.bl k] ∧ Q (.int (if k then 1 else 0)) H) (f1 fInt) := leaf1 fun H x d z Q hx e k => by
  cases hx <;> simp only [fInt] at e <;> try cases e
  · exact .inr ⟨_, rfl, k _ (.int _)⟩
  · exact .inl ⟨_, rfl, k _ (.int _)⟩
def fIntS : D → Option D
  | .str a => match PySem.intText? a with
    | some n => if a.length ≤ 640 then some (.int n) else none
    | none => none
  | _ => none
def fStrI : D → Option D
  | .int i => if i.natAbs.log2 < 1920 then some (.str (toString i)) else none
  | _ => none
theorem leaf_strI {K : PySem.W.Frag} {mg : Str → Option Value} : Leaf K mg (fun xs H Q => ∃ i, xs = [.int i] ∧ i.natAbs.log2 < 1920 ∧ Q (.str (toString i)) H) (f1 fStrI) := leaf1 fun H x d z Q hx e k => by
  cases hx <;> simp only [fStrI] at e <;> try cases e
  split at e
  · cases e; exact ⟨_, rfl, by assumption, k _ (.str _)⟩
  · cases e
def fOrd : D → Option D
  | .str x => if x.length = 1 then some (.int (x.cps.getD 0 0 : Nat)) else none
  | _ => none
theorem leaf_ord {K : PySem.W.Frag} {mg : Str → Option Value} : Leaf K mg (fun xs H Q => ∃ x, xs = [.str x] ∧ x.length = 1 ∧ Q (.int (x.cps.getD 0 0 : Nat)) H) (f1 fOrd) := leaf1 fun H x d z Q hx e k => by
  cases hx <;> simp only [fOrd] at e <;> try cases e
  split at e
  · cases e; exact ⟨_, rfl, by assumption, k _ (.int _)⟩
  · cases e
/-- list(x), tuple(x) -/
def fList : List R → M R := fun rs ρ => match rs with
  | [r] => (its false r ρ).map fun l => .ok (.own (.dl l)) ρ
  | _ => none
theorem leaf_list {K : PySem.W.Frag} {mg : Str → Option Value} : Leaf K mg (fun xs H Q => ∃ p ys, xs = [.ref p] ∧ (SqL K H p ys ∨ SqT K H p ys) ∧ ∀ l, H l = none → Q (.ref l) (upd H l (.lst ys))) fList := fun B O A ρ σ H E F rs vs out Q A0 H0 S rr hf st k => by
  unfold fList at hf
  split at hf
  · rename_i r1
    cases rr with
    | cons h1 h2 =>
    cases h2
    rw [add_zer] at S h1 st
    cases e1 : its false r1 ρ with
    | none => rw [e1] at hf; cases hf
    | some l =>
      rw [e1] at hf
      cases hf
      obtain ⟨p, ys, rfl, hp, dq⟩ := S.items h1 e1
      refine ⟨p, ys, rfl, ?_, fun u nu => fin_lst k.oks S (fun a => le_add a) st (DqAll_same (hid_weak fun a => le_add a) dq) nu⟩
      rcases hp with hp | ⟨_, hp⟩
      · exact .inl (.of hp)
      · exact hp.imp id fun hp => Tl.Same.tup hid_sub hp
  · cases hf
def fTup : List R → M R := fun rs ρ => match rs with
  | [r] => (its false r ρ).map fun l => .ok (.dat (.tuple l)) ρ
  | _ => none
theorem leaf_tup {K : PySem.W.Frag} {mg : Str → Option Value} : Leaf K mg (fun xs H Q => ∃ p ys, xs = [.ref p] ∧ ((SqL K H p ys ∧ ∀ l, H l = none → Q (.ref l) (upd H l (.tup ys))) ∨ (SqT K H p ys ∧ Q (.ref p) H))) fTup := fun B O A ρ σ H E F rs vs out Q A0 H0 S rr hf st k => by
  unfold fTup at hf
  split at hf
  · rename_i r1
    cases rr with
    | cons h1 h2 =>
    rename_i v1 F1 vs1 F2
    cases h2
    rw [add_zer] at S h1 st
    cases e1 : its false r1 ρ with
    | none => rw [e1] at hf; cases hf
    | some l =>
      rw [e1] at hf
      cases hf
      obtain ⟨p, ys, rfl, hp, dq⟩ := S.items h1 e1
      have w : Same (hid (tot (add O F1) A) H) (hid (tot O A) H) := hid_weak fun a => le_add a
      have new : ∀ u, H u = none → Q (.ref u) (upd H u (.tup ys)) := fun u nu => fin_tup k.oks S (fun a => le_add a) st (DqAll_same w dq) nu
      refine ⟨p, ys, rfl, ?_⟩
      rcases hp with hp | ⟨_, hp | hp⟩
      · exact .inl ⟨.of hp, new⟩
      · exact .inl ⟨hp, new⟩
      · exact .inr ⟨Tl.Same.tup hid_sub hp, fin_dat k.oks S (fun a => le_add a) st (.tup (Tl.Same.tup w hp) (DqAll_same w dq))⟩
  · cases hf
/-- max of ints -/
def intsOf : List D → Option (List Int)
  | [] => some []
  | .int i :: r => (intsOf r).map (i :: ·)
  | _ :: _ => none
theorem intsOf_ok {K : PySem.W.Frag} {G : Hp} : ∀ {vs : List V} {l : List D} {ns : List Int}, DqAll K G vs l → intsOf l = some ns → vs = ns.map V.int
  | _, _, _, .nil, e => by cases e; rfl
  | _, _, ns, .cons (d := d) (ds := ds) a r, e => by
    cases a <;> simp only [intsOf] at e <;> try cases e
    cases e1 : intsOf ds with
    | none => rw [e1] at e; cases e
    | some ms => rw [e1] at e; cases e; rw [List.map_cons, intsOf_ok r e1]
def strsOf : List D → Option (List Str)
  | [] => some []
  | .str i :: r => (strsOf r).map (i :: ·)
  | _ :: _ => none
theorem strsOf_ok {K : PySem.W.Frag} {G : Hp} : ∀ {vs : List V} {l : List D} {ns : List Str}, DqAll K G vs l → strsOf l = some ns → vs = ns.map V.str
  | _, _, _, .nil, e => by cases e; rfl
  | _, _, ns, .cons (d := d) (ds := ds) a r, e => by
    cases a <;> simp only [strsOf] at e <;> try cases e
    cases e1 : strsOf ds with
    | none => rw [e1] at e; cases e
    | some ms => rw [e1] at e; cases e; rw [List.map_cons, strsOf_ok r e1]
/-- ''.join(xs) -/
def fJoin (l : List D) : D → Option R := fun d => match d with
  | .str a => match strsOf l with
    | some ys => if (ys.map (·.length)).sum + ys.length * a.length ≤ 1000000 then some (.dat (.str (Txt.join a ys))) else none
    | none => none
  | _ => none
def mJoin (mo me : M R) : M R := bnd mo fun ro ρ1 => match vw ro ρ1 with
  | some (.str a) => (bnd me fun re ρ => match its false re ρ with
    | some l => (fJoin l (.str a)).map fun z => .ok z ρ
    | none => none) ρ1
  | _ => none
theorem de_join {apos : Pos} {mo me : M R} {o : Expr} (ho : DE X E o mo) (he : DE X E e me) (hs : starEach [e] X.env = [(false, eval e X.env)] := by rfl) (hbase : attributeBase o "join" X.env (eval o X.env) = eval o X.env := by rfl) (hline : (apos.endLine == pos.line) = true := by rfl) :
    DE X E (.Call (.Attribute o "join" apos) [e] [] pos) (mJoin mo me) := by
  refine ⟨pe_imp (pe_join ho.pe he.pe hs hbase hline) fun σ H Q h => ?_⟩
  obtain ⟨B, O, A, ρ, out, S, hm, k⟩ := h
  refine run_bnd S hm k.exc fun ra ρ1 v H1 A1 F hk S1 rr1 st1 x1 => ?_
  split at hk
  · rename_i a e1
    have hv := S1.view rr1 e1
    cases hv
    refine ⟨⟨a, rfl⟩, ?_⟩
    refine run_bnd S1 hk x1 fun rb ρ2 w H2 A2 F2 hk2 S2 rr2 st2 x2 => ?_
    split at hk2
    · rename_i l e2
      obtain ⟨p, vs, rfl, hp, dq⟩ := S2.items rr2 e2
      simp only [fJoin] at hk2
      cases hy : strsOf l with
      | none => rw [hy] at hk2; cases hk2
      | some ys =>
        rw [hy] at hk2
        dsimp only at hk2
        split at hk2
        · rename_i sm
          cases hk2
          have := strsOf_ok dq hy
          subst this
          refine ⟨a, p, ys, rfl, rfl, ?_, by omega, fin_dat k.oks S2 (fun a => by unfold add; omega) (st1.trans st2 fun a n => add_l n) (.str _)⟩
          rcases hp with hp | ⟨_, hp⟩
          · exact .inl (.of hp)
          · exact hp.imp id fun hp => Tl.Same.tup hid_sub hp
        · cases hk2
    · cases hk2
  · cases hk
/-! ### bools as values, chains, choices -/
def mAndV (ma mb : M R) : M R := bnd ma fun r ρ => match vw r ρ with
  | some (.bool true) => mb ρ
  | some (.bool false) => some (.ok (.dat (.bool false)) ρ)
  | _ => none
def mOrV (ma mb : M R) : M R := bnd ma fun r ρ => match vw r ρ with
  | some (.bool true) => some (.ok (.dat (.bool true)) ρ)
  | some (.bool false) => mb ρ
  | _ => none
theorem ERun.of {m : M R} {out : Out R} {Q : VK} {F : Ft} (S1 : StC X.K X.mg B (add O F) A1 ρ1 σ H1) (st : Stp O A H (add O F) A1 H1) (k : Aft X.K X.mg B O A σ H E (okE X.K X.mg B O A σ H Q) out) (h : m ρ1 = some out) : ERun X.K X.mg m E σ H1 Q :=
  ⟨B, O, A1, ρ1, out, S1.weak fun a => le_add a, h, aft_of (k.exc.later (st.weak fun a => le_add a).toSto fun _ => Nat.le_refl _) fun r ρ' e v H' A' F' S' rr st' => by subst e; exact k.oks v H' A' F' S' rr ((st.weak fun a => le_add a).trans st' fun _ n => n)⟩
theorem de_and {rest : List Expr} {ma mb : M R} (ha : DE X E a ma) (hb : DE X E (.BoolOp .And (b :: rest) pos) mb) : DE X E (.BoolOp .And (a :: b :: rest) pos) (mAndV ma mb) := by
  refine ⟨pe_imp (pe_and ha.pe hb.pe) fun σ H Q h => ?_⟩
  obtain ⟨B, O, A, ρ, out, S, hm, k⟩ := h
  refine run_bnd S hm k.exc fun ra ρ1 v H1 A1 F hk S1 rr1 st1 x1 => ?_
  split at hk
  · rename_i e1
    have := S1.view rr1 e1
    cases this
    exact ⟨true, rfl, ERun.of S1 st1 k hk⟩
  · rename_i e1
    have := S1.view rr1 e1
    cases this
    cases hk
    exact ⟨false, rfl, fin_dat k.oks S1 (fun a => le_add a) st1 (.bl _)⟩
  · cases hk
theorem de_one {op} {m : M R} (h : DE X E a m) : DE X E (.BoolOp op [a] pos) m := ⟨pe_one h.pe⟩
def mIfE (mt : M Bool) (ma mb : M R) : M R := bnd mt fun c => if c = true then ma else mb
theorem de_ifE {mt : M Bool} {ma mb : M R} (ht : DT X E c mt) (ha : DE X E a ma) (hb : DE X E b mb) : DE X E (.IfExp c a b pos) (mIfE mt ma mb) := by
  refine ⟨pe_imp (pe_ifExp ht.pt ha.pe hb.pe) fun σ H Q h => ?_⟩
  obtain ⟨B, O, A, ρ, out, S, hm, k⟩ := h
  refine run_bndT S hm k.exc fun c ρ1 H1 A1 hk S1 st1 x1 => ?_
  have S1' : StC X.K X.mg B (add O zer) A1 ρ1 σ H1 := by rw [add_zer]; exact S1
  have st1' : Stp O A H (add O zer) A1 H1 := by rw [add_zer]; exact st1
  cases c with
  | true => exact ERun.of S1' st1' k hk
  | false => exact ERun.of S1' st1' k hk
/-- a op b op' c -/
def mChain (f g : D → D → Option D) (ma mb mc : M R) : M R := bnd ma fun ra => bnd mb fun rb ρ => match vw ra ρ, vw rb ρ with
  | some d, some e => match f d e with
    | some (.bool true) => (bnd mc fun rc ρ' => match vw rb ρ', vw rc ρ' with
      | some e', some d' => match g e' d' with
        | some z => if atomD z = true then some (.ok (.dat z) ρ') else none
        | none => none
      | _, _ => none) ρ
    | some (.bool false) => some (.ok (.dat (.bool false)) ρ)
    | _ => none
  | _, _ => none
theorem run_chain {r r' : R2} {f g : D → D → Option D} {ma mb mc : M R} {σ : L2.St} {H : Hp} {Q : VK} (hf : OpA X.K r f) (hg : OpA X.K r' g) (h : ERun X.K X.mg (mChain f g ma mb mc) E σ H Q) : tChain r r' (ERun X.K X.mg ma E) (ERun X.K X.mg mb E) (ERun X.K X.mg mc E) σ H Q := by
  obtain ⟨B, O, A, ρ, out, S, hm, k⟩ := h
  refine run_bnd S hm k.exc fun ra ρ1 v H1 A1 F hk S1 rr1 st1 x1 => ?_
  refine run_bnd S1 hk x1 fun rb ρ2 w H2 A2 F2 hk2 S2 rr2 st2 x2 => ?_
  have rr1' := rr1.step st2 (fun a n => add_r n)
  have st12 := st1.trans st2 fun a n => add_l n
  split at hk2
  · rename_i d e e1 e2
    split at hk2
    · rename_i e3
      refine hf H2 v w d e _ _ (S2.view rr1' e1) (S2.view rr2 e2) e3 fun u hu => ?_
      cases hu
      refine ⟨true, rfl, ?_⟩
      rw [if_pos rfl]
      refine run_bnd S2 hk2 x2 fun rc ρ3 y H3 A3 F3 hk3 S3 rr3 st3 x3 => ?_
      have rr2' := rr2.step st3 (fun a n => add_r n)
      split at hk3
      · rename_i e' d' q1 q2
        split at hk3
        · rename_i z q3
          split at hk3
          · rename_i az
            cases hk3
            exact hg H3 w y e' d' z Q (S3.view rr2' q1) (S3.view rr3 q2) q3 fun u hu => fin_dat k.oks S3 (fun a => by unfold add; omega) (st12.trans st3 fun a n => add_l (add_l n)) (atom_any hu az)
          · cases hk3
        · cases hk3
      · cases hk3
    · rename_i e3
      cases hk2
      refine hf H2 v w d e _ _ (S2.view rr1' e1) (S2.view rr2 e2) e3 fun u hu => ?_
      cases hu
      refine ⟨false, rfl, ?_⟩
      rw [if_neg (by decide)]
      exact fin_dat k.oks S2 (fun a => by unfold add; omega) st12 (.bl _)
    · cases hk2
  · cases hk2
theorem de_chain {op op' : CmpOp} {r r' : R2} {f g : D → D → Option D} {ma mb mc : M R} (ho : OpR X (compareOp op) r) (ho' : OpR X (compareOp op') r') (hf : OpA X.K r f) (hg : OpA X.K r' g) (ha : DE X E a ma) (hb : DE X E b mb) (hc : DE X E c mc)
    (hm : lastMarks [op, op'] [b, c] = false := by with_unfolding_all rfl) : DE X E (.Compare a [op, op'] [b, c] pos) (mChain f g ma mb mc) :=
  ⟨pe_imp (pe_chain ho ho' ha.pe hb.pe hc.pe hm) fun _ _ _ h => run_chain hf hg h⟩
end
end XM
end
section
/-! a call of what a local name holds, stars among its arguments -/
namespace Tl
open PySem PySem.Spec PyProof.Rows L2
end Tl
namespace Tl
open PySem PySem.Spec PyProof.Rows L2
end Tl
end
section
namespace XM
open PySem PySem.Spec PyProof.Rows L2 Tl
/-! ### isinstance -/
inductive Ty where
  | int | str | bool | list | tuple | dict | none
  deriving DecidableEq
def Ty.name : Ty → String
  | .int => "int" | .str => "str" | .bool => "bool" | .list => "list" | .tuple => "tuple" | .dict => "dict" | .none => "NoneType"
def isT (a b : Ty) : Bool := decide (a = b) || (decide (a = .bool) && decide (b = .int))
theorem kit_isT (a b : Ty) (h : b ≠ .none) : kitB a.name b.name = some (isT a b) := by
  cases a <;> cases b <;> first | exact absurd rfl h | decide +kernel
def tyD : D → Option Ty
  | .none => some .none
  | .bool _ => some .bool
  | .int _ => some .int
  | .str _ => some .str
  | .list _ => some .list
  | .tuple _ => some .tuple
  | .dict _ => some .dict
def T.ty : T → Option Ty
  | .dat d => tyD d
  | .dl _ => some .list
  | .ol _ => some .list
  | .ot _ => some .tuple
  | .dd _ => some .dict
  | .od _ => some .dict
  | .frz _ => some .list
  | _ => Option.none
def tyR : R → Fr → Option Ty
  | .dat d, _ => tyD d
  | .own t, _ => t.ty
  | .ref r, ρ => (ρ.rt[r]?).bind fun t => t.t.ty
  | .fn _, _ => Option.none
section
variable {X : Cx} {E : EK} {e a b c : Expr} {es : List Expr} {pos p : Pos} {B : Bs} {O O' : Ft} {A A' A1 : Al} {ρ ρ1 : Fr} {σ : L2.St} {H H' H1 : Hp}
theorem sqt_ty {K : PySem.W.Frag} {a : Addr} {vs : List V} (h : SqT K H a vs) : TyX K H (.ref a) (.type "tuple") := by
  rcases h with (h | ⟨o, h⟩) | ⟨o, its, n, h1, h2, _⟩
  · exact .base (.tup h)
  · exact .fTuple h
  · exact .kTuple h1 h2
theorem sql_ty {K : PySem.W.Frag} {a : Addr} {vs : List V} (h : SqL K H a vs) : TyX K H (.ref a) (.type "list") := by
  rcases h with (h | ⟨o, h⟩) | ⟨o, its, n, h1, h2, _⟩
  · exact .base (.lst h)
  · exact .base (.frz h)
  · exact .kList h1 h2
theorem Dq_ty {K : PySem.W.Frag} {v : V} {d : D} {t : Ty} (h : Dq K H v d) (e : tyD d = some t) : TyX K H v (.type t.name) := by
  cases h with
  | non => cases e; exact .base .non
  | bl b => cases e; exact .base (.bl b)
  | int i => cases e; exact .base (.int i)
  | str x => cases e; exact .base (.str x)
  | lst ha r => cases e; exact .base (.lst ha)
  | tup ha r => cases e; exact sqt_ty ha
  | dct ha _ _ => cases e; exact .base (.dK ha)
theorem TR.ty {K : PySem.W.Frag} {mm : Mg} {G : Hp} (sG : Same G H) {t : T} {v : V} {F : Ft} {y : Ty} (h : TR K mm G H t v F) (e : t.ty = some y) : TyX K H v (.type y.name) := by
  cases h with
  | dat h => exact Dq_ty (Dq_same sG h) e
  | dl ha r => cases e; exact .base (.lst ha)
  | ol ha r => cases e; exact .base (.lst ha)
  | ot ha r => cases e; exact .base (.tup (sG _ _ ha))
  | dd ha k r => cases e; exact .base (.dK ha)
  | od ha k r => cases e; exact .base (.dK ha)
  | frz ha => cases e; exact sql_ty (sG.seq ha)
  | fn _ => cases e
  | ins _ _ _ _ => cases e
  | gone => cases e
  | hole => cases e
theorem StC.tyR {K : PySem.W.Frag} {mg : Str → Option Value} (S : StC K mg B O A ρ σ H) {r : R} {v : V} {F : Ft} {y : Ty} (h : RR K ⟨mg, B.η⟩ (XM.al A) (hid (tot O A) H) H v F r) (e : XM.tyR r ρ = some y) : TyX K H v (.type y.name) := by
  cases r with
  | dat d => exact Dq_ty (Dq_same hid_sub h.2) e
  | fn x => cases e
  | own t => exact TR.ty hid_sub h e
  | ref r =>
    simp only [XM.tyR] at e
    cases e1 : ρ.rt[r]? with
    | none => rw [e1] at e; cases e
    | some t =>
      rw [e1] at e
      obtain ⟨F', _, h'⟩ := S.root e1 h.2
      exact TR.ty hid_sub h' e
def mIsi (ty : Ty) (m : M R) : M R := bnd m fun r ρ => (tyR r ρ).map fun t => .ok (.dat (.bool (isT t ty))) ρ
theorem de_isi {ty : Ty} {tn : Str} {p2 : Pos} {m : M R} (hg : Gl X "isinstance") (hm : X.mg "isinstance" = none) (hT : PE X (.Name tn p2) (tC (.ty ty.name))) (hn : ty ≠ .none) (he : DE X E a m)
    (hs : starEach [a, .Name tn p2] X.env = (false, eval a X.env) :: starEach [.Name tn p2] X.env := by rfl) (hs2 : starEach [.Name tn p2] X.env = (false, eval (.Name tn p2) X.env) :: starEach [] X.env := by rfl) (hpl : (backTo pos (starEach [.Name tn p2] X.env)).any (·.1) = false := by rfl) :
    DE X E (.Call (.Name "isinstance" p) [a, .Name tn p2] [] pos) (mIsi ty m) := by
  refine ⟨pe_imp (pe_callB call_isi hg hm boot_isinstance (pa_cons he.pe (pa_cons hT pa_nil hs2) hs) (by decide) (by decide) hs hpl) fun σ H Q h => ?_⟩
  obtain ⟨B, O, A, ρ, out, S, hm, k⟩ := h
  show ERun _ _ _ _ _ _ _
  refine run_bnd S hm k.exc fun r ρ1 v H1 A1 F hk S1 rr1 st1 x1 => ?_
  cases e1 : tyR r ρ1 with
  | none => rw [e1] at hk; cases hk
  | some t =>
    rw [e1] at hk
    cases hk
    exact ⟨v, _, _, _, isT t ty, rfl, .ty _, S1.tyR rr1 e1, kit_ty (kit_isT t ty hn), fin_dat k.oks S1 (fun a => le_add a) st1 (.bl _)⟩
/-! ### repr -/
def rRepr (K : PySem.W.Frag) : List V → Hp → VK → Prop := fun xs H Q => ∃ x d, xs = [x] ∧ Dp K H x d ∧ d.showable = true ∧ d.hasDict = false ∧ d.shown.length ≤ sizeLine ∧ d.depth ≤ 60 ∧ (∀ b, d ≠ .bool b) ∧ (∀ z, d ≠ .str z) ∧ d ≠ .none ∧ (∀ i, d = .int i → i.natAbs.log2 < 1920) ∧ Q (.str d.shown) H
theorem call_reprD (quiet : Quiet X.A) (hu : X.A.units + 64 < cLine) : CallR X (.builtin "repr") (rRepr X.K) := by
  intro pins s σ H xs us Q I r h
  obtain ⟨x, d, rfl, hd, h1, h2, h3, h4, n1, n2, n3, hi, q⟩ := h
  obtain ⟨u, rfl, rx⟩ := vals1 r
  obtain ⟨as, rd⟩ := Dp.reads I d x u hd rx
  have viaA : ∀ a, u = .ref a → wpAny (model X.prog X.w) X.A (call (.builtin "repr") [u]) (EP X pins σ Q) X.xe s := by
    rintro a rfl
    refine repr_of_reads' rd h1 (fun z => by rw [h2] at z; cases z) quiet (by omega) (fun _ _ e => e) (fun h' t tk keep => ?_) h3
    exact ⟨.str d.shown, H, I.kept (t' := tk) keep, ⟨_, rfl⟩, q⟩
  cases d with
  | none => exact absurd rfl n3
  | bool b => exact absurd rfl (n1 b)
  | str z => exact absurd rfl (n2 z)
  | int i =>
    cases hd
    obtain ⟨t, rfl⟩ := rx
    have e : (PyData.int i).shown = toString i := by simp [PyData.shown]
    rw [e] at q
    exact PySem.P.repr_of_int (hi i rfl) ⟨.str _, H, I.tok _, ⟨_, rfl⟩, q⟩
  | list l => cases hd; exact viaA _ rx
  | tuple l => cases hd; exact viaA _ rx
  | dict l => cases hd
end
end XM
end
section
namespace XM
open PySem PySem.Spec PyProof.Rows L2 Tl
/-! ### slices -/
def T.itemsL : T → Option (List D)
  | .dat (.list l) => some l
  | .dl l => some l
  | .frz ns => some (ns.map .int)
  | _ => none
def itsL : R → Fr → Option (List D)
  | .dat d, _ => T.itemsL (.dat d)
  | .own t, _ => t.itemsL
  | .ref r, ρ => (ρ.rt[r]?).bind fun t => t.t.itemsL
  | .fn _, _ => none
def T.itemsT : T → Option (List D)
  | .dat (.tuple l) => some l
  | _ => none
def itsT : R → Fr → Option (List D)
  | .dat d, _ => T.itemsT (.dat d)
  | .own t, _ => t.itemsT
  | .ref r, ρ => (ρ.rt[r]?).bind fun t => t.t.itemsT
  | .fn _, _ => none
def optM : Option (M R) → M (Option Int)
  | none => fun ρ => some (.ok none ρ)
  | some m => bnd m fun r ρ => match vw r ρ with
    | some (.int i) => some (.ok (some i) ρ)
    | _ => none
def cutD {α : Type} (xs : List α) (lo hi : Option Int) : List α := (xs.drop (HT.sIx xs.length 0 lo)).take (HT.sIx xs.length xs.length hi - HT.sIx xs.length 0 lo)
def fSl (r : R) (ρ : Fr) (lo hi : Option Int) : Option R := match itsL r ρ with
  | some l => some (.own (.dl (cutD l lo hi)))
  | none => match itsT r ρ with
    | some l => some (.dat (.tuple (cutD l lo hi)))
    | none => match vw r ρ with
      | some (.str z) => if z.length ≤ 1000000 then some (.dat (.str (cutS z lo hi))) else none
      | _ => none
def mSlice (m : M R) (lo hi : Option (M R)) : M R := bnd m fun r => bnd (optM lo) fun l => bnd (optM hi) fun h ρ => (fSl r ρ l h).map fun z => .ok z ρ
def okO (K : PySem.W.Frag) (mg : Str → Option Value) (B : Bs) (O : Ft) (A : Al) (σ : L2.St) (H : Hp) (Q : Option Int → Hp → Prop) (r : Option Int) (ρ' : Fr) : Prop := ∀ H' A', StC K mg B O A' ρ' σ H' → Stp O A H O A' H' → Q r H'
def ORun (K : PySem.W.Frag) (mg : Str → Option Value) (m : M (Option Int)) (E : EK) : TO := fun σ H Q => ∃ B O A ρ out, StC K mg B O A ρ σ H ∧ m ρ = some out ∧ Aft K mg B O A σ H E (okO K mg B O A σ H Q) out
structure DO (X : Cx) (E : EK) (oe : Option Expr) (m : M (Option Int)) : Prop where
  po : PO X oe (ORun X.K X.mg m E)
theorem po_imp {X : Cx} {oe : Option Expr} {t t' : TO} (h : PO X oe t) (i : ∀ σ H Q, t' σ H Q → t σ H Q) : PO X oe t' := ⟨fun pins s σ H Q I q => h.run pins s σ H Q I (i _ _ _ q)⟩
section
variable {X : Cx} {E : EK} {e a b c : Expr} {es : List Expr} {pos p : Pos} {B : Bs} {O O' : Ft} {A A' A1 : Al} {ρ ρ1 : Fr} {σ : L2.St} {H H' H1 : Hp}
theorem do_none : DO X E none (optM none) := ⟨po_imp po_none fun σ H Q h => by
  obtain ⟨B, O, A, ρ, out, S, hm, k⟩ := h
  cases hm
  exact k.oks H A S Stp.refl⟩
theorem do_some {m : M R} (h : DE X E e m) : DO X E (some e) (optM (some m)) := ⟨po_imp (po_some h.pe) fun σ H Q h => by
  obtain ⟨B, O, A, ρ, out, S, hm, k⟩ := h
  refine run_bnd S hm k.exc fun r ρ1 v H1 A1 F hk S1 rr1 st1 x1 => ?_
  split at hk
  · rename_i i e1
    cases hk
    have := S1.view rr1 e1
    cases this
    exact ⟨i, rfl, k.oks H1 A1 (S1.weak fun a => le_add a) (st1.weak fun a => le_add a)⟩
  · cases hk⟩
theorem run_bndO {γ : Type} {K : PySem.W.Frag} {mg : Str → Option Value} {m : M (Option Int)} {k : Option Int → M γ} {out : Out γ} {Q : Option Int → Hp → Prop} (S : StC K mg B O A ρ σ H) (h : bnd m k ρ = some out) (x : Exc K mg B O A σ H E out)
    (c : ∀ r ρ1 H1 A1, k r ρ1 = some out → StC K mg B O A1 ρ1 σ H1 → Stp O A H O A1 H1 → Exc K mg B O A1 σ H1 E out → Q r H1) : ORun K mg m E σ H Q := by
  rcases bnd_some h with ⟨c', ρ1, e, eo⟩ | ⟨r, ρ1, e, hk⟩
  · exact ⟨B, O, A, ρ, _, S, e, fun C H' A' hc S' st => x c' ρ1 eo C H' A' hc S' st⟩
  · exact ⟨B, O, A, ρ, _, S, e, fun H1 A1 S1 st => c r ρ1 H1 A1 hk S1 st (x.later st.toSto fun a => Nat.le_refl _)⟩
theorem TR.itemsL {K : PySem.W.Frag} {mm : Mg} {G : Hp} (s : Same G H) {t : T} {v : V} {F : Ft} {l : List D} (h : TR K mm G H t v F) (e : t.itemsL = some l) : ∃ a vs, v = .ref a ∧ SqL K H a vs ∧ DqAll K G vs l := by
  cases h with
  | dat h => cases h <;> first | (cases e; done) | (rename_i ha r; cases e; exact ⟨_, _, rfl, .of (s _ _ ha), r⟩)
  | dl h r => cases e; exact ⟨_, _, rfl, .of h, r⟩
  | frz h => cases e; exact ⟨_, _, rfl, s.seq h, ints_all _⟩
  | fn _ => cases e
  | ol _ _ => cases e
  | ot _ _ => cases e
  | dd _ _ _ => cases e
  | od _ _ _ => cases e
  | ins _ _ _ _ => cases e
  | gone => cases e
  | hole => cases e
theorem TR.itemsT {K : PySem.W.Frag} {mm : Mg} {G : Hp} {t : T} {v : V} {F : Ft} {l : List D} (h : TR K mm G H t v F) (e : t.itemsT = some l) : ∃ a vs, v = .ref a ∧ SqT K G a vs ∧ DqAll K G vs l := by
  cases h with
  | dat h => cases h <;> first | (cases e; done) | (rename_i ha r; cases e; exact ⟨_, _, rfl, ha, r⟩)
  | dl h r => cases e
  | frz h => cases e
  | fn _ => cases e
  | ol _ _ => cases e
  | ot _ _ => cases e
  | dd _ _ _ => cases e
  | od _ _ _ => cases e
  | ins _ _ _ _ => cases e
  | gone => cases e
  | hole => cases e
theorem StC.itsL {K : PySem.W.Frag} {mg : Str → Option Value} (S : StC K mg B O A ρ σ H) {r : R} {v : V} {F : Ft} {l : List D} (h : RR K ⟨mg, B.η⟩ (XM.al A) (hid (tot O A) H) H v F r) (e : XM.itsL r ρ = some l) : ∃ a vs, v = .ref a ∧ SqL K H a vs ∧ DqAll K (hid (tot O A) H) vs l := by
  cases r with
  | dat d => exact TR.itemsL (mm := ⟨mg, B.η⟩) hid_sub (.dat h.2) e
  | fn x => cases e
  | own t => exact TR.itemsL hid_sub h e
  | ref r =>
    simp only [XM.itsL] at e
    cases e1 : ρ.rt[r]? with
    | none => rw [e1] at e; cases e
    | some t =>
      rw [e1] at e
      obtain ⟨F', _, h'⟩ := S.root e1 h.2
      exact TR.itemsL hid_sub h' e
theorem StC.itsT {K : PySem.W.Frag} {mg : Str → Option Value} (S : StC K mg B O A ρ σ H) {r : R} {v : V} {F : Ft} {l : List D} (h : RR K ⟨mg, B.η⟩ (XM.al A) (hid (tot O A) H) H v F r) (e : XM.itsT r ρ = some l) : ∃ a vs, v = .ref a ∧ SqT K (hid (tot O A) H) a vs ∧ DqAll K (hid (tot O A) H) vs l := by
  cases r with
  | dat d => exact TR.itemsT (mm := ⟨mg, B.η⟩) (H := H) (.dat h.2) e
  | fn x => cases e
  | own t => exact TR.itemsT h e
  | ref r =>
    simp only [XM.itsT] at e
    cases e1 : ρ.rt[r]? with
    | none => rw [e1] at e; cases e
    | some t =>
      rw [e1] at e
      obtain ⟨F', _, h'⟩ := S.root e1 h.2
      exact TR.itemsT h' e
theorem DqAll_cut {K : PySem.W.Frag} {G : Hp} {vs : List V} {l : List D} (h : DqAll K G vs l) (lo hi : Option Int) : DqAll K G (cutV vs lo hi) (cutD l lo hi) := by
  unfold cutV cutD
  rw [DqAll_len h]
  exact DqAll_take _ (DqAll_drop _ h)
theorem de_slice {m : M R} {lo hi : Option Expr} {ml mh : Option (M R)} {p2 : Pos} (he : DE X E e m) (hl : DO X E lo (optM ml)) (hh : DO X E hi (optM mh)) : DE X E (.Subscript e (.Slice lo hi none p2) pos) (mSlice m ml mh) := by
  refine ⟨pe_imp (pe_slice (SlR.or sl_list (SlR.or sl_tupA sl_str)) he.pe hl.po hh.po) fun σ H Q h => ?_⟩
  obtain ⟨B, O, A, ρ, out, S, hm, k⟩ := h
  refine run_bnd S hm k.exc fun r ρ1 v H1 A1 F hk S1 rr1 st1 x1 => ?_
  refine run_bndO S1 hk x1 fun l ρ2 H2 A2 hk2 S2 st2 x2 => ?_
  refine run_bndO S2 hk2 x2 fun h ρ3 H3 A3 hk3 S3 st3 x3 => ?_
  have rr3 := (rr1.step st2 fun a n => add_r n).step st3 fun a n => add_r n
  have st := (st1.trans st2 fun a n => add_l n).trans st3 fun a n => add_l n
  have le : ∀ a, O a ≤ add O F a := fun a => le_add a
  have w := hid_weak (A := A3) (H := H3) le
  cases e1 : fSl r ρ3 l h with
  | none => rw [e1] at hk3; cases hk3
  | some z =>
    rw [e1] at hk3
    cases hk3
    unfold fSl at e1
    split at e1
    · rename_i xs e2
      cases e1
      obtain ⟨a, vs, rfl, sq, dq⟩ := S3.itsL rr3 e2
      exact .inl ⟨a, vs, rfl, sq, fun p np => fin_lst k.oks S3 le st (DqAll_same w (DqAll_cut dq l h)) np⟩
    · split at e1
      · rename_i xs e2
        cases e1
        obtain ⟨a, vs, rfl, sq, dq⟩ := S3.itsT rr3 e2
        refine .inr (.inl ⟨a, vs, rfl, Tl.Same.tup hid_sub sq, fun whole => ?_, fun _ p np => fin_tup k.oks S3 le st (DqAll_same w (DqAll_cut dq l h)) np⟩)
        have ec : cutD xs l h = xs := by
          unfold cutD
          rw [← DqAll_len dq, whole.1, whole.2, List.drop_zero, Nat.sub_zero, DqAll_len dq, List.take_length]
        rw [ec] at k
        exact fin_dat k.oks S3 le st (.tup (Tl.Same.tup w sq) (DqAll_same w dq))
      · split at e1
        · rename_i z e2
          split at e1
          · rename_i sm
            cases e1
            have := S3.view rr3 e2
            cases this
            exact .inr (.inr ⟨z, rfl, big_line sm, fin_dat k.oks S3 le st (.str _)⟩)
          · cases e1
        · cases e1
/-! ### arguments, some with stars -/
def mCons (m : M R) (mr : M (List R)) : M (List R) := bnd m fun r => bnd mr fun rs ρ => some (.ok (r :: rs) ρ)
def mStar (m : M R) (mr : M (List R)) : M (List R) := bnd m fun r ρ1 => match its false r ρ1 with
  | some l => (bnd mr fun rs ρ => some (.ok (l.map R.dat ++ rs) ρ)) ρ1
  | none => none
def mTupA (mr : M (List R)) : M R := bnd mr fun rs => bnd (toDs rs) fun ds ρ => if ds.length ≤ 1000000 then some (.ok (.dat (.tuple ds)) ρ) else none
def mLstA (mr : M (List R)) : M R := bnd mr fun rs => bnd (toDs rs) fun ds ρ => if ds.length ≤ 1000000 then some (.ok (.own (.dl ds)) ρ) else none
/-! ### methods of lists -/
/-- xs.append(e) -/
def mAppend (mo me : M R) : M R := bnd mo fun ro ρ0 => match ro with
  | .ref n => match ρ0.rt[n]? with
    | some ⟨.dl _, _⟩ => (bnd me fun re => bnd (toD re) fun d ρ => match ρ.rt[n]? with
      | some ⟨.dl l, pr⟩ => if l.length < 1000000 then some (Out.ok (R.dat .none) { ρ with rt := ρ.rt.set n ⟨.dl (l ++ [d]), pr⟩ }) else none
      | _ => none) ρ0
    | _ => none
  | _ => none
theorem StC.setL {K : PySem.W.Frag} {mg : Str → Option Value} (S : StC K mg B O A ρ σ H) {n : Nat} {l l' : List D} {pr : Option (Nat × Pl)} {v : V} (hx : ρ.rt[n]? = some ⟨.dl l, pr⟩) (ha : XM.al A n = some v) :
    ∃ a vs, v = .ref a ∧ H a = some (.lst vs) ∧ DqAll K (hid (tot O A) H) vs l ∧ ∀ vs', DqAll K (hid (tot O A) H) vs' l' → StC K mg B O A { ρ with rt := ρ.rt.set n ⟨.dl l', pr⟩ } σ (upd H a (.lst vs')) ∧ Stp O A H O A (upd H a (.lst vs')) := by
  obtain ⟨F, hA, ht⟩ := S.root hx ha
  cases ht with
  | dl h r =>
    rename_i a vs
    refine ⟨a, vs, rfl, h, r, fun vs' r' => ?_⟩
    have one1 : tot O A a ≠ 0 := by
      have := sumF_at a hA
      dsimp only at this
      rw [one_self] at this
      unfold tot add; omega
    have sh : Same (hid (tot O A) H) (hid (tot O A) (upd H a (.lst vs'))) := fun b u h => by
      obtain ⟨q, h⟩ := hid_some h
      exact hid_at q (by rw [upd_ne fun z => one1 (by rw [z] at q; exact q)]; exact h)
    have eA : A.set n (.ref a, one a) = A := by
      apply List.ext_getElem?
      intro i
      rw [List.getElem?_set]
      by_cases e : n = i
      · subst e; rw [if_pos rfl, if_pos (List.getElem?_eq_some_iff.mp hA).1, hA]
      · rw [if_neg e]
    have S2 := S.setR (O' := O) (H' := upd H a (.lst vs')) (F' := one a) (t' := .dl l') hA hx (by rw [eA]; exact sh) (fun b _ q => upd_ne fun z => by rw [z, one_self] at q; cases q) (by rw [eA]; exact S.le1) (fun b q => by
      rw [eA] at q
      by_cases z : b = a
      · rw [z, upd_same]; simp
      · rw [upd_ne z]; exact S.al b q) (by rw [eA]; exact .dl upd_same (DqAll_same sh r')) (fun c => nomatch c)
    rw [eA] at S2
    refine ⟨S2, ⟨⟨fun b q => upd_ne fun z => ?_, sh⟩, fun _ _ h => h⟩⟩
    have h1 := S.le1 a
    have h2 := sumF_at a hA
    dsimp only at h2
    rw [one_self] at h2
    rw [z] at q
    unfold tot add at h1
    omega
theorem de_append {apos : Pos} {o : Expr} {mo me : M R} (ho : DE X E o mo) (he : DE X E e me) (hbase : attributeBase o "append" X.env (eval o X.env) = eval o X.env := by rfl)
    (hfew : ((backTo pos (starEach [e] X.env)).all (fun x => !x.1) && (backToKw pos (keywordEach [] X.env)).all (fun x => x.1.isSome)
      && decide (([e] : List Expr).length + ([] : List Keyword).length + (if ([] : List Keyword).isEmpty then 0 else 1) < 30)) = true := by rfl)
    (hline : (apos.endLine == pos.line) = true := by rfl) (hs : starEach [e] X.env = (false, eval e X.env) :: starEach [] X.env := by rfl) (hplain : (backTo pos (starEach [] X.env)).any (·.1) = false := by rfl) :
    DE X E (.Call (.Attribute o "append" apos) [e] [] pos) (mAppend mo me) := by
  refine ⟨pe_imp (pe_bm PySem.F.plainAttrs_list PySem.F.slot_list_append PySem.F.type_list_append mt_append ho.pe (pa_cons he.pe pa_nil hs) hbase hfew hline hs hplain) fun σ H Q h => ?_⟩
  obtain ⟨B, O, A, ρ, out, S, hm, k⟩ := h
  refine run_bnd S hm k.exc fun ro ρ1 v H1 A1 F hk S1 rr1 st1 x1 => ?_
  cases ro with
  | ref n =>
    dsimp only at hk
    split at hk
    · rename_i l0 pr0 hx0
      obtain ⟨rfl, ha1⟩ := rr1
      rw [add_zer] at S1 st1 x1
      obtain ⟨a0, vs0, rfl, h0, _⟩ := S1.setL (l' := []) hx0 ha1
      refine ⟨.inl ⟨rfl, vs0, .of h0⟩, ?_⟩
      show ERun _ _ _ _ _ _ _
      refine run_bnd S1 hk x1 fun re ρ2 w H2 A2 F2 hk2 S2 rr2 st2 x2 => ?_
      obtain ⟨d, ρ3, A3, hk3, S3, dq, st3⟩ := give_bnd S2 rr2 hk2
      split at hk3
      · rename_i l pr hx
        split at hk3
        · rename_i sm
          cases hk3
          have ha3 := st3.al _ _ (st2.al _ _ ha1)
          obtain ⟨a, vs, ea, hH, dl, go⟩ := S3.setL (l' := l ++ [d]) hx ha3
          cases ea
          obtain ⟨S4, st4⟩ := go (vs ++ [w]) (DqAll_app dl (.cons dq .nil))
          refine ⟨a0, vs, w, rfl, rfl, hH, by rw [DqAll_len dl, sizeLine_eq]; omega, ?_⟩
          exact fin_dat k.oks S4 (fun _ => Nat.le_refl _) (((st1.trans st2 fun _ n => n).trans st3 fun a n => add_l n).trans st4 fun _ n => n) .non
        · cases hk3
      · cases hk3
    · cases hk
  | dat d => cases hk
  | fn x => cases hk
  | own t => cases hk
/-- xs.extend(list) -/
def mExtend (mo me : M R) : M R := bnd mo fun ro ρ0 => match ro with
  | .ref n => match ρ0.rt[n]? with
    | some ⟨.dl _, _⟩ => (bnd me fun re ρ => match ρ.rt[n]?, its true re ρ with
      | some ⟨.dl l, pr⟩, some l2 => if l.length + l2.length ≤ 1000000 then some (Out.ok (R.dat .none) { ρ with rt := ρ.rt.set n ⟨.dl (l ++ l2), pr⟩ }) else none
      | _, _ => none) ρ0
    | _ => none
  | _ => none
end
end XM
end
section
namespace Tl
open PySem PySem.Spec PyProof.Rows L2
end Tl
end
section
namespace Tl
open PySem PySem.Spec PyProof.Rows L2
end Tl
end
section
namespace Tl
open PySem PySem.Spec PyProof.Rows L2
end Tl
end
section
namespace XM
open PySem PySem.Spec PyProof.Rows L2 Tl
section
variable {X : Cx} {E : EK} {e a b c o : Expr} {es : List Expr} {pos p : Pos} {B : Bs} {O O' : Ft} {A A' A1 : Al} {ρ ρ1 : Fr} {σ : L2.St} {H H' H1 : Hp}
/-! ### an item of a sequence or a text -/
def mIx (ma mb : M R) : M R := bnd ma fun ra => bnd mb fun rb ρ => match its false ra ρ, vw rb ρ with
  | some l, some (.int i) => match atI l i with
    | some d => some (.ok (.dat d) ρ)
    | none => none
  | none, some (.int i) => match vw ra ρ with
    | some (.str z) => if z.length ≤ 1000000 then match atI z.cps.toList i with
        | some c => some (.ok (.dat (.str ⟨#[c]⟩)) ρ)
        | none => none
      else none
    | _ => none
  | _, _ => none
theorem de_ixA {ma mb : M R} (ha : DE X E a ma) (hb : DE X E b mb) (hs : PlainIx b) : DE X E (.Subscript a b pos) (mIx ma mb) := by
  refine ⟨pe_imp (pe_ix ix_seq ha.pe hb.pe hs) fun σ H Q h => ?_⟩
  obtain ⟨B, O, A, ρ, out, S, hm, k⟩ := h
  refine run_bnd S hm k.exc fun ra ρ1 v H1 A1 F hk S1 rr1 st1 x1 => ?_
  refine run_bnd S1 hk x1 fun rb ρ2 w H2 A2 F2 hk2 S2 rr2 st2 x2 => ?_
  have rr1' := rr1.step st2 (fun a n => add_r n)
  have le : ∀ a, O a ≤ add (add O F) F2 a := fun a => by unfold add; omega
  have st := st1.trans st2 fun a n => add_l n
  split at hk2
  · rename_i l i e1 e2
    split at hk2
    · rename_i d e4
      cases hk2
      obtain ⟨p, vs, rfl, hp, dq⟩ := S2.items rr1' e1
      have hw := S2.view rr2 e2
      cases hw
      obtain ⟨u, h1, h2⟩ := DqAll_atI dq e4
      have fin : Q u H2 := fin_dat k.oks S2 le st (Dq_same (hid_weak le) h2)
      rcases hp with hp | ⟨_, hp | hp⟩
      · exact .inl ⟨p, vs, i, u, rfl, rfl, .of hp, h1, fin⟩
      · exact .inl ⟨p, vs, i, u, rfl, rfl, hp, h1, fin⟩
      · exact .inr (.inl ⟨p, vs, i, u, rfl, rfl, Tl.Same.tup hid_sub hp, h1, fin⟩)
    · cases hk2
  · rename_i i e1 e2
    split at hk2
    · rename_i z e3
      split at hk2
      · rename_i sm
        split at hk2
        · rename_i c e4
          cases hk2
          have hw := S2.view rr2 e2
          have hz := S2.view rr1' e3
          cases hw
          cases hz
          exact .inr (.inr ⟨z, i, c, rfl, rfl, big_line sm, e4, fin_dat k.oks S2 le st (.str _)⟩)
        · cases hk2
      · cases hk2
    · cases hk2
  · cases hk2
/-! ### list.index -/
def idxF (d : D) : List D → Option Nat
  | [] => none
  | z :: r => if eqF z d = true then some 0 else (idxF d r).map (· + 1)
def mIndex (mo me : M R) : M R := bnd mo fun ro ρ0 => match itsL ro ρ0 with
  | some _ => (bnd me fun re ρ => match itsL ro ρ, vw re ρ with
    | some l, some d => if flatS d = true ∧ l.all flatS = true then match idxF d l with
        | some j => some (.ok (.dat (.int (j : Nat))) ρ)
        | none => none
      else none
    | _, _ => none) ρ0
  | none => none
/-! ### max of a list of ints -/
def maxL : List Int → Int
  | [] => 0
  | [n] => n
  | n :: r => if maxL r ≤ n then n else maxL r
theorem maxL_ok : ∀ {ns : List Int}, ns ≠ [] → maxL ns ∈ ns ∧ ∀ y ∈ ns, y ≤ maxL ns
  | [], h => absurd rfl h
  | [n], _ => ⟨by simp [maxL], by simp [maxL]⟩
  | n :: m :: r, _ => by
    obtain ⟨h1, h2⟩ := maxL_ok (ns := m :: r) (by simp)
    have e : maxL (n :: m :: r) = if maxL (m :: r) ≤ n then n else maxL (m :: r) := rfl
    rw [e]
    by_cases q : maxL (m :: r) ≤ n
    · rw [if_pos q]
      refine ⟨by simp, fun y hy => ?_⟩
      rcases List.mem_cons.mp hy with rfl | hy
      · exact Int.le_refl _
      · exact Int.le_trans (h2 y hy) q
    · rw [if_neg q]
      refine ⟨List.mem_cons_of_mem _ h1, fun y hy => ?_⟩
      rcases List.mem_cons.mp hy with rfl | hy
      · omega
      · exact h2 y hy
def fMax : List R → M R := fun rs ρ => match rs with
  | [r] => match itsL r ρ with
    | some l => match intsOf l with
      | some (n :: ns) => some (.ok (.dat (.int (maxL (n :: ns)))) ρ)
      | _ => none
    | none => none
  | _ => none
theorem leaf_max {K : PySem.W.Frag} {mg : Str → Option Value} : Leaf K mg (rMax K) fMax := fun B O A ρ σ H E F rs vs out Q A0 H0 S rr hf st k => by
  unfold fMax at hf
  split at hf
  · rename_i r1
    cases rr with
    | cons h1 h2 =>
    cases h2
    rw [add_zer] at S h1 st
    split at hf
    · rename_i l e1
      split at hf
      · rename_i n ns e2
        cases hf
        obtain ⟨a, ws, rfl, sq, dq⟩ := S.itsL h1 e1
        have := intsOf_ok dq e2
        subst this
        have mx := maxL_ok (ns := n :: ns) (by simp)
        refine ⟨a, n :: ns, rfl, sq, by simp, fun m hm hy => ?_⟩
        have : m = maxL (n :: ns) := by
          have h1 := hy _ mx.1
          have h2 := mx.2 m hm
          omega
        rw [this]
        exact fin_dat k.oks S (fun a => le_add a) st (.int _)
      · cases hf
    · cases hf
  · cases hf
/-! ### a list's item is set -/
def mSetIx (m mo mi : M R) : SM := sBnd m fun r => sBnd (toD r) fun d => sBnd mo fun ro ρ0 => match ro with
  | .ref n => sBnd mi (fun ri ρ => match vw ri ρ with
    | some (.int i) => match ρ.rt[n]? with
      | some ⟨.dl l, pr⟩ => match ixN l.length i with
        | some j => some (.nx (tidy { ρ with rt := ρ.rt.set n ⟨.dl (l.set j d), pr⟩ }))
        | none => none
      | _ => none
    | _ => none) ρ0
  | _ => none
theorem sBnd_D {K : PySem.W.Frag} {mg : Str → Option Value} {F : Ft} {r : R} {v : V} {k : D → Fr → Option SO} {out : SO} (S : StC K mg B (add O F) A ρ σ H) (h : RR K ⟨mg, B.η⟩ (al A) (hid (tot (add O F) A) H) H v F r) (e : sBnd (toD r) k ρ = some out) :
    ∃ d ρ' A', k d ρ' = some out ∧ StC K mg B O A' ρ' σ H ∧ Dq K (hid (tot O A') H) v d ∧ Stp (add O F) A H O A' H := by
  unfold sBnd at e
  split at e
  · cases e
  · rename_i c ρ1 e1
    obtain ⟨_, _, _, z, _⟩ := give S h e1
    cases z
  · rename_i d ρ1 e1
    obtain ⟨_, _, A', z, r⟩ := give S h e1
    cases z
    exact ⟨d, ρ1, A', e, r⟩
theorem ds_setIx {apos : Pos} {m mo mi : M R} (he : DE X E e m) (ho : DE X E a mo) (hi : DE X E b mi)
    (ha : ∀ v, assign (.Subscript a b apos) X.env v = (do
      let ov ← holding [v] (eval a X.env)
      let iv ← holding [v, ov] (eval b X.env)
      standAt apos
      holding [v, ov, iv] (setItem ov iv v)
      release [v, ov, iv] []) := by intro _; rfl)
    (hs : swapsWithSole [.Subscript a b apos] e pos.line X.env = pure false := by rfl) (hw : swappedStores [.Subscript a b apos] e X.env = pure none := by rfl)
    (h1 : (assignEach [.Subscript a b apos] X.env).map (·.2) = [assign (.Subscript a b apos) X.env] := by rfl) : DS X E (.Assign [.Subscript a b apos] e pos) (mSetIx m mo mi) := by
  refine ⟨ps_imp (ps_asg he.pe (pg_sub ho.pe hi.pe set_list ha) hs hw h1) fun D σ H h => ?_⟩
  obtain ⟨B, O, A, ρ, out, S, hm, kk⟩ := h
  refine run_st S kk hm fun r ρ1 v H1 A1 F hk S1 rr st1 => ?_
  obtain ⟨d, ρ2, A2, hk2, S2, dq, st2⟩ := sBnd_D S1 rr hk
  have st12 : Stp O A H O A2 H1 := st1.trans st2 fun a n => add_l n
  have kk2 : AftS X.K X.mg B O A2 H1 E D out := kk.later st12.toSto
  refine run_st S2 kk2 hk2 fun ro ρ3 w H3 A3 F3 hk3 S3 rr3 st3 => ?_
  have le3 : ∀ a, O a ≤ add O F3 a := fun a => le_add a
  cases ro with
  | ref n =>
    obtain ⟨rfl, ha3⟩ := rr3
    rw [add_zer] at S3 st3
    have kk3 : AftS X.K X.mg B O A3 H3 E D out := kk2.later st3.toSto
    refine run_st S3 kk3 hk3 fun ri ρ4 y H4 A4 F4 hk4 S4 rr4 st4 => ?_
    split at hk4
    · rename_i i ei
      split at hk4
      · rename_i l pr hx
        split at hk4
        · rename_i j ej
          cases hk4
          have hy := S4.view rr4 ei
          cases hy
          have le4 : ∀ a, O a ≤ add O F4 a := fun a => le_add a
          obtain ⟨q, vs, eq, hH, dl, go⟩ := (S4.weak le4).setL (l' := l.set j d) hx (st4.al _ _ ha3)
          subst eq
          have dq4 := DqAll_same (K := X.K) (hid_weak (A := A4) (H := H4) le4) (.cons (Dq_same (st3.sh.trans st4.sh) dq) .nil)
          cases dq4 with
          | cons dq4 _ =>
          obtain ⟨S5, st5⟩ := go (vs.set j v) (DqAll_set dq4 j dl)
          obtain ⟨A6, S6, s6⟩ := S5.tidy
          have stf := (st3.trans (st4.weak le4) fun _ n => n).trans st5 fun _ n => n
          exact ⟨q, vs, i, j, rfl, rfl, hH, by rw [DqAll_len dl]; exact ej, kk2 _ _ A6 S6 ⟨stf.out, stf.sh.trans s6⟩⟩
        · cases hk4
      · cases hk4
    · cases hk4
  | dat d' => cases hk3
  | fn x => cases hk3
  | own t => cases hk3
/-! ### x, *rest = a list or a tuple -/
def mUnp1 (i j : Nat) (m : M R) : SM := sBnd m fun r ρ => match its false r ρ with
  | some (d :: ds) => if ds.length ≤ 10000 then some (.nx (tidy (toSl j (.own (.dl ds)) { ρ with sl := ρ.sl.set i (.dat d) }))) else none
  | _ => none
theorem pg_or {tg : Expr} {t t' : TG} (h : PG X tg t) (h' : PG X tg t') : PG X tg (fun v σ H Q => t v σ H Q ∨ t' v σ H Q) := ⟨fun pins s σ H v u Q I r q => q.elim (h.run pins s σ H v u Q I r) (h'.run pins s σ H v u Q I r)⟩
/-! ### a def by a dict's entry; a call of what a name holds -/
def mFD (tb : List (Str × Str)) (m : M R) : M R := bnd m fun r ρ => match vw r ρ with
  | some (.str k) => match tb.lookup k with
    | some n => some (.ok (.fn n) ρ)
    | none => none
  | _ => none
/-- what a slot holds is called: the runs of the defs by name -/
def mCallF (i : Nat) (tb : List (Str × FM)) (ms : List (M R)) : M R := fun ρ => match ρ.sl[i]? with
  | some (.fn n) => match tb.lookup n with
    | some m => mCall0 m ms ρ
    | none => none
  | _ => none
end
end XM
end
section
namespace XM
open PySem PySem.Spec PyProof.Rows L2 Tl
section
variable {X : Cx} {E : EK} {e a b c o : Expr} {es : List Expr} {pos p : Pos} {B : Bs} {O O' : Ft} {A A' A1 : Al} {ρ ρ1 : Fr} {σ : L2.St} {H H' H1 : Hp}
/-! ### repr -/
def reprOk (d : D) : Bool := match d with
  | .int i => decide (i.natAbs.log2 < 1920)
  | .list _ | .tuple _ => d.showable && !d.hasDict && decide (d.depth ≤ 60)
  | _ => false
def fRepr : D → Option D := fun d => if reprOk d = true then (if d.shown.length ≤ 1000000 then some (.str d.shown) else none) else none
theorem leaf_repr {K : PySem.W.Frag} {mg : Str → Option Value} : Leaf K mg (rRepr K) (f1 fRepr) := leaf1 fun H x d z Q hx e k => by
  unfold fRepr at e
  split at e
  · rename_i ok
    split at e
    · rename_i sz
      cases e
      have fin := k _ (.str d.shown)
      have big := big_line sz
      cases d with
      | int i =>
        exact ⟨x, _, rfl, Dq_ph hx (by unfold PyData.hasDict; rfl), by simpa [PyData.showable, reprOk] using ok, by simp [PyData.hasDict], big, by simp [PyData.depth], fun b z => (nomatch z), fun b z => (nomatch z), fun z => (nomatch z), fun j z => by cases z; exact of_decide_eq_true ok, fin⟩
      | list l =>
        simp only [reprOk, Bool.and_eq_true, decide_eq_true_eq, Bool.not_eq_true'] at ok
        exact ⟨x, _, rfl, Dq_ph hx ok.1.2, ok.1.1, ok.1.2, big, ok.2, fun b z => (nomatch z), fun b z => (nomatch z), fun z => (nomatch z), fun j z => (nomatch z), fin⟩
      | tuple l =>
        simp only [reprOk, Bool.and_eq_true, decide_eq_true_eq, Bool.not_eq_true'] at ok
        exact ⟨x, _, rfl, Dq_ph hx ok.1.2, ok.1.1, ok.1.2, big, ok.2, fun b z => (nomatch z), fun b z => (nomatch z), fun z => (nomatch z), fun j z => (nomatch z), fin⟩
      | none => cases ok
      | bool b => cases ok
      | str s => cases ok
      | dict kvs => cases ok
    · cases e
  · cases e
/-! ### {..}.get(k, x) -/
def mkTrs (X : Cx) (E : EK) : List Str → List (M R) → List (TE × TE)
  | k :: ks, m :: ms => (tC (.str k), ERun X.K X.mg m E) :: mkTrs X E ks ms
  | _, _ => []
structure DPs (X : Cx) (E : EK) (pos : Pos) (keys : List (Option Expr)) (values : List Expr) (ks : List Str) (ms : List (M R)) : Prop where
  pps : PPs X pos keys values (mkTrs X E ks ms)
  len : ks.length = ms.length
theorem dps_nil : DPs X E pos [] [] [] [] := ⟨pps_nil, rfl⟩
theorem dps_cons {k : Str} {j pk} {v : Expr} {ks : List (Option Expr)} {vs : List Expr} {kt : List Str} {m : M R} {ms : List (M R)} (hv : DE X E v m) (hr : DPs X E pos ks vs kt ms) : DPs X E pos (some (.Constant (.str k) j pk) :: ks) (v :: vs) (k :: kt) (m :: ms) :=
  ⟨pps_cons pe_str hv.pe hr.pps, by simp [hr.len]⟩
theorem run_pairs : ∀ {ks : List Str} {ms : List (M R)} {O : Ft} {A : Al} {ρ : Fr} {H : Hp} {γ : Type} {k : List R → M γ} {out : Out γ} {Q : List (V × V) → Hp → Prop}, ks.length = ms.length → StC X.K X.mg B O A ρ σ H → bnd (mArgs ms) k ρ = some out → Exc X.K X.mg B O A σ H E out →
    (∀ rs ρ1 vs H1 A1 F, k rs ρ1 = some out → rs.length = ms.length → StC X.K X.mg B (add O F) A1 ρ1 σ H1 → RRs X.K ⟨X.mg, B.η⟩ (al A1) (hid (tot (add O F) A1) H1) H1 vs F rs → Stp O A H (add O F) A1 H1 → Exc X.K X.mg B (add O F) A1 σ H1 E out → Q ((ks.map V.str).zip vs) H1) → tPairs (mkTrs X E ks ms) σ H Q
  | [], [], O, A, ρ, H, γ, k, out, Q, _, S, h, x, c => by
    rcases bnd_some h with ⟨c', ρ1, e, _⟩ | ⟨r, ρ1, e, hk⟩
    · cases e
    · cases e
      exact c [] ρ [] H A zer hk rfl (by rw [add_zer]; exact S) .nil (by rw [add_zer]; exact Stp.refl) (by rw [add_zer]; exact x)
  | q :: ks, m :: ms, O, A, ρ, H, γ, k, out, Q, l, S, h, x, c => by
    have h' : bnd m (fun r => bnd (mArgs ms) fun rs => k (r :: rs)) ρ = some out := by
      unfold mArgs at h
      rcases bnd_some h with ⟨c', ρ1, e, eo⟩ | ⟨r, ρ1, e, hk⟩
      · subst eo
        rcases bnd_some e with ⟨c2, ρ2, e2, eo⟩ | ⟨r2, ρ2, e2, hk2⟩
        · cases eo; unfold bnd; rw [e2]
        · rcases bnd_some hk2 with ⟨c3, ρ3, e3, eo⟩ | ⟨r3, ρ3, e3, hk3⟩
          · cases eo; unfold bnd; rw [e2]; dsimp only; rw [e3]
          · cases hk3
      · rcases bnd_some e with ⟨c2, ρ2, e2, eo⟩ | ⟨r2, ρ2, e2, hk2⟩
        · cases eo
        · rcases bnd_some hk2 with ⟨c3, ρ3, e3, eo⟩ | ⟨r3, ρ3, e3, hk3⟩
          · cases eo
          · cases hk3; unfold bnd; rw [e2]; dsimp only; rw [e3]; exact hk
    show ERun _ _ _ _ _ _ _
    refine run_bnd S h' x fun r ρ1 v H1 A1 F hk S1 rr1 st1 x1 => ?_
    refine run_pairs (by simpa using l) S1 hk x1 fun rs ρ2 vs H2 A2 F2 hk2 l2 S2 rr2 st2 x2 => ?_
    have st := st1.trans st2 fun a n => add_l n
    have rr1' := rr1.step st2 (fun a n => add_r n)
    rw [add_assoc] at S2 rr2 st rr1' x2
    exact c (r :: rs) ρ2 (v :: vs) H2 A2 (add F F2) hk2 (by simp [l2]) S2 (.cons rr1' rr2) st x2
  | [], _ :: _, _, _, _, _, _, _, _, _, l, _, _, _, _ => by simp at l
  | _ :: _, [], _, _, _, _, _, _, _, _, l, _, _, _, _ => by simp at l
def kvsOf : List Str → List V → List (Key × V)
  | k :: ks, v :: vs => (Sum.inr k, v) :: kvsOf ks vs
  | _, _ => []
theorem kvs_zip : ∀ (ks : List Str) (vs : List V), (ks.map V.str).zip vs = (kvsOf ks vs).map fun kv => (kV kv.1, kv.2)
  | [], _ => rfl
  | _ :: _, [] => rfl
  | k :: ks, v :: vs => by show (V.str k, v) :: (ks.map V.str).zip vs = (V.str k, v) :: (kvsOf ks vs).map _; rw [kvs_zip ks vs]
theorem put_new {acc : List (Key × V)} {k : Key} {v : V} (h : k ∉ acc.map (·.1)) : putK acc k v = acc ++ [(k, v)] := by
  unfold putK
  rw [if_neg]
  intro z
  obtain ⟨x, hx, e⟩ := List.any_eq_true.mp z
  exact h (List.mem_map.mpr ⟨x, hx, of_decide_eq_true e⟩)
theorem merge_new : ∀ (more acc : List (Key × V)), ((acc ++ more).map (·.1)).Nodup → mergeK acc more = acc ++ more
  | [], acc, _ => by unfold mergeK; simp
  | p :: r, acc, h => by
    have e : mergeK acc (p :: r) = mergeK (putK acc p.1 p.2) r := rfl
    have n : p.1 ∉ acc.map (·.1) := fun z => by
      rw [List.map_append, List.map_cons] at h
      exact (List.nodup_append.mp h).2.2 _ z _ (by simp) rfl
    rw [e, put_new n, merge_new r _ (by simpa using h)]
    simp
theorem kvs_keys : ∀ {ks : List Str} {vs : List V}, ks.length = vs.length → (kvsOf ks vs).map (·.1) = ks.map Sum.inr
  | [], [], _ => rfl
  | k :: ks, v :: vs, l => by show _ :: (kvsOf ks vs).map (·.1) = _ :: ks.map _; rw [kvs_keys (by simpa using l)]
  | [], _ :: _, l => by simp at l
  | _ :: _, [], l => by simp at l
theorem kvs_len : ∀ (ks : List Str) (vs : List V), (kvsOf ks vs).length ≤ ks.length
  | [], _ => Nat.zero_le _
  | _ :: _, [] => Nat.zero_le _
  | _ :: ks, _ :: vs => Nat.succ_le_succ (kvs_len ks vs)
def lkD (k : Str) : List Str → List D → Option D
  | q :: ks, d :: ds => if q = k then some d else lkD k ks ds
  | _, _ => none
theorem kvs_val {K : PySem.W.Frag} {G : Hp} {k : Str} : ∀ {ks : List Str} {vs : List V} {ds : List D}, DqAll K G vs ds → (∀ d, lkD k ks ds = some d → ∃ v, valV (kvsOf ks vs) (Sum.inr k : Key) = some v ∧ Dq K G v d) ∧ (lkD k ks ds = none → valV (kvsOf ks vs) (Sum.inr k : Key) = none)
  | [], _, _, _ => ⟨fun d h => by simp [lkD] at h, fun _ => rfl⟩
  | q :: ks, _, _, .nil => ⟨fun d h => by simp [lkD] at h, fun _ => rfl⟩
  | q :: ks, v :: vs, d :: ds, .cons a r => by
    have ih := kvs_val (k := k) (ks := ks) r
    have e : valV (kvsOf (q :: ks) (v :: vs)) (Sum.inr k : Key) = if decide ((Sum.inr q : Key) = Sum.inr k) = true then some v else valV (kvsOf ks vs) (Sum.inr k : Key) := by
      show ((List.find? _ ((Sum.inr q, v) :: kvsOf ks vs)).map _) = _
      unfold valV
      rw [List.find?_cons]
      cases decide ((Sum.inr q : Key) = Sum.inr k) <;> rfl
    rw [e]
    unfold lkD
    by_cases z : q = k
    · rw [if_pos z, if_pos (by rw [z]; simp)]
      exact ⟨fun d' h => by cases h; exact ⟨v, rfl, a⟩, fun h => by cases h⟩
    · rw [if_neg z, if_neg (by simp [z])]
      exact ih
def mDGet2 (ks : List Str) (ms : List (M R)) (me mf : M R) : M R := bnd (mArgs ms) fun rs => bnd (toDs rs) fun ds => bnd me fun re => bnd mf fun rf ρ => match vw re ρ, vw rf ρ with
  | some (.str k), some df => match lkD k ks ds with
    | some d => some (Out.ok (R.dat d) ρ)
    | none => if atomD df = true then some (.ok (.dat df) ρ) else none
  | _, _ => none
theorem de_dget2 {apos : Pos} {keys : List (Option Expr)} {values : List Expr} {ks : List Str} {ms : List (M R)} {me mf : M R} {dp : Pos} (hu : X.A.units + 1 < cLine) (hd : DPs X E dp keys values ks ms) (hall : keys.all (·.isSome) = true) (hl : keys.length = values.length) (h0 : keys ≠ []) (hsz : keys.length ≤ 15) (nd : ks.Nodup) (hk15 : ks.length ≤ 15)
    (he : DE X E a me) (hf : DE X E b mf) (m2 : M2 X (.Dict keys values dp) "get" apos a b pos) : DE X E (.Call (.Attribute (.Dict keys values dp) "get" apos) [a, b] [] pos) (mDGet2 ks ms me mf) := by
  refine ⟨pe_imp (pe_dget2 hu (pe_disp hd.pps hall hl h0 hsz) he.pe hf.pe m2) fun σ H Q h => ?_⟩
  obtain ⟨B, O, A, ρ, out, S, hm, k⟩ := h
  intro p np
  obtain ⟨S0, st0⟩ := S.newO (o := .dK []) np
  have x0 : Exc X.K X.mg B (add O (one p)) A σ (upd H p (.dK [])) E out := k.exc.later st0.toSto fun a => le_add a
  refine run_pairs hd.len S0 hm x0 fun rs ρ1 vs H1 A1 F hk lr S1 rr1 st1 x1 => ?_
  have op : add O (one p) p ≠ 0 := by unfold add; rw [one_self]; omega
  obtain ⟨ds, ρ2, A2, hk2, S2, dq, st2⟩ := gives_bnd S1 rr1 hk
  have hp1 : H1 p = some (.dK []) := by rw [st1.out p op]; exact upd_same
  have lv : ks.length = vs.length := by rw [hd.len, ← lr, rr1.len]
  refine ⟨hp1, kvsOf ks vs, kvs_zip ks vs, Nat.le_trans (kvs_len ks vs) hk15, ?_⟩
  have em : mergeK [] (kvsOf ks vs) = kvsOf ks vs := by
    have := merge_new (kvsOf ks vs) [] (by rw [List.nil_append, kvs_keys lv]; exact List.Pairwise.map _ (fun a b n z => n (Sum.inr.inj z)) nd)
    simpa using this
  rw [em]
  have wp : tot (add O (one p)) A2 p ≠ 0 := by unfold tot; exact add_l op
  have w3 : Same (hid (tot (add O (one p)) A2) H1) (hid (tot (add O (one p)) A2) (upd H1 p (.dK (kvsOf ks vs)))) := fun a u h => by
    obtain ⟨q, h⟩ := hid_some h
    exact hid_at q (by rw [upd_ne fun z => wp (by rw [z] at q; exact q)]; exact h)
  have free : sumF A2 p = 0 := by have := S2.le1 p; unfold tot add at this; rw [one_self] at this; omega
  have S3 : StC X.K X.mg B (add O (one p)) A2 ρ2 σ (upd H1 p (.dK (kvsOf ks vs))) := S2.move w3 (fun a n => upd_ne fun z => n (by rw [z]; exact free)) S2.le1 fun a n => by
    by_cases q : a = p
    · rw [q, upd_same]; simp
    · rw [upd_ne q]; exact S2.al a n
  have st03 : Stp O A H (add O (one p)) A2 (upd H1 p (.dK (kvsOf ks vs))) := by
    have s12 : Stp (add O (one p)) A (upd H p (.dK [])) (add O (one p)) A2 H1 := st1.trans st2 fun a n => add_l n
    have s02 := st0.trans s12 fun a n => add_l n
    refine ⟨⟨fun a n => ?_, s02.sh.trans w3⟩, s02.al⟩
    have ne : a ≠ p := fun z => by
      have := S.free np
      rw [z] at n; unfold tot add at this; omega
    rw [upd_ne ne]; exact s02.out a n
  have x3 : Exc X.K X.mg B (add O (one p)) A2 σ (upd H1 p (.dK (kvsOf ks vs))) E out := k.exc.later st03.toSto fun a => le_add a
  refine ⟨p, rfl, .inl ⟨kvsOf ks vs, .inl upd_same⟩, ?_⟩
  refine run_bnd S3 hk2 x3 fun re ρ4 w H4 A4 F4 hk4 S4 rr4 st4 x4 => ?_
  refine run_bnd S4 hk4 x4 fun rf ρ5 u H5 A5 F5 hk5 S5 rr5 st5 x5 => ?_
  have rr4' := rr4.step st5 fun a n => add_r n
  have st35 := st4.trans st5 fun a n => add_l n
  have le : ∀ a, O a ≤ add (add (add O (one p)) F4) F5 a := fun a => by unfold add; omega
  have stf := st03.trans st35 fun a n => add_l n
  have hp5 : H5 p = some (.dK (kvsOf ks vs)) := by rw [st35.out p op]; exact upd_same
  split at hk5
  · rename_i q df e1 e2
    have hw := S5.view rr4' e1
    cases hw
    have hv := kvs_val (k := q) (ks := ks) (DqAll_same (w3.trans st35.sh) dq)
    refine ⟨valV (kvsOf ks vs) (Sum.inr q : Key), .inl ⟨kvsOf ks vs, Sum.inr q, .inl hp5, rfl, rfl⟩, ?_⟩
    split at hk5
    · rename_i d e3
      cases hk5
      obtain ⟨y, ey, dy⟩ := hv.1 d e3
      rw [ey]
      exact fin_dat k.oks S5 le stf (Dq_same (hid_weak le) dy)
    · rename_i e3
      rw [hv.2 e3]
      split at hk5
      · rename_i az
        cases hk5
        exact fin_dat k.oks S5 le stf (atom_any (S5.view rr5 e2) az)
      · cases hk5
  · cases hk5
end
end XM
end
section
/-! for a, b in zip(a tuple, a list) -/
namespace Tl
open PySem PySem.Spec PyProof.Rows L2
end Tl
end
section
namespace XM
open PySem PySem.Spec PyProof.Rows L2 Tl
section
variable {X : Cx} {E : EK} {e a b c o e2 : Expr} {es : List Expr} {pos p : Pos} {B : Bs} {O O' : Ft} {A A' A1 : Al} {ρ ρ1 : Fr} {σ : L2.St} {H H' H1 : Hp}
/-! ### zip of a tuple and a list, both read by all from now on -/
def mZipTL (ma mb : M R) : M (List D) := bnd ma fun ra => bnd (toD ra) fun da => bnd mb fun rb => bnd (toD rb) fun db ρ => match da, db with
  | .tuple xs, .list ys => if xs.length = ys.length then some (.ok ((xs.zip ys).map fun p => .tuple [p.1, p.2]) ρ) else none
  | _, _ => none
end
end XM
end
section
namespace XM
open PySem PySem.Spec PyProof.Rows L2 Tl
section
variable {X : Cx} {E : EK} {e a b c o : Expr} {es : List Expr} {pos p : Pos} {B : List V} {O O' : Ft} {A A' A1 : Al} {ρ ρ1 : Fr} {σ : L2.St} {H H' H1 : Hp}
theorem dv (i : Nat) {x : Str} (hN : X.N[i]? = some x := by rfl) (hv : Vis X.env.scope x := by first | exact .inl rfl | exact .inr (.inl rfl) | exact .inr (.inr rfl)) (hd : (x == ("__debug__" : Str)) = false := by decide) (hcd : (x == ("__classdict__" : Str)) = false := by decide) : DE X E (.Name x pos) (mSlot i) := de_slot hN hv hd hcd
theorem dt_chain {op op' : CmpOp} {r r' : R2} {f g : D → D → Option D} {ma mb mc : M R} (ho : OpR X (compareOp op) r) (ho' : OpR X (compareOp op') r') (hf : OpA X.K r f) (hg : OpA X.K r' g) (ha : DE X E a ma) (hb : DE X E b mb) (hc : DE X E c mc)
    (hm : lastMarks [op, op'] [b, c] = false := by with_unfolding_all rfl) : DT X E (.Compare a [op, op'] [b, c] pos) (asB (mChain f g ma mb mc)) := by
  refine ⟨pt_imp (pt_chain ho ho' ha.pe hb.pe hc.pe hm) fun σ H Q h => ?_⟩
  have h' : tB (ERun X.K X.mg (mChain f g ma mb mc) E) σ H Q := run_tB h
  exact run_chain hf hg h'
theorem op_addA : OpR X (binaryOp .Add) (fun x y H Q => (rI0 fun i j => .int (i + j)) x y H Q ∨ ∃ i j, x = .str i ∧ y = .str j ∧ i.length + j.length ≤ sizeLine ∧ Q (.str (i ++ j)) H) := op_add.or op_add_str
theorem hu64 {k : Nat} {A : Around} (hr : Room k A) : A.units + 64 < cLine := by have := hr.un; omega
end
end XM
end
section
namespace XM
open PySem PySem.Spec PyProof.Rows L2 Tl
section
variable {X : Cx} {E : EK} {e a b c o : Expr} {es : List Expr} {pos p : Pos} {B : Bs} {O O' : Ft} {A A' A1 : Al} {ρ ρ1 : Fr} {σ : L2.St} {H H' H1 : Hp}
/-- the first place of a text -/
def idxS (z : Str) : List Str → Option Nat
  | [] => none
  | y :: r => if y = z then some 0 else (idxS z r).map (· + 1)
def mTIndex (ys : List Str) (me : M R) : M R := bnd me fun re ρ => match vw re ρ with
  | some (.str z) => match idxS z ys with
    | some j => some (.ok (.dat (.int (j : Nat))) ρ)
    | none => none
  | _ => none
end
end XM
namespace XM
open PySem PySem.Spec PyProof.Rows L2 Tl
section
variable {X : Cx} {E : EK} {e : Expr} {pos : Pos}
/-- xs[::-1] of a list -/
def mRev (m : M R) : M R := bnd m fun r ρ => (itsL r ρ).map fun l => .ok (.own (.dl l.reverse)) ρ
end
end XM
namespace XM
open PySem PySem.Spec PyProof.Rows L2 Tl
theorem hu1 {k : Nat} {A : Around} (hr : Room k A) : A.units + 1 < cLine := by have := hr.un; omega
end XM
namespace XM
open PySem PySem.Spec PyProof.Rows L2 Tl
section
variable {P : Program} {w : World} {K : PySem.W.Frag} {mg : Str → Option Value} {mm : Mg} {base : Heap} {x : Str} {st : Stmt} {N ps : List Str} {k n j : Nat} {m : SM}
theorem fn0n (D : Dn K mg x st ps) (S : FnScope N ps (defScope st)) (hl : ps.length ≤ N.length) (hn : N.length = n) (hj : ps.length = j)
    (hb : ∀ (f : Addr) (cdv : Value) (A : Around) (outer : List Env) (s : Shared) (H : Hp) (E : XK), Quiet (A.deeper (envOfC x (defScope st) s.heap.objs.size f cdv)) → Room k (A.deeper (envOfC x (defScope st) s.heap.objs.size f cdv)) → DSs (cxOf CX0 P w K mg base N x (defScope st) f cdv A outer s H E).nox (fun _ _ _ _ => False) (defBody st) m) :
    PrG P w K mg base CX0 (k + 1) x ps (sp0 K mg j (mDef n m)) := by
  subst hn hj
  exact fn0 D S hl hb
end
end XM
end
section
/-! lists that stay with their owner while they are walked -/
namespace XM
open PySem PySem.Spec PyProof.Rows L2 Tl
def ownL (r : R) (ρ : Fr) : Option (Nat × Nat) := match r with
  | .ref n => match ρ.rt[n]? with
    | some ⟨.dl l, _⟩ => some (n, l.length)
    | _ => none
  | _ => none
def curO (n tot i : Nat) (ρ : Fr) : Option D := match ρ.rt[n]? with
  | some ⟨.dl l, _⟩ => if l.length = tot then l[i]? else none
  | _ => none
def endO (n tot : Nat) (ρ : Fr) : Bool := match ρ.rt[n]? with
  | some ⟨.dl l, _⟩ => decide (l.length = tot)
  | _ => false
end XM
namespace XM
open PySem PySem.Spec PyProof.Rows L2 Tl
section
variable {K : PySem.W.Frag} {mg : Str → Option Value} {mm : Mg} {B B' : Bs} {O O' F : Ft} {A A' A1 : Al} {ρ ρ1 : Fr} {σ σ1 : L2.St} {H H' H1 : Hp} {E : EK}
/-- the list at a root, as it stands -/
theorem StC.dlAt (S : StC K mg B O A ρ σ H) {n : Nat} {l : List D} {pr : Option (Nat × Pl)} {a : Addr} (hx : ρ.rt[n]? = some ⟨.dl l, pr⟩) (ha : XM.al A n = some (.ref a)) : ∃ vs, H a = some (.lst vs) ∧ DqAll K (hid (tot O A) H) vs l := by
  obtain ⟨F, _, ht⟩ := S.root hx ha
  cases ht with
  | dl h r => exact ⟨_, h, r⟩
theorem curO_some {n k i : Nat} {d : D} (h : curO n k i ρ = some d) : ∃ l pr, ρ.rt[n]? = some ⟨.dl l, pr⟩ ∧ l.length = k ∧ l[i]? = some d := by
  unfold curO at h
  split at h
  · rename_i l pr e
    split at h
    · rename_i q; exact ⟨l, pr, e, q, h⟩
    · cases h
  · cases h
theorem endO_true {n k : Nat} (h : endO n k ρ = true) : ∃ l pr, ρ.rt[n]? = some ⟨.dl l, pr⟩ ∧ l.length = k := by
  unfold endO at h
  split at h
  · rename_i l pr e; exact ⟨l, pr, e, of_decide_eq_true h⟩
  · cases h
/-- all roots so far are pinned -/
def pin (ρ : Fr) : Fr := { ρ with np := ρ.rt.length }
def unpin (n : Nat) (ρ : Fr) : Fr := { ρ with np := n }
theorem StC.pin (S : StC K mg B O A ρ σ H) : StC K mg ⟨A.map (·.1), B.η⟩ O A (XM.pin ρ) σ H :=
  ⟨S.le1, S.al, S.len, S.rts, S.par, S.parL, fun r v h => by unfold XM.al; rw [List.getElem?_map] at h; exact h, by rw [List.length_map]; exact S.len, S.slen, S.sls⟩
theorem StC.unpin {L : List V} (S : StC K mg ⟨L, B.η⟩ O A ρ σ H) (h : ∀ (r : Nat) (v : V), B.l[r]? = some v → L[r]? = some v) : StC K mg B O A (XM.unpin B.l.length ρ) σ H :=
  ⟨S.le1, S.al, S.len, S.rts, S.par, S.parL, fun r v q => S.bas r v (h r v q), rfl, S.slen, S.sls⟩
/-- a list that may change its items but not their number -/
theorem walk_own {a : Addr} {n : Nat} : Walk (Itl K a) n (fun H => ∃ vs, H a = some (.lst vs) ∧ vs.length = n) (fun i H x H' => H' = H ∧ ∃ vs, H a = some (.lst vs) ∧ vs[i]? = some x) where
  goes := fun i H hi h => by
    obtain ⟨vs, e, l⟩ := h
    exact ⟨vs, vs[i], .of e, List.getElem?_eq_getElem (by omega)⟩
  stops := fun H h => by
    obtain ⟨vs, e, l⟩ := h
    exact ⟨vs, .of e, by omega⟩
  yields := fun i H x H' hi h y => by
    obtain ⟨vs, e, l⟩ := h
    exact ⟨y.1, vs, e, y.2 vs (.of e)⟩
end
def unpinO (n : Nat) : SO → SO
  | .nx ρ => .nx (unpin n ρ)
  | .ct ρ => .ct (unpin n ρ)
  | .bk ρ => .bk (unpin n ρ)
  | .rt r ρ => .rt r (unpin n ρ)
  | .ex c ρ => .ex c (unpin n ρ)
def forO (b : D → Fr → Option Fr) (m : SM) (n k : Nat) : Nat → SM
  | 0, ρ => if endO n k ρ = true then some (.nx ρ) else none
  | j + 1, ρ => match curO n k (k - (j + 1)) ρ with
    | none => none
    | some d => match b d ρ with
      | none => none
      | some ρ1 => match m ρ1 with
        | some (.nx ρ2) => forO b m n k j ρ2
        | some (.ct ρ2) => forO b m n k j ρ2
        | some (.bk ρ2) => some (.nx ρ2)
        | o => o
def lcO (n k : Nat) (vs : List Nat) (b : D → Fr → Option Fr) (mt : M Bool) (me : M R) (sl : List Sl) : Nat → List D → Fr → Option (List D × Fr)
  | 0, acc, ρ => if endO n k ρ = true then some (acc, { ρ with sl := sl }) else none
  | j + 1, acc, ρ => match curO n k (k - (j + 1)) ρ with
    | none => none
    | some d => match b d { ρ with sl := wipeS sl vs } with
      | none => none
      | some ρ1 => match mt ρ1 with
        | some (.ok true ρ2) => match me ρ2 with
          | some (.ok r ρ3) => match toD r ρ3 with
            | some (.ok z ρ4) => if acc.length < 1000000 then lcO n k vs b mt me sl j (acc ++ [z]) ρ4 else none
            | _ => none
          | _ => none
        | some (.ok false ρ2) => lcO n k vs b mt me sl j acc ρ2
        | _ => none
def mLcO (vs : List Nat) (ms : M R) (b : D → Fr → Option Fr) (mt : M Bool) (me : M R) : M R := bnd ms fun r ρ => match ownL r ρ with
  | some p => (lcO p.1 p.2 vs b mt me ρ.sl p.2 [] ρ).map fun p => .ok (.own (.dl p.1)) p.2
  | none => bnd (seqD r) (fun l ρ => (lcL vs b mt me ρ.sl l [] ρ).map fun p => .ok (.own (.dl p.1)) p.2) ρ
def mForO (me : M R) (b : D → Fr → Option Fr) (m : SM) : SM := sBnd me fun r ρ => match ownL r ρ with
  | some p => (forO b m p.1 p.2 p.2 (pin ρ)).map (unpinO ρ.np)
  | none => sBnd (seqD r) (fun l => forL b m l) ρ
end XM
namespace XM
open PySem PySem.Spec PyProof.Rows L2 Tl
section
variable {X : Cx} {E : EK} {e elt tg iter : Expr} {ifs : List Expr} {pos : Pos} {scope : Scope} {own : List (Str × Nat)} {ws : List Nat} {b : D → Fr → Option Fr} {mt : M Bool} {me : M R} {m : SM} {B : Bs} {O : Ft} {A1 : Al} {ρ1 : Fr} {σ : L2.St} {H1 : Hp} {D : Ends} {out : SO}
/-- the rest of a walk -/
def ForW (K : PySem.W.Frag) (mg : Str → Option Value) (J : It) (ws : List Nat) (b : XM.D → Fr → Option Fr) (m : SM) (E : EK) (D : Ends) (σ : L2.St) (H1 : Hp) : Prop := ∃ W : Nat → Nat → L2.St → Hp → Prop, (∃ m, W 0 m σ H1) ∧ ∀ i n σ H, W i n σ H →
  (J.stop i H ∧ D.nx σ H) ∨ (J.go i H ∧ ∃ N : L2.St → Hp → Prop, (∀ σ' H', N σ' H' → ∃ m', m' < n ∧ W (i + 1) m' σ' H') ∧ ∀ x H', J.yld i H x H' → GRun K mg ws b x σ H' fun σ2 H2 => SRun K mg m E { D with nx := N, ct := N, bk := D.nx } σ2 H2)
theorem for_core {J : It} {l : List XM.D} (S1 : StC X.K X.mg B O A1 ρ1 σ H1) (it : ItOk X.K (hid (tot O A1) H1) J l) (hm : forL b m l ρ1 = some out) (kk : AftS X.K X.mg B O A1 H1 E D out) : ForW X.K X.mg J ws b m E D σ H1 := by
  obtain ⟨Gd, Y, wk, gd, yl⟩ := it
  refine for_it wk (fun i σ' H' => ∃ A' ρ', StC X.K X.mg B O A' ρ' σ' H' ∧ Sto O A1 H1 O A' H' ∧ forL b m (l.drop i) ρ' = some out) ⟨A1, ρ1, S1, Sto.refl, hm⟩ (fun i σ' H' _ z => ?_) (fun i x σ' H' H2 hi z y => ?_) fun σ' H' z => ?_
  · obtain ⟨A', ρ', _, st, _⟩ := z
    exact gd H' (st.sh.trans hid_sub)
  · obtain ⟨A', ρ', S', st, hf⟩ := z
    obtain ⟨d, ed, S2, st2, dq⟩ := S'.yield st.sh (yl i H' x H2 hi y)
    have eq : l.drop i = d :: l.drop (i + 1) := by
      obtain ⟨h1, h2⟩ := List.getElem?_eq_some_iff.mp ed
      rw [← h2]; exact List.drop_eq_getElem_cons h1
    rw [eq] at hf
    unfold forL at hf
    split at hf
    · cases hf
    · rename_i ρ2 eb
      refine ⟨B, O, A', ρ', ρ2, d, S2, dq, eb, fun σ3 _ S3 => ?_⟩
      have st3 : Sto O A1 H1 O A' H2 := st.trans st2.toSto fun _ n => n
      have later : ∀ {P : L2.St → Hp → Prop} {ρ3 : Fr}, forL b m (l.drop (i + 1)) ρ3 = some out → (∀ σ4 H4 A4, StC X.K X.mg B O A4 ρ3 σ4 H4 → Sto O A' H2 O A4 H4 → ∃ A5 ρ5, StC X.K X.mg B O A5 ρ5 σ4 H4 ∧ Sto O A1 H1 O A5 H4 ∧ forL b m (l.drop (i + 1)) ρ5 = some out) := fun hf σ4 H4 A4 S4 st4 => ⟨A4, _, S4, st3.trans st4 fun _ n => n, hf⟩
      cases em : m ρ2 with
      | none => rw [em] at hf; cases hf
      | some o =>
        rw [em] at hf
        refine ⟨B, O, A', ρ2, o, S3, em, ?_⟩
        cases o with
        | nx ρ3 => exact fun σ4 H4 A4 S4 st4 => later (P := fun _ _ => True) hf σ4 H4 A4 S4 st4
        | ct ρ3 => exact fun σ4 H4 A4 S4 st4 => later (P := fun _ _ => True) hf σ4 H4 A4 S4 st4
        | bk ρ3 =>
          cases hf
          exact fun σ4 H4 A4 S4 st4 => kk σ4 H4 A4 S4 (st3.trans st4 fun _ n => n)
        | rt r ρ3 =>
          cases hf
          exact fun σ4 v H4 A4 F4 S4 rr st4 => kk σ4 v H4 A4 F4 S4 rr (st3.trans st4 fun _ n => n)
        | ex c ρ3 =>
          cases hf
          exact fun C σ4 H4 A4 hc S4 st4 => kk C σ4 H4 A4 hc S4 (st3.trans st4 fun _ n => n)
  · obtain ⟨A', ρ', S', st, hf⟩ := z
    rw [List.drop_length] at hf
    cases hf
    exact kk σ' H' A' S' st
theorem forO_core {n k : Nat} {a : Addr} (S1 : StC X.K X.mg B O A1 ρ1 σ H1) (hB : B.l[n]? = some (.ref a)) (hm : forO b m n k k ρ1 = some out) (kk : AftS X.K X.mg B O A1 H1 E D out) : ForW X.K X.mg (Itl X.K a) ws b m E D σ H1 := by
  have at' : ∀ {A' : Al} {ρ' : Fr} {σ' : L2.St} {H' : Hp} {l : List XM.D} {pr : Option (Nat × Pl)}, StC X.K X.mg B O A' ρ' σ' H' → ρ'.rt[n]? = some ⟨.dl l, pr⟩ → ∃ vs, H' a = some (.lst vs) ∧ DqAll X.K (hid (tot O A') H') vs l := fun S' hx => S'.dlAt hx (S'.bas _ _ hB)
  refine for_it (walk_own (K := X.K) (a := a) (n := k)) (fun i σ' H' => ∃ A' ρ', StC X.K X.mg B O A' ρ' σ' H' ∧ Sto O A1 H1 O A' H' ∧ forO b m n k (k - i) ρ' = some out) ⟨A1, ρ1, S1, Sto.refl, hm⟩ (fun i σ' H' _ z => ?_) (fun i x σ' H' H2 hi z y => ?_) fun σ' H' z => ?_
  · obtain ⟨A', ρ', S', st, hf⟩ := z
    have : ∃ l pr, ρ'.rt[n]? = some ⟨.dl l, pr⟩ ∧ l.length = k := by
      cases hk : k - i with
      | zero =>
        rw [hk] at hf
        unfold forO at hf
        split at hf
        · rename_i c; exact endO_true c
        · cases hf
      | succ j =>
        rw [hk] at hf
        unfold forO at hf
        split at hf
        · cases hf
        · rename_i d ed
          obtain ⟨l, pr, h1, h2, _⟩ := curO_some ed
          exact ⟨l, pr, h1, h2⟩
    obtain ⟨l, pr, h1, h2⟩ := this
    obtain ⟨vs, h3, h4⟩ := at' S' h1
    exact ⟨vs, h3, by rw [DqAll_len h4]; exact h2⟩
  · obtain ⟨A', ρ', S', st, hf⟩ := z
    obtain ⟨rfl, vs, hv, hx⟩ := y
    have hk : k - i = (k - (i + 1)) + 1 := by omega
    rw [hk] at hf
    unfold forO at hf
    rw [show k - (k - (i + 1) + 1) = i by omega] at hf
    split at hf
    · cases hf
    · rename_i d ed
      obtain ⟨l, pr, h1, h2, h3⟩ := curO_some ed
      obtain ⟨vs', hv', dqs⟩ := at' S' h1
      rw [hv] at hv'
      cases hv'
      obtain ⟨v, ev, dq⟩ := DqAll_at dqs h3
      rw [hx] at ev
      cases ev
      split at hf
      · cases hf
      · rename_i ρ2 eb
        refine ⟨B, O, A', ρ', ρ2, d, S', dq, eb, fun σ3 _ S3 => ?_⟩
        have later : ∀ {ρ3 : Fr}, forO b m n k (k - (i + 1)) ρ3 = some out → (∀ σ4 H4 A4, StC X.K X.mg B O A4 ρ3 σ4 H4 → Sto O A' H2 O A4 H4 → ∃ A5 ρ5, StC X.K X.mg B O A5 ρ5 σ4 H4 ∧ Sto O A1 H1 O A5 H4 ∧ forO b m n k (k - (i + 1)) ρ5 = some out) := fun hf σ4 H4 A4 S4 st4 => ⟨A4, _, S4, st.trans st4 fun _ n => n, hf⟩
        cases em : m ρ2 with
        | none => rw [em] at hf; cases hf
        | some o =>
          rw [em] at hf
          refine ⟨B, O, A', ρ2, o, S3, em, ?_⟩
          cases o with
          | nx ρ3 => exact fun σ4 H4 A4 S4 st4 => later hf σ4 H4 A4 S4 st4
          | ct ρ3 => exact fun σ4 H4 A4 S4 st4 => later hf σ4 H4 A4 S4 st4
          | bk ρ3 =>
            cases hf
            exact fun σ4 H4 A4 S4 st4 => kk σ4 H4 A4 S4 (st.trans st4 fun _ n => n)
          | rt r ρ3 =>
            cases hf
            exact fun σ4 v H4 A4 F4 S4 rr st4 => kk σ4 v H4 A4 F4 S4 rr (st.trans st4 fun _ n => n)
          | ex c ρ3 =>
            cases hf
            exact fun C σ4 H4 A4 hc S4 st4 => kk C σ4 H4 A4 hc S4 (st.trans st4 fun _ n => n)
  · obtain ⟨A', ρ', S', st, hf⟩ := z
    rw [Nat.sub_self] at hf
    unfold forO at hf
    split at hf
    · cases hf
      exact kk σ' H' A' S' st
    · cases hf
theorem AftS.unpin {L : List V} {A : Al} {H : Hp} {out : SO} (h : ∀ (r : Nat) (v : V), B.l[r]? = some v → L[r]? = some v) (kk : AftS X.K X.mg B O A H E D (unpinO B.l.length out)) : AftS X.K X.mg ⟨L, B.η⟩ O A H E D out := by
  cases out with
  | nx ρ' => exact fun σ4 H4 A4 S4 st4 => kk σ4 H4 A4 (S4.unpin h) st4
  | ct ρ' => exact fun σ4 H4 A4 S4 st4 => kk σ4 H4 A4 (S4.unpin h) st4
  | bk ρ' => exact fun σ4 H4 A4 S4 st4 => kk σ4 H4 A4 (S4.unpin h) st4
  | rt r ρ' => exact fun σ4 v H4 A4 F4 S4 rr st4 => kk σ4 v H4 A4 F4 (S4.unpin h) rr st4
  | ex c ρ' => exact fun C σ4 H4 A4 hc S4 st4 => kk C σ4 H4 A4 hc (S4.unpin h) st4
theorem ownL_some {r : R} {ρ : Fr} {p : Nat × Nat} (h : ownL r ρ = some p) : ∃ l pr, r = .ref p.1 ∧ ρ.rt[p.1]? = some ⟨.dl l, pr⟩ ∧ l.length = p.2 := by
  unfold ownL at h
  split at h
  · rename_i n
    split at h
    · rename_i l pr e
      cases h
      exact ⟨l, pr, rfl, e, rfl⟩
    · cases h
  · cases h
/-- for tg in a list or a tuple; a list of one's own stays one's own -/
theorem ds_forO {body : List Stmt} (hp : PassesOwn (model X.prog X.w) X.A X.env X.xe) (hc : X.calm = true) (he : DE X E iter me) (hg : DG X tg ws b) (hb : DSs X E body m)
    (hs : ∀ x, foldedSetIterable iter X.env x = pure x := by intro _; rfl) : DS X E (.For tg iter body [] pos) (mForO me b m) := by
  refine ⟨ps_imp (ps_for hp hc (pi_seq he.pe) hg.pg hb.pss hs) fun D σ H h => ?_⟩
  obtain ⟨B, O, A, ρ, out, S, hm, kk⟩ := h
  unfold mForO sBnd at hm
  split at hm
  · cases hm
  · rename_i c' ρ1 e
    cases hm
    exact ⟨B, O, A, ρ, _, S, e, fun C H' A' hc S' st => kk C σ H' A' hc S' st⟩
  · rename_i r ρ1 e
    refine ⟨B, O, A, ρ, _, S, e, fun v H1 A1 F S1 rr st1 => ?_⟩
    dsimp only at hm
    split at hm
    · rename_i p ep
      obtain ⟨l, pr, rfl, hx, hl⟩ := ownL_some ep
      obtain ⟨rfl, ha⟩ := rr
      rw [add_zer] at S1 st1
      obtain ⟨F1, hA, ht⟩ := S1.root hx ha
      cases ht with
      | dl h1 r1 =>
      rename_i a vs
      refine ⟨a, rfl, .inl ⟨⟨vs, .of h1⟩, ?_⟩⟩
      cases ho : forO b m p.1 p.2 p.2 (pin ρ1) with
      | none => rw [ho] at hm; cases hm
      | some o =>
      rw [ho] at hm
      have hm := Option.some.inj hm
      subst hm
      have hB : (A1.map (·.1))[p.1]? = some (V.ref a) := by rw [List.getElem?_map, hA]; rfl
      have up : ∀ (r : Nat) (v : V), B.l[r]? = some v → (A1.map (·.1))[r]? = some v := fun r v h => by
        have := S1.bas r v h
        unfold XM.al at this
        rw [List.getElem?_map]
        exact this
      have en : B.l.length = ρ1.np := S1.bnp
      rw [← en] at kk
      exact forO_core (E := E) S1.pin hB ho (AftS.unpin up (kk.later st1.toSto))
    · rcases hq : seqD r ρ1 with _ | o
      · rw [hq] at hm; cases hm
      · obtain ⟨l, ρ', A', a, vs, rfl, rfl, S', sq, dq, st⟩ := seq_ok S1 rr hq
        rw [hq] at hm
        have st' := st1.trans st fun a n => add_l n
        rcases sq with sq | sq
        · exact ⟨a, rfl, .inl ⟨⟨vs, (show Same _ H1 from hid_sub).seq sq⟩, for_core (E := E) S' (it_list sq dq) hm (kk.later st'.toSto)⟩⟩
        · exact ⟨a, rfl, .inr ⟨⟨vs, Tl.Same.tup hid_sub sq⟩, for_core (E := E) S' (it_tup sq dq) hm (kk.later st'.toSto)⟩⟩
end
end XM
namespace XM
open PySem PySem.Spec PyProof.Rows L2 Tl
section
variable {X : Cx} {E : EK} {e elt tg iter : Expr} {ifs : List Expr} {pos : Pos} {scope : Scope} {own : List (Str × Nat)} {ws vs : List Nat} {b : XM.D → Fr → Option Fr} {mt : M Bool} {me : M R} {B : Bs} {O : Ft} {A1 : Al} {ρ1 : Fr} {σ : L2.St} {H1 : Hp} {Q : VK} {p : List XM.D × Fr}
def LcW (K : PySem.W.Frag) (mg : Str → Option Value) (J : It) (ws vs : List Nat) (b : XM.D → Fr → Option Fr) (mt : M Bool) (me : M R) (σ : L2.St) (H1 : Hp) (D : Addr) (Qd : Hp → Prop) : Prop := ∃ W : Nat → Nat → Hp → Prop, (∃ m, W 0 m (upd H1 D (.lst []))) ∧ ∀ i m H, W i m H →
  (J.stop i H ∧ Qd H) ∨ (J.go i H ∧ ∃ Nx : Hp → Prop, (∀ H', Nx H' → ∃ m', m' < m ∧ W (i + 1) m' H') ∧ ∀ x H', J.yld i H x H' → GRun K mg ws b x (wipe σ vs) H' fun σ2 H2 => wipe σ2 vs = wipe σ vs ∧ TRun K mg mt EF σ2 H2 fun b H3 =>
    if b = true then ERun K mg me EF σ2 H3 fun y H4 => ∃ acc, H4 D = some (.lst acc) ∧ acc.length < sizeLine ∧ Nx (upd H4 D (.lst (acc ++ [y]))) else Nx H3)
theorem lc_core {J : It} {l : List XM.D} {D : Addr} {Qd : Hp → Prop} (hw : ∀ w ∈ ws, w ∈ vs) (S1 : StC X.K X.mg B O A1 ρ1 σ H1) (it : ItOk X.K (hid (tot O A1) H1) J l) (nD : H1 D = none) (hp : lcL vs b mt me ρ1.sl l [] ρ1 = some p)
    (fin : ∀ (A' : Al) (ρ' : Fr) (acc : List XM.D) (xs : List V) (H' : Hp), StC X.K X.mg B (add O (one D)) A' { ρ' with sl := ρ1.sl } σ H' → Stp O A1 H1 (add O (one D)) A' H' → H' D = some (.lst xs) → DqAll X.K (hid (tot (add O (one D)) A') H') xs acc → p = (acc, { ρ' with sl := ρ1.sl }) → Qd H') :
    LcW X.K X.mg J ws vs b mt me σ H1 D Qd := by
  obtain ⟨Gd, Y, wk, gd, yl⟩ := it
  obtain ⟨S2, st2⟩ := S1.newO (o := .lst []) nD
  have free : tot O A1 D = 0 := S1.free nD
  refine lc_it wk (Qd := Qd) (fun i H' => ∃ A' ρ' acc xs, StC X.K X.mg B (add O (one D)) A' { ρ' with sl := ρ1.sl } σ H' ∧ Stp O A1 H1 (add O (one D)) A' H' ∧ H' D = some (.lst xs) ∧ DqAll X.K (hid (tot (add O (one D)) A') H') xs acc ∧ lcL vs b mt me ρ1.sl (l.drop i) acc ρ' = some p)
    ⟨A1, ρ1, [], [], S2, st2, upd_same, .nil, hp⟩ (fun i H' _ z => ?_) (fun i x H' H2 hi z y => ?_) fun H' z => ?_
  · obtain ⟨A', ρ', acc, xs, S', st', _⟩ := z
    exact gd H' (st'.sh.trans hid_sub)
  · obtain ⟨A', ρ', acc, xs, S', st', hD, dq, hl⟩ := z
    obtain ⟨d, ed, S3, st3, dx⟩ := S'.yield st'.sh (yl i H' x H2 hi y)
    have eq : l.drop i = d :: l.drop (i + 1) := by
      obtain ⟨h1, h2⟩ := List.getElem?_eq_some_iff.mp ed
      rw [← h2]; exact List.drop_eq_getElem_cons h1
    rw [eq] at hl
    unfold lcL at hl
    have oD : add O (one D) D ≠ 0 := by unfold add; rw [one_self]; omega
    have st13 := st'.trans st3 fun a n => add_l n
    split at hl
    · cases hl
    · rename_i ρ2 eb
      refine ⟨B, add O (one D), A', _, ρ2, d, S3.wiped vs, dx, eb, fun σ3 o3 S4 => ⟨(o3 vs hw).trans wipe_wipe, ?_⟩⟩
      split at hl
      · rename_i ρ3 et
        refine ⟨B, add O (one D), A', ρ2, _, S4, et, fun H5 A5 S5 st5 => ?_⟩
        dsimp only
        rw [if_pos rfl]
        split at hl
        · rename_i r ρ4 ee
          refine ⟨B, add O (one D), A5, ρ3, _, S5, ee, fun v H6 A6 F6 S6 rr st6 => ?_⟩
          split at hl
          · rename_i zz ρ5 ez
            split at hl
            · rename_i sm
              obtain ⟨d', ρ5', A7, eo, S7, dz, st7⟩ := give S6 rr ez
              cases eo
              have st37 : Stp (add O (one D)) A' H2 (add O (one D)) A7 H6 := (st5.trans st6 fun _ n => n).trans ⟨⟨fun _ _ => rfl, st7.sh⟩, st7.al⟩ fun a n => add_l n
              have hD6 : H6 D = some (.lst xs) := by rw [st37.out D oD, st3.out D oD]; exact hD
              have dq6 : DqAll X.K (hid (tot (add O (one D)) A7) H6) xs acc := DqAll_same (st3.sh.trans st37.sh) dq
              have zD : sumF A7 D = 0 := by have := S7.le1 D; unfold tot add at this; rw [one_self] at this; omega
              have S8 := S3.reslot S7 st37
              have pD : tot (add O (one D)) A7 D ≠ 0 := by unfold tot; exact add_l oD
              have w8 : Same (hid (tot (add O (one D)) A7) H6) (hid (tot (add O (one D)) A7) (upd H6 D (.lst (xs ++ [v])))) := fun a u h => by
                obtain ⟨q, h⟩ := hid_some h
                exact hid_at q (by rw [upd_ne fun z => pD (by rw [z] at q; exact q)]; exact h)
              have S9 : StC X.K X.mg B (add O (one D)) A7 { ρ5 with sl := ρ1.sl } σ (upd H6 D (.lst (xs ++ [v]))) := S8.move w8 (fun a n => upd_ne fun z => n (by rw [z]; exact zD)) S8.le1 fun a n => by
                by_cases q : a = D
                · rw [q, upd_same]; simp
                · rw [upd_ne q]; exact S8.al a n
              refine ⟨xs, hD6, by rw [DqAll_len dq, sizeLine_eq]; omega, A7, ρ5, acc ++ [zz], xs ++ [v], S9, ⟨⟨fun a n => ?_, ?_⟩, fun r u q => st37.al r u (st13.al r u q)⟩, upd_same, DqAll_same w8 (DqAll_app dq6 (.cons dz .nil)), hl⟩
              · have ne : a ≠ D := fun z => by rw [z] at n; unfold tot add at free; omega
                rw [upd_ne ne, st37.out a (add_l n)]
                exact st13.out a n
              · exact (st13.sh.trans st37.sh).trans w8
            · cases hl
          · cases hl
        · cases hl
      · rename_i ρ3 et
        refine ⟨B, add O (one D), A', ρ2, _, S4, et, fun H5 A5 S5 st5 => ?_⟩
        dsimp only
        rw [if_neg (by decide)]
        have st35 : Stp (add O (one D)) A' H2 (add O (one D)) A5 H5 := st5
        exact ⟨A5, ρ3, acc, xs, S3.reslot S5 st35, st13.trans st5 fun a n => add_l n, by rw [st5.out D oD, st3.out D oD]; exact hD, DqAll_same (st3.sh.trans st5.sh) dq, hl⟩
      · cases hl
  · obtain ⟨A', ρ', acc, xs, S', st', hD, dq, hl⟩ := z
    rw [List.drop_length] at hl
    cases hl
    exact fin A' ρ' _ xs H' S' st' hD dq rfl
theorem lcO_core {n k : Nat} {a : Addr} {D : Addr} {Qd : Hp → Prop} (hw : ∀ w ∈ ws, w ∈ vs) (S1 : StC X.K X.mg B O A1 ρ1 σ H1) (ha : XM.al A1 n = some (.ref a)) (nD : H1 D = none) (hp : lcO n k vs b mt me ρ1.sl k [] ρ1 = some p)
    (fin : ∀ (A' : Al) (ρ' : Fr) (acc : List XM.D) (xs : List V) (H' : Hp), StC X.K X.mg B (add O (one D)) A' { ρ' with sl := ρ1.sl } σ H' → Stp O A1 H1 (add O (one D)) A' H' → H' D = some (.lst xs) → DqAll X.K (hid (tot (add O (one D)) A') H') xs acc → p = (acc, { ρ' with sl := ρ1.sl }) → Qd H') :
    LcW X.K X.mg (Itl X.K a) ws vs b mt me σ H1 D Qd := by
  have at' : ∀ {A' : Al} {ρ' : Fr} {H' : Hp} {l : List XM.D} {pr : Option (Nat × Pl)} {sl : List Sl}, StC X.K X.mg B (add O (one D)) A' { ρ' with sl := sl } σ H' → Stp O A1 H1 (add O (one D)) A' H' → ρ'.rt[n]? = some ⟨.dl l, pr⟩ → ∃ ys, H' a = some (.lst ys) ∧ DqAll X.K (hid (tot (add O (one D)) A') H') ys l := fun S' st hx => S'.dlAt hx (st.al _ _ ha)
  obtain ⟨S2, st2⟩ := S1.newO (o := .lst []) nD
  have free : tot O A1 D = 0 := S1.free nD
  refine lc_it (walk_own (K := X.K) (a := a) (n := k)) (Qd := Qd) (fun i H' => ∃ A' ρ' acc xs, StC X.K X.mg B (add O (one D)) A' { ρ' with sl := ρ1.sl } σ H' ∧ Stp O A1 H1 (add O (one D)) A' H' ∧ H' D = some (.lst xs) ∧ DqAll X.K (hid (tot (add O (one D)) A') H') xs acc ∧ lcO n k vs b mt me ρ1.sl (k - i) acc ρ' = some p)
    ⟨A1, ρ1, [], [], S2, st2, upd_same, .nil, hp⟩ (fun i H' _ z => ?_) (fun i x H' H2 hi z y => ?_) fun H' z => ?_
  · obtain ⟨A', ρ', acc, xs, S', st', _, _, hl⟩ := z
    have : ∃ l pr, ρ'.rt[n]? = some ⟨.dl l, pr⟩ ∧ l.length = k := by
      cases hk : k - i with
      | zero =>
        rw [hk] at hl
        unfold lcO at hl
        split at hl
        · rename_i c; exact endO_true c
        · cases hl
      | succ j =>
        rw [hk] at hl
        unfold lcO at hl
        split at hl
        · cases hl
        · rename_i d ed
          obtain ⟨l, pr, h1, h2, _⟩ := curO_some ed
          exact ⟨l, pr, h1, h2⟩
    obtain ⟨l, pr, h1, h2⟩ := this
    obtain ⟨ys, h3, h4⟩ := at' S' st' h1
    exact ⟨ys, h3, by rw [DqAll_len h4]; exact h2⟩
  · obtain ⟨A', ρ', acc, xs, S', st', hD, dq, hl⟩ := z
    obtain ⟨rfl, ys, hv, hx⟩ := y
    have hk : k - i = (k - (i + 1)) + 1 := by omega
    rw [hk] at hl
    unfold lcO at hl
    rw [show k - (k - (i + 1) + 1) = i by omega] at hl
    split at hl
    · cases hl
    rename_i d ed
    obtain ⟨l, pr, h1, h2, h3⟩ := curO_some ed
    obtain ⟨ys', hv', dqs⟩ := at' S' st' h1
    rw [hv] at hv'
    cases hv'
    obtain ⟨v0, ev, dx⟩ := DqAll_at dqs h3
    rw [hx] at ev
    cases ev
    have S3 := S'
    have st3 : Stp (add O (one D)) A' H2 (add O (one D)) A' H2 := Stp.refl
    have oD : add O (one D) D ≠ 0 := by unfold add; rw [one_self]; omega
    have st13 := st'.trans st3 fun a n => add_l n
    split at hl
    · cases hl
    · rename_i ρ2 eb
      refine ⟨B, add O (one D), A', _, ρ2, d, S3.wiped vs, dx, eb, fun σ3 o3 S4 => ⟨(o3 vs hw).trans wipe_wipe, ?_⟩⟩
      split at hl
      · rename_i ρ3 et
        refine ⟨B, add O (one D), A', ρ2, _, S4, et, fun H5 A5 S5 st5 => ?_⟩
        dsimp only
        rw [if_pos rfl]
        split at hl
        · rename_i r ρ4 ee
          refine ⟨B, add O (one D), A5, ρ3, _, S5, ee, fun v H6 A6 F6 S6 rr st6 => ?_⟩
          split at hl
          · rename_i zz ρ5 ez
            split at hl
            · rename_i sm
              obtain ⟨d', ρ5', A7, eo, S7, dz, st7⟩ := give S6 rr ez
              cases eo
              have st37 : Stp (add O (one D)) A' H2 (add O (one D)) A7 H6 := (st5.trans st6 fun _ n => n).trans ⟨⟨fun _ _ => rfl, st7.sh⟩, st7.al⟩ fun a n => add_l n
              have hD6 : H6 D = some (.lst xs) := by rw [st37.out D oD, st3.out D oD]; exact hD
              have dq6 : DqAll X.K (hid (tot (add O (one D)) A7) H6) xs acc := DqAll_same (st3.sh.trans st37.sh) dq
              have zD : sumF A7 D = 0 := by have := S7.le1 D; unfold tot add at this; rw [one_self] at this; omega
              have S8 := S3.reslot S7 st37
              have pD : tot (add O (one D)) A7 D ≠ 0 := by unfold tot; exact add_l oD
              have w8 : Same (hid (tot (add O (one D)) A7) H6) (hid (tot (add O (one D)) A7) (upd H6 D (.lst (xs ++ [v])))) := fun a u h => by
                obtain ⟨q, h⟩ := hid_some h
                exact hid_at q (by rw [upd_ne fun z => pD (by rw [z] at q; exact q)]; exact h)
              have S9 : StC X.K X.mg B (add O (one D)) A7 { ρ5 with sl := ρ1.sl } σ (upd H6 D (.lst (xs ++ [v]))) := S8.move w8 (fun a n => upd_ne fun z => n (by rw [z]; exact zD)) S8.le1 fun a n => by
                by_cases q : a = D
                · rw [q, upd_same]; simp
                · rw [upd_ne q]; exact S8.al a n
              refine ⟨xs, hD6, by rw [DqAll_len dq, sizeLine_eq]; omega, A7, ρ5, acc ++ [zz], xs ++ [v], S9, ⟨⟨fun a n => ?_, ?_⟩, fun r u q => st37.al r u (st13.al r u q)⟩, upd_same, DqAll_same w8 (DqAll_app dq6 (.cons dz .nil)), hl⟩
              · have ne : a ≠ D := fun z => by rw [z] at n; unfold tot add at free; omega
                rw [upd_ne ne, st37.out a (add_l n)]
                exact st13.out a n
              · exact (st13.sh.trans st37.sh).trans w8
            · cases hl
          · cases hl
        · cases hl
      · rename_i ρ3 et
        refine ⟨B, add O (one D), A', ρ2, _, S4, et, fun H5 A5 S5 st5 => ?_⟩
        dsimp only
        rw [if_neg (by decide)]
        have st35 : Stp (add O (one D)) A' H2 (add O (one D)) A5 H5 := st5
        exact ⟨A5, ρ3, acc, xs, S3.reslot S5 st35, st13.trans st5 fun a n => add_l n, by rw [st5.out D oD, st3.out D oD]; exact hD, DqAll_same (st3.sh.trans st5.sh) dq, hl⟩
      · cases hl
  · obtain ⟨A', ρ', acc, xs, S', st', hD, dq, hl⟩ := z
    rw [Nat.sub_self] at hl
    unfold lcO at hl
    split at hl
    · cases hl
      exact fin A' ρ' _ xs H' S' st' hD dq rfl
    · cases hl
theorem run_lcO {H : Hp} {ms : M R} (hw : ∀ w ∈ ws, w ∈ vs) (h : ERun X.K X.mg (mLcO vs ms b mt me) E σ H Q) : tLc (iSeq X.K (ERun X.K X.mg ms E)) (GRun X.K X.mg ws b) (TRun X.K X.mg mt EF) (ERun X.K X.mg me EF) vs σ H Q := by
  obtain ⟨B, O, A, ρ, out, S, hm, k⟩ := h
  rcases bnd_some hm with ⟨c, ρ1, e, eo⟩ | ⟨r, ρ1, e, hk⟩
  · exact ⟨B, O, A, ρ, _, S, e, fun C H' A' hc S' st => k.exc c ρ1 eo C H' A' hc S' st⟩
  · refine ⟨B, O, A, ρ, _, S, e, fun v H1 A1 F S1 rr st1 => ?_⟩
    split at hk
    · rename_i q eq
      obtain ⟨l, pr, rfl, hx, hl⟩ := ownL_some eq
      obtain ⟨rfl, ha⟩ := rr
      rw [add_zer] at S1 st1
      obtain ⟨F1, hA, ht⟩ := S1.root hx ha
      cases ht with
      | dl h1 r1 =>
      rename_i a ys
      refine ⟨a, rfl, .inl ⟨⟨ys, .of h1⟩, fun D nD => ?_⟩⟩
      cases hp : lcO q.1 q.2 vs b mt me ρ1.sl q.2 [] ρ1 with
      | none => rw [hp] at hk; cases hk
      | some p =>
      rw [hp] at hk
      have hk := Option.some.inj hk
      subst hk
      exact lcO_core (Qd := fun H' => Q (.ref D) H') hw S1 ha nD hp fun A' ρ' acc xs H' S' st' hD dq ep => by
        subst ep
        exact fin_own k.oks (F := one D) S' (st1.trans st' fun _ n => n) (.dl hD dq)
    · rcases bnd_some hk with ⟨c, ρ2, e2, eo⟩ | ⟨l, ρ2, e2, hk2⟩
      · obtain ⟨_, _, _, _, _, z, _⟩ := seq_ok S1 rr e2
        cases z
      · obtain ⟨l', ρ', A', a, ys, z, rfl, S', sq, dq, st⟩ := seq_ok S1 rr e2
        cases z
        have st' := st1.trans st fun a n => add_l n
        cases hp : lcL vs b mt me ρ2.sl l [] ρ2 with
        | none => rw [hp] at hk2; cases hk2
        | some p =>
        rw [hp] at hk2
        have hk2 := Option.some.inj hk2
        subst hk2
        have go : ∀ J, ItOk X.K (hid (tot O A') H1) J l → ∀ D, H1 D = none → LcW X.K X.mg J ws vs b mt me σ H1 D (fun H' => Q (.ref D) H') := fun J it D nD =>
          lc_core hw S' it nD hp fun A5 ρ5 acc xs H5 S5 st5 hD dq5 ep => by
            subst ep
            exact fin_own k.oks (F := one D) S5 (st'.trans st5 fun _ n => n) (.dl hD dq5)
        rcases sq with sq | sq
        · exact ⟨a, rfl, .inl ⟨⟨ys, (show Same _ H1 from hid_sub).seq sq⟩, go _ (it_list sq dq)⟩⟩
        · exact ⟨a, rfl, .inr ⟨⟨ys, Tl.Same.tup hid_sub sq⟩, go _ (it_tup sq dq)⟩⟩
theorem de_lcO {ms : M R} (hc : X.calm = true) (hN : X.N.Nodup) (hi : DE X E iter ms) (ok : BlkOk X.N X.env.scope scope own) (hg : ∀ (s : Shared) (H : Hp) (C : Addr) (cl : List (Str × Addr)) (fp : List Addr), DG (X.blk s H scope (compEnvC scope cl C X.env) fp) tg ws b)
    (ht : ∀ (s : Shared) (H : Hp) (C : Addr) (cl : List (Str × Addr)) (fp : List Addr), DTs (X.blk s H scope (compEnvC scope cl C X.env) fp) EF ifs mt) (he : ∀ (s : Shared) (H : Hp) (C : Addr) (cl : List (Str × Addr)) (fp : List Addr), DE (X.blk s H scope (compEnvC scope cl C X.env) fp) EF elt me)
    (hw : ∀ w ∈ ws, w ∈ own.map (·.2) := by decide) (hs : ∀ x, foldedSetIterable iter X.env x = pure x := by intro _; rfl) : DE X E (.ListComp elt [⟨tg, iter, ifs, 0⟩] scope pos) (mLcO (own.map (·.2)) ms b mt me) :=
  ⟨pe_imp (pe_lc (g := GRun X.K X.mg ws b) (tt := TRun X.K X.mg mt EF) (te := ERun X.K X.mg me EF) hc hN (pi_seq hi.pe) ok (fun s H C cl fp => (hg s H C cl fp).pg) (fun s H C cl fp => (ht s H C cl fp).pts) (fun s H C cl fp => (he s H C cl fp).pe) hs) fun σ H Q h => run_lcO hw h⟩
theorem ds_setLcO {i : Nat} {y : Str} {py spos : Pos} {ms : M R} (hc : X.calm = true) (hN : X.N.Nodup) (hy : X.N[i]? = some y) (hyl : X.env.scope.names.lookup y = some .local)
    (hsw : swapsWith (.ListComp elt [⟨tg, iter, ifs, 0⟩] scope pos) (some (.Name y py)) spos.line X.env = pure true) (hi : DE X E iter ms) (ok : BlkOk X.N X.env.scope scope own) (hg : ∀ (s : Shared) (H : Hp) (C : Addr) (cl : List (Str × Addr)) (fp : List Addr), DG (X.blk s H scope (compEnvC scope cl C X.env) fp) tg ws b)
    (ht : ∀ (s : Shared) (H : Hp) (C : Addr) (cl : List (Str × Addr)) (fp : List Addr), DTs (X.blk s H scope (compEnvC scope cl C X.env) fp) EF ifs mt) (he : ∀ (s : Shared) (H : Hp) (C : Addr) (cl : List (Str × Addr)) (fp : List Addr), DE (X.blk s H scope (compEnvC scope cl C X.env) fp) EF elt me)
    (hw : ∀ w ∈ ws, w ∈ own.map (·.2) := by decide) (hs : ∀ x, foldedSetIterable iter X.env x = pure x := by intro _; rfl) : DS X E (.Assign [.Name y py] (.ListComp elt [⟨tg, iter, ifs, 0⟩] scope pos) spos) (mSet i (mLcO (own.map (·.2)) ms b mt me)) := by
  refine ⟨ps_imp (ps_setLc (g := GRun X.K X.mg ws b) (tt := TRun X.K X.mg mt EF) (te := ERun X.K X.mg me EF) hc hN hy hyl hsw (pi_seq hi.pe) ok (fun s H C cl fp => (hg s H C cl fp).pg) (fun s H C cl fp => (ht s H C cl fp).pts) (fun s H C cl fp => (he s H C cl fp).pe) hs) fun D σ H h => ?_⟩
  obtain ⟨B, O, A, ρ, out, S, hm, kk⟩ := h
  refine run_lcO hw ?_
  refine run_st S kk hm fun r ρ1 v H1 A1 F hk S1 rr st => ?_
  cases hk
  obtain ⟨A3, S3, s3⟩ := S1.setS rr i
  exact kk _ H1 A3 S3 ⟨st.out, st.sh.trans s3⟩
end
end XM
end
section
namespace Cm
open PySem PySem.Spec PyProof.Rows L2 Tl XM
/-! number_bytes : 0 number, 1 size, 2 place -/
def b_number_bytes : SM :=
  (mRet (mLc [2] (mRev1 (mSlot 1)) (bName 2) mYes (mOp fAnd (mOp fShr (mSlot 0) (mOp fMulL (mC (.int 8)) (mSlot 2))) (mC (.int 255)))))
def m_number_bytes : FM := mDef 3 b_number_bytes
/-! write_byte : 0 number -/
def b_write_byte : SM :=
  (mRet (mCall0 m_number_bytes [(mSlot 0), (mC (.int 1))]))
def m_write_byte : FM := mDef 1 b_write_byte
/-! write_short : 0 number -/
def b_write_short : SM :=
  (mRet (mCall0 m_number_bytes [(mSlot 0), (mC (.int 2))]))
def m_write_short : FM := mDef 1 b_write_short
/-! write_long : 0 number -/
def b_write_long : SM :=
  (mRet (mCall0 m_number_bytes [(mSlot 0), (mC (.int 4))]))
def m_write_long : FM := mDef 1 b_write_long
/-! write_flag : 0 flag -/
def b_write_flag : SM :=
  (mRet (mIfE (asB (mSlot 0)) (mLst [(mC (.int 1))]) (mLst [(mC (.int 0))])))
def m_write_flag : FM := mDef 1 b_write_flag
/-! write_state : 0 state -/
def b_write_state : SM :=
  (mRet (mCall0 m_write_byte [(mTIndex ["none", "open", "failed"] (mSlot 0))]))
def m_write_state : FM := mDef 1 b_write_state
/-! write_string : 0 string, 1 character -/
def b_write_string : SM :=
  (mRet (mLstA (mStar (mCall0 m_write_byte [(mB fLen [(mSlot 0)])]) (mStar (mLc [1] (mStrI (mSlot 0)) (bName 1) mYes (mB (f1 fOrd) [(mSlot 1)])) (mArgs [])))))
def m_write_string : FM := mDef 2 b_write_string
/-! write_value : 0 value -/
def b_write_value : SM :=
  (mSeq (mIf (asB (mIsi .str (mSlot 0)))
    (mRet (mLstA (mCons (mC (.int 1)) (mStar (mCall0 m_write_string [(mSlot 0)]) (mArgs []))))) mNx)
  (mRet (mLstA (mCons (mC (.int 0)) (mStar (mCall0 m_write_long [(mSlot 0)]) (mArgs []))))))
def m_write_value : FM := mDef 1 b_write_value
/-! write_values : 0 values, 1 data, 2 value -/
def b_write_values : SM :=
  (mSeq (mSet 1 (mCall0 m_write_byte [(mB fLen [(mSlot 0)])]))
  (mSeq (mForO (mSlot 0) (bName 2)
    (mExpr (mExtend (mSlot 1) (mCall0 m_write_value [(mSlot 2)]))))
  (mRet (mSlot 1))))
def m_write_values : FM := mDef 3 b_write_values
/-! write_rows : 0 rows, 1 data, 2 row -/
def b_write_rows : SM :=
  (mSeq (mSet 1 (mCall0 m_write_byte [(mB fLen [(mSlot 0)])]))
  (mSeq (mForO (mSlot 0) (bName 2)
    (mExpr (mExtend (mSlot 1) (mCall0 m_write_values [(mSlot 2)]))))
  (mRet (mSlot 1))))
def m_write_rows : FM := mDef 3 b_write_rows
/-! swap_rows : 0 word, 1 fields -/
def tb_WRITERS : List (Str × Str) := [("long", "write_long"), ("most", "write_short"), ("parameters", "write_byte"), ("count", "write_byte"), ("flag", "write_flag"), ("state", "write_state"), ("name", "write_string"), ("statement", "write_string"), ("reason", "write_string"), ("values", "write_values"), ("rows", "write_rows")]
def fm_WRITERS : List (Str × FM) := [("write_byte", m_write_byte), ("write_short", m_write_short), ("write_long", m_write_long), ("write_flag", m_write_flag), ("write_state", m_write_state), ("write_string", m_write_string), ("write_values", m_write_values), ("write_rows", m_write_rows)]
/-! message_bytes : 0 forms, 1 message, 2 word, 3 fields, 4 kind, 5 names, 6 body, 7 name, 8 field, 9 write, 10 form -/
/-! client_bytes : 0 message -/
/-! server_bytes : 0 message -/
/-! _law_cell : 0 script, 1 k -/
def b_law_cell : SM :=
  (mSeq (mIf (asB (mOp fLt (mSlot 1) (mB fLen [(mSlot 0)])))
    (mRet (mItems false fIx (mSlot 0) (mSlot 1))) mNx)
  (mRet (mC (.int 0))))
def m_law_cell : FM := mDef 2 b_law_cell
/-! _law_row : 0 cell, 1 count, 2 row, 3 rest, 4 seed, 5 k -/
def b_law_row : SM :=
  (mSeq (mSet 2 (mLst []))
  (mSeq (mSet 3 (mSlot 0))
  (mSeq (mSet 4 (mOp fAdd (mOp fMod (mB (f1 fInt) [(mSlot 0)]) (mC (.int 2147483629))) (mC (.int 1))))
  (mSeq (mFor (mRng1 (mSlot 1)) (bName 5)
    (mIf (asB (mOp fGe (mSlot 0) (mOp fPow (mC (.int 10)) (mC (.int 18)))))
      (mSeq (mExpr (mAppend (mSlot 2) (mOp fMod (mB (f1 fInt) [(mSlot 3)]) (mC (.int 840)))))
      (mSet 3 (mOp fDiv (mSlot 3) (mC (.int 840)))))
      (mSeq (mSet 4 (mOp fMod (mB (f1 fInt) [(mOp fAdd (mOp fMul (mSlot 4) (mC (.int 48271))) (mSlot 5))]) (mC (.int 2147483647))))
      (mExpr (mAppend (mSlot 2) (mOp fMod (mOp fDiv (mOp fMod (mB (f1 fInt) [(mOp fMul (mSlot 4) (mC (.int 69621)))]) (mC (.int 2147483629))) (mC (.int 7))) (mC (.int 840))))))))
  (mRet (mSlot 2))))))
def m_law_row : FM := mDef 6 b_law_row
/-! _law_name : 0 number, 1 letters, 2 k -/
def b_law_name : SM :=
  (mSeq (mSet 1 (mC (.str "abcdefghijklmnopqrstuvwxyz")))
  (mRet (mJoin (mC (.str "")) (mLc [2] (mRng1 (mOp fAdd (mC (.int 1)) (mOp fMod (mSlot 0) (mC (.int 8))))) (bName 2) mYes (mIx (mSlot 1) (mOp fMod (mOp fDiv (mSlot 0) (mOp fAdd (mC (.int 1)) (mOp fMulL (mC (.int 3)) (mSlot 2)))) (mC (.int 26))))))))
def m_law_name : FM := mDef 3 b_law_name
/-! _law_text : 0 number, 1 signs, 2 texts, 3 count, 4 k -/
def b_law_text : SM :=
  (mSeq (mSet 1 (mOp fAdd (mC (.str " !#$&()*+,-./0123456789:;<=>?@ABCDEFGHIJKLMNOPQRSTUVWXYZ[\\]^_`abcdefghijklmnopqrstuvwxyz{|}~")) (mC (.str "\""))))
  (mSeq (mSet 2 (mLst [(mC (.str "")), (mC (.str " ")), (mC (.str "a b")), (mC (.str "it")), (mC (.str "$1")), (mC (.str "-5")), (mC (.str "~!#")), (mOp fMulS (mC (.str "x")) (mC (.int 40))), (mC (.str "Ab 9")), (mC (.str "  ")), (mC (.str "7")), (mC (.str "put"))]))
  (mSeq (mIf (asB (mOp fEq (mOp fMod (mSlot 0) (mC (.int 3))) (mC (.int 0))))
    (mSeq (mSet 3 (mOp fAdd (mC (.int 1)) (mOp fMod (mOp fDiv (mSlot 0) (mC (.int 3))) (mC (.int 40)))))
    (mRet (mJoin (mC (.str "")) (mLc [4] (mRng1 (mSlot 3)) (bName 4) mYes (mIx (mSlot 1) (mOp fMod (mOp fAdd (mOp fMulL (mC (.int 7)) (mOp fDiv (mSlot 0) (mC (.int 3)))) (mOp fMul (mSlot 4) (mOp fAdd (mC (.int 1)) (mOp fMod (mSlot 0) (mC (.int 5)))))) (mC (.int 93)))))))) mNx)
  (mSeq (mIf (asB (mOp fEq (mOp fMod (mSlot 0) (mC (.int 13))) (mC (.int 12))))
    (mRet (mCall0 m_law_name [(mOp fDiv (mSlot 0) (mC (.int 13)))])) mNx)
  (mRet (mItems false fIx (mSlot 2) (mOp fMod (mOp fMod (mSlot 0) (mC (.int 13))) (mC (.int 12)))))))))
def m_law_text : FM := mDef 5 b_law_text
/-! _law_value : 0 number -/
def b_law_value : SM :=
  (mSeq (mIf (asB (mOp fLt (mOp fMod (mSlot 0) (mC (.int 5))) (mC (.int 2))))
    (mRet (mOp fSub (mOp fMod (mOp fDiv (mSlot 0) (mC (.int 5))) (mC (.int 7))) (mC (.int 3)))) mNx)
  (mSeq (mIf (asB (mOp fEq (mOp fMod (mSlot 0) (mC (.int 5))) (mC (.int 2))))
    (mRet (mOp fSub (mOp fMod (mOp fAdd (mOp fMul (mOp fMul (mSlot 0) (mC (.int 5113))) (mC (.int 40503))) (mC (.int 12345))) (mC (.int 4294967296))) (mC (.int 2147483648)))) mNx)
  (mSeq (mIf (asB (mOp fEq (mOp fMod (mSlot 0) (mC (.int 5))) (mC (.int 3))))
    (mRet (mItems false fIx (mLst [(mC (.int 2147483647)), (mV1 fNeg (mC (.int 2147483648))), (mC (.int 1000000)), (mC (.int 0)), (mC (.int 255)), (mC (.int 256)), (mV1 fNeg (mC (.int 1)))]) (mOp fMod (mOp fDiv (mSlot 0) (mC (.int 5))) (mC (.int 7))))) mNx)
  (mRet (mCall0 m_law_text [(mOp fDiv (mSlot 0) (mC (.int 5)))])))))
def m_law_value : FM := mDef 1 b_law_value
/-! _law_term : 0 number, 1 used, 2 value -/
def b_law_term : SM :=
  (mSeq (mIf (mAndT (asB (mOp fEq (mOp fMod (mSlot 0) (mC (.int 7))) (mC (.int 0)))) (asB (mOp fLt (mSlot 1) (mC (.int 4)))))
    (mRet (mTup [(mC (.str "parameter")), (mOp fAdd (mSlot 1) (mC (.int 1)))])) mNx)
  (mSeq (mIf (mAndT (asB (mOp fEq (mOp fMod (mSlot 0) (mC (.int 7))) (mC (.int 1)))) (asB (mOp fGt (mSlot 1) (mC (.int 0)))))
    (mRet (mTup [(mC (.str "parameter")), (mOp fAdd (mC (.int 1)) (mOp fMod (mOp fDiv (mSlot 0) (mC (.int 7))) (mSlot 1)))])) mNx)
  (mSeq (mSet 2 (mCall0 m_law_value [(mOp fDiv (mSlot 0) (mC (.int 7)))]))
  (mSeq (mIf (asB (mIsi .str (mSlot 2)))
    (mRet (mTup [(mC (.str "text")), (mSlot 2)])) mNx)
  (mRet (mSlot 2))))))
def m_law_term : FM := mDef 3 b_law_term
/-! _law_used : 0 parts, 1 numbers, 2 part -/
def b_law_used : SM :=
  (mSeq (mSet 1 (mLcO [2] (mSlot 0) (bName 2) (mAndT (asB (mIsi .tuple (mSlot 2))) (asB (mOp fEq (mItems false fIx (mSlot 2) (mC (.int 0))) (mC (.str "parameter"))))) (mItems false fIx (mSlot 2) (mC (.int 1)))))
  (mRet (mB fMax [(mCat (mLst [(mC (.int 0))]) (mSlot 1))])))
def m_law_used : FM := mDef 3 b_law_used
/-! _law_statement : 0 row, 1 names, 2 words, 3 word, 4 parts, 5 count, 6 k -/
def b_law_statement : SM :=
  (mSeq (mSet 2 (mLst [(mC (.str "create")), (mC (.str "put")), (mC (.str "put")), (mC (.str "scan")), (mC (.str "begin")), (mC (.str "commit")), (mC (.str "put")), (mC (.str "get")), (mC (.str "delete")), (mC (.str "total")), (mC (.str "scan")), (mC (.str "save")), (mC (.str "undo"))]))
  (mSeq (mSet 2 (mCat (mSlot 2) (mLst [(mC (.str "rollback")), (mC (.str "drop")), (mC (.str "create")), (mC (.str "put")), (mC (.str "begin")), (mC (.str "save")), (mC (.str "undo")), (mC (.str "scan"))])))
  (mSeq (mSet 3 (mItems false fIx (mSlot 2) (mOp fMod (mItems false fIx (mSlot 0) (mC (.int 0))) (mB fLen [(mSlot 2)]))))
  (mSeq (mIf (asB (mOp fIn (mSlot 3) (mLst [(mC (.str "begin")), (mC (.str "commit")), (mC (.str "rollback"))])))
    (mRet (mTup [(mSlot 3)])) mNx)
  (mSeq (mSet 4 (mLst [(mSlot 3), (mItems false fIx (mSlot 1) (mOp fMod (mItems false fIx (mSlot 0) (mC (.int 1))) (mB fLen [(mSlot 1)])))]))
  (mSeq (mSet 5 (mDGet2 ["put", "get", "delete", "scan"] [(mC (.int 2)), (mC (.int 1)), (mC (.int 1)), (mOp fMulL (mC (.int 2)) (mOp fMod (mItems false fIx (mSlot 0) (mC (.int 2))) (mC (.int 2))))] (mSlot 3) (mC (.int 0))))
  (mSeq (mIf (mAndT (asB (mOp fEq (mSlot 5) (mC (.int 2)))) (asB (mOp fEq (mOp fMod (mItems false fIx (mSlot 0) (mC (.int 5))) (mC (.int 3))) (mC (.int 0)))))
    (mRet (mTup [(mSlot 3), (mItems false fIx (mSlot 4) (mC (.int 1))), (mTup [(mC (.str "parameter")), (mC (.int 2))]), (mTup [(mC (.str "parameter")), (mC (.int 1))])])) mNx)
  (mSeq (mFor (mRng1 (mSlot 5)) (bName 6)
    (mExpr (mAppend (mSlot 4) (mCall0 m_law_term [(mOp fAdd (mItems false fIx (mSlot 0) (mOp fAdd (mC (.int 3)) (mSlot 6))) (mOp fMulL (mC (.int 840)) (mItems false fIx (mSlot 0) (mOp fSub (mC (.int 5)) (mOp fMulL (mC (.int 3)) (mSlot 6)))))), (mCall0 m_law_used [(mSlot 4)])]))))
  (mRet (mB fTup [(mSlot 4)]))))))))))
def m_law_statement : FM := mDef 7 b_law_statement
/-! _law_written : 0 parts, 1 words, 2 part -/
def b_law_written : SM :=
  (mSeq (mSet 1 (mLst []))
  (mSeq (mForO (mSlot 0) (bName 2)
    (mIf (asB (mIsi .str (mSlot 2)))
      (mExpr (mAppend (mSlot 1) (mSlot 2)))
      (mIf (asB (mIsi .int (mSlot 2)))
        (mExpr (mAppend (mSlot 1) (mB (f1 fStrI) [(mSlot 2)])))
        (mIf (asB (mOp fEq (mItems false fIx (mSlot 2) (mC (.int 0))) (mC (.str "text"))))
          (mExpr (mAppend (mSlot 1) (mOp fAdd (mOp fAdd (mC (.str "'")) (mItems false fIx (mSlot 2) (mC (.int 1)))) (mC (.str "'")))))
          (mExpr (mAppend (mSlot 1) (mOp fAdd (mC (.str "$")) (mB (f1 fStrI) [(mItems false fIx (mSlot 2) (mC (.int 1)))]))))))))
  (mRet (mJoin (mC (.str " ")) (mSlot 1)))))
def m_law_written : FM := mDef 3 b_law_written
/-! _law_unit : 0 row, 1 name, 2 portal, 3 menu, 4 parts, 5 values, 6 most, 7 commands, 8 k -/
def b_law_unit : SM :=
  (mSeq (mSet 1 (mItems false fIx (mLst [(mC (.str "stmta")), (mC (.str "stmtb")), (mC (.str "stmt")), (mC (.str "savexabc")), (mC (.str "savexabd")), (mC (.str "begin"))]) (mOp fMod (mItems false fIx (mSlot 0) (mC (.int 0))) (mC (.int 6)))))
  (mSeq (mSet 2 (mItems false fIx (mLst [(mC (.str "porta")), (mC (.str "portb")), (mC (.str "port")), (mC (.str "savexabc")), (mSlot 1), (mSlot 1)]) (mOp fMod (mItems false fIx (mSlot 0) (mC (.int 1))) (mC (.int 6)))))
  (mSeq (mSet 3 (mItems false fIx (mLst [(mLst [(mC (.str "tab")), (mC (.str "tax")), (mC (.str "tabb"))]), (mLst [(mC (.str "tab")), (mC (.str "begin")), (mC (.str "put"))]), (mLst [(mC (.str "tablelow")), (mC (.str "tablelox")), (mC (.str "tab"))])]) (mItems false fIx (mLst [(mC (.int 0)), (mC (.int 0)), (mC (.int 1)), (mC (.int 2))]) (mOp fMod (mOp fDiv (mItems false fIx (mSlot 0) (mC (.int 14))) (mC (.int 18))) (mC (.int 4))))))
  (mSeq (mSet 4 (mCall0 m_law_statement [(mSlice (mSlot 0) (some (mC (.int 2))) (some (mC (.int 8)))), (mSlot 3)]))
  (mSeq (mSet 5 (mLc [8] (mRng1 (mCall0 m_law_used [(mSlot 4)])) (bName 8) mYes (mCall0 m_law_value [(mItems false fIx (mSlot 0) (mOp fAdd (mC (.int 8)) (mSlot 8)))])))
  (mSeq (mIf (asB (mOp fEq (mOp fMod (mItems false fIx (mSlot 0) (mC (.int 12))) (mC (.int 9))) (mC (.int 0))))
    (mSet 5 (mSlice (mCat (mSlice (mSlot 5) (some (mC (.int 1))) none) (mRep (mLst [(mC (.int 5)), (mC (.str "x"))]) (mOp fMod (mOp fDiv (mItems false fIx (mSlot 0) (mC (.int 12))) (mC (.int 9))) (mC (.int 3))))) none (some (mC (.int 4))))) mNx)
  (mSeq (mSet 6 (mItems false fIx (mLst [(mC (.int 0)), (mOp fMod (mOp fDiv (mItems false fIx (mSlot 0) (mC (.int 13))) (mC (.int 4))) (mC (.int 24))), (mC (.int 0)), (mC (.int 1000))]) (mOp fMod (mItems false fIx (mSlot 0) (mC (.int 13))) (mC (.int 4)))))
  (mSeq (mSet 7 (mLst [(mTup [(mC (.str "close")), (mSlot 2)]), (mTup [(mC (.str "forget")), (mSlot 1)]), (mTup [(mC (.str "prepare")), (mSlot 1), (mCall0 m_law_written [(mSlot 4)])])]))
  (mSeq (mSet 7 (mCat (mSlot 7) (mLst [(mTup [(mC (.str "bind")), (mSlot 2), (mSlot 1), (mB fTup [(mSlot 5)])]), (mTup [(mC (.str "run")), (mSlot 2), (mSlot 6)])])))
  (mSeq (mIf (asB (mOp fEq (mOp fMod (mItems false fIx (mSlot 0) (mC (.int 14))) (mC (.int 6))) (mC (.int 0))))
    (mExpr (mAppend (mSlot 7) (mTup [(mC (.str "run")), (mSlot 2), (mOp fMod (mItems false fIx (mSlot 0) (mC (.int 15))) (mC (.int 3)))]))) mNx)
  (mSeq (mIf (asB (mOp fEq (mOp fMod (mItems false fIx (mSlot 0) (mC (.int 14))) (mC (.int 6))) (mC (.int 1))))
    (mSet 7 (mSlice (mSlot 7) (some (mOp fMod (mItems false fIx (mSlot 0) (mC (.int 15))) (mC (.int 5)))) none)) mNx)
  (mSeq (mIf (asB (mOp fEq (mOp fMod (mItems false fIx (mSlot 0) (mC (.int 14))) (mC (.int 18))) (mC (.int 2))))
    (mSetIx (mTup [(mC (.str "prepare")), (mSlot 1), (mItems false fIx (mLst [(mC (.str "put t 1")), (mC (.str "scan t $2 1")), (mC (.str "PUT t 1 1")), (mC (.str "")), (mOp fMulS (mC (.str "y")) (mOp fAdd (mC (.int 99)) (mOp fMod (mItems false fIx (mSlot 0) (mC (.int 15))) (mC (.int 102)))))]) (mOp fMod (mItems false fIx (mSlot 0) (mC (.int 15))) (mC (.int 5))))]) (mSlot 7) (mC (.int 2))) mNx)
  (mRet (mSlot 7))))))))))))))
def m_law_unit : FM := mDef 9 b_law_unit
/-! _law_units : 0 cell, 1 count, 2 row, 3 commands, 4 k -/
def b_law_units : SM :=
  (mSeq (mSet 2 (mCall0 m_law_row [(mSlot 0), (mOp fMulL (mC (.int 16)) (mSlot 1))]))
  (mSeq (mSet 3 (mLst []))
  (mSeq (mFor (mRng1 (mSlot 1)) (bName 4)
    (mSet 3 (mCat (mSlot 3) (mCall0 m_law_unit [(mSlice (mSlot 2) (some (mOp fMulL (mC (.int 16)) (mSlot 4))) (some (mOp fAdd (mOp fMulL (mC (.int 16)) (mSlot 4)) (mC (.int 16)))))]))))
  (mRet (mSlice (mSlot 3) none (some (mC (.int 20))))))))
def m_law_units : FM := mDef 5 b_law_units
/-! _law_big : 0 number, 1 count, 2 data, 3 k -/
/-! _law_code : 0 sign, 1 signs, 2 k -/
/-! _law_string : 0 string, 1 sign -/
/-! _law_values : 0 values, 1 data, 2 value -/
/-! _law_client_bytes : 0 message, 1 word, 2 kind, 3 body -/
/-! _law_server_bytes : 0 message, 1 words, 2 word, 3 body, 4 row -/
/-! _law_reply : 0 row, 1 words, 2 rows, 3 replies, 4 k, 5 j -/
/-! _law_large : 0 row -/
/-! _law_pure : 0 data, 1 byte -/
/-! _law_holds : 0 of_client, 1 message, 2 kept, 3 due, 4 told -/
/-! _law_listed : 0 message, 1 row -/
/-! law : 0 script, 1 commands, 2 command, 3 cell, 4 row, 5 word, 6 messages, 7 message -/
end Cm
end
section
/-! keys (0, a number) and (1, a text), mixed: their order, and that the sort finds it -/
namespace SM
open PySem PySem.Spec PyProof.Rows
/-- a key's second part -/
inductive KV where
  | n (i : Int) | s (x : Str)
def tagOf : KV → Int
  | .n _ => 0
  | .s _ => 1
def datOf : KV → PyData
  | .n i => .int i
  | .s x => .str x
def keyD (k : KV) : PyData := .tuple [.int (tagOf k), datOf k]
theorem reads_key {h : Heap} {v : Value} {k : KV} {as : List Addr} (a : Reads h v (keyD k) as) : ∃ p o n x y xs ys, v = .ref p ∧ h.get? p = some o ∧ o.cls = Value.type "tuple" ∧ o.data = Data.seq #[x, y] n ∧ Reads h x (.int (tagOf k)) xs ∧ Reads h y (datOf k) ys := by
  cases a with
  | @tuple p o vs n _ _ e1 e2 e3 e4 =>
    obtain ⟨l⟩ := vs
    cases e4 with
    | @cons v1 _ _ _ r1 _ q1 q2 =>
      cases q2 with
      | @cons v2 _ _ _ r2 _ q3 q4 =>
        cases q4
        exact ⟨p, o, n, v1, v2, _, _, rfl, e1, e2, e3, q1, q3⟩
/-- the order of keys, as the sort's own -/
noncomputable def kind (h : Heap) : KeyKind := { toKeyOrd := listOrd itemOrd, keyOf := fun v => open Classical in if q : ∃ k : KV, ∃ as, Reads h v (keyD k) as then some (W.keyToks (keyD q.choose)) else none, dflt := [] }
theorem tups : ∀ {h : Heap} {ks : List Value} {kz : List KV}, W.EachIs (fun v k => ∃ as, Reads h v (keyD k) as) ks kz → ∃ fs : List Value, W.KatTups h ks fs ∧ fs.length = ks.length ∧ ∀ f ∈ fs, ∃ i t, f = .int i t
  | _, _, _, .nil => ⟨[], .nil, rfl, fun f q => by cases q⟩
  | h, _, _, .cons ⟨as, a⟩ rest => by
    obtain ⟨fs, t, l, all⟩ := tups rest
    obtain ⟨p, o, n, x, y, xs, ys, rfl, o1, c1, d1, r1, r2⟩ := reads_key a
    cases r1 with
    | int i tk =>
      refine ⟨.int _ tk :: fs, .cons o1 c1 d1 rfl t, by rw [List.length_cons, List.length_cons, l], fun f q => ?_⟩
      rcases List.mem_cons.mp q with e | e
      · exact ⟨_, tk, e⟩
      · exact all f e
end SM
end
section
/-! sorted(xs, key=a def that makes a pair) -/
namespace SM
open PySem PySem.Spec PyProof.Rows L2
def kvV : KV → V
  | .n i => .int i
  | .s x => .str x
def keyV (k : KV) : List V := [.int (tagOf k), kvV k]
theorem each_mono {α β : Type} {R S : α → β → Prop} (h : ∀ a b, R a b → S a b) : ∀ {as : List α} {bs : List β}, W.EachIs R as bs → W.EachIs S as bs
  | _, _, .nil => .nil
  | _, _, .cons a r => .cons (h _ _ a) (each_mono h r)
/-- a key as the heap holds it -/
def KeyAt (H : Hp) (u : Value) (x : V × KV) : Prop := ∃ p, u = .ref p ∧ H p = some (.tup (keyV x.2))
theorem KeyAt.same {H H' : Hp} (s : Same H H') {u : Value} {x : V × KV} (h : KeyAt H u x) : KeyAt H' u x := by
  obtain ⟨p, e, h⟩ := h
  exact ⟨p, e, s _ _ h⟩
theorem KeyAt.reads {P : Program} {w : World} {H : Hp} {h : Heap} (ok : HOk P w H h) {u : Value} {x : V × KV} (k : KeyAt H u x) : ∃ as, Reads h u (keyD x.2) as := by
  obtain ⟨p, rfl, e⟩ := k
  obtain ⟨_, its, rel, o, g, c, n, d⟩ := ok p _ e
  unfold keyV at rel
  cases rel with
  | @cons _ v1 _ _ r1 rest =>
    cases rest with
    | @cons _ v2 _ _ r2 rest =>
      cases rest
      obtain ⟨t1, rfl⟩ := r1
      have r : Reads h v2 (datOf x.2) [] := by
        cases ex : x.2 with
        | n i =>
          rw [ex] at r2
          obtain ⟨t2, rfl⟩ := r2
          exact Reads.int _ _
        | s z =>
          rw [ex] at r2
          obtain ⟨t2, rfl⟩ := r2
          exact Reads.str _ _
      exact ⟨_, Reads.tuple g c d (ReadsAll.cons (Reads.int _ _) (ReadsAll.cons r ReadsAll.nil))⟩
end SM
end
section
namespace SM
open PySem PySem.Spec PyProof.Rows L2
/-- two lists of the machine's own, pinned for a while -/
theorem two_pins {h : Heap} {a c : Addr} {oa oc : Obj} (ea : h.get? a = some oa) (ec : h.get? c = some oc) : pinsAt [a, c] h = [(a, oa), (c, oc)] := by
  unfold pinsAt
  rw [List.filterMap_cons, ea, List.filterMap_cons, ec]
  rfl
def Loop (X : Cx) (pins : List (Addr × Obj)) (σ : L2.St) (H : Hp) (a kS : Addr) (n1 : Nat) (bs : List (V × KV)) (rest : List Value) (s' : Shared) : Prop :=
  ∃ (bd br : List (V × KV)) (ks : List Value) (e : Nat) (H' : Hp), bs = bd ++ br ∧ Vals (br.map (·.1)) rest ∧ Same H H' ∧ L2.Inv X pins σ H' s' ∧ FpOk X pins H' a ∧ FpOk X pins H' kS ∧
    s'.heap.get? a = some (seqObj "list" #[] n1) ∧ s'.heap.get? kS = some (seqObj "list" ks.toArray e) ∧ W.EachIs (KeyAt H') ks bd
section
variable {X : Cx} {k : Nat} {f : Addr} {fd : FuncData} {x : Str} {sp : Sp}
theorem turn {pins : List (Addr × Obj)} {σ : L2.St} {H : Hp} {a kS : Addr} {n1 : Nat} {bs : List (V × KV)} {u : Value} {rest : List Value} {s' : Shared} {E : Value → Shared → Prop} (F : FnOk X.prog X.w X.K X.mg X.base CX0 k f fd [x] sp) (b : L2.Binds X.K fd [x] []) (hr : Room (k + 2) X.A)
    (na : kS ≠ a) (small : bs.length ≤ sizeLine) (key : ∀ x ∈ bs, ∀ H1, Same H H1 → sp [x.1] H1 (fun u H2 => Same H1 H2 ∧ ∃ p, u = .ref p ∧ H2 p = some (.tup (keyV x.2))) (fun _ _ _ => False))
    (L : Loop X pins σ H a kS n1 bs (u :: rest) s') : wpAny (model X.prog X.w) X.A.in1.in1 (call (.ref f) [u]) (fun kv s2 => ∃ (bd br : List (V × KV)) (y : V × KV) (ks : List Value) (e : Nat) (H2 : Hp), bs = bd ++ y :: br ∧ Vals (br.map (·.1)) rest ∧ Same H H2 ∧ L2.Inv X pins σ H2 s2 ∧ FpOk X pins H2 a ∧ FpOk X pins H2 kS ∧
      s2.heap.get? a = some (seqObj "list" #[] n1) ∧ s2.heap.get? kS = some (seqObj "list" ks.toArray e) ∧ W.EachIs (KeyAt H2) ks bd ∧ KeyAt H2 kv y) E s' := by
  obtain ⟨bd, br, ks, e, H', rfl, rl, sm, I, fa, fk, ea, ek, each⟩ := L
  cases br with
  | nil => cases rl
  | cons y br =>
  cases rl with
  | cons r0 rl =>
  have p2 := two_pins ea ek
  have Ip : L2.Inv X (pins ++ [(a, seqObj "list" #[] n1), (kS, seqObj "list" ks.toArray e)]) σ H' s' := by
    rw [← p2]
    refine I.pinned (fp := [a, kS]) (fun c hc => ?_) (fun c hc => ?_)
    · rcases List.mem_cons.mp hc with rfl | hc
      · exact fa
      · rcases List.mem_singleton.mp hc with rfl
        exact fk
    · rcases List.mem_cons.mp hc with rfl | hc
      · exact ⟨_, ea, fun v q => by cases q⟩
      · rcases List.mem_singleton.mp hc with rfl
        exact ⟨_, ek, fun v q => by cases q⟩
  have want := key y (List.mem_append_right _ (List.mem_cons_self ..)) H' sm
  refine wpAny_call (codeAny_mono (F.run X.A.in1.in1 X.stack s' H' ⟨[u], []⟩ [u] [y.1] _ _ hr.in1.in1 I.env0.in1.in1 (b s' [u] I.kIn rfl) (.cons r0 .nil) want) fun r s2 hq => ?_)
  cases r with
  | error q => exact hq.elim
  | ok fl =>
    cases fl with
    | next => exact hq.elim
    | brk => exact hq.elim
    | cont => exact hq.elim
    | ret kv =>
      obtain ⟨v, H2, I2, rv, sm2, p, ep, hp⟩ := Ip.after hq
      subst ep
      have q1 := I2.pin (a, seqObj "list" #[] n1) (by simp)
      have q2 := I2.pin (kS, seqObj "list" ks.toArray e) (by simp)
      refine ⟨bd, br, y, ks, e, H2, rfl, rl, sm.trans sm2, I2.unpinned, ⟨q1.2.1, fa.2⟩, ⟨q2.2.1, fk.2⟩, q1.1, q2.1, each_mono (fun _ _ z => z.same sm2) each, p, rv, hp⟩
end
end SM
end
section
/-! parts of an object: read -/
namespace XM
open PySem PySem.Spec PyProof.Rows L2 Tl
/-- the root that was taken out of root n at p -/
def findPar (n : Nat) (p : Pl) : Nat → List Rt → Option Nat
  | _, [] => none
  | i, x :: xs => if x.par = some (n, p) then some i else findPar n p (i + 1) xs
theorem findPar_at {n : Nat} {p : Pl} : ∀ {l : List Rt} {i k : Nat}, findPar n p i l = some k → ∃ x, i ≤ k ∧ l[k - i]? = some x ∧ x.par = some (n, p)
  | [], _, _, h => by cases h
  | x :: xs, i, k, h => by
    unfold findPar at h
    split at h
    · rename_i c
      cases h
      exact ⟨x, Nat.le_refl _, by rw [Nat.sub_self]; rfl, c⟩
    · obtain ⟨y, h1, h2, h3⟩ := findPar_at h
      refine ⟨y, by omega, ?_, h3⟩
      have : k - i = (k - (i + 1)) + 1 := by omega
      rw [this]
      exact h2
def borrow (n : Nat) (p : Pl) (ρ : Fr) : Option (R × Fr) := match ρ.rt[n]? with
  | some ⟨t, pr⟩ => match getc p t with
    | some (.dat d) => some (.dat d, ρ)
    | some (.fn x) => some (.fn x, ρ)
    | some .gone => (findPar n p 0 ρ.rt).map fun k => (.ref k, ρ)
    | some c => some (.ref ρ.rt.length, { ρ with rt := ρ.rt.set n ⟨setc .gone p t, pr⟩ ++ [⟨c, some (n, p)⟩] })
    | none => none
  | none => none
section
variable {K : PySem.W.Frag} {mg : Str → Option Value} {mm : Mg} {B : Bs} {O O' : Ft} {A A' A1 : Al} {ρ ρ1 : Fr} {σ : L2.St} {H H' H1 : Hp} {E : EK}
theorem cont_of {p : Pl} {t c : T} (h : getc p t = some c) : t.cont = true := by
  cases t <;> cases p <;> first | rfl | cases h
/-- a part is taken out of its root -/
theorem StC.borrow (S : StC K mg B O A ρ σ H) {n : Nat} {p : Pl} {v : V} {r : R} {ρ' : Fr} (ha : XM.al A n = some v) (e : XM.borrow n p ρ = some (r, ρ')) :
    ∃ vc A', chAt H v p = some vc ∧ StC K mg B O A' ρ' σ H ∧ RR K ⟨mg, B.η⟩ (XM.al A') (hid (tot O A') H) H vc zer r ∧ Stp O A H O A' H := by
  unfold XM.borrow at e
  cases hx : ρ.rt[n]? with
  | none => rw [hx] at e; cases e
  | some x =>
  obtain ⟨t, pr⟩ := x
  rw [hx] at e
  dsimp only at e
  obtain ⟨F, hA, ht⟩ := S.root hx ha
  cases hg : getc p t with
  | none => rw [hg] at e; cases e
  | some c =>
  obtain ⟨vc, Fc, Fr, c1, c2, c3, c4⟩ := TR.child hid_sub ht hg
  have new : c.isGone = false → ∃ A', StC K mg B O A' { ρ with rt := ρ.rt.set n ⟨setc .gone p t, pr⟩ ++ [⟨c, some (n, p)⟩] } σ H ∧ RR K ⟨mg, B.η⟩ (XM.al A') (hid (tot O A') H) H vc zer (.ref ρ.rt.length) ∧ Stp O A H O A' H := fun _ => by
    have e1 : tot (add O Fc) (A.set n (v, Fr)) = tot O A := tot_set hA fun a => by rw [c3]; unfold add; omega
    have ct : t.cont = true := cont_of hg
    have S1 : StC K mg B (add O Fc) (A.set n (v, Fr)) { ρ with rt := ρ.rt.set n ⟨setc .gone p t, pr⟩ } σ H :=
      S.setR (x := ⟨t, pr⟩) hA hx (by rw [e1]; exact Same.refl _) (fun _ _ _ => rfl) (by rw [e1]; exact S.le1) (by rw [e1]; exact S.al) (by rw [e1]; have := c4 .gone zer .gone; rw [add_zer] at this; exact this) fun _ => S.par0 hA hx ct
    obtain ⟨S2, e2⟩ := S1.push (t := c) (v := vc) (pr := some (n, p)) (by rw [e1]; exact c2) (fun j p' xj z q h3 h4 h5 => by
      cases q
      rw [List.getElem?_set, if_pos rfl, if_pos (List.getElem?_eq_some_iff.mp hA).1] at h5
      cases h5
      exact c1) (fun j p' q => by
      cases q
      dsimp only
      rw [List.length_set]
      exact (List.getElem?_eq_some_iff.mp hx).1)
    have len : (A.set n (v, Fr)).length = ρ.rt.length := by rw [List.length_set, S.len]
    have alE : ∀ r u, XM.al A r = some u → XM.al (A.set n (v, Fr) ++ [(vc, Fc)]) r = some u := fun r u q => al_push (by rw [al_set hA]; exact q)
    refine ⟨_, S2, ⟨rfl, ?_⟩, ⟨⟨fun _ _ => rfl, ?_⟩, alE⟩⟩
    · unfold XM.al
      rw [← len, List.getElem?_append_right (Nat.le_refl _), Nat.sub_self]
      rfl
    · rw [e2, e1]
      exact Same.refl _
  rw [hg] at e
  cases c with
  | dat d =>
    cases e
    cases c2 with
    | dat h => exact ⟨vc, A, c1, S, ⟨rfl, h⟩, Stp.refl⟩
  | fn x =>
    cases e
    cases c2 with
    | fn h => exact ⟨_, A, c1, S, ⟨rfl, _, rfl, h⟩, Stp.refl⟩
  | gone =>
    dsimp only at e
    cases hf : findPar n p 0 ρ.rt with
    | none => rw [hf] at e; cases e
    | some k =>
      rw [hf] at e
      cases e
      obtain ⟨y, _, hy, py⟩ := findPar_at hf
      rw [Nat.sub_zero] at hy
      obtain ⟨z, hz⟩ := at_len S.len hy
      have := S.par k n p y ⟨t, pr⟩ z (v, F) hy py hx (cont_of hg) hz hA
      refine ⟨z.1, A, this, S, ⟨rfl, ?_⟩, Stp.refl⟩
      unfold XM.al
      rw [hz]
      rfl
  | dl l => cases e; obtain ⟨A', h⟩ := new rfl; exact ⟨vc, A', c1, h⟩
  | ol l => cases e; obtain ⟨A', h⟩ := new rfl; exact ⟨vc, A', c1, h⟩
  | ot l => cases e; obtain ⟨A', h⟩ := new rfl; exact ⟨vc, A', c1, h⟩
  | dd l => cases e; obtain ⟨A', h⟩ := new rfl; exact ⟨vc, A', c1, h⟩
  | od l => cases e; obtain ⟨A', h⟩ := new rfl; exact ⟨vc, A', c1, h⟩
  | ins c fs => cases e; obtain ⟨A', h⟩ := new rfl; exact ⟨vc, A', c1, h⟩
  | frz ns => cases e; obtain ⟨A', h⟩ := new rfl; exact ⟨vc, A', c1, h⟩
  | hole i => cases e; obtain ⟨A', h⟩ := new rfl; exact ⟨vc, A', c1, h⟩
theorem getA_lookup {β : Type} {k : Str} : ∀ {l : List (Str × β)}, getA k l = l.lookup k
  | [] => rfl
  | p :: r => by
    unfold getA
    rw [List.lookup_cons, getA_lookup (l := r)]
    by_cases h : p.1 = k
    · subst h; simp
    · have : (k == p.1) = false := beq_eq_false_iff_ne.mpr fun z => h z.symm
      rw [if_neg h, this]
end
/-! ### fields -/
/-- what the class named c must be for its field f -/
def FldK (K : PySem.W.Frag) (mg : Str → Option Value) (f : Str) (c : Str) : Prop := ∀ C, mg c = some (.ref C) → Cls K C ∧ NoAttr K C f
def clsAt (r : R) (ρ : Fr) : Option (Nat × Str × List (Str × T)) := match r with
  | .ref n => match ρ.rt[n]? with
    | some ⟨.ins c fs, _⟩ => some (n, c, fs)
    | _ => none
  | _ => none
def mFld (cs : List Str) (f : Str) (m : M R) : M R := bnd m fun r ρ => match clsAt r ρ with
  | some (n, c, _) => if c ∈ cs then (borrow n (.fld f) ρ).map fun p => .ok p.1 p.2 else none
  | none => none
section
variable {X : Cx} {E : EK} {e : Expr} {pos : Pos} {K : PySem.W.Frag} {mg : Str → Option Value} {mm : Mg} {B : Bs} {O : Ft} {A A1 : Al} {ρ : Fr} {σ : L2.St} {H H1 : Hp}
theorem clsAt_ok {r : R} {v : V} {F : Ft} {n : Nat} {c : Str} {fs : List (Str × T)} (S : StC K mg B O A ρ σ H) (h : RR K ⟨mg, B.η⟩ (al A) (hid (tot O A) H) H v F r) (e : clsAt r ρ = some (n, c, fs)) :
    ∃ a C dx fvs Fn pr, r = .ref n ∧ F = zer ∧ v = .ref a ∧ al A n = some (.ref a) ∧ mg c = some (.ref C) ∧ H a = some (.ins C dx fvs) ∧ fvs.map (·.1) = fs.map (·.1) ∧ TRs K ⟨mg, B.η⟩ (hid (tot O A) H) H (fs.map (·.2)) (fvs.map (·.2)) Fn ∧ A[n]? = some (.ref a, add (one a) Fn) ∧ ρ.rt[n]? = some ⟨.ins c fs, pr⟩ := by
  cases r with
  | ref m =>
    unfold clsAt at e
    dsimp only at e
    split at e
    · rename_i c' fs' pr hx
      cases e
      obtain ⟨z, ha⟩ := h
      obtain ⟨F', hA, ht⟩ := S.root hx ha
      cases ht with
      | ins hc ho hk r => exact ⟨_, _, _, _, _, pr, rfl, z, rfl, ha, hc, ho, hk, r, hA, hx⟩
    · cases e
  | dat d => cases e
  | fn x => cases e
  | own t => cases e
theorem de_fld {m : M R} {cs : List Str} {f : Str} (hc : ∀ c ∈ cs, FldK X.K X.mg f c) (he : DE X E e m) (hb : attributeBase e f X.env (eval e X.env) = eval e X.env := by rfl) : DE X E (.Attribute e f pos) (mFld cs f m) := by
  refine ⟨pe_imp (pe_fld he.pe hb) fun σ H Q h => ?_⟩
  obtain ⟨B, O, A, ρ, out, S, hm, k⟩ := h
  refine run_bnd S hm k.exc fun r ρ1 v H1 A1 F hk S1 rr1 st1 x1 => ?_
  split at hk
  · rename_i n c fs e1
    split at hk
    · rename_i hcs
      cases hb : borrow n (.fld f) ρ1 with
      | none => rw [hb] at hk; cases hk
      | some p =>
        obtain ⟨r', ρ'⟩ := p
        rw [hb] at hk
        cases hk
        obtain ⟨a, C, dx, fvs, Fn, pr, rfl, rfl, rfl, ha, hC, ho, hkk, tr, hA, hx⟩ := clsAt_ok S1 rr1 e1
        rw [add_zer] at S1 st1
        obtain ⟨vc, A', c1, S', rr', st'⟩ := S1.borrow ha hb
        obtain ⟨q1, q2⟩ := hc c hcs C hC
        refine ⟨a, C, dx, fvs, vc, rfl, ho, q1, q2, ?_, ?_⟩
        · rw [← getA_lookup]
          simpa [chAt, ho, chO] using c1
        · exact k.oks vc H1 A' zer (by rw [add_zer]; exact S') (by rw [add_zer]; exact rr') (by rw [add_zer]; exact st1.trans st' fun _ n => n)
    · cases hk
  · cases hk
end
end XM
end
section
/-! parts of an object: written -/
namespace XM
open PySem PySem.Spec PyProof.Rows L2 Tl
def putT (f : Str) (t : T) : List (Str × T) → List (Str × T)
  | [] => [(f, t)]
  | (g, x) :: r => if g = f then (g, t) :: r else (g, x) :: putT f t r
/-- what is handed over, as a tree -/
def takeR (r : R) (ρ : Fr) : Option (T × Fr) := match r with
  | .dat d => some (.dat d, ρ)
  | .fn x => some (.fn x, ρ)
  | .own t => some (t, ρ)
  | .ref k => match ρ.rt[k]? with
    | some x => some (x.t, { ρ with rt := ρ.rt.set k ⟨.gone, x.par⟩ })
    | none => none
section
variable {K : PySem.W.Frag} {mg : Str → Option Value} {mm : Mg} {B : Bs} {O O' : Ft} {A A' A1 : Al} {ρ ρ1 : Fr} {σ : L2.St} {H H' H1 G : Hp} {E : EK}
theorem StC.takeR {F : Ft} {r : R} {v : V} {t : T} {ρ' : Fr} (S : StC K mg B (add O F) A ρ σ H) (h : RR K ⟨mg, B.η⟩ (XM.al A) (hid (tot (add O F) A) H) H v F r) (e : XM.takeR r ρ = some (t, ρ')) :
    ∃ A' F', StC K mg B (add O F') A' ρ' σ H ∧ TR K ⟨mg, B.η⟩ (hid (tot (add O F') A') H) H t v F' ∧ tot (add O F') A' = tot (add O F) A ∧ XM.al A' = XM.al A := by
  cases r with
  | dat d =>
    cases e
    obtain ⟨z, h⟩ := h
    exact ⟨A, F, S, by rw [z] at h ⊢; exact .dat h, rfl, rfl⟩
  | fn x =>
    cases e
    obtain ⟨z, f, rfl, h⟩ := h
    exact ⟨A, F, S, by rw [z]; exact .fn h, rfl, rfl⟩
  | own t' => cases e; exact ⟨A, F, S, h, rfl, rfl⟩
  | ref k =>
    unfold XM.takeR at e
    dsimp only at e
    cases hx : ρ.rt[k]? with
    | none => rw [hx] at e; cases e
    | some x =>
      rw [hx] at e
      cases e
      obtain ⟨z, ha⟩ := h
      subst z
      rw [add_zer] at S ⊢
      obtain ⟨Fk, hA⟩ := al_at ha
      obtain ⟨S1, e1, ht⟩ := S.take hA hx
      exact ⟨_, Fk, S1, by rw [e1]; exact ht, e1, al_set hA⟩
theorem TRs.putF {f : Str} {t : T} {y : V} {Ft : XM.Ft} (ht : TR K mm G H t y Ft) : ∀ {fs : List (Str × T)} {fvs : List (Str × V)} {Fn : XM.Ft}, fvs.map (·.1) = fs.map (·.1) → TRs K mm G H (fs.map (·.2)) (fvs.map (·.2)) Fn →
    ∃ F', (L2.putF f y fvs).map (·.1) = (putT f t fs).map (·.1) ∧ TRs K mm G H ((putT f t fs).map (·.2)) ((L2.putF f y fvs).map (·.2)) F' ∧ ∀ b, F' b ≤ Fn b + Ft b
  | [], [], _, _, _ => ⟨add Ft zer, rfl, .cons ht .nil, fun b => by unfold add zer; omega⟩
  | [], _ :: _, _, e, _ => by simp at e
  | _ :: _, [], _, e, _ => by simp at e
  | (g, x) :: fs, (g', x') :: fvs, Fn, e, r => by
    obtain ⟨e1, e2⟩ : g' = g ∧ fvs.map (·.1) = fs.map (·.1) := by simpa using e
    subst e1
    cases r with
    | cons a r =>
    rename_i F1 F2
    unfold L2.putF putT
    by_cases z : g' = f
    · rw [if_pos z, if_pos z]
      exact ⟨add Ft F2, by simp [e2], .cons ht r, fun b => by unfold add; omega⟩
    · rw [if_neg z, if_neg z]
      obtain ⟨F', q1, q2, q3⟩ := TRs.putF ht e2 r
      exact ⟨add F1 F', by simp [q1], .cons a q2, fun b => by have := q3 b; unfold add; omega⟩
/-- a field of an object anew -/
theorem StC.putFld {F Fn : Ft} {n : Nat} {a C dx : Addr} {c f : Str} {fs : List (Str × T)} {fvs : List (Str × V)} {pr : Option (Nat × Pl)} {t : T} {y : V} (S : StC K mg B (add O F) A ρ σ H)
    (hA : A[n]? = some (.ref a, add (one a) Fn)) (hx : ρ.rt[n]? = some ⟨.ins c fs, pr⟩) (hC : mg c = some (.ref C)) (ho : H a = some (.ins C dx fvs)) (hk : fvs.map (·.1) = fs.map (·.1))
    (tr : TRs K ⟨mg, B.η⟩ (hid (tot (add O F) A) H) H (fs.map (·.2)) (fvs.map (·.2)) Fn) (ht : TR K ⟨mg, B.η⟩ (hid (tot (add O F) A) H) H t y F) (np : ∀ (m : Nat) (x : Rt), ρ.rt[m]? = some x → x.par ≠ some (n, .fld f)) :
    ∃ A', StC K mg B O A' { ρ with rt := ρ.rt.set n ⟨.ins c (putT f t fs), pr⟩ } σ (upd H a (.ins C dx (L2.putF f y fvs))) ∧ (∀ b, O b ≠ 0 → (upd H a (.ins C dx (L2.putF f y fvs))) b = H b) ∧
      Same (hid (tot (add O F) A) H) (hid (tot O A') (upd H a (.ins C dx (L2.putF f y fvs)))) ∧ XM.al A' = XM.al A := by
  obtain ⟨F', k1, k2, k3⟩ := TRs.putF (f := f) ht hk tr
  have own1 : ∀ b, (add (one a) Fn) b + (O b + F b) ≤ 1 := fun b => by
    have h1 := S.le1 b
    have h2 := sumF_at b hA
    dsimp only at h2
    unfold tot add at h1
    unfold add at h2 ⊢
    omega
  have aa : Fn a = 0 ∧ O a = 0 ∧ F a = 0 := by
    have := own1 a
    unfold add at this
    rw [one_self] at this
    omega
  have fa : F' a = 0 := by have := k3 a; omega
  have le : ∀ b, tot O (A.set n (.ref a, add (one a) F')) b ≤ tot (add O F) A b := fun b => by
    have h1 := sumF_set (y := ((.ref a : V), add (one a) F')) b hA
    have h2 := k3 b
    dsimp only at h1
    unfold tot add at *
    omega
  have sub : ∀ b, tot (add O F) A b = 0 → tot O (A.set n (.ref a, add (one a) F')) b = 0 := fun b z => by have := le b; omega
  have na : ∀ b, tot (add O F) A b = 0 → b ≠ a := fun b z e => by
    subst e
    have h2 := sumF_at b hA
    dsimp only at h2
    have h3 : add (one b) Fn b = 1 + Fn b := by unfold add; rw [one_self]
    unfold tot add at z
    unfold add at h2 h3
    omega
  have sh : Same (hid (tot (add O F) A) H) (hid (tot O (A.set n (.ref a, add (one a) F'))) (upd H a (.ins C dx (L2.putF f y fvs)))) := fun b u q => by
    obtain ⟨z, q⟩ := hid_some q
    exact hid_at (sub b z) (by rw [upd_ne (na b z)]; exact q)
  refine ⟨A.set n (.ref a, add (one a) F'), ?_, fun b z => upd_ne fun e => by subst e; exact z aa.2.1, sh, al_set hA⟩
  refine S.setR (x := ⟨.ins c fs, pr⟩) hA hx sh (fun b _ z => upd_ne fun e => ?_) (fun b => Nat.le_trans (le b) (S.le1 b)) (fun b z => ?_) ?_ fun _ m p z w h1 h2 h3 => ?_
  · subst e
    unfold add at z
    rw [one_self] at z
    omega
  · by_cases e : b = a
    · subst e; rw [upd_same]; simp
    · rw [upd_ne e]
      exact S.al b (by have := le b; omega)
  · refine .ins hC upd_same k1 (k2.step sh fun b z => upd_ne fun e => by subst e; exact z fa)
  · have old := S.par0 hA hx rfl m p z w h1 h2 h3
    simp only [chAt, ho, upd_same, Option.bind_some] at old ⊢
    cases p with
    | fld g =>
      have ng : g ≠ f := fun e => by subst e; exact np m z h1 h2
      simp only [chO] at old ⊢
      rw [getA_lookup, lookup_putF, if_neg ng, ← getA_lookup]
      exact old
    | idx _ => simp only [chO] at old; cases old
    | key _ => simp only [chO] at old; cases old
end
def isIns (x : Option Rt) : Option (Str × List (Str × T) × Option (Nat × Pl)) := match x with
  | some ⟨.ins c fs, pr⟩ => some (c, fs, pr)
  | _ => none
/-- root n's field f is t from now on -/
def storeF (cs : List Str) (n : Nat) (f : Str) (t : T) (ρ : Fr) : Option Fr := match isIns (clr (fun jp => jp.1 == n && decide (jp.2 = .fld f)) ρ).rt[n]? with
  | some (c, fs, pr) => if c ∈ cs ∧ fs.length < 1000 then some { clr (fun jp => jp.1 == n && decide (jp.2 = .fld f)) ρ with rt := (clr (fun jp => jp.1 == n && decide (jp.2 = .fld f)) ρ).rt.set n ⟨.ins c (putT f t fs), pr⟩ } else none
  | none => none
def refN (r : R) : Option Nat := match r with
  | .ref n => some n
  | _ => none
def mSetFld (cs : List Str) (f : Str) (m mo : M R) : SM := sBnd m fun r => sBnd mo fun ro ρ => match refN ro with
  | some n => match takeR r ρ with
    | some p => (storeF cs n f p.1 p.2).map fun ρ' => .nx (tidy ρ')
    | none => none
  | none => none
section
variable {X : Cx} {E : EK} {e o value : Expr} {pos pos' : Pos} {K : PySem.W.Frag} {mg : Str → Option Value} {mm : Mg} {B : Bs} {O : Ft} {A A1 : Al} {ρ : Fr} {σ : L2.St} {H H1 : Hp}
theorem storeF_ok {F : Ft} {cs : List Str} {n : Nat} {f : Str} {t : T} {y v : V} {ρ' : Fr} (S : StC K mg B (add O F) A ρ σ H) (ht : TR K ⟨mg, B.η⟩ (hid (tot (add O F) A) H) H t y F) (ha : al A n = some v) (e : storeF cs n f t ρ = some ρ') :
    ∃ a C dx fvs c A', v = .ref a ∧ mg c = some (.ref C) ∧ c ∈ cs ∧ fvs.length < 1000 ∧ H a = some (.ins C dx fvs) ∧ StC K mg B O A' ρ' σ (upd H a (.ins C dx (L2.putF f y fvs))) ∧ (∀ b, O b ≠ 0 → (upd H a (.ins C dx (L2.putF f y fvs))) b = H b) ∧
      Same (hid (tot (add O F) A) H) (hid (tot O A') (upd H a (.ins C dx (L2.putF f y fvs)))) ∧ al A' = al A := by
  have S1 := S.clr (fun jp => jp.1 == n && decide (jp.2 = .fld f))
  unfold storeF at e
  unfold isIns at e
  split at e
  · rename_i c fs pr hi
    split at hi
    · rename_i c' fs' pr' hx
      cases hi
      split at e
      · rename_i q
        cases e
        obtain ⟨F', hA, tr⟩ := S1.root hx ha
        cases tr with
        | ins hC ho hk r =>
        obtain ⟨A', S', out, sh, l⟩ := S1.putFld (f := f) hA hx hC ho hk r ht (fun m x hm z => by
          obtain ⟨x', _, rfl⟩ := clr_at hm
          have := (clrR_par z).2
          simp at this)
        have len := congrArg List.length hk
        rw [List.length_map, List.length_map] at len
        exact ⟨_, _, _, _, _, A', rfl, hC, q.1, by rw [len]; exact q.2, ho, S', out, sh, l⟩
      · cases e
    · cases hi
  · cases e
theorem ds_setFld {m mo : M R} {cs : List Str} {f : Str} (hc : ∀ c ∈ cs, FldK X.K X.mg f c) (ho : DE X E o mo) (hv : DE X E value m) (hs : swapsWith value (some (.Attribute o f pos')) pos.line X.env = pure false := by rfl) : DS X E (.Assign [.Attribute o f pos'] value pos) (mSetFld cs f m mo) := by
  refine ⟨ps_imp (ps_fld ho.pe hv.pe hs) fun D σ H h => ?_⟩
  obtain ⟨B, O, A, ρ, out, S, hm, kk⟩ := h
  refine run_st S kk hm fun r ρ1 y H1 A1 F hk S1 rr1 st1 => ?_
  have kk1 : AftS X.K X.mg B O A H E D out := kk
  unfold sBnd at hk
  cases em : mo ρ1 with
  | none => rw [em] at hk; cases hk
  | some o1 =>
    rw [em] at hk
    cases o1 with
    | ex c ρ2 =>
      cases hk
      exact ⟨B, add O F, A1, ρ1, _, S1, em, fun C H' A' hc S' st => kk C σ H' A' hc (S'.weak fun a => le_add a) ((st1.toSto.trans st fun a n => add_l n).weak fun a => le_add a)⟩
    | ok ro ρ2 =>
      dsimp only at hk
      refine ⟨B, add O F, A1, ρ1, _, S1, em, fun x H2 A2 F2 S2 rr2 st2 => ?_⟩
      cases hr : refN ro with
      | none => rw [hr] at hk; cases hk
      | some n =>
      rw [hr] at hk
      dsimp only at hk
      cases ht : takeR r ρ2 with
      | none => rw [ht] at hk; cases hk
      | some p =>
      obtain ⟨t, ρ3⟩ := p
      rw [ht] at hk
      dsimp only at hk
      cases hst : storeF cs n f t ρ3 with
      | none => rw [hst] at hk; cases hk
      | some ρ4 =>
      rw [hst] at hk
      cases hk
      obtain ⟨rfl, ha⟩ : F2 = zer ∧ al A2 n = some x := by
        cases ro with
        | ref m => cases hr; exact rr2
        | dat d => cases hr
        | fn x => cases hr
        | own t => cases hr
      rw [add_zer] at S2 st2
      have rr1' := rr1.step st2 (fun a n => add_r n)
      obtain ⟨A3, F3, S3, tr, e3, l3⟩ := S2.takeR rr1' ht
      obtain ⟨a, C, dx, fvs, c, A4, rfl, hC, hcs, hl, ho, S4, out4, sh4, _⟩ := storeF_ok S3 tr (by rw [l3]; exact ha) hst
      obtain ⟨q1, q2⟩ := hc c hcs C hC
      refine ⟨a, C, dx, fvs, rfl, ho, q1, q2, hl, ?_⟩
      obtain ⟨A5, S5, s5⟩ := S4.tidy
      refine kk σ _ A5 S5 ⟨fun b z => (out4 b z).trans ((st2.out b (add_l z)).trans (st1.out b z)), ?_⟩
      rw [e3] at sh4
      exact ((st1.sh.trans st2.sh).trans sh4).trans s5
end
end XM
end
section
/-! methods and constructors -/
namespace XM
open PySem PySem.Spec PyProof.Rows L2 Tl
/-- the method m of the class named c stands in the text as st; defaults dts -/
structure MDnG (K : PySem.W.Frag) (mg : Str → Option Value) (c m qual : Str) (st : Stmt) (ps : List Str) (dts : List D) : Prop where
  ex : ∃ C f fd ds dvs, mg c = some (.ref C) ∧ Cls K C ∧ Meth K C m f ∧ Fun K m qual st f fd ∧ L2.Binds K fd ps ds ∧ Vals dvs ds ∧ ∀ G, DqAll K G dvs dts
/-- .. its promise -/
structure MetG (P : Program) (w : World) (K : PySem.W.Frag) (mg : Str → Option Value) (base : Heap) (CX : CXT) (k : Nat) (c m : Str) (n : Nat) (dts : List D) (sp : Sp) : Prop where
  ex : ∃ C f fd ps ds dvs, mg c = some (.ref C) ∧ Cls K C ∧ Meth K C m f ∧ FnG P w K mg base CX k f fd ps sp ∧ L2.Binds K fd ps ds ∧ Vals dvs ds ∧ (∀ G, DqAll K G dvs dts) ∧ ps.length = n
/-- the class named c is made by its name; its __init__ -/
structure IniD (K : PySem.W.Frag) (mg : Str → Option Value) (c qual : Str) (st : Stmt) (ps : List Str) (dts : List D) : Prop where
  ex : ∃ C f fd ds dvs, mg c = some (.ref C) ∧ Mk K C f ∧ Fun K "__init__" qual st f fd ∧ L2.Binds K fd ps ds ∧ Vals dvs ds ∧ ∀ G, DqAll K G dvs dts
structure IniG (P : Program) (w : World) (K : PySem.W.Frag) (mg : Str → Option Value) (base : Heap) (CX : CXT) (k : Nat) (c : Str) (n : Nat) (dts : List D) (sp : Sp) : Prop where
  ex : ∃ C f fd ps ds dvs, mg c = some (.ref C) ∧ Mk K C f ∧ FnG P w K mg base CX k f fd ps sp ∧ L2.Binds K fd ps ds ∧ Vals dvs ds ∧ (∀ G, DqAll K G dvs dts) ∧ ps.length = n
section
variable {P : Program} {w : World} {K : PySem.W.Frag} {mg : Str → Option Value} {base : Heap} {c m qual : Str} {st : Stmt} {N ps : List Str} {k n j : Nat} {b : SM} {dts : List D}
theorem mt0n (D : MDnG K mg c m qual st ps dts) (S : FnScope N ps (defScope st)) (hl : ps.length ≤ N.length) (hn : N.length = n) (hj : ps.length = j)
    (hb : ∀ (f : Addr) (cdv : Value) (A : Around) (outer : List Env) (s : Shared) (H : Hp) (E : XK), Quiet (A.deeper (envOfC qual (defScope st) s.heap.objs.size f cdv)) → Room k (A.deeper (envOfC qual (defScope st) s.heap.objs.size f cdv)) → DSs (cxOf CX0 P w K mg base N qual (defScope st) f cdv A outer s H E).nox (fun _ _ _ _ => False) (defBody st) b) :
    MetG P w K mg base CX0 (k + 1) c m j dts (sp0 K mg j (mDef n b)) := by
  subst hn hj
  obtain ⟨C, f, fd, ds, dvs, hc, cl, me, F, bi, vd, dq⟩ := D.ex
  refine ⟨C, f, fd, ps, ds, dvs, hc, cl, me, fnG_of F S (fun vs H Q E h => sp_len h) fun cdv A outer s H vs Q E hq hr h => ?_, bi, vd, dq, rfl⟩
  obtain ⟨η, O, F, as, out, e, p1, p2, p3, hm, kk⟩ := h
  exact ⟨_, (hb f cdv A outer s H E hq hr).pss.nox, body_run p1 p2 p3 (by rw [e]; exact hl) hm kk⟩
theorem in0n (D : IniD K mg c qual st ps dts) (S : FnScope N ps (defScope st)) (hl : ps.length ≤ N.length) (hn : N.length = n) (hj : ps.length = j)
    (hb : ∀ (f : Addr) (cdv : Value) (A : Around) (outer : List Env) (s : Shared) (H : Hp) (E : XK), Quiet (A.deeper (envOfC qual (defScope st) s.heap.objs.size f cdv)) → Room k (A.deeper (envOfC qual (defScope st) s.heap.objs.size f cdv)) → DSs (cxOf CX0 P w K mg base N qual (defScope st) f cdv A outer s H E).nox (fun _ _ _ _ => False) (defBody st) b) :
    IniG P w K mg base CX0 (k + 1) c j dts (sp0 K mg j (mDef n b)) := by
  subst hn hj
  obtain ⟨C, f, fd, ds, dvs, hc, me, F, bi, vd, dq⟩ := D.ex
  refine ⟨C, f, fd, ps, ds, dvs, hc, me, fnG_of F S (fun vs H Q E h => sp_len h) fun cdv A outer s H vs Q E hq hr h => ?_, bi, vd, dq, rfl⟩
  obtain ⟨η, O, F, as, out, e, p1, p2, p3, hm, kk⟩ := h
  exact ⟨_, (hb f cdv A outer s H E hq hr).pss.nox, body_run p1 p2 p3 (by rw [e]; exact hl) hm kk⟩
end
/-! ### the rules -/
section
variable {X : Cx} {CX : CXT} {k j : Nat} {C f : Addr} {fd : FuncData} {ps : List Str} {m x : Str} {sp : Sp} {dvs : List V} {ds : List Value} {E : EK} {o e : Expr} {es : List Expr} {ta : TE} {t : TA} {p apos pos : Pos} {pl : Sem Bool}
theorem pe_methG (F : FnG X.prog X.w X.K X.mg X.base CX k f fd ps sp) (c : Cls X.K C) (hm : Meth X.K C m f) (hb : L2.Binds X.K fd ps ds) (hd : Vals dvs ds) (quiet : Quiet X.A) (hr : Room k X.A) (hx : ∀ σ, PassesAt CX X σ (E σ))
    (he : PE X o ta) (ha : PA X es t)
    (ht : ∀ {pins : List (Addr × Obj)} {s : Shared} {σ : L2.St} {H : Hp} {Q : Value → Shared → Prop}, Inv X pins σ H s → wpAny (model X.prog X.w) X.A (eval o X.env) (fun ov s1 => wpAny (model X.prog X.w) X.A (getMethod ov m pl) (fun fx s2 => ∃ us0, fx = (Value.ref f, us0) ∧ X.K.In s2.heap ∧
        wpAny (model X.prog X.w) X.A (spliced (backTo pos (starEach es X.env))) (fun us s3 => X.K.In s3.heap ∧ wpAny (model X.prog X.w) X.A (call (.ref f) (us0 ++ us)) Q X.xe s3) X.xe s2) X.xe s1) X.xe s →
      wpAny (model X.prog X.w) X.A (eval (.Call (.Attribute o m apos) es [] pos) X.env) Q X.xe s) :
    PE X (.Call (.Attribute o m apos) es [] pos) (fun σ H Q => tMeth C m sp dvs (E σ) ta t σ H Q) := by
  refine ⟨fun pins s σ H Q I h => ht I ?_⟩
  refine thn (he.run pins s σ H _ I h) fun u s1 ⟨x, H1, I1, rx, a, dx, fs, ex, ea, l, q⟩ => ?_
  subst ex
  obtain rfl : u = Value.ref a := rx
  refine getmeth_ok I1 ea c hm l ⟨[.ref a], rfl, I1.kIn, ?_⟩
  refine thn (ha.run pos pins s1 σ H1 _ I1 q) fun us s2 ⟨vs, H2, I2, r, q2⟩ => ⟨I2.kIn, ?_⟩
  exact run_fnG (E := E) (us := .ref a :: us) (vs := .ref a :: vs) F quiet hr hb hd (hx σ) I2 (.cons rfl r) q2
theorem run_makeG {pins : List (Addr × Obj)} {σ : L2.St} {H : Hp} {s : Shared} {Q : VK} {us : List Value} {vs : List V} (M : Mk X.K C f) (F : FnG X.prog X.w X.K X.mg X.base CX k f fd ps sp) (quiet : Quiet X.A) (hr : Room (k + 1) X.A)
    (hb : L2.Binds X.K fd ps ds) (hd : Vals dvs ds) (hx : PassesAt CX X σ (E σ)) (I : Inv X pins σ H s) (r : Vals vs us)
    (h : ∀ x dx, H x = none → H dx = none → dx ≠ x → sp (.ref x :: (vs ++ dvs)) (upd (upd H dx (.own x)) x (.ins C dx [])) (fun v H2 => v = .non ∧ Q (.ref x) H2) (E σ)) :
    wpAny (model X.prog X.w) X.A (call (.ref C) us) (EP X pins σ Q) X.xe s := by
  have want := h (s.heap.objs.size + 1) s.heap.objs.size (I.hok.fresh (Nat.le_succ _)) (I.hok.fresh (Nat.le_refl _)) (Nat.ne_of_lt (Nat.lt_succ_self _))
  have made := Inv.made (C := C) I
  have both : Vals (V.ref (s.heap.objs.size + 1) :: (vs ++ dvs)) (Value.ref (s.heap.objs.size + 1) :: (us ++ ds)) := .cons rfl (r.append hd)
  have size : (Value.ref (s.heap.objs.size + 1) :: us ++ ds).length = ps.length := both.length.symm.trans (F.len _ _ _ _ want)
  have run := F.run (A := X.A.under (.builtin "type.__call__" ⟨.ref C :: us, []⟩)) X.stack _ _ ⟨Value.ref (s.heap.objs.size + 1) :: us, []⟩ (Value.ref (s.heap.objs.size + 1) :: (us ++ ds)) _ _ (E σ) quiet (hr.make C us [])
    (made.env0.make C us []) (hb _ (Value.ref (s.heap.objs.size + 1) :: us) made.kIn size) both want
  refine wpAny_call (make_map (f := f) I.kIn M.makes M.init (beq_iff_eq.mp M.fn) (codeAny_mono run fun r s' got => ?_))
  match r, got with
  | .error e, got => exact hx pins _ _ e s' made got
  | .ok .next, got => exact got.elim
  | .ok .brk, got => exact got.elim
  | .ok .cont, got => exact got.elim
  | .ok (.ret u), got =>
    obtain ⟨v, H', I3, rv, ev, q3⟩ := made.after got
    subst ev
    exact ⟨rv, V.ref (s.heap.objs.size + 1), H', I3, rfl, q3⟩
theorem pe_makeG (M : Mk X.K C f) (F : FnG X.prog X.w X.K X.mg X.base CX k f fd ps sp) (quiet : Quiet X.A) (hr : Room (k + 1) X.A) (hg : Gl X x) (hm : X.mg x = some (.ref C)) (hb : L2.Binds X.K fd ps ds) (hd : Vals dvs ds) (hx : ∀ σ, PassesAt CX X σ (E σ)) (ha : PA X (e :: es) t)
    (hdb : (x == ("__debug__" : Str)) = false := by decide) (he : starEach (e :: es) X.env = (false, eval e X.env) :: starEach es X.env := by rfl) (hpl : (backTo pos (starEach es X.env)).any (·.1) = false := by rfl) :
    PE X (.Call (.Name x p) (e :: es) [] pos) (fun σ H Q => tMake C sp dvs (E σ) t σ H Q) := ⟨fun pins s σ H Q I h =>
  wpAny_Call_Name_kw (ld_glob I hg hm (PySem.W.callWith_K (h₀ := X.base) I.ok.mod.kin M.kp (thn (ha.run pos pins s σ H _ I h) fun us s1 ⟨vs, H1, I1, r, q⟩ => ⟨I1.kIn, run_makeG (E := E) M F quiet hr hb hd (hx σ) I1 r q⟩) he hpl) hdb)⟩
theorem pe_makeG0 (M : Mk X.K C f) (F : FnG X.prog X.w X.K X.mg X.base CX k f fd ps sp) (quiet : Quiet X.A) (hr : Room (k + 1) X.A) (hg : Gl X x) (hm : X.mg x = some (.ref C)) (hb : L2.Binds X.K fd ps ds) (hd : Vals dvs ds) (hx : ∀ σ, PassesAt CX X σ (E σ))
    (hdb : (x == ("__debug__" : Str)) = false := by decide) : PE X (.Call (.Name x p) [] [] pos) (fun σ H Q => tMake C sp dvs (E σ) tNil σ H Q) := ⟨fun pins s σ H Q I h =>
  wpAny_Call_Name_kw (ld_glob I hg hm (PySem.W.callWith_K0 I.kIn M.kp (run_makeG (E := E) (us := []) M F quiet hr hb hd (hx σ) I .nil h)) hdb)⟩
end
end XM
end
section
/-! calls of methods and of classes, read -/
namespace XM
open PySem PySem.Spec PyProof.Rows L2 Tl
/-- o.m(..), o an object of class c; f the method's run, dts its defaults -/
def mMeth (c m : Str) (f : FM) (dts : List D) (mo : M R) (ms : List (M R)) : M R := bnd mo fun ro ρ0 => match clsAt ro ρ0 with
  | some (_, c', fs) => if c' = c ∧ getA m fs = none then (bnd (mArgs ms) fun rs => noEx (callM f (ro :: (rs ++ dts.map R.dat)))) ρ0 else none
  | none => none
/-- c(..) -/
def newM (c : Str) (f : FM) (rs : List R) : M R := fun ρ =>
  let ρ1 := gathers rs ρ
  let p := takes rs ρ1
  match f (.ins c [] :: p.1) with
  | some (.ret (.dat .none) (s :: ts)) => some (.ok (toR s) (puts rs ts p.2))
  | _ => none
def mNew (c : Str) (f : FM) (dts : List D) (ms : List (M R)) : M R := bnd (mArgs ms) fun rs => newM c f (rs ++ dts.map R.dat)
section
variable {K : PySem.W.Frag} {mg : Str → Option Value} {mm : Mg} {B : Bs} {O O' : Ft} {A A' A1 : Al} {ρ ρ1 : Fr} {σ : L2.St} {H H' H1 G : Hp} {E : EK} {α : Nat → Option V}
theorem RRs.dats : ∀ {vs : List V} {ds : List D}, DqAll K G vs ds → RRs K mm α G H vs zer (ds.map R.dat)
  | _, _, .nil => .nil
  | _, _, .cons h r => by
    have := RRs.cons (K := K) (mm := mm) (α := α) (H := H) (r := R.dat _) ⟨rfl, h⟩ (RRs.dats r)
    rw [add_zer] at this
    exact this
theorem RRs.app : ∀ {vs ws : List V} {F F' : Ft} {rs ss : List R}, RRs K mm α G H vs F rs → RRs K mm α G H ws F' ss → RRs K mm α G H (vs ++ ws) (add F F') (rs ++ ss)
  | _, _, _, _, _, _, .nil, s => by rw [zer_add]; exact s
  | _, _, _, _, _, _, .cons h r, s => by
    rw [add_assoc]
    exact .cons h (RRs.app r s)
theorem RRs.defs {vs dvs : List V} {F : Ft} {rs : List R} {dts : List D} (h : RRs K mm α G H vs F rs) (d : ∀ G, DqAll K G dvs dts) : RRs K mm α G H (vs ++ dvs) F (rs ++ dts.map R.dat) := by
  have := h.app (RRs.dats (H := H) (mm := mm) (α := α) (d G))
  rw [add_zer] at this
  exact this
/-- an empty object is made, its __init__ run -/
theorem new_ok {E : XK} {f : FM} {n : Nat} {c : Str} {C : Addr} {rs : List R} {vs : List V} {F : Ft} {out : Out R} {Q : VK} {A0 : Al} {H0 : Hp} (S : StC K mg B (add O F) A ρ σ H) (h : RRs K ⟨mg, B.η⟩ (al A) (hid (tot (add O F) A) H) H vs F rs) (hn : rs.length + 1 = n) (hC : mg c = some (.ref C))
    (e : newM c f rs ρ = some out) (st1 : Stp O A0 H0 (add O F) A H) (k : ∀ r ρ', out = .ok r ρ' → okE K mg B O A0 σ H0 Q r ρ') :
    ∀ x dx, H x = none → H dx = none → dx ≠ x → spM K mg n f (.ref x :: vs) (upd (upd H dx (.own x)) x (.ins C dx [])) (fun v H2 => v = .non ∧ Q (.ref x) H2) E := by
  intro x dx nx ndx ne
  obtain ⟨A1, S1, s1, l1⟩ := StC.gathers rs S
  have h1 := h.weakG (α' := al A1) s1 (fun r v q => by rw [l1]; exact q)
  obtain ⟨A2, F2, S2, tr, l2, t2, n2⟩ := takes_ok S1 h1
  -- the heap with the new object
  obtain ⟨S3, st3, _⟩ := S2.newS (o := .own x) ndx
  have nx3 : (upd H dx (.own x)) x = none := by rw [upd_ne (fun q => ne q.symm)]; exact nx
  obtain ⟨S4, st4⟩ := S3.newO (o := .ins C dx []) nx3
  generalize hH : upd (upd H dx (.own x)) x (HO.ins C dx []) = Hn at S4 st4
  have hx4 : Hn x = some (.ins C dx []) := by rw [← hH]; exact upd_same
  have tr4 : TRs K ⟨mg, B.η⟩ (hid (tot (add (add O F2) (one x)) A2) Hn) Hn (takes rs (XM.gathers rs ρ)).1 vs F2 := by
    refine tr.step (st3.sh.trans st4.sh) fun a z => ?_
    have z2 : add O F2 a ≠ 0 := add_r z
    rw [st4.out a z2, st3.out a z2]
  have so : TR K ⟨mg, B.η⟩ (hid (tot (add (add O F2) (one x)) A2) Hn) Hn (.ins c []) (.ref x) (add (one x) zer) := .ins hC hx4 rfl .nil
  rw [add_zer] at so
  have eO : add (add O (sumF A2)) (add (one x) F2) = tot (add (add O F2) (one x)) A2 := by funext a; show O a + sumF A2 a + (one x a + F2 a) = O a + F2 a + one x a + sumF A2 a; omega
  unfold newM at e
  dsimp only at e
  generalize hρ : (takes rs (XM.gathers rs ρ)).2 = ρ2 at e S2 S3 S4
  cases em : f (.ins c [] :: (takes rs (XM.gathers rs ρ)).1) with
  | none => rw [em] at e; cases e
  | some fo =>
  rw [em] at e
  refine ⟨B.η, add O (sumF A2), add (one x) F2, _, fo, by rw [List.length_cons, n2, hn], by rw [eO]; exact .cons so tr4, by rw [eO]; exact S4.le1, by rw [eO]; exact S4.al, em, ?_⟩
  cases fo with
  | ex c' ts => cases e
  | ret t ts =>
    cases ts with
    | nil =>
      have : ¬ ∃ o, some o = some out ∧ False := fun ⟨_, _, z⟩ => z
      cases t with
      | dat d => cases d <;> cases e
      | _ => cases e
    | cons s ts =>
    have et : t = .dat .none ∧ out = .ok (toR s) (XM.puts rs ts ρ2) := by
      cases t with
      | dat d => cases d <;> first | (cases e; exact ⟨rfl, rfl⟩) | cases e
      | _ => cases e
    obtain ⟨rfl, rfl⟩ := et
    rintro v H' F' Ft ⟨p1, p2, p3, p4, p5, p6⟩
    have z0 : v = .non ∧ Ft = zer := by cases p2 with | dat h => cases h; exact ⟨rfl, rfl⟩
    obtain ⟨rfl, rfl⟩ := z0
    refine ⟨rfl, ?_⟩
    rw [add_zer] at p1 p3 p4 p6
    cases p1 with
    | cons ps pr =>
    rename_i Fs Fr
    have e3 : add (add O (sumF A2)) (add Fs Fr) = tot (add (add O Fs) Fr) A2 := by funext a; show O a + sumF A2 a + (Fs a + Fr a) = O a + Fs a + Fr a + sumF A2 a; omega
    rw [e3] at ps pr p3 p4 p6
    rw [eO] at p6
    have keepA : ∀ a, sumF A2 a ≠ 0 → H' a = H a := fun a z => by
      have w1 : tot (add O F2) A2 a ≠ 0 := by unfold tot add; omega
      have w2 : H a ≠ none := S2.al a w1
      rw [p5 a (by unfold add; omega), ← hH, upd_ne (fun q => by subst q; exact w2 nx), upd_ne (fun q => by subst q; exact w2 ndx)]
    have keepO : ∀ a, O a ≠ 0 → H' a = H a := fun a z => by
      have w1 : tot (add O F2) A2 a ≠ 0 := by unfold tot add; omega
      have w2 : H a ≠ none := S2.al a w1
      rw [p5 a (by unfold add; omega), ← hH, upd_ne (fun q => by subst q; exact w2 nx), upd_ne (fun q => by subst q; exact w2 ndx)]
    have sh : Same (hid (tot (add O F2) A2) H) (hid (tot (add (add O Fs) Fr) A2) H') := (st3.sh.trans st4.sh).trans p6
    have S5 : StC K mg B (add (add O Fs) Fr) A2 ρ2 σ H' := S2.move sh keepA p3 p4
    obtain ⟨A3, S6, l6, s6⟩ := S5.puts (rs := rs) pr (fun i n v q1 q2 => by rw [l2]; exact h1.nth_ref i n v q1 q2)
    rw [t2] at sh
    exact k _ _ rfl (.ref x) H' A3 Fs S6 (toR_ok (ps.step s6 fun _ _ => rfl)) ⟨⟨fun a z => (keepO a z).trans (st1.out a z), ((st1.sh.trans s1).trans sh).trans s6⟩, fun r u q => by rw [l6, l2, l1]; exact st1.al r u q⟩
end
section
variable {X : Cx} {E : EK} {o e : Expr} {es : List Expr} {c m x : Str} {f : FM} {mo : M R} {dts : List D} {k j n : Nat} {p apos pos : Pos} {pl : Sem Bool}
theorem arun_nil {K : PySem.W.Frag} {mg : Str → Option Value} {σ : L2.St} {H : Hp} {Q : List V → Hp → Prop} (h : ARun K mg (mArgs []) E σ H Q) : Q [] H := by
  obtain ⟨B, O, A, ρ, out, S, hm, kk⟩ := h
  cases hm
  exact kk.oks [] H A zer (by rw [add_zer]; exact S) .nil (by rw [add_zer]; exact Stp.refl)
theorem Aft.imp {β : Type} {K : PySem.W.Frag} {mg : Str → Option Value} {B : Bs} {O : Ft} {A : Al} {σ : L2.St} {H : Hp} {ok ok' : β → Fr → Prop} {out : Out β} (h : Aft K mg B O A σ H E ok out) (i : ∀ r ρ', ok r ρ' → ok' r ρ') : Aft K mg B O A σ H E ok' out := by
  cases out with
  | ok r ρ' => exact i r ρ' h
  | ex c ρ' => exact h
theorem run_meth {C : Addr} {dvs : List V} {ms : List (M R)} {σ : L2.St} {H : Hp} {Q : VK} (hC : X.mg c = some (.ref C)) (dq : ∀ G, DqAll X.K G dvs dts) (hn : ms.length + 1 + dts.length = n) (h : ERun X.K X.mg (mMeth c m f dts mo ms) E σ H Q) :
    tMeth C m (sp0 X.K X.mg n f) dvs (E σ) (ERun X.K X.mg mo E) (ARun X.K X.mg (mArgs ms) E) σ H Q := by
  obtain ⟨B, O, A, ρ, out, S, hm, kk⟩ := h
  refine run_bnd S hm kk.exc fun ro ρ1 v H1 A1 F1 hk S1 rr1 st1 x1 => ?_
  split at hk
  · rename_i i c' fs e1
    split at hk
    · rename_i q
      obtain ⟨rfl, q2⟩ := q
      obtain ⟨a, C', dx, fvs, Fn, pr, rfl, rfl, rfl, ha, hC', ho, hkk, _, _, _⟩ := clsAt_ok S1 rr1 e1
      rw [add_zer] at S1 st1
      have : C' = C := by have z := hC.symm.trans hC'; cases z; rfl
      subst this
      refine ⟨a, dx, fvs, rfl, ho, ?_, ?_⟩
      · cases z : List.lookup m fvs with
        | none => rfl
        | some u =>
          exfalso
          have : ∀ {fs : List (Str × T)} {fvs : List (Str × V)}, fvs.map (·.1) = fs.map (·.1) → getA m fs = none → List.lookup m fvs = none := by
            intro fs
            induction fs with
            | nil => intro fvs e _; cases fvs with | nil => rfl | cons _ _ => simp at e
            | cons p fs ih =>
              intro fvs e g
              cases fvs with
              | nil => simp at e
              | cons q fvs =>
                obtain ⟨e1, e2⟩ : q.1 = p.1 ∧ fvs.map (·.1) = fs.map (·.1) := by simpa using e
                unfold getA at g
                split at g
                · cases g
                · rename_i ne
                  obtain ⟨q1, q2⟩ := q
                  dsimp only at e1
                  subst e1
                  rw [List.lookup_cons, show (m == p.1) = false from beq_eq_false_iff_ne.mpr fun z => ne z.symm]
                  exact ih e2 g
          rw [this hkk q2] at z
          cases z
      · rw [add_zer] at x1
        refine run_args S1 hk x1 fun rs ρ2 vs H2 A2 F2 hk2 hl S2 rr2 st2 => ?_
        obtain ⟨r, ρ', rfl, e2⟩ := noEx_some hk2
        have self : RR X.K ⟨X.mg, B.η⟩ (al A2) (hid (tot (add O F2) A2) H2) H2 (.ref a) zer (.ref i) := ⟨rfl, st2.al _ _ ha⟩
        have rrs := RRs.cons self (rr2.defs dq)
        rw [zer_add] at rrs
        refine call_ok (E := fun _ _ _ _ => False) S2 rrs (by simp [hl]; omega) e2 (st1.trans st2 fun _ n => n) (fun c ρ' z => nomatch z) fun r ρ' z => by cases z; exact kk.oks
    · cases hk
  · cases hk
theorem de_meth0 (c0 : MetG X.prog X.w X.K X.mg X.base CX0 k c m n dts (sp0 X.K X.mg n f)) (quiet : Quiet X.A) (hr : Room j X.A) (hk : k ≤ j) (hn : 1 + dts.length = n) (ho : DE X E o mo)
    (ht : eval (.Call (.Attribute o m apos) [] [] pos) X.env = (do
      let ov ← eval o X.env
      standAt apos.atName
      let (f, first) ← holding [ov] (getMethod ov m pl)
      callWith pos f first (backTo pos (starEach [] X.env)) (backToKw pos (keywordEach [] X.env))) := by rfl) :
    DE X E (.Call (.Attribute o m apos) [] [] pos) (mMeth c m f dts mo []) := by
  obtain ⟨C, g, fd, ps, ds, dvs, hC, cl, me, F, bi, vd, dq, hps⟩ := c0.ex
  refine ⟨pe_imp (t := fun σ H Q => tMeth C m (sp0 X.K X.mg n f) dvs (E σ) (ERun X.K X.mg mo E) tNil σ H Q) ⟨fun pins s σ H Q I h => ?_⟩ fun σ H Q h => ?_⟩
  · refine PySem.W.methodCall_KW (pl := pl) (thn (ho.pe.run pins s σ H _ I h) fun u s1 ⟨x, H1, I1, rx, a, dx, fs, ex, ea, l, q⟩ => ?_) ht
    subst ex
    obtain rfl : u = Value.ref a := rx
    exact getmeth_ok I1 ea cl me l (PySem.W.callWith_K0 (first := [.ref a]) I1.kIn me.kp (run_fnG (E := E) (us := [.ref a]) (vs := [.ref a]) F quiet (hr.mono hk) bi vd (fun _ _ _ _ _ _ h => h.elim) I1 (.cons rfl .nil) q))
  · have q := run_meth (n := n) (ms := []) hC dq (by rw [List.length_nil, Nat.zero_add]; exact hn) h
    obtain ⟨B, O, A, ρ, out, S, hm, kk⟩ := q
    exact ⟨B, O, A, ρ, out, S, hm, kk.imp fun r ρ' q v H' A' F' S' rr st => by
      obtain ⟨a, dx, fs, e1, e2, e3, q⟩ := q v H' A' F' S' rr st
      exact ⟨a, dx, fs, e1, e2, e3, arun_nil q⟩⟩
theorem run_new {C : Addr} {dvs : List V} {ms : List (M R)} {σ : L2.St} {H : Hp} {Q : VK} (hC : X.mg c = some (.ref C)) (dq : ∀ G, DqAll X.K G dvs dts) (hn : ms.length + 1 + dts.length = n) (h : ERun X.K X.mg (mNew c f dts ms) E σ H Q) :
    tMake C (sp0 X.K X.mg n f) dvs (E σ) (ARun X.K X.mg (mArgs ms) E) σ H Q := by
  obtain ⟨B, O, A, ρ, out, S, hm, kk⟩ := h
  refine run_args S hm kk.exc fun rs ρ1 vs H1 A1 F hk hl S1 rr1 st1 => ?_
  exact new_ok S1 (rr1.defs dq) (by simp [hl]; omega) hC hk st1 fun r ρ' e => by subst e; exact kk.oks
theorem de_new {ms : List (M R)} (c0 : IniG X.prog X.w X.K X.mg X.base CX0 k c n dts (sp0 X.K X.mg n f)) (quiet : Quiet X.A) (hr : Room j X.A) (hk : k + 1 ≤ j) (hg : Gl X c) (hn : ms.length + 1 + dts.length = n) (ha : DA X E (e :: es) (mArgs ms))
    (hdb : (c == ("__debug__" : Str)) = false := by decide) (he : starEach (e :: es) X.env = (false, eval e X.env) :: starEach es X.env := by rfl) (hpl : (backTo pos (starEach es X.env)).any (·.1) = false := by rfl) :
    DE X E (.Call (.Name c p) (e :: es) [] pos) (mNew c f dts ms) := by
  obtain ⟨C, g, fd, ps, ds, dvs, hC, me, F, bi, vd, dq, rfl⟩ := c0.ex
  exact ⟨pe_imp (pe_makeG (E := E) me F quiet (hr.mono hk) hg hC bi vd (fun _ _ _ _ _ _ _ h => h.elim) ha.pa hdb he hpl) fun σ H Q h => run_new hC dq hn h⟩
theorem de_new0 (c0 : IniG X.prog X.w X.K X.mg X.base CX0 k c n dts (sp0 X.K X.mg n f)) (quiet : Quiet X.A) (hr : Room j X.A) (hk : k + 1 ≤ j) (hg : Gl X c) (hn : 1 + dts.length = n) (hdb : (c == ("__debug__" : Str)) = false := by decide) :
    DE X E (.Call (.Name c p) [] [] pos) (mNew c f dts []) := by
  obtain ⟨C, g, fd, ps, ds, dvs, hC, me, F, bi, vd, dq, rfl⟩ := c0.ex
  refine ⟨pe_imp (pe_makeG0 (E := E) me F quiet (hr.mono hk) hg hC bi vd (fun _ _ _ _ _ _ _ h => h.elim) hdb) fun σ H Q h => ?_⟩
  exact arun_nil (run_new (n := ps.length) (ms := []) hC dq (by rw [List.length_nil, Nat.zero_add]; exact hn) h)
end
end XM
end
section
/-! max(list of ints, default=d) -/
namespace Tl
open PySem PySem.Spec PyProof.Rows L2
def biggest (m : Int) (ns : List Int) : Int := ns.foldl (fun a b => if b > a then b else a) m
end Tl
end
section
/-! what is never reached; more built-ins -/
namespace XM
open PySem PySem.Spec PyProof.Rows L2 Tl
def sDead : SM := fun _ => none
section
variable {X : Cx} {E : EK} {e o : Expr} {es : List Expr} {st : Stmt} {sts : List Stmt} {p pos apos : Pos}
theorem ds_dead : DS X E st sDead := ⟨⟨fun _ _ _ _ _ _ h => by obtain ⟨_, _, _, _, _, _, hm, _⟩ := h; cases hm⟩⟩
end
/-! ### all(..) -/
def boolsOf : List D → Option (List Bool)
  | [] => some []
  | .bool i :: r => (boolsOf r).map (i :: ·)
  | _ :: _ => none
theorem boolsOf_ok {K : PySem.W.Frag} {G : Hp} : ∀ {vs : List V} {l : List D} {ns : List Bool}, DqAll K G vs l → boolsOf l = some ns → vs = ns.map V.bl
  | _, _, _, .nil, e => by cases e; rfl
  | _, _, ns, .cons (d := d) (ds := ds) a r, e => by
    cases a <;> simp only [boolsOf] at e <;> try cases e
    cases e1 : boolsOf ds with
    | none => rw [e1] at e; cases e
    | some ms => rw [e1] at e; cases e; rw [List.map_cons, boolsOf_ok r e1]
def fAll : List R → M R := fun rs ρ => match rs with
  | [r] => match itsL r ρ with
    | some l => match boolsOf l with
      | some bs => some (.ok (.dat (.bool (bs.all id))) ρ)
      | none => none
    | none => none
  | _ => none
theorem leaf_all {K : PySem.W.Frag} {mg : Str → Option Value} : Leaf K mg (rAll K) fAll := fun B O A ρ σ H E F rs vs out Q A0 H0 S rr hf st k => by
  unfold fAll at hf
  split at hf
  · cases rr with
    | cons h1 h2 =>
    cases h2
    rw [add_zer] at S h1 st
    split at hf
    · rename_i l e1
      split at hf
      · rename_i bs e2
        cases hf
        obtain ⟨a, ws, rfl, sq, dq⟩ := S.itsL h1 e1
        have := boolsOf_ok dq e2
        subst this
        exact ⟨a, bs, rfl, sq, fin_dat k.oks S (fun a => le_add a) st (.bl _)⟩
      · cases hf
    · cases hf
  · cases hf
/-! ### min(a, b) -/
def fMin2 : List R → M R := fun rs ρ => match rs with
  | [r, r2] => match vw r ρ, vw r2 ρ with
    | some (.int i), some (.int j) => some (.ok (.dat (.int (if j < i then j else i))) ρ)
    | _, _ => none
  | _ => none
theorem leaf_min2 {K : PySem.W.Frag} {mg : Str → Option Value} : Leaf K mg (fun xs H Q => ∃ i j, xs = [.int i, .int j] ∧ Q (.int (if j < i then j else i)) H) fMin2 := fun B O A ρ σ H E F rs vs out Q A0 H0 S rr hf st k => by
  unfold fMin2 at hf
  split at hf
  · cases rr with
    | cons h1 h2 =>
    cases h2 with
    | cons h2 h3 =>
    cases h3
    split at hf
    · rename_i i j e1 e2
      cases hf
      have v1 := S.view h1 e1
      have v2 := S.view h2 e2
      cases v1
      cases v2
      exact ⟨i, j, rfl, fin_dat k.oks S (fun a => le_add a) st (.int _)⟩
    · cases hf
  · cases hf
/-! ### int of a text -/
/-! ### max(.., default=0) -/
def fMaxD (d : Int) (r : R) : M R := fun ρ => match itsL r ρ with
  | some l => match intsOf l with
    | some ns => some (.ok (.dat (.int (match ns with | [] => d | m :: r => biggest m r))) ρ)
    | none => none
  | none => none
def mMaxD (d : Int) (m : M R) : M R := bnd m fun r => fMaxD d r
section
variable {X : Cx} {E : EK} {e o : Expr} {es : List Expr} {p pos apos kpos : Pos} {m mo : M R}
/-! ### isinstance(x, (tuple, list)) -/
def tyTL : Ty → Option Bool
  | .tuple => some true
  | .list => some true
  | .int => some false
  | .str => some false
  | .dict => some false
  | .none => some false
  | _ => none
def mIsTL (m : M R) : M R := bnd m fun r ρ => match tyR r ρ with
  | some t => (tyTL t).map fun b => .ok (.dat (.bool b)) ρ
  | none => none
theorem kitTL {K : PySem.W.Frag} {t : Ty} {b : Bool} (h : tyTL t = some b) : PySem.W.kitAny K (.type t.name) [.type "tuple", .type "list"] = some b := by
  cases t <;> cases h
  all_goals first
    | exact kitAny_cons (kit_ty (r := false) (by decide +kernel)) (fun _ => kitAny_cons (kit_ty (r := false) (by decide +kernel)) (fun _ => kitAny_nil) (fun z => by cases z)) (fun z => by cases z)
    | exact kitAny_cons (kit_ty (r := false) (by decide +kernel)) (fun _ => kitAny_cons (kit_ty (r := true) (by decide +kernel)) (fun z => by cases z) (fun _ => rfl)) (fun z => by cases z)
    | exact kitAny_cons (kit_ty (r := true) (by decide +kernel)) (fun z => by cases z) (fun _ => rfl)
theorem de_isTL {kk : Nat} {p1 p2 p3 : Pos} (hg : Gl X "isinstance") (hm : X.mg "isinstance" = none) (h1 : PE X (.Name "tuple" p1) (tC (.ty "tuple"))) (h2 : PE X (.Name "list" p2) (tC (.ty "list"))) (he : DE X E e m)
    (hs : starEach [e, .Tuple [.Name "tuple" p1, .Name "list" p2] kk p3] X.env = (false, eval e X.env) :: starEach [.Tuple [.Name "tuple" p1, .Name "list" p2] kk p3] X.env := by rfl)
    (hs2 : starEach [.Tuple [.Name "tuple" p1, .Name "list" p2] kk p3] X.env = (false, eval (.Tuple [.Name "tuple" p1, .Name "list" p2] kk p3) X.env) :: starEach [] X.env := by rfl)
    (hs3 : starEach [.Name "tuple" p1, .Name "list" p2] X.env = (false, eval (.Name "tuple" p1) X.env) :: starEach [.Name "list" p2] X.env := by rfl) (hs4 : starEach [.Name "list" p2] X.env = (false, eval (.Name "list" p2) X.env) :: starEach [] X.env := by rfl)
    (hpl : (backTo pos (starEach [.Tuple [.Name "tuple" p1, .Name "list" p2] kk p3] X.env)).any (·.1) = false := by rfl) :
    DE X E (.Call (.Name "isinstance" p) [e, .Tuple [.Name "tuple" p1, .Name "list" p2] kk p3] [] pos) (mIsTL m) := by
  refine ⟨pe_imp (pe_callB call_isiT hg hm boot_isinstance (pa_cons he.pe (pa_cons (pe_tup (pa_cons h1 (pa_cons h2 pa_nil hs4) hs3)) pa_nil hs2) hs) (by decide) (by decide) hs hpl) fun σ H Q h => ?_⟩
  obtain ⟨B, O, A, ρ, out, S, hm, k⟩ := h
  show ERun _ _ _ _ _ _ _
  refine run_bnd S hm k.exc fun r ρ1 v H1 A1 F hk S1 rr1 st1 x1 => ?_
  split at hk
  · rename_i t e1
    cases e2 : tyTL t with
    | none => rw [e2] at hk; cases hk
    | some b =>
      rw [e2] at hk
      cases hk
      refine ⟨by show 2 ≤ sizeLine; decide, fun q nq => ?_⟩
      obtain ⟨S2, st2, _⟩ := S1.newS (o := .tup [.ty "tuple", .ty "list"]) nq
      have rr2 := rr1.step st2 fun a n => add_r n
      exact ⟨v, q, _, _, _, b, rfl, upd_same, .cons (.ty _) (.cons (.ty _) .nil), S2.tyR rr2 e1, kitTL e2, fin_dat k.oks S2 (fun a => le_add a) (st1.trans st2 fun a n => add_l n) (.bl _)⟩
  · cases hk
/-! ### methods of texts -/
def mSM0 (f : Str → Option D) (mo : M R) : M R := bnd mo fun r ρ => match vw r ρ with
  | some (.str a) => match f a with
    | some z => if atomD z = true then some (.ok (.dat z) ρ) else none
    | none => none
  | _ => none
def mSM1 (f : Str → Str → Option D) (mo me : M R) : M R := bnd mo fun r ρ1 => match vw r ρ1 with
  | some (.str a) => (bnd me fun r2 ρ => match vw r2 ρ with
    | some (.str b) => match f a b with
      | some z => if atomD z = true then some (.ok (.dat z) ρ) else none
      | none => none
    | _ => none) ρ1
  | _ => none
end
end XM
end
section
/-! dicts that belong to somebody -/
namespace XM
open PySem PySem.Spec PyProof.Rows L2 Tl
section
variable {K : PySem.W.Frag} {mg : Str → Option Value} {mm : Mg} {B : Bs} {O O' : Ft} {A A' A1 : Al} {ρ ρ1 : Fr} {σ : L2.St} {H H' H1 G : Hp} {E : EK}
def T.dkeys : T → Option (List Key)
  | .dd l => some (l.map (·.1))
  | .od l => some (l.map (·.1))
  | _ => none
def keysR : R → Fr → Option (List Key)
  | .ref n, ρ => (ρ.rt[n]?).bind fun t => t.t.dkeys
  | .own t, _ => t.dkeys
  | _, _ => none
theorem TR.dkeys {t : T} {v : V} {F : Ft} {ks : List Key} (h : TR K mm G H t v F) (e : t.dkeys = some ks) : ∃ a kvs, v = .ref a ∧ H a = some (.dK kvs) ∧ kvs.map (·.1) = ks := by
  cases h with
  | dd ha hk _ => cases e; exact ⟨_, _, rfl, ha, hk⟩
  | od ha hk _ => cases e; exact ⟨_, _, rfl, ha, hk⟩
  | _ => cases e
end
/-! ### in, len, new -/
def mDIn (neg : Bool) (mk md : M R) : M R := bnd mk fun rk => bnd md fun rd ρ => match vw rk ρ, keysR rd ρ with
  | some (.str z), some ks => some (.ok (.dat (.bool (neg != ks.any fun j => decide (j = .inr z)))) ρ)
  | _, _ => none
def fLenD : List R → M R := fun rs ρ => match rs with
  | [r] => match keysR r ρ with
    | some ks => some (.ok (.dat (.int (ks.length : Nat))) ρ)
    | none => none
  | _ => none
def mDNew : M R := fun ρ => some (.ok (.own (.dd [])) ρ)
section
variable {X : Cx} {E : EK} {e i o f value : Expr} {pos pos' apos : Pos} {mk md mv mx : M R}
theorem de_dnew : DE X E (.Dict [] [] pos) mDNew := by
  refine ⟨pe_imp pe_dnewK fun σ H Q h => ?_⟩
  obtain ⟨B, O, A, ρ, out, S, hm, k⟩ := h
  cases hm
  intro p np
  obtain ⟨S1, st1⟩ := S.newO (o := .dK []) np
  exact k.oks (.ref p) _ A (one p) S1 (.dd upd_same rfl .nil) st1
end
end XM
end
section
/-! dicts that belong to somebody: get, put, pop -/
namespace XM
open PySem PySem.Spec PyProof.Rows L2 Tl
/-! ### d[k] -/
def dget (n : Nat) (z : Str) (ρ : Fr) : Option (R × Fr) := match ρ.rt[n]? with
  | some ⟨.dd l, _⟩ => (getA (Sum.inr z : Key) l).map fun d => (.dat d, ρ)
  | some ⟨.od _, _⟩ => borrow n (.key (.inr z)) ρ
  | _ => none
def mDGet (md mk : M R) : M R := bnd md fun rd => bnd mk fun rk ρ => match refN rd, vw rk ρ with
  | some n, some (.str z) => (dget n z ρ).map fun p => .ok p.1 p.2
  | _, _ => none
/-! ### d[k] = v -/
def noPar (n : Nat) (x : Rt) : Bool := match x.par with
  | some (j, _) => !(j == n)
  | none => true
/-- k, which is not there, gets this tree -/
def dput (n : Nat) (z : Str) (t : T) (ρ : Fr) : Option Fr := match ρ.rt[n]? with
  | some ⟨.dd l, pr⟩ => if (l.map (·.1)).any (fun j => decide (j = (Sum.inr z : Key))) = false ∧ l.length < 1000 then (match t with
    | .dat d => some { ρ with rt := ρ.rt.set n ⟨.dd (l ++ [(.inr z, d)]), pr⟩ }
    | .ins c fs => match l with
      | [] => if (ρ.rt.all fun x => noPar n x) = true then some { ρ with rt := ρ.rt.set n ⟨.od [(.inr z, .ins c fs)], pr⟩ } else none
      | _ => none
    | _ => none) else none
  | some ⟨.od l, pr⟩ => if (l.map (·.1)).any (fun j => decide (j = (Sum.inr z : Key))) = false ∧ l.length < 1000 ∧ (ρ.rt.all fun x => decide (x.par ≠ some (n, .key (.inr z)))) = true then some { ρ with rt := ρ.rt.set n ⟨.od (l ++ [(.inr z, t)]), pr⟩ } else none
  | _ => none
def mDPut (mv md mk : M R) : SM := sBnd mv fun r => sBnd md fun rd => sBnd mk fun rk ρ => match refN rd, vw rk ρ with
  | some n, some (.str z) => match takeR r ρ with
    | some p => (dput n z p.1 p.2).map fun ρ' => .nx (tidy ρ')
    | none => none
  | _, _ => none
/-! ### d.pop(k, x), for its effect -/
def dpop (n : Nat) (z : Str) (ρ : Fr) : Option Fr := match (clr (fun jp => jp.1 == n && decide (jp.2 = .key (.inr z))) ρ).rt[n]? with
  | some ⟨.dd l, pr⟩ => some { clr (fun jp => jp.1 == n && decide (jp.2 = .key (.inr z))) ρ with rt := (clr (fun jp => jp.1 == n && decide (jp.2 = .key (.inr z))) ρ).rt.set n ⟨.dd (l.filter fun q => decide (q.1 ≠ Sum.inr z)), pr⟩ }
  | some ⟨.od l, pr⟩ => some { clr (fun jp => jp.1 == n && decide (jp.2 = .key (.inr z))) ρ with rt := (clr (fun jp => jp.1 == n && decide (jp.2 = .key (.inr z))) ρ).rt.set n ⟨.od (l.filter fun q => decide (q.1 ≠ Sum.inr z)), pr⟩ }
  | _ => none
def isDict (x : Option Rt) : Bool := match x with
  | some ⟨.dd _, _⟩ => true
  | some ⟨.od _, _⟩ => true
  | _ => false
def mDPop (md mk mx : M R) : M R := bnd md fun rd ρ0 => match refN rd with
  | some n => if isDict ρ0.rt[n]? = true then (bnd mk fun rk => bnd mx fun _ ρ => match vw rk ρ with
    | some (.str z) => (dpop n z ρ).map fun ρ' => .ok (.own .gone) ρ'
    | _ => none) ρ0 else none
  | none => none
end XM
end
section
/-! dicts that belong to somebody: the rules -/
namespace XM
open PySem PySem.Spec PyProof.Rows L2 Tl
end XM
end
section
/-! a field as a target among others -/
namespace Tl
open PySem PySem.Spec PyProof.Rows L2
end Tl
end
section
namespace Tl
open PySem PySem.Spec PyProof.Rows L2
end Tl
end
section
/-! more statements: try, augmented assignment, while, targets -/
namespace XM
open PySem PySem.Spec PyProof.Rows L2 Tl
/-! ### i op= e -/
def mAugI (f : Int → Int → Int) (i : Nat) (m : M R) : SM := fun ρ => match ρ.sl[i]? with
  | some (.dat (.int a)) => (sBnd m fun r ρ1 => match vw r ρ1 with
    | some (.int b) => some (.nx (setS i (.dat (.int (f a b))) ρ1))
    | _ => none) ρ
  | _ => none
def fSubI (a b : Int) : Int := a - b
/-- xs[-1] += s -/
def mAugLast (mo me : M R) : SM := sBnd mo fun ro ρ0 => match refN ro with
  | some n => match ρ0.rt[n]? with
    | some ⟨.dl l, _⟩ => match l.getLast? with
      | some (.str a) => (sBnd me fun re ρ => match vw re ρ with
        | some (.str b) => match ρ.rt[n]? with
          | some ⟨.dl l2, pr⟩ => if l2.length = l.length ∧ a.length + b.length ≤ 1000000 then some (.nx (tidy { ρ with rt := ρ.rt.set n ⟨.dl (l2.set (l2.length - 1) (.str (a ++ b))), pr⟩ })) else none
          | _ => none
        | _ => none) ρ0
      | _ => none
    | _ => none
  | none => none
/-! ### while -/
def mWhile (mt : M Bool) (b : SM) : Nat → SM
  | 0, _ => none
  | n + 1, ρ => match mt ρ with
    | none => none
    | some (.ex c ρ1) => some (.ex c ρ1)
    | some (.ok false ρ1) => some (.nx ρ1)
    | some (.ok true ρ1) => match b ρ1 with
      | some (.nx ρ2) => mWhile mt b n ρ2
      | some (.ct ρ2) => mWhile mt b n ρ2
      | some (.bk ρ2) => some (.nx ρ2)
      | r => r
end XM
end
section
/-! for a, b in zip(a text, a list) -/
namespace Tl
open PySem PySem.Spec PyProof.Rows L2
end Tl
end
section
/-! zip of a text and a list; word, name, *terms = a tuple; self.f, x = a pair; D.get(k, x) of a dict of the module -/
namespace XM
open PySem PySem.Spec PyProof.Rows L2 Tl
def mZipSL (ma mb : M R) : M (List D) := bnd ma fun ra ρ1 => match vw ra ρ1 with
  | some (.str z) => (bnd mb fun rb => bnd (toD rb) fun db ρ => match db with
    | .list ys => if z.cps.size = ys.length then some (.ok (((strD z).zip ys).map fun p => .tuple [p.1, p.2]) ρ) else none
    | _ => none) ρ1
  | _ => none
def mUnp2 (i j k : Nat) (m : M R) : SM := sBnd m fun r ρ => match itsT r ρ with
  | some (d :: d2 :: ds) => if ds.length ≤ 10000 then some (.nx (tidy (toSl k (.own (.dl ds)) { { ρ with sl := ρ.sl.set i (.dat d) } with sl := (ρ.sl.set i (.dat d)).set j (.dat d2) }))) else none
  | _ => none
/-- o.f, x = a pair -/
def mFldTup (cs : List Str) (f : Str) (j : Nat) (mo m : M R) : SM := sBnd m fun r ρ1 => match itsT r ρ1 with
  | some [d, d2] => (sBnd mo fun ro ρ => match refN ro with
    | some n => (storeF cs n f (.dat d) ρ).map fun ρ' => .nx (tidy { ρ' with sl := ρ'.sl.set j (.dat d2) })
    | none => none) ρ1
  | _ => none
end XM
end
section
/-! match: cases of tuples of words and names -/
namespace Tl
open PySem PySem.Spec PyProof.Rows L2
/-- a pattern's reading: what it captures, or that it does not fit -/
@[reducible] def TM : Type := V → L2.St → Hp → (Option (List V) → Hp → Prop) → Prop
@[reducible] def TMs : Type := List V → L2.St → Hp → (Option (List V) → Hp → Prop) → Prop
def mCons (t : TM) (u : TMs) : TMs := fun vs σ H Q => ∃ v r, vs = v :: r ∧ t v σ H fun a H1 => match a with
  | none => Q none H1
  | some as => u r σ H1 fun b H2 => match b with
    | none => Q none H2
    | some bs => Q (some (as ++ bs)) H2
def mSeq (K : PySem.W.Frag) (n : Nat) (t : TMs) : TM := fun v σ H Q => ∃ a vs, v = .ref a ∧ SqT K H a vs ∧ (vs.length = n → t vs σ H Q) ∧ (vs.length ≠ n → Q none H)
end Tl
end
section
/-! targets out of lists; D.get(k, x), D a dict of the module; a held def called with a star; match -/
namespace XM
open PySem PySem.Spec PyProof.Rows L2 Tl
def bSeq (n : Nat) (bs : List D → Fr → Option Fr) : D → Fr → Option Fr := fun d ρ => match d with
  | .tuple ds => if ds.length = n then bs ds ρ else none
  | .list ds => if ds.length = n then bs ds ρ else none
  | _ => none
def mKGet2 (tb : List (Str × List Str)) (me mf : M R) : M R := bnd me fun re ρ1 => match vw re ρ1 with
  | some (.str k) => (bnd mf fun rf ρ => match tb.lookup k with
    | some fs => some (.ok (.dat (.tuple (fs.map .str))) ρ)
    | none => some (.ok rf ρ)) ρ1
  | _ => none
section
variable {X : Cx} {E : EK} {e a b c o e2 : Expr} {es : List Expr} {pos p : Pos} {B : Bs} {O O' : Ft} {A A' A1 : Al} {ρ ρ1 : Fr} {σ : L2.St} {H H' H1 : Hp}
theorem dg_seq {es : List Expr} {kk n : Nat} {ws : List Nat} {bs : List D → Fr → Option Fr} (hc : X.calm = true) (h : DGs X es ws bs) (hn : (assignEach es X.env).length = n := by rfl) (hst : (assignEach es X.env).findIdx? (·.1) = none := by rfl) : DG X (.Tuple es kk pos) ws (bSeq n bs) := by
  refine ⟨pg_imp (pg_or (pg_tup hc h.pgs hn hst) (pg_unl hc h.pgs hn hst)) fun v σ H Q h => ?_⟩
  obtain ⟨B, O, A, ρ, ρ', d, S, dq, e, k⟩ := h
  cases d with
  | tuple ds =>
    simp only [bSeq] at e
    split at e
    · rename_i hl
      cases dq with
      | tup ha r => exact .inl ⟨_, _, rfl, Tl.Same.tup hid_sub ha, by rw [DqAll_len r]; exact hl, B, O, A, ρ, ρ', ds, S, r, e, k⟩
    · cases e
  | list ds =>
    simp only [bSeq] at e
    split at e
    · rename_i hl
      cases dq with
      | lst ha r => exact .inr ⟨_, _, rfl, .of (hid_sub _ _ ha), by rw [DqAll_len r]; exact hl, B, O, A, ρ, ρ', ds, S, r, e, k⟩
    · cases e
  | _ => cases e
/-! ### a held def, with a star -/
structure CalG (P : Program) (w : World) (K : PySem.W.Frag) (mg : Str → Option Value) (base : Heap) (k : Nat) (f : Str) (n : Nat) (dts : List D) (m : FM) : Prop where
  ex : ∃ fa fd ps ds dvs, mg f = some (.ref fa) ∧ PySem.W.keepIn K (.ref fa) = true ∧ L2.Binds K fd ps ds ∧ Vals dvs ds ∧ (∀ G, DqAll K G dvs dts) ∧ ps.length = n + dts.length ∧ FnG P w K mg base CX0 k fa fd ps (sp0 K mg (n + dts.length) m)
theorem CalG.of {P : Program} {w : World} {K : PySem.W.Frag} {mg : Str → Option Value} {base : Heap} {k n : Nat} {f : Str} {ps : List Str} {m : FM} (h : PrG P w K mg base CX0 k f ps (sp0 K mg n m)) (l : ps.length = n) : CalG P w K mg base k f n [] m := by
  obtain ⟨fa, fd, a, b, c, F⟩ := h.ex
  exact ⟨fa, fd, ps, [], [], a, b, c, .nil, fun _ => .nil, l, F⟩
def mCallFS (i : Nat) (tb : List ((Str × Nat) × (List D × FM))) (ms : M (List R)) : M R := fun ρ => match ρ.sl[i]? with
  | some (.fn f) => if tb.any (fun q => decide (q.1.1 = f)) = true then (bnd ms fun rs ρ1 => match tb.lookup (f, rs.length) with
      | some p => noEx (callM p.2 (rs ++ p.1.map R.dat)) ρ1
      | none => none) ρ
    else none
  | _ => none
/-! ### match -/
def mPat : List (Option Str) → List D → Option (Option (List D))
  | [], [] => some (some [])
  | some w :: ps, .str y :: ds => if y = w then mPat ps ds else some none
  | none :: ps, d :: ds => (mPat ps ds).map (Option.map (d :: ·))
  | _, _ => none
def setAllS : List Sl → List Nat → List D → List Sl
  | sl, i :: is, d :: ds => setAllS (sl.set i (.dat d)) is ds
  | sl, _, _ => sl
abbrev MCs := List (List (Option Str) × List Nat × SM)
def mCases : MCs → List D → SM
  | [], _, ρ => some (.nx ρ)
  | (ps, is, b) :: cs, ds, ρ => if ds.length = ps.length then match mPat ps ds with
      | none => none
      | some none => mCases cs ds ρ
      | some (some vs) => b { ρ with sl := setAllS ρ.sl is vs }
    else mCases cs ds ρ
def itsTL (r : R) (ρ : Fr) : Option (List D) := match itsT r ρ with
  | some l => some l
  | none => itsL r ρ
def mMatch (me : M R) (cs : MCs) : SM := sBnd me fun r ρ => match itsTL r ρ with
  | some ds => mCases cs ds ρ
  | none => none
end
end XM
end
section
namespace SM
open PySem PySem.Spec PyProof.Rows L2
/-- a key as the heap or the program's text holds it -/
def KeyAtG (K : PySem.W.Frag) (H : Hp) (u : Value) (x : V × KV) : Prop := ∃ p, u = .ref p ∧ SqT K H p (keyV x.2)
theorem KeyAtG.same {K : PySem.W.Frag} {H H' : Hp} (s : Same H H') {u : Value} {x : V × KV} (h : KeyAtG K H u x) : KeyAtG K H' u x := by
  obtain ⟨p, e, h⟩ := h
  exact ⟨p, e, Tl.Same.tup s h⟩
theorem KeyAtG.reads {X : Cx} {pins : List (Addr × Obj)} {σ : L2.St} {H : Hp} {s : Shared} (I : L2.Inv X pins σ H s) {u : Value} {x : V × KV} (k : KeyAtG X.K H u x) : ∃ as, Reads s.heap u (keyD x.2) as := by
  obtain ⟨p, rfl, e⟩ := k
  obtain ⟨its, rel, ⟨o, g, c, n, d⟩, _⟩ := I.tuple e
  unfold keyV at rel
  cases rel with
  | @cons _ v1 _ _ r1 rest =>
    cases rest with
    | @cons _ v2 _ _ r2 rest =>
      cases rest
      obtain ⟨t1, rfl⟩ := r1
      have r : Reads s.heap v2 (datOf x.2) [] := by
        cases ex : x.2 with
        | n i =>
          rw [ex] at r2
          obtain ⟨t2, rfl⟩ := r2
          exact Reads.int _ _
        | s z =>
          rw [ex] at r2
          obtain ⟨t2, rfl⟩ := r2
          exact Reads.str _ _
      exact ⟨_, Reads.tuple g c d (ReadsAll.cons (Reads.int _ _) (ReadsAll.cons r ReadsAll.nil))⟩
end SM
end
section
/-! the order of keys, plainly; keys compared -/
namespace SM
open PySem PySem.Spec PyProof.Rows L2
def KV.lt : KV → KV → Bool
  | .n a, .n b => decide (a < b)
  | .n _, .s _ => true
  | .s _, .n _ => false
  | .s x, .s y => decide (x.cps.toList < y.cps.toList)
end SM
end
section
/-! sorted(xs, key=a def of the program) -/
namespace XM
open PySem PySem.Spec PyProof.Rows L2 Tl SM
def leP {α : Type} (p q : α × KV) : Bool := !(q.2.lt p.2)
def insK {α : Type} (p : α × KV) : List (α × KV) → List (α × KV)
  | [] => [p]
  | q :: r => if leP p q = true then p :: q :: r else q :: insK p r
def sortK {α : Type} : List (α × KV) → List (α × KV)
  | [] => []
  | p :: r => insK p (sortK r)
/-- the key that a def makes -/
def keyOfD : D → Option KV
  | .tuple [.int t, .int i] => if t = 0 then some (.n i) else none
  | .tuple [.int t, .str x] => if t = 1 then some (.s x) else none
  | _ => none
def keyBy (mk : FM) (d : D) : Option KV := match mk [.dat d] with
  | some (.ret (.dat t) _) => keyOfD t
  | _ => none
def keysBy (mk : FM) : List D → Option (List (D × KV))
  | [] => some []
  | d :: ds => match keyBy mk d, keysBy mk ds with
    | some k, some r => some ((d, k) :: r)
    | _, _ => none
def mSortK (mk : FM) (me : M R) : M R := bnd me fun r ρ => match itsL r ρ with
  | some l => match keysBy mk l with
    | some ks => some (.ok (.own (.dl ((sortK ks).map (·.1)))) ρ)
    | none => none
  | none => none
section
variable {X : Cx} {E : EK} {e : Expr} {pos p p2 kpos : Pos} {B : Bs} {O O' : Ft} {A A' A1 : Al} {ρ ρ1 : Fr} {σ : L2.St} {H H' H1 : Hp} {K : PySem.W.Frag} {mg : Str → Option Value} {mm : Mg}
/-- more in the heap: what was there stays, q is new -/
theorem StC.grown (S : StC K mg B O A ρ σ H) (s : Same H H') {q : Addr} {o : HO} (nq : H q = none) (hq : H' q = some o) : StC K mg B (add O (one q)) A ρ σ H' ∧ Stp O A H (add O (one q)) A H' := by
  have z := S.free nq
  have eq : ∀ a, H a ≠ none → H' a = H a := fun a n => by
    cases h : H a with
    | none => exact absurd h n
    | some u => exact s a u h
  have sh : Same (hid (tot O A) H) (hid (tot (add O (one q)) A) H') := fun a u h => by
    obtain ⟨h1, h2⟩ := hid_some h
    have ne : a ≠ q := fun e => by rw [e, nq] at h2; cases h2
    refine hid_at ?_ (s a u h2)
    have := one_ne ne
    unfold tot add at h1 ⊢
    omega
  have keep : ∀ a, sumF A a ≠ 0 → H' a = H a := fun a n => eq a (S.al a (by unfold tot add; omega))
  have le : ∀ a, tot (add O (one q)) A a ≤ 1 := fun a => by
    have h1 := S.le1 a
    by_cases e : a = q
    · subst e
      have h2 : one a a = 1 := one_self
      unfold tot add at *
      omega
    · have := one_ne e
      unfold tot add at *
      omega
  have nn : ∀ a, tot (add O (one q)) A a ≠ 0 → H' a ≠ none := fun a h => by
    by_cases e : a = q
    · subst e; rw [hq]; simp
    · have h3 := one_ne e
      have h4 : tot O A a ≠ 0 := by unfold tot add at *; omega
      have := S.al a h4
      rw [eq a this]
      exact this
  exact ⟨S.move sh keep le nn, ⟨⟨fun a h => eq a (S.al a (by unfold tot add; omega)), sh⟩, fun _ _ h => h⟩⟩
end
end XM
end
section
/-! defs with defaults; facts of classes -/
namespace XM
open PySem PySem.Spec PyProof.Rows L2 Tl
section
variable {P : Program} {w : World} {K : PySem.W.Frag} {mg : Str → Option Value} {base : Heap} {x : Str} {st : Stmt} {N ps : List Str} {k : Nat}
theorem fnG_ofD {CX : CXT} {f : Addr} {qual : Str} {fd : FuncData} {sp : Sp} {advs : List V} {kws : List (Str × V)} (F : FunD K x qual (defArgs st) (defBody st) (defScope st) advs kws f fd) (S : FnScope N ps (defScope st)) (len : ∀ vs H Q E, sp vs H Q E → vs.length = ps.length)
    (hb : ∀ (cdv : Value) (A : Around) (outer : List Env) (s : Shared) (H : Hp) (vs : List V) (Q : VK) (E : XK), Quiet (A.deeper (envOfC qual (defScope st) s.heap.objs.size f cdv)) → Room k (A.deeper (envOfC qual (defScope st) s.heap.objs.size f cdv)) → sp vs H Q E →
      ∃ t, PSs (cxOf CX P w K mg base N qual (defScope st) f cdv A outer s H E) (defBody st) t ∧ t { nx := fun _ H' => Q .non H', rt := Q } (L2.start N vs) H) : FnG P w K mg base CX (k + 1) f fd ps sp := by
  obtain ⟨oc, od, dV, kV, doc, pm, an, cdv, ct, osl, rfl, lk, hcd, _, _⟩ := F.ex
  refine ⟨len, fun A outer s H args us vs Q E quiet room env bound vals want => ?_⟩
  have size := len _ _ _ _ want
  have written : K.In s.heap := env.mod.kin.keeps fun b o e => (env.bs b o e).1
  have nolim : s.heap.NoLimit := env.mod.nolimit.keeps fun b o e => (env.bs b o e).1
  have kinds : ∀ y ∈ ps.zip us, (defScope st).names.lookup y.1 = some .local ∨ ((defScope st).names.lookup y.1 = some .cell ∧ ((cellsFrom (s.heap.objs.size + 1) (defScope st).names []).lookup y.1).isSome = true) := by
    rintro ⟨n, v⟩ hy
    exact (S.par n (List.of_mem_zip hy).1).imp id fun q => ⟨q, PySem.W.cellsFrom_some _ _ _ (.inl q)⟩
  refine codeAny_call_function room.depth (written _ _ lk) rfl S.co S.gen rfl (PySem.W.codeRec_of written hcd) (bound _ _ _ _ ?_)
  refine wpAny_newFunctionEnv_cells S.kind kinds fun e0 he s1 incall => ?_
  subst he
  refine ⟨nolim.keeps incall.toInCall.keep, codeAny_func ?_⟩
  obtain ⟨t, ht, hq⟩ := hb cdv A outer s H vs Q E quiet (room.deeper _) want
  have I1 : Inv (cxOf CX P w K mg base N qual (defScope st) f cdv A outer s H E) [] (L2.start N vs) H s1 := inv_start S room.hd env size vals incall
  refine wpAny_mono (ht.run [] s1 (L2.start N vs) H _ I1 hq) (fun fl s2 hs => ?_) fun _ _ q => q
  have ended : ∀ {σ2 : L2.St} {H2 : Hp} {v : V} {u : Value}, Inv (cxOf CX P w K mg base N qual (defScope st) f cdv A outer s H E) [] σ2 H2 s2 → RelV v u → Q v H2 → CE outer P w H s Q u s2 := fun {_ H2 v _} J rv q => ⟨v, H2, J.os, J.bare, J.base, J.hok, rv, q⟩
  cases fl with
  | brk => exact hs.elim fun _ h => h.elim fun _ h => h.2.elim
  | cont => exact hs.elim fun _ h => h.elim fun _ h => h.2.elim
  | next => exact hs.elim fun _ h => h.elim fun _ h => ended (v := .non) (u := .none) h.1 rfl h.2
  | ret u => exact hs.elim fun _ h => h.elim fun _ h => h.elim fun _ h => ended h.1 h.2.1 h.2.2
theorem fk1 {f c : Str} (h : FldK K mg f c) : ∀ c' ∈ [c], FldK K mg f c' := fun c' m => by rw [List.mem_singleton.mp m]; exact h
variable {h : Heap}
theorem fldk_mk {f c : Str} {C : Addr} (X : K.In h) (G : h.Ns mainGlobals mg) (g : PySem.W.nsIn K mainGlobals c = some (some (.ref C))) (cl : Cls K C) (n : NoAttr K C f) : FldK K mg f c := fun C' e => by
  have e2 := PySem.W.mg_of X G g
  rw [e] at e2
  cases e2
  exact ⟨cl, n⟩
theorem mdn_mk {c m qual : Str} {C f : Addr} {oc : Value} {od an : Option Addr} {osl : Array (Option Value)} {kV doc pm cdv ct : Value} (X : K.In h) (G : h.Ns mainGlobals mg)
    (g : PySem.W.nsIn K mainGlobals c = some (some (.ref C))) (cl : Cls K C) (me : Meth K C m f) (l : K.lookup f = some ⟨oc, od, .func (PySem.W.fnOf m qual (defArgs st) (defBody st) (defScope st) .none kV doc pm an cdv ct), osl⟩) (cd : PySem.W.codeIn K cdv qual = true)
    (b : ∀ (kV doc pm : Value) (an : Option Addr) (cdv ct : Value) (us : List Value), us.length = ps.length → bindArgs (PySem.W.fnOf m qual (defArgs st) (defBody st) (defScope st) .none kV doc pm an cdv ct) ⟨us, []⟩ = pure (ps.zip us)) : MDnG K mg c m qual st ps [] := by
  have F := fun_mk l cd me.kp
  exact ⟨C, f, _, [], [], PySem.W.mg_of X G g, cl, me, F, F.binds b, .nil, fun _ => .nil⟩
theorem ini_mk {c qual : Str} {C f : Addr} {oc : Value} {od an : Option Addr} {osl : Array (Option Value)} {kV doc pm cdv ct : Value} (X : K.In h) (G : h.Ns mainGlobals mg)
    (g : PySem.W.nsIn K mainGlobals c = some (some (.ref C))) (me : Mk K C f) (kf : PySem.W.keepIn K (.ref f) = true) (l : K.lookup f = some ⟨oc, od, .func (PySem.W.fnOf "__init__" qual (defArgs st) (defBody st) (defScope st) .none kV doc pm an cdv ct), osl⟩) (cd : PySem.W.codeIn K cdv qual = true)
    (b : ∀ (kV doc pm : Value) (an : Option Addr) (cdv ct : Value) (us : List Value), us.length = ps.length → bindArgs (PySem.W.fnOf "__init__" qual (defArgs st) (defBody st) (defScope st) .none kV doc pm an cdv ct) ⟨us, []⟩ = pure (ps.zip us)) : IniD K mg c qual st ps [] := by
  have F := fun_mk l cd kf
  exact ⟨C, f, _, [], [], PySem.W.mg_of X G g, me, F, F.binds b, .nil, fun _ => .nil⟩
theorem fund_mk {qual : Str} {f : Addr} {oc : Value} {od an : Option Addr} {osl : Array (Option Value)} {dV kV doc pm cdv ct : Value} {advs : List V} (l : K.lookup f = some ⟨oc, od, .func (PySem.W.fnOf x qual (defArgs st) (defBody st) (defScope st) dV kV doc pm an cdv ct), osl⟩) (c : PySem.W.codeIn K cdv qual = true) (dd : DflV K dV advs) (kp : PySem.W.keepIn K (.ref f) = true) :
    FunD K x qual (defArgs st) (defBody st) (defScope st) advs [] f (PySem.W.fnOf x qual (defArgs st) (defBody st) (defScope st) dV kV doc pm an cdv ct) := ⟨⟨oc, od, dV, kV, doc, pm, an, cdv, ct, osl, rfl, l, c, dd, .inl rfl⟩, kp⟩
/-! ### a dict of the module: tuples of texts -/
end
end XM
end
section
/-! calls without arguments; one sign in a text -/
namespace XM
open PySem PySem.Spec PyProof.Rows L2 Tl
def fInC : D → D → Option D
  | .str x, .str z => match x.cps.toList with
    | [c] => some (.bool (decide (c ∈ z.cps.toList)))
    | _ => none
  | _, _ => none
def fNotInC : D → D → Option D
  | .str x, .str z => match x.cps.toList with
    | [c] => some (.bool (!decide (c ∈ z.cps.toList)))
    | _ => none
  | _, _ => none
theorem one_sign {x : Str} {c : Nat} (h : x.cps.toList = [c]) : x = ⟨#[c]⟩ := by
  obtain ⟨⟨l⟩⟩ := x
  cases h
  rfl
theorem opa_inC {K : PySem.W.Frag} : OpA K (fun x y H Q => ∃ (c : Nat) (z : Str), x = .str ⟨#[c]⟩ ∧ y = .str z ∧ Q (.bl (decide (c ∈ z.cps.toList))) H) fInC := fun H x y d e z Q hx hy h k => by
  cases hx <;> cases hy <;> simp only [fInC] at h <;> try cases h
  split at h
  · rename_i c e1
    cases h
    exact ⟨c, _, by rw [one_sign e1], rfl, k _ (.bl _)⟩
  · cases h
theorem opa_notInC {K : PySem.W.Frag} : OpA K (fun x y H Q => ∃ (c : Nat) (z : Str), x = .str ⟨#[c]⟩ ∧ y = .str z ∧ Q (.bl (!decide (c ∈ z.cps.toList))) H) fNotInC := fun H x y d e z Q hx hy h k => by
  cases hx <;> cases hy <;> simp only [fNotInC] at h <;> try cases h
  split at h
  · rename_i c e1
    cases h
    exact ⟨c, _, by rw [one_sign e1], rfl, k _ (.bl _)⟩
  · cases h
section
variable {X : Cx} {E : EK} {x : Str} {m : FM} {k j : Nat} {p pos : Pos}
theorem de_call0 (c : PrG X.prog X.w X.K X.mg X.base CX0 k x [] (sp0 X.K X.mg 0 m)) (quiet : Quiet X.A) (hr : Room j X.A) (hk : k ≤ j) (hg : Gl X x) (hdb : (x == ("__debug__" : Str)) = false := by decide) :
    DE X E (.Call (.Name x p) [] [] pos) (mCall0 m []) := by
  refine ⟨pe_imp (pe_k0G (E := E) c quiet hr hk (fun _ _ _ _ _ _ _ h => h.elim) hg hdb) fun σ H Q h => ?_⟩
  obtain ⟨B, O, A, ρ, out, S, hm, k⟩ := h
  refine arun_nil (K := X.K) (mg := X.mg) (E := E) (Q := fun vs H1 => sp0 X.K X.mg 0 m (vs ++ []) H1 Q (E σ)) (σ := σ) ?_
  refine run_args S hm k.exc fun rs ρ1 vs H1 A1 F hk hl S1 rr1 st1 => ?_
  rw [List.append_nil]
  obtain ⟨r, ρ', rfl, e1⟩ := noEx_some hk
  exact call_ok (E := fun _ _ _ _ => False) S1 rr1 hl e1 st1 (fun c ρ' z => nomatch z) fun r ρ' z => by cases z; exact k.oks
end
end XM
end
section
/-! an object that a name holds, while its owner's method runs -/
namespace XM
open PySem PySem.Spec PyProof.Rows L2 Tl
mutual
def T.noH (i : Nat) : T → Bool
  | .hole j => !(j == i)
  | .ol l => noHs i l
  | .ot l => noHs i l
  | .od l => noHk i l
  | .ins _ l => noHf i l
  | .dat _ => true
  | .fn _ => true
  | .dl _ => true
  | .dd _ => true
  | .gone => true
  | .frz _ => true
def noHs (i : Nat) : List T → Bool
  | [] => true
  | t :: r => t.noH i && noHs i r
def noHk (i : Nat) : List (Key × T) → Bool
  | [] => true
  | p :: r => noHkp i p && noHk i r
def noHkp (i : Nat) : Key × T → Bool
  | (_, t) => t.noH i
def noHf (i : Nat) : List (Str × T) → Bool
  | [] => true
  | p :: r => noHfp i p && noHf i r
def noHfp (i : Nat) : Str × T → Bool
  | (_, t) => t.noH i
end
mutual
def T.unh (i : Nat) : T → T
  | .hole j => if j = i then .gone else .hole j
  | .ol l => .ol (unhs i l)
  | .ot l => .ot (unhs i l)
  | .od l => .od (unhk i l)
  | .ins c l => .ins c (unhf i l)
  | .dat d => .dat d
  | .fn x => .fn x
  | .dl l => .dl l
  | .dd l => .dd l
  | .gone => .gone
  | .frz l => .frz l
def unhs (i : Nat) : List T → List T
  | [] => []
  | t :: r => t.unh i :: unhs i r
def unhk (i : Nat) : List (Key × T) → List (Key × T)
  | [] => []
  | p :: r => unhkp i p :: unhk i r
def unhkp (i : Nat) : Key × T → Key × T
  | (k, t) => (k, t.unh i)
def unhf (i : Nat) : List (Str × T) → List (Str × T)
  | [] => []
  | p :: r => unhfp i p :: unhf i r
def unhfp (i : Nat) : Str × T → Str × T
  | (k, t) => (k, t.unh i)
end
theorem unhk_map {i : Nat} : ∀ {l : List (Key × T)}, (unhk i l).map (·.2) = unhs i (l.map (·.2)) ∧ (unhk i l).map (·.1) = l.map (·.1)
  | [] => ⟨by simp [unhk, unhs], by simp [unhk]⟩
  | (k, t) :: r => by
    obtain ⟨a, b⟩ := unhk_map (i := i) (l := r)
    rw [unhk, unhkp, List.map_cons, List.map_cons, List.map_cons, List.map_cons, unhs, a, b]
    exact ⟨rfl, rfl⟩
theorem unhf_map {i : Nat} : ∀ {l : List (Str × T)}, (unhf i l).map (·.2) = unhs i (l.map (·.2)) ∧ (unhf i l).map (·.1) = l.map (·.1)
  | [] => ⟨by simp [unhf, unhs], by simp [unhf]⟩
  | (k, t) :: r => by
    obtain ⟨a, b⟩ := unhf_map (i := i) (l := r)
    rw [unhf, unhfp, List.map_cons, List.map_cons, List.map_cons, List.map_cons, unhs, a, b]
    exact ⟨rfl, rfl⟩
section
variable {K : PySem.W.Frag} {mg : Str → Option Value} {G H : Hp} {η η' : Nat → V} {i : Nat}
mutual
theorem TR.unh (e : ∀ j, j ≠ i → η' j = η j) : ∀ {t : T} {v : V} {F : Ft}, TR K ⟨mg, η⟩ G H t v F → TR K ⟨mg, η'⟩ G H (t.unh i) v F
  | _, _, _, .dat h => by rw [T.unh]; exact .dat h
  | _, _, _, .fn h => by rw [T.unh]; exact .fn h
  | _, _, _, .dl h r => by rw [T.unh]; exact .dl h r
  | _, _, _, .ol h r => by rw [T.unh]; exact .ol h (TRs.unh e r)
  | _, _, _, .ot h r => by rw [T.unh]; exact .ot h (TRs.unh e r)
  | _, _, _, .dd h k r => by rw [T.unh]; exact .dd h k r
  | _, _, _, .od h k r => by rw [T.unh]; exact .od h (by rw [unhk_map.2]; exact k) (by rw [unhk_map.1]; exact TRs.unh e r)
  | _, _, _, .ins c h k r => by rw [T.unh]; exact .ins c h (by rw [unhf_map.2]; exact k) (by rw [unhf_map.1]; exact TRs.unh e r)
  | _, _, _, .gone => by rw [T.unh]; exact .gone
  | _, _, _, .frz h => by rw [T.unh]; exact .frz h
  | _, _, _, .hole (i := j) => by
    rw [T.unh]
    by_cases z : j = i
    · rw [if_pos z]; exact .gone
    · rw [if_neg z]
      have h : TR K ⟨mg, η'⟩ G H (.hole j) (η' j) zer := .hole
      rw [e j z] at h
      exact h
theorem TRs.unh (e : ∀ j, j ≠ i → η' j = η j) : ∀ {ts : List T} {vs : List V} {F : Ft}, TRs K ⟨mg, η⟩ G H ts vs F → TRs K ⟨mg, η'⟩ G H (unhs i ts) vs F
  | _, _, _, .nil => by rw [unhs]; exact .nil
  | _, _, _, .cons h r => by rw [unhs]; exact .cons (TR.unh e h) (TRs.unh e r)
end
end
end XM
end
section
/-! the rule: an expression is run while a slot's object stays out of its owner -/
namespace XM
open PySem PySem.Spec PyProof.Rows L2 Tl
def isGoneO : Option T → Bool
  | some .gone => true
  | _ => false
def mark (i k : Nat) (ρ : Fr) : Option ((Nat × Str × Key) × Fr) := match ρ.rt[k]? with
  | some ⟨tk, some (d, .key x)⟩ => match ρ.rt[d]? with
    | some ⟨td, some (n, .fld f)⟩ => if isGoneO (getc (.key x) td) = true ∧ d ≠ k ∧ (ρ.rt.all fun y => y.t.noH i) = true then
        some ((n, f, x), { ρ with rt := (ρ.rt.set d ⟨setc (.hole i) (.key x) td, some (n, .fld f)⟩).set k ⟨tk, none⟩ }) else none
    | _ => none
  | _ => none
def isHole (i : Nat) : Option T → Bool
  | some (.hole j) => j == i
  | _ => false
def relink (n : Nat) (f : Str) (x : Key) (k i : Nat) (ρ : Fr) : Fr := match borrow n (.fld f) ρ with
  | some (.ref d, ρ1) => match ρ1.rt[d]?, ρ1.rt[k]? with
    | some ⟨td, _⟩, some ⟨tk, none⟩ => if isHole i (getc (.key x) td) = true then { ρ1 with rt := ρ1.rt.set k ⟨tk, some (d, .key x)⟩ } else ρ
    | _, _ => ρ
  | _ => ρ
def unhAll (i : Nat) (ρ : Fr) : Fr := { ρ with rt := ρ.rt.map fun x => ⟨x.t.unh i, x.par⟩ }
def unhR (i : Nat) : R → R
  | .own t => .own (t.unh i)
  | r => r
def mHold (slot : Nat) (m : M R) : M R := fun ρ => match ρ.sl[slot]? with
  | some (.ref k) => match mark 0 k ρ with
    | some (q, ρ1) => match m ρ1 with
      | some (.ok r ρ2) => some (.ok (unhR 0 r) (unhAll 0 (relink q.1 q.2.1 q.2.2 k 0 ρ2)))
      | _ => none
    | none => m ρ
  | _ => m ρ
end XM
end
section
/-! a return that first puts back what was taken out -/
namespace XM
open PySem PySem.Spec PyProof.Rows L2 Tl
def mRetS (m : M R) : SM := sBnd m fun r ρ => some (.rt r (sweep (isRef r) ρ))
end XM
end
section
/-! keys compared; a tuple among tuples; names out of a pair -/
namespace SM
open PySem PySem.Spec PyProof.Rows L2
end SM
namespace XM
open PySem PySem.Spec PyProof.Rows L2 Tl SM
def fLeK (d e : D) : Option D := match keyOfD d, keyOfD e with
  | some k, some j => some (.bool (!j.lt k))
  | _, _ => none
theorem hu65 {k : Nat} {A : Around} (hr : Room k A) : A.units + 65 < cLine := by have := hr.un; omega
/-- x not in a tuple, x a tuple -/
def fNotInT (d e : D) : Option D := match e with
  | .tuple ds => if SeqAt.shaped d = true ∧ SeqAt.shaped (.tuple ds) = true then some (.bool (!ds.any fun z => PyData.eqv z d)) else none
  | _ => none
/-! ### x, y = a pair -/
def mUnpG (b : D → Fr → Option Fr) (m : M R) : SM := sBnd m fun r => sBnd (toD r) fun d ρ => (b d ρ).map fun ρ' => .nx (tidy ρ')
theorem ds_unpG {X : Cx} {E : EK} {tg e : Expr} {pos : Pos} {ws : List Nat} {b : D → Fr → Option Fr} {m : M R} (hg : DG X tg ws b) (he : DE X E e m)
    (hs : swapsWithSole [tg] e pos.line X.env = pure false := by rfl) (hw : swappedStores [tg] e X.env = pure none := by rfl) (h1 : (assignEach [tg] X.env).map (·.2) = [assign tg X.env] := by rfl) : DS X E (.Assign [tg] e pos) (mUnpG b m) := by
  refine ⟨ps_imp (ps_asg he.pe hg.pg hs hw h1) fun D σ H h => ?_⟩
  obtain ⟨B, O, A, ρ, out, S, hm, kk⟩ := h
  refine run_st S kk hm fun r ρ1 v H1 A1 F hk S1 rr st1 => ?_
  obtain ⟨d, ρ2, A2, hk2, S2, dq, st2⟩ := sBnd_D S1 rr hk
  cases hb : b d ρ2 with
  | none => rw [hb] at hk2; cases hk2
  | some ρ' =>
    rw [hb] at hk2
    cases hk2
    refine ⟨B, O, A2, ρ2, ρ', d, S2, dq, hb, fun σ' _ S' => ?_⟩
    obtain ⟨A5, S5, s5⟩ := S'.tidy
    have st := st1.trans st2 fun a n => add_l n
    exact kk _ _ A5 S5 ⟨st.out, st.sh.trans s5⟩
end XM
end
section
/-! {..}.get(k, x), x of any kind -/
namespace XM
open PySem PySem.Spec PyProof.Rows L2 Tl
end XM
end
section
namespace Cm
open PySem PySem.Spec PyProof.Rows L2 Tl XM
/-! value_order : 0 value -/
def b_value_order : SM :=
  (mSeq (mIf (asB (mIsi .str (mSlot 0)))
    (mRet (mTup [(mC (.int 1)), (mSlot 0)])) mNx)
  (mRet (mTup [(mC (.int 0)), (mSlot 0)])))
def m_value_order : FM := mDef 1 b_value_order
/-! row_order : 0 row -/
def b_row_order : SM :=
  (mRet (mCall0 m_value_order [(mItems false fIx (mSlot 0) (mC (.int 0)))]))
def m_row_order : FM := mDef 1 b_row_order
/-! in_order : 0 rows, 1 row -/
def b_in_order : SM :=
  (mRet (mB fTup [(mSortK m_row_order (mLcO [1] (mSlot 0) (bName 1) mYes (mB fTup [(mSlot 1)])))]))
def m_in_order : FM := mDef 2 b_in_order
/-! make_store : 0 tables, 1 name, 2 rows -/
/-! Session.__init__ : 0 self, 1 tables -/
/-! list_tables : 0 store, 1 name, 2 rows -/
/-! Session.tables : 0 self -/
/-! Session._go_back : 0 self -/
/-! is_sign : 0 character, 1 code -/
def b_is_sign : SM :=
  (mSeq (mSet 1 (mB (f1 fOrd) [(mSlot 0)]))
  (mRet (mAndV (mChain fLe fLe (mC (.int 32)) (mSlot 1) (mC (.int 126))) (mOp fNe (mSlot 1) (mC (.int 37))))))
def m_is_sign : FM := mDef 2 b_is_sign
/-! has_only_signs : 0 string, 1 character -/
def b_has_only_signs : SM :=
  (mRet (mB fAll [(mLc [1] (mStrI (mSlot 0)) (bName 1) mYes (mCall0 m_is_sign [(mSlot 1)]))]))
def m_has_only_signs : FM := mDef 2 b_has_only_signs
/-! may_be_prepared : 0 string -/
def b_may_be_prepared : SM :=
  (mRet (mAndV (mOp fLe (mB fLen [(mSlot 0)]) (mC (.int 200))) (mCall0 m_has_only_signs [(mSlot 0)])))
def m_may_be_prepared : FM := mDef 1 b_may_be_prepared
/-! is_parameter : 0 part -/
def b_is_parameter : SM :=
  (mRet (mAndV (mIsTL (mSlot 0)) (mOp fEq (mItems false fIx (mSlot 0) (mC (.int 0))) (mC (.str "parameter")))))
def m_is_parameter : FM := mDef 1 b_is_parameter
/-! parameters : 0 parts, 1 part -/
def b_parameters : SM :=
  (mRet (mMaxD 0 (mLcO [1] (mSlot 0) (bName 1) (asB (mCall0 m_is_parameter [(mSlot 1)])) (mItems false fIx (mSlot 1) (mC (.int 1))))))
def m_parameters : FM := mDef 2 b_parameters
/-! split_pieces : 0 string, 1 pieces, 2 in_text, 3 sign -/
def b_split_pieces : SM :=
  (mSeq (mSet 1 (mLst [(mC (.str ""))]))
  (mSeq (mSet 2 (mC (.bool false)))
  (mSeq (mFor (mStrI (mSlot 0)) (bName 3)
    (mSeq (mIf (asB (mOp fEq (mSlot 3) (mC (.str "'"))))
      (mSet 2 (mV1 fNotB (mSlot 2))) mNx)
    (mIf (mAndT (asB (mOp fEq (mSlot 3) (mC (.str " ")))) (mNotT (asB (mSlot 2))))
      (mExpr (mAppend (mSlot 1) (mC (.str ""))))
      (mAugLast (mSlot 1) (mSlot 3)))))
  (mRet (mSlot 1)))))
def m_split_pieces : FM := mDef 4 b_split_pieces
def gd_FORMS : List (Str × List Str) := [("create", ["T"]), ("drop", ["T"]), ("put", ["TXY"]), ("delete", ["TX"]), ("get", ["TX"]), ("scan", ["T", "TXY"]), ("total", ["T"]), ("begin", [""]), ("commit", [""]), ("rollback", [""]), ("save", ["N"]), ("undo", ["N"])]
/-! find_form : 0 word, 1 many, 2 form -/
def b_find_form : SM :=
  (mSeq (mForO (mKGet2 gd_FORMS (mSlot 0) (mTup [])) (bName 2)
    (mIf (asB (mOp fEq (mB fLen [(mSlot 2)]) (mSlot 1)))
      (mRet (mSlot 2)) mNx))
  sDead)
def m_find_form : FM := mDef 3 b_find_form
/-! is_name : 0 string, 1 letter -/
def b_is_name : SM :=
  (mRet (mAndV (mChain fLe fLe (mC (.int 1)) (mB fLen [(mSlot 0)]) (mC (.int 8))) (mB fAll [(mLc [1] (mStrI (mSlot 0)) (bName 1) mYes (mOp fInC (mSlot 1) (mC (.str "abcdefghijklmnopqrstuvwxyz"))))])))
def m_is_name : FM := mDef 2 b_is_name
/-! parse_name : 0 piece -/
def b_parse_name : SM :=
  (mSeq (mIf (mNotT (asB (mCall0 m_is_name [(mSlot 0)])))
    sDead mNx)
  (mRet (mSlot 0)))
def m_parse_name : FM := mDef 1 b_parse_name
/-! is_text : 0 string -/
def b_is_text : SM :=
  (mRet (mAndV (mOp fLe (mB fLen [(mSlot 0)]) (mC (.int 40))) (mAndV (mOp fNotInC (mC (.str "'")) (mSlot 0)) (mCall0 m_has_only_signs [(mSlot 0)]))))
def m_is_text : FM := mDef 1 b_is_text
/-! parse_text : 0 piece, 1 text -/
def b_parse_text : SM :=
  (mSeq (mSet 1 (mSlice (mSlot 0) (some (mC (.int 1))) (some (mV1 fNeg (mC (.int 1))))))
  (mSeq (mIf (mOrT (asB (mOp fLt (mB fLen [(mSlot 0)]) (mC (.int 2)))) (mOrT (mNotT (asB (mSM1 (fun a b => some (.bool (Txt.endswith a b))) (mSlot 0) (mC (.str "'"))))) (mNotT (asB (mCall0 m_is_text [(mSlot 1)])))))
    sDead mNx)
  (mRet (mTup [(mC (.str "text")), (mSlot 1)]))))
def m_parse_text : FM := mDef 2 b_parse_text
/-! is_number : 0 number -/
def b_is_number : SM :=
  (mRet (mChain fLe fLe (mC (.int (-2147483648))) (mSlot 0) (mC (.int 2147483647))))
def m_is_number : FM := mDef 1 b_is_number
/-! parse_number : 0 piece, 1 digits, 2 number -/
def b_parse_number : SM :=
  (mSeq (mSet 1 (mSM1 (fun a b => if a.length ≤ 1000000 then some (.str (Txt.removeprefix a b)) else none) (mSlot 0) (mC (.str "-"))))
  (mSeq (mIf (mNotT (asB (mSM0 (fun a => some (.bool (Txt.isdigit a))) (mSlot 1))))
    sDead mNx)
  (mSeq (mSet 2 (mB (f1 fIntS) [(mSlot 0)]))
  (mSeq (mIf (mOrT (asB (mOp fNe (mB (f1 fStrI) [(mSlot 2)]) (mSlot 0))) (mNotT (asB (mCall0 m_is_number [(mSlot 2)]))))
    sDead mNx)
  (mRet (mSlot 2))))))
def m_parse_number : FM := mDef 3 b_parse_number
/-! parse_part : 0 letter, 1 piece -/
def b_parse_part : SM :=
  (mSeq (mIf (asB (mOp fInC (mSlot 0) (mC (.str "TN"))))
    (mRet (mCall0 m_parse_name [(mSlot 1)])) mNx)
  (mSeq (mIf (asB (mSM1 (fun a b => some (.bool (Txt.startswith a b))) (mSlot 1) (mC (.str "'"))))
    (mRet (mCall0 m_parse_text [(mSlot 1)])) mNx)
  (mSeq (mIf (asB (mOp fIn (mSlot 1) (mC (.tuple [(.str "$1"), (.str "$2"), (.str "$3"), (.str "$4")]))))
    (mRet (mTup [(mC (.str "parameter")), (mB (f1 fIntS) [(mSlice (mSlot 1) (some (mC (.int 1))) none)])])) mNx)
  (mRet (mCall0 m_parse_number [(mSlot 1)])))))
def m_parse_part : FM := mDef 2 b_parse_part
/-! parse_statement : 0 string, 1 word, 2 pieces, 3 form, 4 parts, 5 n, 6 letter, 7 piece -/
/-! Session._prepare : 0 self, 1 name, 2 string, 3 parts -/
/-! Portal.__init__ : 0 self, 1 parts -/
def b_Portal___init__ : SM :=
  (mSeq (mSetFld ["Portal"] "parts" (mSlot 1) (mSlot 0))
  (mSeq (mSetFld ["Portal"] "rows" (mC .none) (mSlot 0))
  (mSetFld ["Portal"] "ended" (mC (.bool false)) (mSlot 0))))
def m_Portal___init__ : FM := mDef 2 b_Portal___init__
/-! fill_part : 0 part, 1 values -/
def b_fill_part : SM :=
  (mSeq (mIf (mNotT (asB (mIsi .tuple (mSlot 0))))
    (mRet (mSlot 0)) mNx)
  (mSeq (mIf (asB (mCall0 m_is_parameter [(mSlot 0)]))
    (mRet (mItems false fIx (mSlot 1) (mOp fSub (mItems false fIx (mSlot 0) (mC (.int 1))) (mC (.int 1))))) mNx)
  (mRet (mItems false fIx (mSlot 0) (mC (.int 1))))))
def m_fill_part : FM := mDef 2 b_fill_part
/-! fill_parts : 0 parts, 1 values, 2 part -/
def b_fill_parts : SM :=
  (mRet (mB fTup [(mLcO [2] (mSlot 0) (bName 2) mYes (mCall0 m_fill_part [(mSlot 2), (mSlot 1)]))]))
def m_fill_parts : FM := mDef 3 b_fill_parts
/-! Session._bind : 0 self, 1 portal, 2 name, 3 values, 4 parts -/
def b_Session__bind : SM :=
  (mSeq (mIf (asB (mDIn false (mSlot 1) (mFld ["Session"] "_portals" (mSlot 0))))
    (mRet (mTup [(mC (.str "wrong")), (mC (.str "taken"))])) mNx)
  (mSeq (mIf (asB (mOp fGe (mB fLenD [(mFld ["Session"] "_portals" (mSlot 0))]) (mC (.int 8))))
    (mRet (mTup [(mC (.str "wrong")), (mC (.str "crowded"))])) mNx)
  (mSeq (mIf (asB (mDIn true (mSlot 2) (mFld ["Session"] "_prepared" (mSlot 0))))
    (mRet (mTup [(mC (.str "wrong")), (mC (.str "no statement"))])) mNx)
  (mSeq (mSet 4 (mDGet (mFld ["Session"] "_prepared" (mSlot 0)) (mSlot 2)))
  (mSeq (mIf (asB (mOp fNe (mB fLen [(mSlot 3)]) (mCall0 m_parameters [(mSlot 4)])))
    (mRet (mTup [(mC (.str "wrong")), (mC (.str "values"))])) mNx)
  (mSeq (mDPut (mNew "Portal" m_Portal___init__ [] [(mCall0 m_fill_parts [(mSlot 4), (mSlot 3)])]) (mFld ["Session"] "_portals" (mSlot 0)) (mSlot 1))
  (mRet (mTup [(mC (.str "bound"))]))))))))
def m_Session__bind : FM := mDef 5 b_Session__bind
/-! Session._forget : 0 self, 1 name -/
def b_Session__forget : SM :=
  (mSeq (mExpr (mDPop (mFld ["Session"] "_prepared" (mSlot 0)) (mSlot 1) (mC .none)))
  (mRet (mTup [(mC (.str "closed"))])))
def m_Session__forget : FM := mDef 2 b_Session__forget
/-! Session._close : 0 self, 1 portal -/
def b_Session__close : SM :=
  (mSeq (mExpr (mDPop (mFld ["Session"] "_portals" (mSlot 0)) (mSlot 1) (mC .none)))
  (mRet (mTup [(mC (.str "closed"))])))
def m_Session__close : FM := mDef 2 b_Session__close
/-! rows_of : 0 store, 1 name, 2 other, 3 rows -/
def b_rows_of : SM :=
  (mSeq (mForO (mSlot 0) (bSeq 2 (bCons (bName 2) (bCons (bName 3) bNil)))
    (mIf (asB (mOp fEq (mSlot 2) (mSlot 1)))
      (mRet (mSlot 3)) mNx))
  (mRet (mC .none)))
def m_rows_of : FM := mDef 4 b_rows_of
/-! create_table : 0 store, 1 name -/
def b_create_table : SM :=
  (mSeq (mIf (asB (mOp fNotN (mCall0 m_rows_of [(mSlot 0), (mSlot 1)]) (mC .none)))
    (mRet (mTup [(mSlot 0), (mTup [(mC (.str "wrong")), (mC (.str "exists"))])])) mNx)
  (mSeq (mIf (asB (mOp fGe (mB fLen [(mSlot 0)]) (mC (.int 4))))
    (mRet (mTup [(mSlot 0), (mTup [(mC (.str "wrong")), (mC (.str "crowded"))])])) mNx)
  (mRet (mTup [(mTupA (mStar (mSlot 0) (mCons (mTup [(mSlot 1), (mTup [])]) (mArgs [])))), (mTup [(mC (.str "complete")), (mC (.int 0))])]))))
def m_create_table : FM := mDef 2 b_create_table
/-! rows_without : 0 store, 1 name, 2 key, 3 row -/
def b_rows_without : SM :=
  (mRet (mB fTup [(mLcO [3] (mCall0 m_rows_of [(mSlot 0), (mSlot 1)]) (bName 3) (asB (mOp fNe (mItems false fIx (mSlot 3) (mC (.int 0))) (mSlot 2))) (mSlot 3))]))
def m_rows_without : FM := mDef 4 b_rows_without
/-! with_rows : 0 store, 1 name, 2 rows, 3 other, 4 old -/
def b_with_rows : SM :=
  (mRet (mB fTup [(mLcO [3, 4] (mSlot 0) (bSeq 2 (bCons (bName 3) (bCons (bName 4) bNil))) mYes (mTup [(mSlot 3), (mIfE (asB (mOp fEq (mSlot 3) (mSlot 1))) (mSlot 2) (mSlot 4))]))]))
def m_with_rows : FM := mDef 5 b_with_rows
/-! put_row : 0 store, 1 name, 2 key, 3 entry, 4 rows -/
def b_put_row : SM :=
  (mSeq (mSet 4 (mLstA (mStar (mCall0 m_rows_without [(mSlot 0), (mSlot 1), (mSlot 2)]) (mCons (mTup [(mSlot 2), (mSlot 3)]) (mArgs [])))))
  (mSeq (mIf (asB (mOp fGt (mB fLen [(mSlot 4)]) (mC (.int 20))))
    (mRet (mTup [(mSlot 0), (mTup [(mC (.str "wrong")), (mC (.str "full"))])])) mNx)
  (mRet (mTup [(mCall0 m_with_rows [(mSlot 0), (mSlot 1), (mCall0 m_in_order [(mSlot 4)])]), (mTup [(mC (.str "complete")), (mC (.int 1))])]))))
def m_put_row : FM := mDef 5 b_put_row
def tb_ACTIONS : List (Str × Str) := [("drop", "drop_table"), ("put", "put_row"), ("delete", "delete_row"), ("get", "get_row"), ("scan", "scan_rows"), ("total", "count_rows")]
/-! run_on_store : 0 store, 1 parts, 2 word, 3 name, 4 terms, 5 action -/
/-! Session._begin : 0 self -/
def b_Session__begin : SM :=
  (mSeq (mIf (asB (mOp fNe (mFld ["Session"] "_state" (mSlot 0)) (mC (.str "none"))))
    (mRet (mTup [(mC (.str "wrong")), (mC (.str "in transaction"))])) mNx)
  (mSeq (mSetFld ["Session"] "_state" (mC (.str "open")) (mSlot 0))
  (mRet (mTup [(mC (.str "complete")), (mC (.int 0))]))))
def m_Session__begin : FM := mDef 1 b_Session__begin
/-! Session._end_transaction : 0 self -/
def b_Session__end_transaction : SM :=
  (mSeq (mSetFld ["Session"] "_state" (mC (.str "none")) (mSlot 0))
  (mSeq (mSetFld ["Session"] "_savepoints" (mLst []) (mSlot 0))
  (mSetFld ["Session"] "_portals" mDNew (mSlot 0))))
def m_Session__end_transaction : FM := mDef 1 b_Session__end_transaction
/-! Session._commit : 0 self -/
def b_Session__commit : SM :=
  (mSeq (mIf (asB (mOp fEq (mFld ["Session"] "_state" (mSlot 0)) (mC (.str "none"))))
    (mRet (mTup [(mC (.str "wrong")), (mC (.str "no transaction"))])) mNx)
  (mSeq (mIf (asB (mOp fEq (mFld ["Session"] "_state" (mSlot 0)) (mC (.str "failed"))))
    (mSeq (mSetFld ["Session"] "_store" (mFld ["Session"] "_base" (mSlot 0)) (mSlot 0))
    (mSeq (mExpr (mMeth "Session" "_end_transaction" m_Session__end_transaction [] (mSlot 0) []))
    (mRet (mTup [(mC (.str "wrong")), (mC (.str "rolled back"))])))) mNx)
  (mSeq (mSetFld ["Session"] "_base" (mFld ["Session"] "_store" (mSlot 0)) (mSlot 0))
  (mSeq (mExpr (mMeth "Session" "_end_transaction" m_Session__end_transaction [] (mSlot 0) []))
  (mRet (mTup [(mC (.str "complete")), (mC (.int 0))]))))))
def m_Session__commit : FM := mDef 1 b_Session__commit
/-! Session._roll_back : 0 self -/
def b_Session__roll_back : SM :=
  (mSeq (mIf (asB (mOp fEq (mFld ["Session"] "_state" (mSlot 0)) (mC (.str "none"))))
    (mRet (mTup [(mC (.str "wrong")), (mC (.str "no transaction"))])) mNx)
  (mSeq (mSetFld ["Session"] "_store" (mFld ["Session"] "_base" (mSlot 0)) (mSlot 0))
  (mSeq (mExpr (mMeth "Session" "_end_transaction" m_Session__end_transaction [] (mSlot 0) []))
  (mRet (mTup [(mC (.str "complete")), (mC (.int 0))])))))
def m_Session__roll_back : FM := mDef 1 b_Session__roll_back
/-! Session._save : 0 self, 1 name -/
def b_Session__save : SM :=
  (mSeq (mIf (asB (mOp fEq (mFld ["Session"] "_state" (mSlot 0)) (mC (.str "none"))))
    (mRet (mTup [(mC (.str "wrong")), (mC (.str "no transaction"))])) mNx)
  (mSeq (mIf (asB (mOp fGe (mB fLen [(mFld ["Session"] "_savepoints" (mSlot 0))]) (mC (.int 10))))
    (mRet (mTup [(mC (.str "wrong")), (mC (.str "crowded"))])) mNx)
  (mSeq (mExpr (mAppend (mFld ["Session"] "_savepoints" (mSlot 0)) (mTup [(mSlot 1), (mFld ["Session"] "_store" (mSlot 0))])))
  (mRet (mTup [(mC (.str "complete")), (mC (.int 0))])))))
def m_Session__save : FM := mDef 2 b_Session__save
/-! Session._undo : 0 self, 1 name, 2 at -/
def b_Session__undo : SM :=
  (mSeq (mIf (asB (mOp fEq (mFld ["Session"] "_state" (mSlot 0)) (mC (.str "none"))))
    (mRet (mTup [(mC (.str "wrong")), (mC (.str "no transaction"))])) mNx)
  (mSeq (mSet 2 (mOp fSub (mB fLen [(mFld ["Session"] "_savepoints" (mSlot 0))]) (mC (.int 1))))
  (mSeq (mWhile (mAndT (asB (mOp fGe (mSlot 2) (mC (.int 0)))) (asB (mOp fNe (mItems false fIx (mItems false fIx (mFld ["Session"] "_savepoints" (mSlot 0)) (mSlot 2)) (mC (.int 0))) (mSlot 1))))
    (mAugI fSubI 2 (mC (.int 1))) 12)
  (mSeq (mIf (asB (mOp fLt (mSlot 2) (mC (.int 0))))
    (mRet (mTup [(mC (.str "wrong")), (mC (.str "no savepoint"))])) mNx)
  (mSeq (mSetFld ["Session"] "_savepoints" (mSlice (mFld ["Session"] "_savepoints" (mSlot 0)) none (some (mOp fAdd (mSlot 2) (mC (.int 1))))) (mSlot 0))
  (mSeq (mSetFld ["Session"] "_store" (mItems false fIx (mItems false fIx (mFld ["Session"] "_savepoints" (mSlot 0)) (mSlot 2)) (mC (.int 1))) (mSlot 0))
  (mSeq (mSetFld ["Session"] "_state" (mC (.str "open")) (mSlot 0))
  (mRet (mTup [(mC (.str "complete")), (mC (.int 0))])))))))))
def m_Session__undo : FM := mDef 3 b_Session__undo
/-! Session._run_statement : 0 self, 1 parts, 2 name, 3 answer -/
/-! Session._run : 0 self, 1 name, 2 most, 3 portal, 4 answer -/
/-! Session._run_command : 0 self, 1 command, 2 name, 3 string, 4 portal, 5 values, 6 most -/
/-! Session.run_batch : 0 self, 1 commands, 2 replies, 3 failed, 4 command, 5 reply -/
/-! _law_did : 0 session, 1 string, 2 values, 3 commands -/
/-! _law_tables_hold : 0 count, 1 session, 2 k, 3 due, 4 table -/
/-! _law_named_hold : 0 count, 1 session, 2 k, 3 told, 4 commands, 5 replies, 6 due -/
/-! _law_portals_hold : 0 session, 1 commands, 2 command, 3 word, 4 told, 5 k -/
/-! _law_saves_hold : 0 count, 1 session, 2 k, 3 due -/
/-! law : 0 script, 1 session, 2 key, 3 k -/
end Cm
end
section
/-! texts as lists of codes -/
namespace Mx
open PySem PySem.Spec PyProof.Rows L2 SX
/-! ### numbers -/
def intS (n : Int) : List Nat := if n < 0 then 45 :: TL.numL n.natAbs else TL.numL n.natAbs
theorem str_int (n : Int) : Str.ofString (toString n) = S (intS n) := by
  unfold intS
  by_cases h : n < 0
  · rw [if_pos h, toString_neg h]
    have e : (0 : Int) - n = ((n.natAbs : Nat) : Int) := by omega
    rw [e]
    have a : ∀ x y : String, Str.ofString (x ++ y) = Str.ofString x ++ Str.ofString y := fun x y => by
      apply TL.ext_tl
      rw [TL.tl_append]
      show cpsOfBytes 0 0 (x ++ y).toByteArray.data.toList = cpsOfBytes 0 0 x.toByteArray.data.toList ++ cpsOfBytes 0 0 y.toByteArray.data.toList
      rw [cpsOfBytes_string, cpsOfBytes_string, cpsOfBytes_string, String.toList_append, List.map_append]
    rw [a, num_S]
    show S [45] ++ S _ = _
    rw [S_cat]; rfl
  · rw [if_neg h]
    have e : n = ((n.natAbs : Nat) : Int) := by omega
    conv => lhs; rw [e]
    exact num_S _
end Mx
end
section
/-! running a def's function, step by step -/
namespace XM
open PySem L2 SX
/-- a type that names what simp shall leave alone -/
abbrev Res {α : Sort 1} (_ : α) (τ : Type) : Type := τ
def andM {β γ : Type} (x : Option (Out β)) (k : β → M γ) : Res k (Option (Out γ)) := match x with
  | none => none
  | some (.ex c ρ1) => some (.ex c ρ1)
  | some (.ok r ρ1) => k r ρ1
theorem andM_ext {β γ : Type} {x : Option (Out β)} {k k' : β → M γ} (h : ∀ r ρ, k r ρ = k' r ρ) : andM x k = andM x k' := by
  cases x with
  | none => rfl
  | some o => cases o with
    | ex c r => rfl
    | ok r ρ1 => exact h r ρ1
section
variable {β γ : Type} {m : M β} {k : β → M γ} {ρ ρ' : Fr} {r : β} {c : Str}
theorem andM_ok : andM (some (.ok r ρ)) k = k r ρ := rfl
theorem andM_ex : andM (some (.ex c ρ)) k = some (.ex c ρ) := rfl
theorem at_bnd : bnd m k ρ = andM (m ρ) k := rfl
end
def andS {β : Type} (x : Option (Out β)) (k : β → Fr → Option SO) : Res k (Option SO) := match x with
  | none => none
  | some (.ex c ρ1) => some (.ex c ρ1)
  | some (.ok r ρ1) => k r ρ1
def andQ (x : Option SO) (k : SM) : Res k (Option SO) := match x with
  | some (.nx ρ1) => k ρ1
  | o => o
def iteM {γ : Type} (b : Bool) (x y : γ) : Res (x, y) γ := if b = true then x else y
theorem iteM_true {γ : Type} {x y : γ} : iteM true x y = x := rfl
theorem iteM_false {γ : Type} {x y : γ} : iteM false x y = y := rfl
/-- a partial value -/
def andO {α γ : Type} (x : Option α) (k : α → Option γ) : Res k (Option γ) := match x with
  | none => none
  | some a => k a
section
variable {β γ : Type} {r : β} {ρ ρ' : Fr} {c : Str} {m : M β} {k : β → Fr → Option SO} {s t : SM}
theorem andS_ok : andS (some (.ok r ρ)) k = k r ρ := rfl
theorem andS_ex : andS (some (.ex c ρ)) k = some (.ex c ρ) := rfl
theorem andQ_nx : andQ (some (.nx ρ)) s = s ρ := rfl
theorem andQ_rt {r : R} : andQ (some (.rt r ρ)) s = some (.rt r ρ) := rfl
theorem andQ_ex : andQ (some (.ex c ρ)) s = some (.ex c ρ) := rfl
theorem andQ_bk : andQ (some (.bk ρ)) s = some (.bk ρ) := rfl
theorem andQ_ct : andQ (some (.ct ρ)) s = some (.ct ρ) := rfl
theorem andO_some {α γ : Type} {a : α} {k : α → Option γ} : andO (some a) k = k a := rfl
theorem andO_none {α γ : Type} {k : α → Option γ} : andO none k = none := rfl
theorem at_seq : mSeq s t ρ = andQ (s ρ) t := rfl
theorem at_nx : mNx ρ = some (.nx ρ) := rfl
theorem at_sBnd : sBnd m k ρ = andS (m ρ) k := rfl
end
section
variable {ρ : Fr} {m ma mb mc : M R} {mt : M Bool} {i : Nat} {s t : SM} {d e : D} {ms : List (M R)} {mr : M (List R)}
theorem at_expr : mExpr m ρ = andS (m ρ) fun _ ρ => some (.nx (tidy ρ)) := rfl
theorem at_ret : mRet m ρ = andS (m ρ) fun r ρ => some (.rt r ρ) := rfl
theorem at_retN : mRetN ρ = some (.rt (.dat .none) ρ) := rfl
theorem at_if : mIf mt s t ρ = andS (mt ρ) fun c ρ => iteM c (s ρ) (t ρ) := by
  unfold mIf sBnd andS iteM
  cases mt ρ with
  | none => rfl
  | some o => cases o with
    | ex c r => rfl
    | ok r ρ1 => cases r <;> rfl
theorem at_set : mSet i m ρ = andS (m ρ) fun r ρ => some (.nx (setS i r ρ)) := rfl
def atSlot (s : Option Sl) (ρ : Fr) : Option (Out R) := match s with
  | some (.dat d) => some (.ok (.dat d) ρ)
  | some (.fn x) => some (.ok (.fn x) ρ)
  | some (.ref r) => match ρ.rt[r]? with
    | some _ => some (.ok (.ref r) ρ)
    | none => none
  | _ => none
theorem at_slot : mSlot i ρ = atSlot ρ.sl[i]? ρ := rfl
def atRef (t : Option Rt) (r : Nat) (ρ : Fr) : Option (Out R) := match t with
  | some _ => some (.ok (.ref r) ρ)
  | none => none
theorem atSlot_dat : atSlot (some (.dat d)) ρ = some (.ok (.dat d) ρ) := rfl
theorem atSlot_fn {x : Str} : atSlot (some (.fn x)) ρ = some (.ok (.fn x) ρ) := rfl
theorem atSlot_ref {r : Nat} : atSlot (some (.ref r)) ρ = atRef ρ.rt[r]? r ρ := by
  show (match ρ.rt[r]? with | some _ => _ | none => _) = _
  cases ρ.rt[r]? <;> rfl
theorem atRef_some {t : Rt} {r : Nat} : atRef (some t) r ρ = some (.ok (.ref r) ρ) := rfl
theorem at_c : mC d ρ = some (.ok (.dat d) ρ) := rfl
theorem at_f {x : Str} : mF x ρ = some (.ok (.fn x) ρ) := rfl
/-! values -/
theorem vw_dat : vw (.dat d) ρ = some d := rfl
theorem vw_own {t : T} : vw (.own t) ρ = t.view := rfl
theorem vw_ref {r : Nat} : vw (.ref r) ρ = (ρ.rt[r]?).bind fun t => t.t.view := rfl
theorem view_dat : T.view (.dat d) = some d := by unfold T.view; rfl
theorem view_dl {l : List D} : T.view (.dl l) = some (.list l) := by unfold T.view; rfl
def atomR (z : Option D) (ρ : Fr) : Option (Out R) := match z with
  | some z => if atomD z = true then some (.ok (.dat z) ρ) else none
  | none => none
theorem atomR_int {i : Int} : atomR (some (.int i)) ρ = some (.ok (.dat (.int i)) ρ) := rfl
theorem atomR_str {x : Str} : atomR (some (.str x)) ρ = some (.ok (.dat (.str x)) ρ) := rfl
theorem atomR_bool {b : Bool} : atomR (some (.bool b)) ρ = some (.ok (.dat (.bool b)) ρ) := rfl
theorem atomR_non : atomR (some .none) ρ = some (.ok (.dat .none) ρ) := rfl
def atomB (z : Option D) (ρ : Fr) : Option (Out Bool) := match z with
  | some (.bool b) => some (.ok b ρ)
  | _ => none
theorem atomB_bool {b : Bool} : atomB (some (.bool b)) ρ = some (.ok b ρ) := rfl
def op2 (f : D → D → Option D) (x y : Option D) : Option D := match x, y with
  | some d, some e => f d e
  | _, _ => none
theorem op2_some {f : D → D → Option D} : op2 f (some d) (some e) = f d e := rfl
theorem at_op {f : D → D → Option D} : mOp f ma mb ρ = andM (ma ρ) fun ra ρ => andM (mb ρ) fun rb ρ => atomR (op2 f (vw ra ρ) (vw rb ρ)) ρ := by
  refine andM_ext fun ra ρ1 => andM_ext fun rb ρ2 => ?_
  cases h1 : vw ra ρ2 with
  | none => simp only [op2, atomR]
  | some d =>
    cases h2 : vw rb ρ2 with
    | none => simp only [op2, atomR]
    | some e =>
      simp only [op2, atomR]
      try (cases f d e <;> rfl)
theorem at_asB : asB m ρ = andM (m ρ) fun r ρ => atomB (vw r ρ) ρ := rfl
theorem at_notT : mNotT mt ρ = andM (mt ρ) fun b ρ => some (.ok (!b) ρ) := rfl
theorem at_andT {mt' : M Bool} : mAndT mt mt' ρ = andM (mt ρ) fun b ρ => iteM b (mt' ρ) (some (.ok false ρ)) := by
  unfold mAndT bnd andM iteM
  cases mt ρ with
  | none => rfl
  | some o => cases o with
    | ex c r => rfl
    | ok r ρ1 => cases r <;> rfl
theorem at_orT {mt' : M Bool} : mOrT mt mt' ρ = andM (mt ρ) fun b ρ => iteM b (some (.ok true ρ)) (mt' ρ) := by
  unfold mOrT bnd andM iteM
  cases mt ρ with
  | none => rfl
  | some o => cases o with
    | ex c r => rfl
    | ok r ρ1 => cases r <;> rfl
theorem at_andV : mAndV ma mb ρ = andM (ma ρ) fun r ρ => andM (atomB (vw r ρ) ρ) fun b ρ => iteM b (mb ρ) (some (.ok (.dat (.bool false)) ρ)) := by
  refine andM_ext fun ra ρ1 => ?_
  cases vw ra ρ1 with
  | none => rfl
  | some d =>
    cases d <;> (try rfl)
    rename_i b; cases b <;> rfl
theorem at_orV : mOrV ma mb ρ = andM (ma ρ) fun r ρ => andM (atomB (vw r ρ) ρ) fun b ρ => iteM b (some (.ok (.dat (.bool true)) ρ)) (mb ρ) := by
  refine andM_ext fun ra ρ1 => ?_
  cases vw ra ρ1 with
  | none => rfl
  | some d =>
    cases d <;> (try rfl)
    rename_i b; cases b <;> rfl
theorem at_ifE : mIfE mt ma mb ρ = andM (mt ρ) fun c ρ => iteM c (ma ρ) (mb ρ) := by
  unfold mIfE bnd andM iteM
  cases mt ρ with
  | none => rfl
  | some o => cases o with
    | ex c r => rfl
    | ok r ρ1 => cases r <;> rfl
def op1 (f : D → Option D) (x : Option D) : Option D := match x with
  | some d => f d
  | none => none
theorem op1_some {f : D → Option D} : op1 f (some d) = f d := rfl
theorem at_v1 {f : D → Option D} : mV1 f m ρ = andM (m ρ) fun r ρ => atomR (op1 f (vw r ρ)) ρ := by
  refine andM_ext fun r ρ1 => ?_
  cases vw r ρ1 <;> rfl
/-! arguments, displays -/
theorem at_args0 : mArgs [] ρ = some (.ok [] ρ) := rfl
theorem at_args1 : mArgs (m :: ms) ρ = andM (m ρ) fun r ρ => andM (mArgs ms ρ) fun rs ρ => some (.ok (r :: rs) ρ) := rfl
theorem at_cons : mCons m mr ρ = andM (m ρ) fun r ρ => andM (mr ρ) fun rs ρ => some (.ok (r :: rs) ρ) := rfl
theorem at_star : mStar m mr ρ = andM (m ρ) fun r ρ1 => andO (its false r ρ1) fun l => andM (mr ρ1) fun rs ρ => some (.ok (l.map R.dat ++ rs) ρ) := by
  refine andM_ext fun r ρ1 => ?_
  cases its false r ρ1 <;> rfl
theorem toDs_nil : toDs [] ρ = some (.ok [] ρ) := rfl
theorem toDs_cons {r : R} {rs : List R} : toDs (r :: rs) ρ = andM (toD r ρ) fun d ρ => andM (toDs rs ρ) fun ds ρ => some (.ok (d :: ds) ρ) := rfl
theorem toD_dat : toD (.dat d) ρ = some (.ok d ρ) := rfl
theorem toD_own {t : T} : toD (.own t) ρ = t.view.map fun d => .ok d ρ := rfl
theorem toD_ref {n : Nat} : toD (.ref n) ρ = andO ρ.rt[n]? fun x => x.t.view.map fun d => .ok d { ρ with rt := ρ.rt.set n ⟨.dat d, x.par⟩ } := by
  show (match ρ.rt[n]? with | some x => _ | none => _) = _
  cases ρ.rt[n]? <;> rfl
theorem toDs_dats : ∀ {l : List D} {ρ : Fr}, toDs (l.map R.dat) ρ = some (.ok l ρ)
  | [], _ => rfl
  | d :: l, ρ => by rw [List.map_cons, toDs_cons, toD_dat, andM_ok, toDs_dats]; rfl
theorem toDs_app : ∀ {l : List D} {rs : List R} {ρ : Fr}, toDs (l.map R.dat ++ rs) ρ = andM (toDs rs ρ) fun ds ρ => some (.ok (l ++ ds) ρ)
  | [], rs, ρ => by
    rw [List.map_nil, List.nil_append]
    cases toDs rs ρ with
    | none => rfl
    | some o => cases o <;> rfl
  | d :: l, rs, ρ => by
    rw [List.map_cons, List.cons_append, toDs_cons, toD_dat, andM_ok, toDs_app]
    cases toDs rs ρ with
    | none => rfl
    | some o => cases o <;> rfl
def small {γ : Type} (n k : Nat) (x : Option γ) : Option γ := if n ≤ k then x else none
theorem small_yes {γ : Type} {n k : Nat} {x : Option γ} (h : n ≤ k) : small n k x = x := if_pos h
theorem at_tup : mTup ms ρ = andM (mArgs ms ρ) fun rs ρ => andM (toDs rs ρ) fun ds ρ => small ds.length 1000 (some (.ok (.dat (.tuple ds)) ρ)) := rfl
theorem at_lst : mLst ms ρ = andM (mArgs ms ρ) fun rs ρ => andM (toDs rs ρ) fun ds ρ => small ds.length 1000 (some (.ok (.own (.dl ds)) ρ)) := rfl
theorem at_tupA : mTupA mr ρ = andM (mr ρ) fun rs ρ => andM (toDs rs ρ) fun ds ρ => small ds.length 1000000 (some (.ok (.dat (.tuple ds)) ρ)) := rfl
theorem at_lstA : mLstA mr ρ = andM (mr ρ) fun rs ρ => andM (toDs rs ρ) fun ds ρ => small ds.length 1000000 (some (.ok (.own (.dl ds)) ρ)) := rfl
/-! items -/
theorem its_dat {b : Bool} : its b (.dat d) ρ = T.items b (.dat d) := rfl
theorem its_own {b : Bool} {t : T} : its b (.own t) ρ = t.items b := rfl
theorem its_ref {b : Bool} {r : Nat} : its b (.ref r) ρ = (ρ.rt[r]?).bind fun t => t.t.items b := rfl
theorem items_list {b : Bool} {l : List D} : T.items b (.dat (.list l)) = some l := rfl
theorem items_tup {l : List D} : T.items false (.dat (.tuple l)) = some l := rfl
theorem items_dl {b : Bool} {l : List D} : T.items b (.dl l) = some l := rfl
theorem items_frz {ns : List Int} : T.items false (.frz ns) = some (ns.map .int) := rfl
theorem at_items {b : Bool} {f : List D → D → Option R} : mItems b f ma mb ρ = andM (ma ρ) fun ra ρ => andM (mb ρ) fun rb ρ => andO (its b ra ρ) fun l => andO (vw rb ρ) fun e => (f l e).map fun z => .ok z ρ := by
  refine andM_ext fun ra ρ1 => andM_ext fun rb ρ2 => ?_
  cases its b ra ρ2 <;> cases vw rb ρ2 <;> rfl
theorem fIx_int {l : List D} {i : Int} : fIx l (.int i) = (atI l i).map .dat := rfl
theorem at_cat : mCat ma mb ρ = andM (ma ρ) fun ra ρ => andM (mb ρ) fun rb ρ => andO (its true ra ρ) fun l => andO (its true rb ρ) fun l2 => small (l.length + l2.length) 1000000 (some (.ok (.own (.dl (l ++ l2))) ρ)) := by
  refine andM_ext fun ra ρ1 => andM_ext fun rb ρ2 => ?_
  cases its true ra ρ2 <;> cases its true rb ρ2 <;> rfl
def intD (x : Option D) : Option Int := match x with
  | some (.int i) => some i
  | _ => none
theorem intD_int {i : Int} : intD (some (.int i)) = some i := rfl
def strO (x : Option D) : Option Str := match x with
  | some (.str i) => some i
  | _ => none
theorem strO_str {i : Str} : strO (some (.str i)) = some i := rfl
def okIf {γ : Type} (p : Prop) [Decidable p] (x : Option γ) : Option γ := if p then x else none
theorem okIf_yes {γ : Type} {p : Prop} [Decidable p] {x : Option γ} (h : p) : okIf p x = x := if_pos h
theorem at_rep : mRep ma mb ρ = andM (ma ρ) fun ra ρ => andM (mb ρ) fun rb ρ => andO (its true ra ρ) fun l => andO (intD (vw rb ρ)) fun n => okIf (-1000000 ≤ n ∧ n ≤ 1000000 ∧ l.length * n.toNat ≤ 1000000) (some (.ok (.own (.dl (List.replicate n.toNat l).flatten)) ρ)) := by
  refine andM_ext fun ra ρ1 => andM_ext fun rb ρ2 => ?_
  cases its true ra ρ2 <;> cases h : vw rb ρ2 <;> (try rfl)
  · rename_i z; cases z <;> rfl
/-! iteration -/
theorem at_seqI : mSeqI m ρ = andM (m ρ) fun r ρ => seqD r ρ := rfl
def listOf (x : Option (Out D)) : Option (Out (List D)) := match x with
  | some (.ok (.list l) ρ1) => some (.ok l ρ1)
  | some (.ok (.tuple l) ρ1) => some (.ok l ρ1)
  | _ => none
theorem listOf_list {l : List D} : listOf (some (.ok (.list l) ρ)) = some (.ok l ρ) := rfl
theorem listOf_tup {l : List D} : listOf (some (.ok (.tuple l) ρ)) = some (.ok l ρ) := rfl
theorem seqD_dat : seqD (.dat d) ρ = listOf (toD (.dat d) ρ) := rfl
theorem seqD_own {t : T} : seqD (.own t) ρ = listOf (toD (.own t) ρ) := rfl
def seqRef (x : Option Rt) (n : Nat) (ρ : Fr) : Option (Out (List D)) := match x with
  | some ⟨.frz ns, _⟩ => some (.ok (ns.map .int) ρ)
  | _ => listOf (toD (.ref n) ρ)
theorem seqD_ref {n : Nat} : seqD (.ref n) ρ = seqRef ρ.rt[n]? n ρ := by
  show (match ρ.rt[n]? with | some ⟨.frz ns, _⟩ => _ | _ => _) = _
  unfold seqRef
  rfl
theorem seqRef_dat {n : Nat} {p} : seqRef (some ⟨.dat d, p⟩) n ρ = listOf (toD (.ref n) ρ) := rfl
theorem seqRef_dl {l : List D} {n : Nat} {p} : seqRef (some ⟨.dl l, p⟩) n ρ = listOf (toD (.ref n) ρ) := rfl
theorem seqRef_frz {l : List Int} {n : Nat} {p} : seqRef (some ⟨.frz l, p⟩) n ρ = some (.ok (l.map .int) ρ) := rfl
theorem at_strI : mStrI m ρ = andM (m ρ) fun r ρ => andO (strO (vw r ρ)) fun z => some (.ok (strD z) ρ) := by
  refine andM_ext fun r ρ1 => ?_
  cases vw r ρ1 with
  | none => rfl
  | some d => cases d <;> rfl
theorem at_rng1 : mRng1 m ρ = andM (m ρ) fun r ρ => andO (intD (vw r ρ)) fun j => okIf (-1000000 ≤ j ∧ j ≤ 1000000) (some (.ok (rangeD 0 j.toNat) ρ)) := by
  refine andM_ext fun r ρ1 => ?_
  cases vw r ρ1 with
  | none => rfl
  | some d => cases d <;> rfl
theorem at_rev1 : mRev1 m ρ = andM (m ρ) fun r ρ => andO (intD (vw r ρ)) fun j => okIf (-1000000 ≤ j ∧ j ≤ 1000000) (some (.ok (rangeC (0 + ((j - 0).toNat : Nat) - 1) (-1) (j - 0).toNat) ρ)) := by
  refine andM_ext fun r ρ1 => ?_
  cases vw r ρ1 with
  | none => rfl
  | some d => cases d <;> rfl
theorem at_rng2 : mRng2 ma mb ρ = andM (ma ρ) fun r ρ => andM (mb ρ) fun r2 ρ => andO (intD (vw r ρ)) fun i => andO (intD (vw r2 ρ)) fun j => okIf (-1000000 ≤ i ∧ i ≤ 1000000 ∧ -1000000 ≤ j ∧ j ≤ 1000000) (some (.ok (rangeD i (j - i).toNat) ρ)) := by
  refine andM_ext fun r ρ1 => andM_ext fun r2 ρ2 => ?_
  cases vw r ρ2 with
  | none => cases vw r2 ρ2 <;> rfl
  | some d => cases d <;> (cases vw r2 ρ2 with
    | none => rfl
    | some d => cases d <;> rfl)
theorem at_for {mi : M (List D)} {b : D → Fr → Option Fr} {s : SM} : mFor mi b s ρ = andS (mi ρ) fun l ρ => forL b s l ρ := rfl
theorem at_lc {vs : List Nat} {mi : M (List D)} {b : D → Fr → Option Fr} {me : M R} : mLc vs mi b mt me ρ = andM (mi ρ) fun l ρ => andO (lcL vs b mt me ρ.sl l [] ρ) fun p => some (.ok (.own (.dl p.1)) p.2) := by
  refine andM_ext fun l ρ1 => ?_
  cases lcL vs b mt me ρ1.sl l [] ρ1 <;> rfl
/-! calls -/
def callR (x : Option FO) (rs : List R) (ρ : Fr) : Option (Out R) := match x with
  | some (.ret t ts) => some (.ok (toR t) (puts rs ts ρ))
  | some (.ex c ts) => some (.ex c (puts rs ts ρ))
  | none => none
theorem callR_ret {t : T} {ts : List T} {rs : List R} : callR (some (.ret t ts)) rs ρ = some (.ok (toR t) (puts rs ts ρ)) := rfl
theorem callR_ex {c : Str} {ts : List T} {rs : List R} : callR (some (.ex c ts)) rs ρ = some (.ex c (puts rs ts ρ)) := rfl
def okOnly {β : Type} (x : Option (Out β)) : Option (Out β) := match x with
  | some (.ok r ρ') => some (.ok r ρ')
  | _ => none
theorem okOnly_ok {β : Type} {r : β} : okOnly (some (.ok r ρ)) = some (.ok r ρ) := rfl
theorem at_call0 {f : FM} : mCall0 f ms ρ = andM (mArgs ms ρ) fun rs ρ => okOnly (callR (f (takes rs (gathers rs ρ)).1) rs (takes rs (gathers rs ρ)).2) := rfl
theorem at_call {f : FM} : mCall f ms ρ = andM (mArgs ms ρ) fun rs ρ => callR (f (takes rs (gathers rs ρ)).1) rs (takes rs (gathers rs ρ)).2 := rfl
theorem takes_nil : takes [] ρ = ([], ρ) := rfl
theorem takes_dat {rs : List R} : takes (.dat d :: rs) ρ = (.dat d :: (takes rs ρ).1, (takes rs ρ).2) := rfl
theorem takes_own {t : T} {rs : List R} : takes (.own t :: rs) ρ = (t :: (takes rs ρ).1, (takes rs ρ).2) := rfl
theorem takes_fn {x : Str} {rs : List R} : takes (.fn x :: rs) ρ = (.fn x :: (takes rs ρ).1, (takes rs ρ).2) := rfl
theorem gathers_nil : gathers [] ρ = ρ := rfl
theorem gathers_dat {rs : List R} : gathers (.dat d :: rs) ρ = gathers rs ρ := rfl
theorem gathers_own {t : T} {rs : List R} : gathers (.own t :: rs) ρ = gathers rs ρ := rfl
theorem gathers_fn {x : Str} {rs : List R} : gathers (.fn x :: rs) ρ = gathers rs ρ := rfl
theorem at_puts0 {ts : List T} : puts [] ts ρ = ρ := rfl
theorem puts_dat {rs : List R} {t : T} {ts : List T} : puts (.dat d :: rs) (t :: ts) ρ = puts rs ts ρ := rfl
theorem puts_own {u t : T} {rs : List R} {ts : List T} : puts (.own u :: rs) (t :: ts) ρ = puts rs ts ρ := rfl
theorem puts_fn {x : Str} {t : T} {rs : List R} {ts : List T} : puts (.fn x :: rs) (t :: ts) ρ = puts rs ts ρ := rfl
theorem puts_ref {n : Nat} {t : T} {rs : List R} {ts : List T} : puts (.ref n :: rs) (t :: ts) ρ = puts rs ts (putR n t ρ) := rfl
theorem toR_dat : toR (.dat d) = .dat d := rfl
theorem toR_dl {l : List D} : toR (.dl l) = .own (.dl l) := rfl
theorem toR_fn {x : Str} : toR (.fn x) = .fn x := rfl
def endD (x : Option SO) : Option FO := match x with
  | some (.rt r ρ) => (leave r ρ).map fun p => .ret p.1 p.2
  | some (.nx ρ) => (leave (.dat .none) ρ).map fun p => .ret p.1 p.2
  | some (.ex c ρ) => some (.ex c (params (sweep (fun _ => false) ρ)))
  | _ => none
theorem at_def {n : Nat} {as : List T} : mDef n s as = endD (s (entry n as)) := by
  unfold mDef endD
  cases s (entry n as) with
  | none => rfl
  | some o => cases o <;> rfl
theorem endD_rt {r : R} : endD (some (.rt r ρ)) = (leave r ρ).map fun p => .ret p.1 p.2 := rfl
theorem endD_nx : endD (some (.nx ρ)) = (leave (.dat .none) ρ).map fun p => .ret p.1 p.2 := rfl
theorem endD_ex {c : Str} : endD (some (.ex c ρ)) = some (.ex c (params (sweep (fun _ => false) ρ))) := rfl
theorem lv_dat : leave (.dat d) ρ = some (.dat d, params (sweep (fun _ => false) ρ)) := rfl
theorem lv_own {t : T} : leave (.own t) ρ = some (t, params (sweep (fun _ => false) ρ)) := rfl
theorem lv_fn {x : Str} : leave (.fn x) ρ = some (.fn x, params (sweep (fun _ => false) ρ)) := rfl
/-! built-ins -/
theorem at_mB {f : List R → M R} : mB f ms ρ = andM (mArgs ms ρ) f := rfl
theorem at_f1 {f : D → Option D} {r : R} : f1 f [r] ρ = atomR (op1 f (vw r ρ)) ρ := by
  unfold f1 atomR op1
  simp only
  cases vw r ρ <;> rfl
theorem at_fLen {r : R} : fLen [r] ρ = andO (lenR r ρ) fun n => some (.ok (.dat (.int (n : Int))) ρ) := by
  show (lenR r ρ >>= fun n => pure (n : Int)).map _ = _
  cases lenR r ρ <;> rfl
theorem lenR_dat : lenR (.dat d) ρ = T.len (.dat d) := rfl
theorem lenR_own {t : T} : lenR (.own t) ρ = t.len := rfl
theorem lenR_ref {r : Nat} : lenR (.ref r) ρ = (ρ.rt[r]?).bind fun t => t.t.len := rfl
theorem at_fList {r : R} : fList [r] ρ = (its false r ρ).map fun l => .ok (.own (.dl l)) ρ := rfl
theorem at_fTup {r : R} : fTup [r] ρ = (its false r ρ).map fun l => .ok (.dat (.tuple l)) ρ := rfl
theorem at_isi {ty : Ty} : mIsi ty m ρ = andM (m ρ) fun r ρ => (tyR r ρ).map fun t => .ok (.dat (.bool (isT t ty))) ρ := rfl
theorem tyR_dat : tyR (.dat d) ρ = tyD d := rfl
theorem tyR_own {t : T} : tyR (.own t) ρ = t.ty := rfl
theorem tyR_ref {r : Nat} : tyR (.ref r) ρ = (ρ.rt[r]?).bind fun t => t.t.ty := rfl
theorem at_join : mJoin ma mb ρ = andM (ma ρ) fun ro ρ => andO (strO (vw ro ρ)) fun a => andM (mb ρ) fun re ρ => andO (its false re ρ) fun l => (fJoin l (.str a)).map fun z => .ok z ρ := by
  refine andM_ext fun ro ρ1 => ?_
  cases vw ro ρ1 with
  | none => rfl
  | some d =>
    cases d <;> (try rfl)
    refine andM_ext fun re ρ2 => ?_
    cases its false re ρ2 <;> rfl
theorem at_rev : mRev m ρ = andM (m ρ) fun r ρ => (itsL r ρ).map fun l => .ok (.own (.dl l.reverse)) ρ := rfl
theorem at_slice {lo hi : Option (M R)} : mSlice m lo hi ρ = andM (m ρ) fun r ρ => andM (optM lo ρ) fun l ρ => andM (optM hi ρ) fun h ρ => (fSl r ρ l h).map fun z => .ok z ρ := rfl
theorem at_ix : mIx ma mb ρ = andM (ma ρ) fun ra ρ => andM (mb ρ) fun rb ρ => andO (intD (vw rb ρ)) fun i => match its false ra ρ with
  | some l => (atI l i).map fun d => .ok (.dat d) ρ
  | none => andO (strO (vw ra ρ)) fun z => small z.length 1000000 ((atI z.cps.toList i).map fun c => .ok (.dat (.str ⟨#[c]⟩)) ρ) := by
  refine andM_ext fun ra ρ1 => andM_ext fun rb ρ2 => ?_
  cases its false ra ρ2 with
  | none =>
    cases h : vw rb ρ2 with
    | none => rfl
    | some e =>
      cases e <;> (try rfl)
      simp only [intD, andO]
      cases vw ra ρ2 with
      | none => rfl
      | some d =>
        cases d <;> (try rfl)
        simp only [strO, small]
        split
        · rename_i z i hz
          cases atI i.cps.toList z <;> rfl
        · rfl
  | some l =>
    cases h : vw rb ρ2 with
    | none => rfl
    | some e =>
      cases e <;> (try rfl)
      simp only [intD, andO]
      cases atI l _ <;> rfl
end
end XM
namespace XM
open PySem
/-- one turn of a comprehension -/
def lcOne (vs : List Nat) (b : D → Fr → Option Fr) (mt : M Bool) (me : M R) (ρ : Fr) (d : D) : Option (Option D × Fr) := match b d { ρ with sl := wipeS ρ.sl vs } with
  | none => none
  | some ρ1 => match mt ρ1 with
    | some (.ok true ρ2) => match me ρ2 with
      | some (.ok r ρ3) => match toD r ρ3 with
        | some (.ok z ρ4) => some (some z, { ρ4 with sl := ρ.sl })
        | _ => none
      | _ => none
    | some (.ok false ρ2) => some (none, { ρ2 with sl := ρ.sl })
    | _ => none
theorem lc_acc {α : Type} {vs : List Nat} {b : D → Fr → Option Fr} {mt : M Bool} {me : M R} {ρ : Fr} (e : α → D) (f : α → Option D) : ∀ (xs : List α) (acc : List D) (ρ' : Fr), ρ'.rt = ρ.rt → ρ'.np = ρ.np → acc.length + xs.length ≤ 1000000 →
    (∀ x ∈ xs, lcOne vs b mt me ρ (e x) = some (f x, ρ)) → lcL vs b mt me ρ.sl (xs.map e) acc ρ' = some (acc ++ xs.filterMap f, ρ)
  | [], acc, ρ', h1, h2, _, _ => by
    simp only [List.map_nil, lcL, List.filterMap_nil, List.append_nil, h1, h2]
  | x :: xs, acc, ρ', h1, h2, hl, h => by
    have h0 := h x (List.mem_cons_self)
    simp only [List.length_cons] at hl
    rw [List.map_cons]
    unfold lcL
    have e1 : ({ ρ' with sl := wipeS ρ.sl vs } : Fr) = { ρ with sl := wipeS ρ.sl vs } := by rw [h1, h2]
    rw [e1]
    unfold lcOne at h0
    revert h0
    cases b (e x) { ρ with sl := wipeS ρ.sl vs } with
    | none => intro h0; cases h0
    | some ρ1 =>
      simp only
      cases mt ρ1 with
      | none => intro h0; cases h0
      | some o =>
        cases o with
        | ex c ρ2 => intro h0; cases h0
        | ok t ρ2 =>
          cases t with
          | false =>
            simp only
            intro h0
            have h0' := Option.some.inj h0
            have f0 : f x = none := (congrArg Prod.fst h0').symm
            have r0 : ({ ρ2 with sl := ρ.sl } : Fr) = ρ := congrArg Prod.snd h0'
            rw [List.filterMap_cons, f0]
            exact lc_acc e f xs acc ρ2 (by rw [← r0]) (by rw [← r0]) (by omega) fun y hy => h y (List.mem_cons_of_mem _ hy)
          | true =>
            simp only
            cases me ρ2 with
            | none => intro h0; cases h0
            | some o =>
              cases o with
              | ex c ρ3 => intro h0; cases h0
              | ok r ρ3 =>
                simp only
                cases toD r ρ3 with
                | none => intro h0; cases h0
                | some o =>
                  cases o with
                  | ex c ρ4 => intro h0; cases h0
                  | ok z ρ4 =>
                    simp only
                    intro h0
                    have h0' := Option.some.inj h0
                    have f0 : f x = some z := (congrArg Prod.fst h0').symm
                    have r0 : ({ ρ4 with sl := ρ.sl } : Fr) = ρ := congrArg Prod.snd h0'
                    rw [if_pos (by omega), lc_acc e f xs (acc ++ [z]) ρ4 (by rw [← r0]) (by rw [← r0]) (by rw [List.length_append, List.length_singleton]; omega) fun y hy => h y (List.mem_cons_of_mem _ hy), List.filterMap_cons, f0, List.append_assoc]
                    rfl
theorem lc_eq {α : Type} {vs : List Nat} {b : D → Fr → Option Fr} {mt : M Bool} {me : M R} {ρ : Fr} {xs : List α} (e : α → D) (f : α → Option D) (hl : xs.length ≤ 1000000)
    (h : ∀ x ∈ xs, lcOne vs b mt me ρ (e x) = some (f x, ρ)) : lcL vs b mt me ρ.sl (xs.map e) [] ρ = some (xs.filterMap f, ρ) := lc_acc e f xs [] ρ rfl rfl (by simpa using hl) h
theorem lc_map {α : Type} {vs : List Nat} {b : D → Fr → Option Fr} {mt : M Bool} {me : M R} {ρ : Fr} {xs : List α} (e : α → D) (g : α → D) (hl : xs.length ≤ 1000000)
    (h : ∀ x ∈ xs, lcOne vs b mt me ρ (e x) = some (some (g x), ρ)) : lcL vs b mt me ρ.sl (xs.map e) [] ρ = some (xs.map g, ρ) := by
  rw [lc_eq e (fun x => some (g x)) hl h]
  congr 2
  induction xs with
  | nil => rfl
  | cons x xs ih => rw [List.filterMap_cons, List.map_cons, ih (by simp at hl; omega) fun y hy => h y (List.mem_cons_of_mem _ hy)]
theorem lcF {α : Type} {vs : List Nat} {b : D → Fr → Option Fr} {mt : M Bool} {me : M R} {sl : List Sl} {rt : List Rt} {np : Nat} {xs : List α} {e : α → D} (f : α → Option D) (hl : xs.length ≤ 1000000)
    (h : ∀ x ∈ xs, lcOne vs b mt me ⟨sl, rt, np⟩ (e x) = some (f x, ⟨sl, rt, np⟩)) : lcL vs b mt me sl (xs.map e) [] ⟨sl, rt, np⟩ = some (xs.filterMap f, ⟨sl, rt, np⟩) := lc_eq (ρ := ⟨sl, rt, np⟩) e f hl h
theorem lcM {α : Type} {vs : List Nat} {b : D → Fr → Option Fr} {mt : M Bool} {me : M R} {sl : List Sl} {rt : List Rt} {np : Nat} {xs : List α} {e : α → D} (g : α → D) (hl : xs.length ≤ 1000000)
    (h : ∀ x ∈ xs, lcOne vs b mt me ⟨sl, rt, np⟩ (e x) = some (some (g x), ⟨sl, rt, np⟩)) : lcL vs b mt me sl (xs.map e) [] ⟨sl, rt, np⟩ = some (xs.map g, ⟨sl, rt, np⟩) := lc_map (ρ := ⟨sl, rt, np⟩) e g hl h
/-- a loop that goes through -/
theorem for_inv {α : Type} {b : D → Fr → Option Fr} {m : SM} (e : α → D) (I : List α → Fr → Prop) : ∀ (xs : List α) (ρ : Fr), I xs ρ →
    (∀ x r ρ, I (x :: r) ρ → ∃ ρ1 ρ2, b (e x) ρ = some ρ1 ∧ m ρ1 = some (.nx ρ2) ∧ I r ρ2) → ∃ ρ', forL b m (xs.map e) ρ = some (.nx ρ') ∧ I [] ρ'
  | [], ρ, h, _ => ⟨ρ, rfl, h⟩
  | x :: xs, ρ, h, hs => by
    obtain ⟨ρ1, ρ2, e1, e2, h2⟩ := hs x xs ρ h
    obtain ⟨ρ', e3, h3⟩ := for_inv e I xs ρ2 h2 hs
    refine ⟨ρ', ?_, h3⟩
    rw [List.map_cons]
    unfold forL
    rw [e1]
    simp only
    rw [e2]
    exact e3
theorem for0 {b : D → Fr → Option Fr} {m : SM} (I : List D → Fr → Prop) : ∀ (xs : List D) (ρ : Fr), I xs ρ →
    (∀ x r ρ, I (x :: r) ρ → ∃ ρ1 ρ2, b x ρ = some ρ1 ∧ m ρ1 = some (.nx ρ2) ∧ I r ρ2) → ∃ ρ', forL b m xs ρ = some (.nx ρ') ∧ I [] ρ' := fun xs ρ h hs => by
  have := for_inv (b := b) (m := m) (fun d : D => d) I xs ρ h hs
  rwa [List.map_id''] at this
  exact fun _ => rfl
theorem for_to {b : D → Fr → Option Fr} {m : SM} {xs : List D} {ρ : Fr} {P : Fr → Prop} (I : List D → Fr → Prop) (h0 : I xs ρ)
    (hs : ∀ x r ρ, I (x :: r) ρ → ∃ ρ1 ρ2, b x ρ = some ρ1 ∧ m ρ1 = some (.nx ρ2) ∧ I r ρ2) (he : ∀ ρ', I [] ρ' → P ρ') : ∃ ρ', forL b m xs ρ = some (.nx ρ') ∧ P ρ' := by
  obtain ⟨ρ', e, h⟩ := for0 I xs ρ h0 hs
  exact ⟨ρ', e, he ρ' h⟩
def lcQ (x : Option (Out Bool)) (k : Fr → Option (Option D × Fr)) (sl : List Sl) : Res (k, sl) (Option (Option D × Fr)) := match x with
  | some (.ok true ρ2) => k ρ2
  | some (.ok false ρ2) => some (none, { ρ2 with sl := sl })
  | _ => none
def lcE (x : Option (Out R)) (sl : List Sl) : Option (Option D × Fr) := match x with
  | some (.ok r ρ3) => match toD r ρ3 with
    | some (.ok z ρ4) => some (some z, { ρ4 with sl := sl })
    | _ => none
  | _ => none
def lcZ (x : Option (Out D)) (sl : List Sl) : Option (Option D × Fr) := match x with
  | some (.ok z ρ4) => some (some z, { ρ4 with sl := sl })
  | _ => none
section
variable {vs : List Nat} {b : D → Fr → Option Fr} {mt : M Bool} {me : M R} {ρ : Fr} {d : D} {k : Fr → Option (Option D × Fr)} {sl : List Sl}
theorem at_lcOne : lcOne vs b mt me ρ d = andO (b d { ρ with sl := wipeS ρ.sl vs }) fun ρ1 => lcQ (mt ρ1) (fun ρ2 => lcE (me ρ2) ρ.sl) ρ.sl := by
  unfold lcOne andO lcQ lcE
  cases b d { ρ with sl := wipeS ρ.sl vs } with
  | none => rfl
  | some ρ1 => rfl
theorem lcQ_true : lcQ (some (.ok true ρ)) k sl = k ρ := rfl
theorem lcQ_false : lcQ (some (.ok false ρ)) k sl = some (none, { ρ with sl := sl }) := rfl
theorem lcE_ok {r : R} : lcE (some (.ok r ρ)) sl = lcZ (toD r ρ) sl := rfl
theorem lcZ_ok {z : D} : lcZ (some (.ok z ρ)) sl = some (some z, { ρ with sl := sl }) := rfl
theorem at_yes : mYes ρ = some (.ok true ρ) := rfl
theorem at_bName {i : Nat} : bName i d ρ = some { ρ with sl := ρ.sl.set i (.dat d) } := rfl
end
/-! the operators -/
section
variable {i j : Int} {x y : Str}
theorem e_add : fAdd (.int i) (.int j) = some (.int (i + j)) := rfl
theorem e_addS (h : x.length + y.length ≤ 1000000) : fAdd (.str x) (.str y) = some (.str (x ++ y)) := by unfold fAdd; exact if_pos h
theorem e_sub : fSub (.int i) (.int j) = some (.int (i - j)) := rfl
theorem e_mul (h : -18446744073709551616 < j) (h' : j < 18446744073709551616) : fMul (.int i) (.int j) = some (.int (i * j)) := if_pos (decide_eq_true ⟨h, h'⟩)
theorem e_mulL (h : -18446744073709551616 < i) (h' : i < 18446744073709551616) : fMulL (.int i) (.int j) = some (.int (i * j)) := if_pos (decide_eq_true ⟨h, h'⟩)
theorem e_div (h : 0 < j) (h' : j < 1073741824) : fDiv (.int i) (.int j) = some (.int (i / j)) := if_pos (decide_eq_true ⟨h, h'⟩)
theorem e_mod (h : 0 < j) : fMod (.int i) (.int j) = some (.int (i % j)) := if_pos (decide_eq_true h)
theorem e_pow (h : 0 ≤ j) (h' : j ≤ 1000000) (h2 : i.natAbs < 18446744073709551616) : fPow (.int i) (.int j) = some (.int (i ^ j.toNat)) := if_pos (decide_eq_true ⟨h, h', h2⟩)
theorem e_shr (h : 0 ≤ j) : fShr (.int i) (.int j) = some (.int (i / 2 ^ j.toNat)) := if_pos (decide_eq_true h)
theorem e_and : fAnd (.int i) (.int j) = some (.int (Builtin.bitAnd i j)) := rfl
theorem e_lt : fLt (.int i) (.int j) = some (.bool (decide (i < j))) := rfl
theorem e_le : fLe (.int i) (.int j) = some (.bool (decide (i ≤ j))) := rfl
theorem e_gt : fGt (.int i) (.int j) = some (.bool (decide (j < i))) := rfl
theorem e_ge : fGe (.int i) (.int j) = some (.bool (decide (j ≤ i))) := rfl
theorem e_eqI : fEq (.int i) (.int j) = some (.bool (decide (i = j))) := rfl
theorem e_eqS : fEq (.str x) (.str y) = some (.bool (decide (x = y))) := rfl
theorem e_neI : fNe (.int i) (.int j) = some (.bool (!decide (i = j))) := rfl
theorem e_neS : fNe (.str x) (.str y) = some (.bool (!decide (x = y))) := rfl
theorem e_neg : fNeg (.int i) = some (.int (-i)) := rfl
theorem e_notB {b : Bool} : fNotB (.bool b) = some (.bool (!b)) := rfl
theorem e_int : fInt (.int i) = some (.int i) := rfl
theorem e_intB {b : Bool} : fInt (.bool b) = some (.int (if b = true then 1 else 0)) := rfl
end
end XM
namespace XM
open PySem L2 SX
section
variable {ρ : Fr} {m ma mb mc mo me mf : M R} {mt : M Bool} {i j : Nat} {s t : SM} {d e : D} {ms : List (M R)} {mr : M (List R)}
theorem itsL_dat : itsL (.dat d) ρ = T.itemsL (.dat d) := rfl
theorem itsL_own {t : T} : itsL (.own t) ρ = t.itemsL := rfl
theorem itsL_ref {r : Nat} : itsL (.ref r) ρ = (ρ.rt[r]?).bind fun t => t.t.itemsL := rfl
theorem itsT_dat : itsT (.dat d) ρ = T.itemsT (.dat d) := rfl
theorem itsT_own {t : T} : itsT (.own t) ρ = t.itemsT := rfl
theorem itsT_ref {r : Nat} : itsT (.ref r) ρ = (ρ.rt[r]?).bind fun t => t.t.itemsT := rfl
theorem itemsL_list {l : List D} : T.itemsL (.dat (.list l)) = some l := rfl
theorem itemsL_dl {l : List D} : T.itemsL (.dl l) = some l := rfl
theorem itemsL_tup {l : List D} : T.itemsL (.dat (.tuple l)) = none := rfl
theorem itemsL_str {l : Str} : T.itemsL (.dat (.str l)) = none := rfl
theorem itemsT_list {l : List D} : T.itemsT (.dat (.list l)) = none := rfl
theorem itemsT_str {l : Str} : T.itemsT (.dat (.str l)) = none := rfl
theorem itemsT_dl {l : List D} : T.itemsT (.dl l) = none := rfl
theorem itemsT_tup {l : List D} : T.itemsT (.dat (.tuple l)) = some l := rfl
theorem items_str {b : Bool} {x : Str} : T.items b (.dat (.str x)) = none := rfl
theorem at_opt0 : optM none ρ = some (.ok none ρ) := rfl
theorem at_opt1 : optM (some m) ρ = andM (m ρ) fun r ρ => andO (intD (vw r ρ)) fun i => some (.ok (some i) ρ) := by
  refine andM_ext fun r ρ1 => ?_
  cases vw r ρ1 with
  | none => rfl
  | some d => cases d <;> rfl
def dlAt (x : Option Rt) : Option (List D × Option (Nat × Pl)) := match x with
  | some ⟨.dl l, pr⟩ => some (l, pr)
  | _ => none
theorem dlAt_dl {l : List D} {pr} : dlAt (some ⟨.dl l, pr⟩) = some (l, pr) := rfl
def refO (r : R) : Option Nat := match r with
  | .ref n => some n
  | _ => none
theorem refO_ref {n : Nat} : refO (.ref n) = some n := rfl
theorem at_append : mAppend mo me ρ = andM (mo ρ) fun ro ρ0 => andO (refO ro) fun n => andO (dlAt ρ0.rt[n]?) fun _ => andM (me ρ0) fun re ρ => andM (toD re ρ) fun d ρ => andO (dlAt ρ.rt[n]?) fun p => okIf (p.1.length < 1000000) (some (.ok (.dat .none) { ρ with rt := ρ.rt.set n ⟨.dl (p.1 ++ [d]), p.2⟩ })) := by
  refine andM_ext fun ro ρ0 => ?_
  cases ro <;> try rfl
  rename_i n
  show (match ρ0.rt[n]? with | some ⟨.dl _, _⟩ => _ | _ => none) = andO (dlAt ρ0.rt[n]?) _
  cases ρ0.rt[n]? with
  | none => rfl
  | some x =>
    obtain ⟨tx, px⟩ := x
    cases tx <;> try rfl
    refine andM_ext fun re ρ1 => andM_ext fun d ρ2 => ?_
    cases ρ2.rt[n]? with
    | none => rfl
    | some y =>
      obtain ⟨ty, py⟩ := y
      cases ty <;> rfl
theorem at_extend : mExtend mo me ρ = andM (mo ρ) fun ro ρ0 => andO (refO ro) fun n => andO (dlAt ρ0.rt[n]?) fun _ => andM (me ρ0) fun re ρ => andO (dlAt ρ.rt[n]?) fun p => andO (its true re ρ) fun l2 => small (p.1.length + l2.length) 1000000 (some (.ok (.dat .none) { ρ with rt := ρ.rt.set n ⟨.dl (p.1 ++ l2), p.2⟩ })) := by
  refine andM_ext fun ro ρ0 => ?_
  cases ro <;> try rfl
  rename_i n
  show (match ρ0.rt[n]? with | some ⟨.dl _, _⟩ => _ | _ => none) = andO (dlAt ρ0.rt[n]?) _
  cases ρ0.rt[n]? with
  | none => rfl
  | some x =>
    obtain ⟨tx, px⟩ := x
    cases tx <;> try rfl
    refine andM_ext fun re ρ1 => ?_
    cases h : its true re ρ1 with
    | none =>
      cases ρ1.rt[n]? with
      | none => rfl
      | some y =>
        obtain ⟨ty, py⟩ := y
        cases ty <;> rfl
    | some l2 =>
      cases ρ1.rt[n]? with
      | none => rfl
      | some y =>
        obtain ⟨ty, py⟩ := y
        cases ty <;> rfl
def consO (x : Option (List D)) : Option (D × List D) := match x with
  | some (d :: ds) => some (d, ds)
  | _ => none
theorem consO_cons {ds : List D} : consO (some (d :: ds)) = some (d, ds) := rfl
theorem at_unp1 : mUnp1 i j m ρ = andS (m ρ) fun r ρ => andO (consO (its false r ρ)) fun p => small p.2.length 10000 (some (.nx (tidy (toSl j (.own (.dl p.2)) { ρ with sl := ρ.sl.set i (.dat p.1) })))) := by
  show andS (m ρ) _ = _
  cases m ρ with
  | none => rfl
  | some o => cases o with
    | ex c r => rfl
    | ok r ρ1 =>
      show (match its false r ρ1 with | some (d :: ds) => _ | _ => none) = andO (consO (its false r ρ1)) _
      cases its false r ρ1 with
      | none => rfl
      | some l => cases l <;> rfl
def getOr (x : Option D) (df : D) (ρ : Fr) : Option (Out R) := match x with
  | some d => some (.ok (.dat d) ρ)
  | none => if atomD df = true then some (.ok (.dat df) ρ) else none
theorem getOr_some {df : D} : getOr (some d) df ρ = some (.ok (.dat d) ρ) := rfl
theorem getOr_int {i : Int} : getOr none (.int i) ρ = some (.ok (.dat (.int i)) ρ) := rfl
theorem at_dget2 {ks : List Str} : mDGet2 ks ms me mf ρ = andM (mArgs ms ρ) fun rs ρ => andM (toDs rs ρ) fun ds ρ => andM (me ρ) fun re ρ => andM (mf ρ) fun rf ρ => andO (strO (vw re ρ)) fun k => andO (vw rf ρ) fun df => getOr (lkD k ks ds) df ρ := by
  refine andM_ext fun rs ρ1 => andM_ext fun ds ρ2 => andM_ext fun re ρ3 => andM_ext fun rf ρ4 => ?_
  cases vw re ρ4 with
  | none => rfl
  | some a =>
    cases a <;> try rfl
    cases vw rf ρ4 with
    | none => rfl
    | some df =>
      simp only [strO, andO, getOr]
      try (rename_i k; cases lkD k ks ds <;> rfl)
theorem at_tindex {ys : List Str} : mTIndex ys me ρ = andM (me ρ) fun re ρ => andO (strO (vw re ρ)) fun z => (idxS z ys).map fun j => .ok (.dat (.int (j : Nat))) ρ := by
  refine andM_ext fun r ρ1 => ?_
  cases vw r ρ1 with
  | none => rfl
  | some d =>
    cases d <;> try rfl
    rename_i z
    show (match idxS z ys with | some j => _ | none => none) = _
    cases h : idxS z ys <;> simp only [strO, andO, h] <;> rfl
theorem at_index : mIndex mo me ρ = andM (mo ρ) fun ro ρ0 => andO (itsL ro ρ0) fun _ => andM (me ρ0) fun re ρ => andO (itsL ro ρ) fun l => andO (vw re ρ) fun d => okIf (flatS d = true ∧ l.all flatS = true) ((idxF d l).map fun j => .ok (.dat (.int (j : Nat))) ρ) := by
  refine andM_ext fun ro ρ0 => ?_
  cases itsL ro ρ0 with
  | none => rfl
  | some l0 =>
    refine andM_ext fun re ρ1 => ?_
    cases itsL ro ρ1 with
    | none => rfl
    | some l =>
      cases vw re ρ1 with
      | none => rfl
      | some d =>
        simp only [andO, okIf]
        split
        · cases idxF d l <;> rfl
        · rfl
theorem andS_ext {β : Type} {x : Option (Out β)} {k k' : β → Fr → Option SO} (h : ∀ r ρ, k r ρ = k' r ρ) : andS x k = andS x k' := by
  cases x with
  | none => rfl
  | some o => cases o with
    | ex c r => rfl
    | ok r ρ1 => exact h r ρ1
theorem at_setIx {mi : M R} : mSetIx m ma mi ρ = andS (m ρ) fun r ρ => andS (toD r ρ) fun d ρ => andS (ma ρ) fun ro ρ0 => andO (refO ro) fun n => andS (mi ρ0) fun ri ρ => andO (intD (vw ri ρ)) fun i => andO (dlAt ρ.rt[n]?) fun p => andO (ixN p.1.length i) fun j => some (.nx (tidy { ρ with rt := ρ.rt.set n ⟨.dl (p.1.set j d), p.2⟩ })) := by
  refine andS_ext fun r ρ1 => andS_ext fun d ρ2 => andS_ext fun ro ρ3 => ?_
  cases ro with
  | ref n =>
    refine andS_ext (x := mi ρ3) fun ri ρ4 => ?_
    cases vw ri ρ4 with
    | none => rfl
    | some e =>
      cases e <;> try rfl
      show _ = andO (dlAt ρ4.rt[n]?) _
      cases ρ4.rt[n]? with
      | none => rfl
      | some x =>
        obtain ⟨t, pr⟩ := x
        cases t <;> try rfl
        show _ = andO (ixN _ _) _
        dsimp only [dlAt, andO]
        rename_i i l
        cases ixN l.length i <;> rfl
  | _ => rfl
theorem at_fMax {r : R} : fMax [r] ρ = andO (itsL r ρ) fun l => andO (intsOf l) fun ns => match ns with
  | [] => none
  | n :: ns => some (.ok (.dat (.int (maxL (n :: ns)))) ρ) := by
  show (match itsL r ρ with | some l => _ | none => none) = _
  cases itsL r ρ with
  | none => rfl
  | some l =>
    simp only [andO]
    cases intsOf l with
    | none => rfl
    | some ns => cases ns <;> rfl
def tupO (d : D) : Option (List D) := match d with
  | .tuple l => some l
  | _ => none
def lstO (d : D) : Option (List D) := match d with
  | .list l => some l
  | _ => none
theorem tupO_tup {l : List D} : tupO (.tuple l) = some l := rfl
theorem lstO_lst {l : List D} : lstO (.list l) = some l := rfl
theorem at_zipTL : mZipTL ma mb ρ = andM (ma ρ) fun ra ρ => andM (toD ra ρ) fun da ρ => andM (mb ρ) fun rb ρ => andM (toD rb ρ) fun db ρ => andO (tupO da) fun xs => andO (lstO db) fun ys => okIf (xs.length = ys.length) (some (.ok ((xs.zip ys).map fun p => .tuple [p.1, p.2]) ρ)) := by
  refine andM_ext fun ra ρ1 => andM_ext fun da ρ2 => andM_ext fun rb ρ3 => andM_ext fun db ρ4 => ?_
  cases da <;> try rfl
  cases db <;> rfl
theorem at_fd {tb : List (Str × Str)} : mFD tb m ρ = andM (m ρ) fun r ρ => andO (strO (vw r ρ)) fun k => (tb.lookup k).map fun n => .ok (.fn n) ρ := by
  refine andM_ext fun r ρ1 => ?_
  cases vw r ρ1 with
  | none => rfl
  | some d =>
    cases d <;> try rfl
    rename_i z
    show (match tb.lookup z with | some n => _ | none => none) = _
    cases h : tb.lookup z <;> simp only [strO, andO, h] <;> rfl
def fnO (x : Option Sl) : Option Str := match x with
  | some (.fn n) => some n
  | _ => none
theorem fnO_fn {x : Str} : fnO (some (.fn x)) = some x := rfl
theorem at_callF {tb : List (Str × FM)} : mCallF i tb ms ρ = andO (fnO ρ.sl[i]?) fun n => andO (tb.lookup n) fun f => mCall0 f ms ρ := by
  unfold mCallF fnO
  cases ρ.sl[i]? with
  | none => rfl
  | some x =>
    cases x <;> try rfl
    rename_i n
    show (match tb.lookup n with | some m => _ | none => none) = _
    cases h : tb.lookup n <;> simp only [andO, h] <;> rfl
theorem at_bNil : bNil [] ρ = some ρ := rfl
theorem at_bCons {b : D → Fr → Option Fr} {bs : List D → Fr → Option Fr} {l : List D} : bCons b bs (d :: l) ρ = andO (b d ρ) fun ρ => bs l ρ := by
  show (match b d ρ with | some ρ1 => _ | none => none) = _
  cases b d ρ <;> rfl
theorem at_bTup {n : Nat} {bs : List D → Fr → Option Fr} {l : List D} : bTup n bs (.tuple l) ρ = okIf (l.length = n) (bs l ρ) := rfl
theorem e_inL {l : List D} : fIn d (.list l) = okIf (flatS d = true ∧ l.all flatS = true) (some (.bool (l.any fun z => eqF z d))) := rfl
theorem e_inT {l : List D} : fIn d (.tuple l) = okIf (flatS d = true ∧ l.all flatS = true) (some (.bool (l.any fun z => eqF z d))) := rfl
theorem e_notInL {l : List D} : fNotIn d (.list l) = okIf (flatS d = true ∧ l.all flatS = true) (some (.bool (!l.any fun z => eqF z d))) := rfl
theorem flatS_int {i : Int} : flatS (.int i) = true := rfl
theorem flatS_str {i : Str} : flatS (.str i) = true := rfl
theorem eqF_int {i j : Int} : eqF (.int i) (.int j) = decide (i = j) := rfl
theorem eqF_str {i j : Str} : eqF (.str i) (.str j) = decide (i = j) := rfl
theorem eqF_is {i : Int} {j : Str} : eqF (.int i) (.str j) = false := rfl
theorem eqF_si {i : Int} {j : Str} : eqF (.str j) (.int i) = false := rfl
theorem len_list {l : List D} : T.len (.dat (.list l)) = some l.length := rfl
theorem len_tup {l : List D} : T.len (.dat (.tuple l)) = some l.length := rfl
theorem len_dl {l : List D} : T.len (.dl l) = some l.length := rfl
theorem len_str {l : Str} : T.len (.dat (.str l)) = small l.length 1000000 (some l.length) := rfl
theorem len_frz {l : List Int} : T.len (.frz l) = some l.length := rfl
theorem ty_int {i : Int} : tyD (.int i) = some .int := rfl
theorem ty_str {i : Str} : tyD (.str i) = some .str := rfl
theorem ty_bool {i : Bool} : tyD (.bool i) = some .bool := rfl
theorem ty_none : tyD .none = some .none := rfl
theorem ty_list {i : List D} : tyD (.list i) = some .list := rfl
theorem ty_tup {i : List D} : tyD (.tuple i) = some .tuple := rfl
theorem tyT_dl {i : List D} : T.ty (.dl i) = some .list := rfl
theorem tyT_dat : T.ty (.dat d) = tyD d := rfl
theorem lit_inj {a b : String} : (Str.ofString a = Str.ofString b) = (a = b) := by
  refine propext ⟨fun h => ?_, fun h => by rw [h]⟩
  have h1 : TL.tl (Str.ofString a) = TL.tl (Str.ofString b) := by rw [h]
  have h2 : ∀ s : String, TL.tl (Str.ofString s) = s.toList.map Char.toNat := fun s => cpsOfBytes_string s
  rw [h2, h2] at h1
  have inj : ∀ l r : List Char, l.map Char.toNat = r.map Char.toNat → l = r := by
    intro l
    induction l with
    | nil => intro r h; cases r with
      | nil => rfl
      | cons _ _ => cases h
    | cons x l ih =>
      intro r h
      cases r with
      | nil => cases h
      | cons y r =>
        rw [List.map_cons, List.map_cons] at h
        injection h with h1 h2
        have : x = y := Char.ext (UInt32.toNat_inj.mp h1)
        rw [this, ih r h2]
  exact String.toList_inj.mp (inj _ _ h1)
theorem idxS_cons {z y : Str} {r : List Str} : idxS z (y :: r) = iteM (decide (y = z)) (some 0) ((idxS z r).map (· + 1)) := by
  unfold iteM
  rw [idxS]
  by_cases h : y = z <;> simp [h]
theorem idxF_cons {z y : D} {r : List D} : idxF z (y :: r) = iteM (eqF y z) (some 0) ((idxF z r).map (· + 1)) := by
  unfold iteM
  rw [idxF]
theorem lkD_cons {k q : Str} {ks : List Str} {ds : List D} : lkD k (q :: ks) (d :: ds) = iteM (decide (q = k)) (some d) (lkD k ks ds) := by
  unfold iteM
  rw [lkD]
  by_cases h : q = k <;> simp [h]
theorem lkD_nil {k : Str} {ds : List D} : lkD k [] ds = none := by cases ds <;> rfl
theorem lookup_str {α : Type} {k q : Str} {v : α} {r : List (Str × α)} : List.lookup k ((q, v) :: r) = iteM (decide (k = q)) (some v) (List.lookup k r) := by
  unfold iteM
  rw [List.lookup_cons]
  by_cases h : k = q
  · subst h; simp
  · have : (k == q) = false := by simpa using h
    rw [this]
    simp [h]
theorem forL_nil {b : D → Fr → Option Fr} : forL b s [] ρ = some (.nx ρ) := rfl
def forQ (x : Option SO) (k : SM) : Res k (Option SO) := match x with
  | some (.nx ρ2) => k ρ2
  | some (.ct ρ2) => k ρ2
  | some (.bk ρ2) => some (.nx ρ2)
  | o => o
theorem forQ_nx {k : SM} : forQ (some (.nx ρ)) k = k ρ := rfl
theorem forQ_rt {r : R} {k : SM} : forQ (some (.rt r ρ)) k = some (.rt r ρ) := rfl
theorem forL_cons {b : D → Fr → Option Fr} {ds : List D} : forL b s (d :: ds) ρ = andO (b d ρ) fun ρ => forQ (s ρ) fun ρ => forL b s ds ρ := by
  rw [forL]
  cases b d ρ with
  | none => rfl
  | some ρ1 =>
    simp only [andO, forQ]
    try (cases s ρ1 <;> try rfl)
    try (rename_i o; cases o <;> rfl)
end
theorem e_ord {x : Str} (h : x.length = 1) : fOrd (.str x) = some (.int (x.cps.getD 0 0 : Nat)) := if_pos h
theorem e_join (a : List Nat) (ys : List (List Nat)) : fJoin (ys.map fun y => .str (S y)) (.str (S a)) = okIf ((ys.map List.length).sum + ys.length * a.length ≤ 1000000) (some (.dat (.str (S (TL.joinL a ys))))) := by
  have h : strsOf (ys.map fun y => PyData.str (S y)) = some (ys.map S) := by
    induction ys with
    | nil => rfl
    | cons y ys ih => rw [List.map_cons, List.map_cons]; unfold strsOf; rw [ih]; rfl
  unfold fJoin okIf
  simp only
  rw [h]
  simp only [join_S]
  simp only [List.map_map, List.length_map]
  rw [show (ys.map ((fun x => x.length) ∘ S)) = ys.map List.length from List.map_congr_left fun y _ => S_len y, S_len]
theorem len_S {l : List Nat} : (S l).length = l.length := S_len l
theorem idxF_strs {w : Str} : ∀ {xs : List Str}, idxF (.str w) (xs.map PyData.str) = idxS w xs
  | [] => rfl
  | x :: xs => by
    rw [List.map_cons, idxF_cons, idxS_cons, eqF_str, idxF_strs]
theorem all_flat {xs : List Str} : (xs.map PyData.str).all flatS = true := by
  rw [List.all_map]
  exact List.all_eq_true.mpr fun _ _ => rfl
theorem cut_one {α : Type} {a : α} {r : List α} : cutD (a :: r) (some 1) none = r := by
  unfold cutD
  have h1 : HT.sIx (a :: r).length 0 (some 1) = 1 := by
    rw [show (some (1 : Int)) = some ((1 : Nat) : Int) from rfl, HT.sIx_nat, List.length_cons]; omega
  rw [h1, HT.sIx_none, List.length_cons]
  simp
theorem and255 (m : Int) : Builtin.bitAnd m 255 = m % 256 := PyProof.Rows.bitAnd_m8 m
theorem atI_pos {α : Type} {l : List α} {i : Int} (h : 0 ≤ i) : atI l i = l[i.toNat]? := by
  unfold atI ixN
  rw [if_pos h]
  by_cases h1 : i < l.length
  · rw [if_pos h1]; rfl
  · rw [if_neg h1]
    rw [List.getElem?_eq_none (by omega)]
    rfl
end XM
namespace XM
open PySem L2 SX
section
variable {ρ : Fr} {lo hi : Option Int}
def sl3 (x : Option (List D)) (y : Option (List D)) (z : Option Str) (lo hi : Option Int) : Option R := match x with
  | some l => some (.own (.dl (cutD l lo hi)))
  | none => match y with
    | some l => some (.dat (.tuple (cutD l lo hi)))
    | none => match z with
      | some z => small z.length 1000000 (some (.dat (.str (cutS z lo hi))))
      | none => none
theorem sl3_l {l : List D} {y z} : sl3 (some l) y z lo hi = some (.own (.dl (cutD l lo hi))) := rfl
theorem sl3_t {l : List D} {z} : sl3 none (some l) z lo hi = some (.dat (.tuple (cutD l lo hi))) := rfl
theorem sl3_s {z : Str} : sl3 none none (some z) lo hi = small z.length 1000000 (some (.dat (.str (cutS z lo hi)))) := rfl
theorem at_fSl {r : R} : fSl r ρ lo hi = sl3 (itsL r ρ) (itsT r ρ) (strO (vw r ρ)) lo hi := by
  unfold fSl sl3 small
  cases itsL r ρ with
  | some l => rfl
  | none =>
    cases itsT r ρ with
    | some l => rfl
    | none =>
      cases vw r ρ with
      | none => rfl
      | some d => cases d <;> rfl
end
end XM
namespace XM
open PySem L2 SX
section
variable {i : Nat} {r : R} {sl : List Sl} {rt : List Rt} {np : Nat} {keep : Nat → Bool}
theorem setS_mk : setS i r ⟨sl, rt, np⟩ = tidy (toSl i r (XM.letGo i r ⟨sl, rt, np⟩)) := rfl
theorem letGo_mk : XM.letGo i r ⟨sl, rt, np⟩ = sweep (fun k => named ⟨sl.set i .un, rt, np⟩ k || isRef r k) ⟨sl.set i .un, rt, np⟩ := rfl
theorem tidy_mk : tidy ⟨sl, rt, np⟩ = trim (sweep (named ⟨sl, rt, np⟩) ⟨sl, rt, np⟩) := rfl
theorem sweep_mk : sweep keep ⟨sl, rt, np⟩ = sweepN keep (rt.length - np) ⟨sl, rt, np⟩ := rfl
theorem trim_mk : trim ⟨sl, rt, np⟩ = ⟨sl.map (trSl (rt.take np ++ trimL (rt.drop np)).length), (rt.take np ++ trimL (rt.drop np)).map (trRt (rt.take np ++ trimL (rt.drop np)).length), np⟩ := rfl
theorem toSl_dat {d : D} : toSl i (.dat d) ⟨sl, rt, np⟩ = ⟨sl.set i (.dat d), rt, np⟩ := rfl
theorem toSl_fn {d : Str} : toSl i (.fn d) ⟨sl, rt, np⟩ = ⟨sl.set i (.fn d), rt, np⟩ := rfl
theorem toSl_ref {n : Nat} : toSl i (.ref n) ⟨sl, rt, np⟩ = ⟨sl.set i (.ref n), rt, np⟩ := rfl
theorem toSl_own {t : T} : toSl i (.own t) ⟨sl, rt, np⟩ = ⟨sl.set i (.ref (place t ⟨sl, rt, np⟩).1), (place t ⟨sl, rt, np⟩).2.rt, (place t ⟨sl, rt, np⟩).2.np⟩ := rfl
theorem trSl_un {n : Nat} : trSl n .un = .un := rfl
theorem trSl_dat {n : Nat} {d : D} : trSl n (.dat d) = .dat d := rfl
theorem trSl_fn {n : Nat} {d : Str} : trSl n (.fn d) = .fn d := rfl
theorem trSl_ref {n r : Nat} : trSl n (.ref r) = if r < n then .ref r else .un := rfl
theorem trRt_none {n : Nat} {t : T} : trRt n ⟨t, none⟩ = ⟨t, none⟩ := rfl
theorem trRt_some {n j : Nat} {t : T} {p : Pl} : trRt n ⟨t, some (j, p)⟩ = if j < n then ⟨t, some (j, p)⟩ else ⟨t, none⟩ := rfl
theorem kidR_none {k : Nat} {t : T} : kidR k ⟨t, none⟩ = false := rfl
theorem kidR_some {k j : Nat} {t : T} {p : Pl} : kidR k ⟨t, some (j, p)⟩ = (j == k && !t.isGone) := rfl
theorem kid_mk {k : Nat} : kid ⟨sl, rt, np⟩ k = rt.any (kidR k) := rfl
theorem params_mk : params ⟨sl, rt, np⟩ = (rt.take np).map (·.t) := rfl
end
end XM
namespace XM
open PySem L2 SX
def ownR (x : Option Rt) (n : Nat) : Option (Nat × Nat) := match x with
  | some ⟨.dl l, _⟩ => some (n, l.length)
  | _ => none
section
variable {ρ : Fr} {d : D} {n : Nat} {l : List D} {pr : Option (Nat × Pl)} {b : D → Fr → Option Fr} {s : SM} {r : R} {vs : List Nat} {mt : M Bool} {me ms : M R}
theorem ownL_dat : ownL (.dat d) ρ = none := rfl
theorem ownL_own {t : T} : ownL (.own t) ρ = none := rfl
theorem ownL_ref : ownL (.ref n) ρ = ownR ρ.rt[n]? n := by
  show (match ρ.rt[n]? with | some ⟨.dl l, _⟩ => _ | _ => none) = _
  unfold ownR
  rfl
theorem ownR_dl : ownR (some ⟨.dl l, pr⟩) n = some (n, l.length) := rfl
theorem ownR_dat : ownR (some ⟨.dat d, pr⟩) n = none := rfl
theorem ownR_frz {l : List Int} : ownR (some ⟨.frz l, pr⟩) n = none := rfl
def walkS (x : Option (Nat × Nat)) (r : R) (b : D → Fr → Option Fr) (s : SM) (ρ : Fr) : Res (r, b, s, ρ) (Option SO) := match x with
  | some p => (forO b s p.1 p.2 p.2 (pin ρ)).map (unpinO ρ.np)
  | none => andS (seqD r ρ) fun l ρ => forL b s l ρ
theorem walkS_some {p : Nat × Nat} : walkS (some p) r b s ρ = (forO b s p.1 p.2 p.2 (pin ρ)).map (unpinO ρ.np) := rfl
theorem walkS_none : walkS none r b s ρ = andS (seqD r ρ) fun l ρ => forL b s l ρ := rfl
theorem at_forO : mForO me b s ρ = andS (me ρ) fun r ρ => walkS (ownL r ρ) r b s ρ := by
  show andS (me ρ) _ = _
  cases me ρ with
  | none => rfl
  | some o => cases o with
    | ex c r => rfl
    | ok r ρ1 =>
      show (match ownL r ρ1 with | some p => _ | none => _) = walkS (ownL r ρ1) r b s ρ1
      cases ownL r ρ1 <;> rfl
def lcS (x : Option (Nat × Nat)) (r : R) (vs : List Nat) (b : D → Fr → Option Fr) (mt : M Bool) (me : M R) (ρ : Fr) : Res (r, vs, b, mt, me, ρ) (Option (Out R)) := match x with
  | some p => andO (lcO p.1 p.2 vs b mt me ρ.sl p.2 [] ρ) fun p => some (.ok (.own (.dl p.1)) p.2)
  | none => andM (seqD r ρ) fun l ρ => andO (lcL vs b mt me ρ.sl l [] ρ) fun p => some (.ok (.own (.dl p.1)) p.2)
theorem lcS_some {p : Nat × Nat} : lcS (some p) r vs b mt me ρ = andO (lcO p.1 p.2 vs b mt me ρ.sl p.2 [] ρ) fun p => some (.ok (.own (.dl p.1)) p.2) := rfl
theorem lcS_none : lcS none r vs b mt me ρ = andM (seqD r ρ) fun l ρ => andO (lcL vs b mt me ρ.sl l [] ρ) fun p => some (.ok (.own (.dl p.1)) p.2) := rfl
theorem at_lcO : mLcO vs ms b mt me ρ = andM (ms ρ) fun r ρ => lcS (ownL r ρ) r vs b mt me ρ := by
  refine andM_ext fun r ρ1 => ?_
  cases ownL r ρ1 with
  | some p =>
    rw [lcS_some]
    dsimp only
    cases lcO p.1 p.2 vs b mt me ρ1.sl p.2 [] ρ1 <;> rfl
  | none =>
    rw [lcS_none]
    refine andM_ext fun l ρ2 => ?_
    cases lcL vs b mt me ρ2.sl l [] ρ2 <;> rfl
theorem pin_mk {sl : List Sl} {rt : List Rt} {np : Nat} : pin ⟨sl, rt, np⟩ = ⟨sl, rt, rt.length⟩ := rfl
theorem unpin_mk {sl : List Sl} {rt : List Rt} {np k : Nat} : unpin k ⟨sl, rt, np⟩ = ⟨sl, rt, k⟩ := rfl
theorem unpinO_nx {k : Nat} : unpinO k (.nx ρ) = .nx (unpin k ρ) := rfl
theorem unpinO_rt {k : Nat} : unpinO k (.rt r ρ) = .rt r (unpin k ρ) := rfl
theorem curO_at {k i : Nat} (h : ρ.rt[n]? = some ⟨.dl l, pr⟩) (hk : l.length = k) : curO n k i ρ = l[i]? := by
  unfold curO
  rw [h]
  simp only
  rw [if_pos hk]
theorem endO_at {k : Nat} (h : ρ.rt[n]? = some ⟨.dl l, pr⟩) (hk : l.length = k) : endO n k ρ = true := by
  unfold endO
  rw [h]
  exact decide_eq_true hk
/-- a loop over a list that stands at a root and stays there -/
theorem for_toO {P : Fr → Prop} (I : List D → Fr → Prop) (keep : ∀ r ρ, I r ρ → ∃ pr, ρ.rt[n]? = some ⟨.dl l, pr⟩) (h0 : I l ρ)
    (hs : ∀ x r ρ, I (x :: r) ρ → ∃ ρ1 ρ2, b x ρ = some ρ1 ∧ s ρ1 = some (.nx ρ2) ∧ I r ρ2) (he : ∀ ρ', I [] ρ' → P ρ') : ∃ ρ', forO b s n l.length l.length ρ = some (.nx ρ') ∧ P ρ' := by
  have go : ∀ (rest pre : List D) (ρ : Fr), l = pre ++ rest → I rest ρ → ∃ ρ', forO b s n l.length rest.length ρ = some (.nx ρ') ∧ P ρ' := by
    intro rest
    induction rest with
    | nil =>
      intro pre ρ e h
      obtain ⟨pr, k⟩ := keep _ _ h
      refine ⟨ρ, ?_, he _ h⟩
      show forO b s n l.length 0 ρ = _
      unfold forO
      rw [if_pos (endO_at k rfl)]
    | cons x rest ih =>
      intro pre ρ e h
      obtain ⟨pr, k⟩ := keep _ _ h
      obtain ⟨ρ1, ρ2, e1, e2, h2⟩ := hs x rest ρ h
      obtain ⟨ρ', e3, h3⟩ := ih (pre ++ [x]) ρ2 (by rw [e, List.append_assoc]; rfl) h2
      refine ⟨ρ', ?_, h3⟩
      have ei : l[l.length - (rest.length + 1)]? = some x := by
        have : l.length - (rest.length + 1) = pre.length := by rw [e, List.length_append, List.length_cons]; omega
        rw [this, e, List.getElem?_append_right (Nat.le_refl _), Nat.sub_self]
        rfl
      show forO b s n l.length (rest.length + 1) ρ = _
      unfold forO
      rw [curO_at k rfl, ei]
      simp only
      rw [e1]
      simp only
      rw [e2]
      exact e3
  exact go l [] ρ rfl h0
theorem lcO_acc {sl : List Sl} {rt : List Rt} {np : Nat} (f : D → Option D) (hx : rt[n]? = some ⟨.dl l, pr⟩) (hl : l.length ≤ 1000000) (h : ∀ x ∈ l, lcOne vs b mt me ⟨sl, rt, np⟩ x = some (f x, ⟨sl, rt, np⟩)) :
    ∀ (rest pre acc : List D) (ρ' : Fr), l = pre ++ rest → ρ'.rt = rt → ρ'.np = np → acc.length ≤ pre.length → lcO n l.length vs b mt me sl rest.length acc ρ' = some (acc ++ rest.filterMap f, ⟨sl, rt, np⟩)
  | [], pre, acc, ρ', e, h1, h2, _ => by
    show lcO n l.length vs b mt me sl 0 acc ρ' = _
    unfold lcO
    rw [if_pos (endO_at (by rw [h1]; exact hx) rfl), List.filterMap_nil, List.append_nil, h1, h2]
  | x :: rest, pre, acc, ρ', e, h1, h2, ha => by
    have ei : l[l.length - (rest.length + 1)]? = some x := by
      have : l.length - (rest.length + 1) = pre.length := by rw [e, List.length_append, List.length_cons]; omega
      rw [this, e, List.getElem?_append_right (Nat.le_refl _), Nat.sub_self]
      rfl
    have lt : acc.length < 1000000 := by have := congrArg List.length e; rw [List.length_append, List.length_cons] at this; omega
    have h0 := h x (by rw [e]; simp)
    show lcO n l.length vs b mt me sl (rest.length + 1) acc ρ' = _
    unfold lcO
    rw [curO_at (by rw [h1]; exact hx) rfl, ei]
    simp only
    have e1 : ({ ρ' with sl := wipeS sl vs } : Fr) = ⟨wipeS sl vs, rt, np⟩ := by rw [← h1, ← h2]
    rw [e1]
    unfold lcOne at h0
    dsimp only at h0
    revert h0
    cases b x ⟨wipeS sl vs, rt, np⟩ with
    | none => intro h0; cases h0
    | some ρ1 =>
      simp only
      cases mt ρ1 with
      | none => intro h0; cases h0
      | some o =>
        cases o with
        | ex c ρ2 => intro h0; cases h0
        | ok t ρ2 =>
          cases t with
          | false =>
            simp only
            intro h0
            have h0' := Option.some.inj h0
            have f0 : f x = none := (congrArg Prod.fst h0').symm
            have r0 : ({ ρ2 with sl := sl } : Fr) = ⟨sl, rt, np⟩ := congrArg Prod.snd h0'
            rw [List.filterMap_cons, f0]
            exact lcO_acc f hx hl h rest (pre ++ [x]) acc ρ2 (by rw [e, List.append_assoc]; rfl) (congrArg Fr.rt r0) (congrArg Fr.np r0) (by rw [List.length_append]; omega)
          | true =>
            simp only
            cases me ρ2 with
            | none => intro h0; cases h0
            | some o =>
              cases o with
              | ex c ρ3 => intro h0; cases h0
              | ok r ρ3 =>
                simp only
                cases toD r ρ3 with
                | none => intro h0; cases h0
                | some o =>
                  cases o with
                  | ex c ρ4 => intro h0; cases h0
                  | ok z ρ4 =>
                    simp only
                    intro h0
                    have h0' := Option.some.inj h0
                    have f0 : f x = some z := (congrArg Prod.fst h0').symm
                    have r0 : ({ ρ4 with sl := sl } : Fr) = ⟨sl, rt, np⟩ := congrArg Prod.snd h0'
                    rw [if_pos lt, lcO_acc f hx hl h rest (pre ++ [x]) (acc ++ [z]) ρ4 (by rw [e, List.append_assoc]; rfl) (congrArg Fr.rt r0) (congrArg Fr.np r0) (by rw [List.length_append, List.length_append, List.length_singleton, List.length_singleton]; omega), List.filterMap_cons, f0, List.append_assoc]
                    rfl
theorem lcOF {sl : List Sl} {rt : List Rt} {np : Nat} (f : D → Option D) (hx : rt[n]? = some ⟨.dl l, pr⟩) (hl : l.length ≤ 1000000) (h : ∀ x ∈ l, lcOne vs b mt me ⟨sl, rt, np⟩ x = some (f x, ⟨sl, rt, np⟩)) :
    lcO n l.length vs b mt me sl l.length [] ⟨sl, rt, np⟩ = some (l.filterMap f, ⟨sl, rt, np⟩) := lcO_acc f hx hl h l [] [] _ rfl rfl rfl (Nat.le_refl _)
end
end XM
end
open PySem XM L2 SX in
local macro_rules | `(tactic| simp_all only [evE, $xs,*]) => `(tactic| simp only [↓at_bnd, ↓at_seq, ↓at_sBnd, ↓at_expr, ↓at_ret, ↓at_retN, ↓at_if, ↓at_set, ↓at_slot, ↓at_op, ↓at_asB, ↓at_notT, ↓at_andT, ↓at_orT, ↓at_andV, ↓at_orV, ↓at_ifE, ↓at_v1, ↓at_args0, ↓at_args1, ↓at_cons, ↓at_star, ↓at_tup, ↓at_lst, ↓at_tupA, ↓at_lstA, ↓at_items, ↓at_cat, ↓at_rep, ↓at_seqI, ↓at_strI, ↓at_rng1, ↓at_rev1, ↓at_rng2, ↓at_for, ↓at_lc, ↓at_call0, ↓at_call, ↓at_mB, ↓at_isi, ↓at_join, ↓at_rev, ↓at_slice, ↓at_ix, ↓at_def, ↓at_c, ↓at_f, ↓at_lcOne, ↓at_yes, ↓at_bName, ↓at_f1, ↓at_fLen, ↓at_fList, ↓at_fTup, ↓at_nx, ↓toDs_app, ↓at_opt0, ↓at_opt1, ↓at_append, ↓at_extend, ↓at_unp1, ↓at_dget2, ↓at_tindex, ↓at_index, ↓at_setIx, ↓at_fMax, ↓at_zipTL, ↓at_fd, ↓at_callF, ↓at_bNil, ↓at_bCons, ↓at_bTup, ↓idxS_cons, ↓idxF_cons, ↓lkD_cons, ↓lookup_str, ↓at_fSl, ↓at_forO, ↓at_lcO, ↓andM_ok, ↓andM_ex, ↓andS_ok, ↓andS_ex, ↓andQ_nx, ↓andQ_rt, ↓andQ_ex, ↓andQ_bk, ↓andQ_ct, ↓andO_some, ↓andO_none, ↓iteM_true, ↓iteM_false, ↓lcQ_true, ↓lcQ_false, ↓forQ_nx, ↓forQ_rt, ↓walkS_some, ↓walkS_none, ↓lcS_some, ↓lcS_none, andM_ok, andM_ex, andS_ok, andS_ex, andQ_nx, andQ_rt, andQ_ex, andQ_bk, andQ_ct, andO_some, andO_none, iteM_true, iteM_false, atSlot_dat, atSlot_fn, atSlot_ref, atRef_some, vw_dat, vw_own, vw_ref, view_dat, view_dl, atomR_int, atomR_str, atomR_bool, atomR_non, atomB_bool, op2_some, op1_some, toDs_nil, toDs_cons, toDs_dats, toD_dat, toD_own, toD_ref, small_yes, its_dat, its_own, its_ref, items_list, items_tup, items_dl, items_frz, fIx_int, intD_int, strO_str, okIf_yes, listOf_list, listOf_tup, seqD_dat, seqD_own, seqD_ref, seqRef_dat, seqRef_dl, seqRef_frz, callR_ret, callR_ex, okOnly_ok, takes_nil, takes_dat, takes_own, takes_fn, gathers_nil, gathers_dat, gathers_own, gathers_fn, at_puts0, puts_dat, puts_own, puts_fn, puts_ref, toR_dat, toR_dl, toR_fn, endD_rt, endD_nx, endD_ex, lv_dat, lv_own, lv_fn, lenR_dat, lenR_own, lenR_ref, tyR_dat, tyR_own, tyR_ref, lcQ_true, lcQ_false, lcE_ok, lcZ_ok, wipeS, e_add, e_addS, e_sub, e_mul, e_mulL, e_div, e_mod, e_pow, e_shr, e_and, e_lt, e_le, e_gt, e_ge, e_eqI, e_eqS, e_neI, e_neS, e_neg, e_notB, e_int, e_intB, takes, gathers, putR, clr, clrR, leave, params_mk, sweep_mk, sweepN, backK, named, tidy_mk, trim_mk, trimL, trSl_un, trSl_dat, trSl_fn, trSl_ref, trRt_none, trRt_some, setS_mk, kidR_none, kidR_some, kid_mk, T.isGone, letGo_mk, toSl_dat, toSl_fn, toSl_ref, toSl_own, place, freeAt, freeN, isFree, isRef, entry, slFrom, desc, itsL_dat, itsL_own, itsL_ref, itsT_dat, itsT_own, itsT_ref, itemsL_list, itemsL_dl, itemsL_tup, itemsL_str, itemsT_list, itemsT_str, itemsT_dl, itemsT_tup, items_str, dlAt_dl, refO_ref, consO_cons, getOr_some, getOr_int, tupO_tup, lstO_lst, fnO_fn, e_inL, e_inT, e_notInL, flatS_int, flatS_str, eqF_int, eqF_str, eqF_is, eqF_si, len_list, len_tup, len_dl, len_str, len_frz, ty_int, ty_str, ty_bool, ty_none, ty_list, ty_tup, tyT_dl, tyT_dat, lit_inj, len_S, ownL_dat, ownL_own, ownL_ref, ownR_dl, ownR_dat, ownR_frz, walkS_some, walkS_none, lcS_some, lcS_none, pin_mk, unpin_mk, unpinO_nx, unpinO_rt, sl3_l, sl3_t, sl3_s, idxF_strs, all_flat, cut_one, atI_pos, Int.reduceToNat, Int.toNat_natCast, lkD_nil, forL_nil, forQ_nx, forQ_rt, forL_cons, and255, rangeC, rangeD, strD, isT, List.getElem?_cons_zero, List.getElem?_cons_succ, List.set_cons_zero, List.set_cons_succ, List.length_cons, List.length_nil, List.any_cons, List.any_nil, List.all_cons, List.all_nil, List.map_cons, List.map_nil, List.take_succ_cons, List.take_zero, List.take_nil, List.drop_succ_cons, List.drop_zero, List.drop_nil, List.nil_append, List.cons_append, List.append_nil, List.replicate_succ, List.replicate_zero, Option.map_some, Option.map_none, Option.bind_some, Option.bind_none, Bool.true_and, Bool.false_and, Bool.and_true, Bool.and_false, Bool.true_or, Bool.false_or, Bool.or_true, Bool.or_false, Bool.not_true, Bool.not_false, if_true, if_false, reduceIte, Nat.sub_self, Nat.add_zero, Nat.zero_add, Nat.reduceAdd, Nat.reduceSub, Nat.reduceMul, Nat.reduceBEq, Nat.reduceLeDiff, Nat.reduceLT, Nat.reduceEqDiff, Int.reduceLT, Int.reduceLE, Int.reduceNeg, Int.reduceEq, String.reduceEq, String.reduceNe, List.reverse_cons, List.reverse_nil, eq_self, and_self, true_and, and_true, beq_self_eq_true, decide_true, decide_false, decide_eq_true_eq, reduceCtorEq, Bool.false_eq_true, $xs,*])
section
/-! stores: what their defs answer -/
namespace XM
open PySem L2 SX
end XM
namespace Cm
open PySem XM L2 SX SM
end Cm
namespace Cm
open PySem XM L2 SX SM
/-! the tables -/
end Cm
end
section
namespace Cm
open PySem XM L2 SX SM
instance decKV : DecidableEq SM.KV
  | .n i, .n j => if h : i = j then isTrue (congrArg KV.n h) else isFalse fun z => h (KV.n.inj z)
  | .s i, .s j => if h : i = j then isTrue (congrArg KV.s h) else isFalse fun z => h (KV.s.inj z)
  | .n _, .s _ => isFalse fun z => nomatch z
  | .s _, .n _ => isFalse fun z => nomatch z
end Cm
end
section
namespace Cm
open PySem XM L2 SX SM
end Cm
end
section
namespace Cm
open PySem PySem.Spec PyProof.Rows L2 Tl XM
/-! parse_statement : 0 string, 1 word, 2 pieces, 3 form, 4 parts, 5 n, 6 letter, 7 piece -/
def b_parse_statement_k08 : SM :=
  (mSeq (mIf (mOrT (mNotT (asB (mIsi .str (mSlot 0)))) (mNotT (asB (mCall0 m_may_be_prepared [(mSlot 0)]))))
    sDead mNx)
  (mSeq (mUnp1 1 2 (mCall0 m_split_pieces [(mSlot 0)]))
  (mSeq (mSet 3 (mCall0 m_find_form [(mSlot 1), (mB fLen [(mSlot 2)])]))
  (mSeq (mSet 4 (mTupA (mCons (mSlot 1) (mStar (mLc [6, 7] (mZipSL (mSlot 3) (mSlot 2)) (bSeq 2 (bCons (bName 6) (bCons (bName 7) bNil))) mYes (mCall0 m_parse_part [(mSlot 6), (mSlot 7)])) (mArgs [])))))
  (mSeq (mFor (mRng2 (mC (.int 1)) (mCall0 m_parameters [(mSlot 4)])) (bName 5)
    (mIf (asB (mOp fNotInT (mTup [(mC (.str "parameter")), (mSlot 5)]) (mSlot 4)))
      sDead mNx))
  (mRet (mSlot 4)))))))
def m_parse_statement_k08 : FM := mDef 8 b_parse_statement_k08
/-! Session._prepare : 0 self, 1 name, 2 string, 3 parts -/
def b_Session__prepare_k08 : SM :=
  (mSeq (mIf (asB (mDIn false (mSlot 1) (mFld ["Session"] "_prepared" (mSlot 0))))
    (mRet (mTup [(mC (.str "wrong")), (mC (.str "taken"))])) mNx)
  (mSeq (mIf (asB (mOp fGe (mB fLenD [(mFld ["Session"] "_prepared" (mSlot 0))]) (mC (.int 8))))
    (mRet (mTup [(mC (.str "wrong")), (mC (.str "crowded"))])) mNx)
  (mSeq (mSet 3 (mCall0 m_parse_statement_k08 [(mSlot 2)]))
  (mSeq (mDPut (mSlot 3) (mFld ["Session"] "_prepared" (mSlot 0)) (mSlot 1))
  (mRet (mTup [(mC (.str "prepared")), (mCall0 m_parameters [(mSlot 3)])]))))))
def m_Session__prepare_k08 : FM := mDef 4 b_Session__prepare_k08
/-! Portal.portion : 0 self, 1 most, 2 many, 3 rows -/
def b_Portal_portion : SM :=
  (mSeq (mSet 2 (mIfE (asB (mOp fGt (mSlot 1) (mC (.int 0)))) (mSlot 1) (mB fLen [(mFld ["Portal"] "rows" (mSlot 0))])))
  (mSeq (mSet 3 (mB fList [(mSlice (mFld ["Portal"] "rows" (mSlot 0)) none (some (mSlot 2)))]))
  (mSeq (mSetFld ["Portal"] "rows" (mSlice (mFld ["Portal"] "rows" (mSlot 0)) (some (mSlot 2)) none) (mSlot 0))
  (mSeq (mSetFld ["Portal"] "ended" (mOp fEq (mB fLen [(mFld ["Portal"] "rows" (mSlot 0))]) (mC (.int 0))) (mSlot 0))
  (mRet (mTup [(mC (.str "rows")), (mSlot 3), (mV1 fNotB (mFld ["Portal"] "ended" (mSlot 0)))]))))))
def m_Portal_portion : FM := mDef 4 b_Portal_portion
/-! delete_row : 0 store, 1 name, 2 key, 3 rows, 4 count -/
def b_delete_row : SM :=
  (mSeq (mSet 3 (mCall0 m_rows_without [(mSlot 0), (mSlot 1), (mSlot 2)]))
  (mSeq (mSet 4 (mOp fSub (mB fLen [(mCall0 m_rows_of [(mSlot 0), (mSlot 1)])]) (mB fLen [(mSlot 3)])))
  (mRet (mTup [(mCall0 m_with_rows [(mSlot 0), (mSlot 1), (mSlot 3)]), (mTup [(mC (.str "complete")), (mSlot 4)])]))))
def m_delete_row : FM := mDef 5 b_delete_row
/-! get_row : 0 store, 1 name, 2 key, 3 row -/
def b_get_row : SM :=
  (mRet (mTup [(mSlot 0), (mTup [(mC (.str "rows")), (mB fTup [(mLcO [3] (mCall0 m_rows_of [(mSlot 0), (mSlot 1)]) (bName 3) (asB (mOp fEq (mItems false fIx (mSlot 3) (mC (.int 0))) (mSlot 2))) (mSlot 3))])])]))
def m_get_row : FM := mDef 4 b_get_row
/-! scan_rows : 0 store, 1 name, 2 low, 3 high, 4 rows, 5 least, 6 greatest, 7 row -/
def b_scan_rows : SM :=
  (mSeq (mSet 4 (mCall0 m_rows_of [(mSlot 0), (mSlot 1)]))
  (mSeq (mIf (asB (mOp fIsN (mSlot 2) (mC .none)))
    (mRet (mTup [(mSlot 0), (mTup [(mC (.str "rows")), (mSlot 4)])])) mNx)
  (mSeq (mSet 5 (mCall0 m_value_order [(mSlot 2)]))
  (mSeq (mSet 6 (mCall0 m_value_order [(mSlot 3)]))
  (mRet (mTup [(mSlot 0), (mTup [(mC (.str "rows")), (mB fTup [(mLcO [7] (mSlot 4) (bName 7) (asB (mChain fLeK fLeK (mSlot 5) (mCall0 m_row_order [(mSlot 7)]) (mSlot 6))) (mSlot 7))])])]))))))
def m_scan_rows : FM := mDef 8 b_scan_rows
/-! count_rows : 0 store, 1 name -/
def b_count_rows : SM :=
  (mRet (mTup [(mSlot 0), (mTup [(mC (.str "rows")), (mTup [(mTup [(mB fLen [(mCall0 m_rows_of [(mSlot 0), (mSlot 1)])])])])])]))
def m_count_rows : FM := mDef 2 b_count_rows
def fm_ACTIONS_k08 : List ((Str × Nat) × (List D × FM)) := [(("put_row", 4), ([], m_put_row)), (("delete_row", 3), ([], m_delete_row)), (("get_row", 3), ([], m_get_row)), (("scan_rows", 2), ([.none, .none], m_scan_rows)), (("scan_rows", 4), ([], m_scan_rows)), (("count_rows", 2), ([], m_count_rows))]
/-! run_on_store : 0 store, 1 parts, 2 word, 3 name, 4 terms, 5 action -/
def b_run_on_store_k08 : SM :=
  (mSeq (mUnp2 2 3 4 (mSlot 1))
  (mSeq (mIf (asB (mOp fEq (mSlot 2) (mC (.str "create"))))
    (mRet (mCall0 m_create_table [(mSlot 0), (mSlot 3)])) mNx)
  (mSeq (mIf (asB (mOp fIsN (mCall0 m_rows_of [(mSlot 0), (mSlot 3)]) (mC .none)))
    (mRet (mTup [(mSlot 0), (mTup [(mC (.str "wrong")), (mC (.str "no table"))])])) mNx)
  (mSeq (mSet 5 (mFD tb_ACTIONS (mSlot 2)))
  (mRet (mCallFS 5 fm_ACTIONS_k08 (mCons (mSlot 0) (mCons (mSlot 3) (mStar (mSlot 4) (mArgs []))))))))))
def m_run_on_store_k08 : FM := mDef 6 b_run_on_store_k08
/-! Session._run_statement : 0 self, 1 parts, 2 name, 3 answer -/
def b_Session__run_statement_k08 : SM :=
  (mSeq (mMatch (mSlot 1) [([some "begin"], [], (mRet (mMeth "Session" "_begin" m_Session__begin [] (mSlot 0) []))),
      ([some "commit"], [], (mRet (mMeth "Session" "_commit" m_Session__commit [] (mSlot 0) []))),
      ([some "rollback"], [], (mRet (mMeth "Session" "_roll_back" m_Session__roll_back [] (mSlot 0) []))),
      ([some "save", none], [2], (mRet (mMeth "Session" "_save" m_Session__save [] (mSlot 0) [(mSlot 2)]))),
      ([some "undo", none], [2], (mRet (mMeth "Session" "_undo" m_Session__undo [] (mSlot 0) [(mSlot 2)])))])
  (mSeq (mFldTup ["Session"] "_store" 3 (mSlot 0) (mCall0 m_run_on_store_k08 [(mFld ["Session"] "_store" (mSlot 0)), (mSlot 1)]))
  (mRet (mSlot 3))))
def m_Session__run_statement_k08 : FM := mDef 4 b_Session__run_statement_k08
/-! Session._run : 0 self, 1 name, 2 most, 3 portal, 4 answer -/
def b_Session__run_k08 : SM :=
  (mSeq (mIf (asB (mDIn true (mSlot 1) (mFld ["Session"] "_portals" (mSlot 0))))
    (mRetS (mTup [(mC (.str "wrong")), (mC (.str "no portal"))])) mNx)
  (mSeq (mSet 3 (mDGet (mFld ["Session"] "_portals" (mSlot 0)) (mSlot 1)))
  (mSeq (mIf (mAndT (asB (mOp fEq (mFld ["Session"] "_state" (mSlot 0)) (mC (.str "failed")))) (asB (mOp fNotIn (mItems false fIx (mFld ["Portal"] "parts" (mSlot 3)) (mC (.int 0))) (mC (.tuple [(.str "commit"), (.str "rollback"), (.str "undo")])))))
    (mRetS (mTup [(mC (.str "wrong")), (mC (.str "failed"))])) mNx)
  (mSeq (mIf (asB (mFld ["Portal"] "ended" (mSlot 3)))
    (mRetS (mTup [(mC (.str "wrong")), (mC (.str "at end"))])) mNx)
  (mSeq (mIf (asB (mOp fNotN (mFld ["Portal"] "rows" (mSlot 3)) (mC .none)))
    (mRetS (mMeth "Portal" "portion" m_Portal_portion [] (mSlot 3) [(mSlot 2)])) mNx)
  (mSeq (mSet 4 (mHold 3 (mMeth "Session" "_run_statement" m_Session__run_statement_k08 [] (mSlot 0) [(mFld ["Portal"] "parts" (mSlot 3))])))
  (mSeq (mIf (asB (mOp fEq (mItems false fIx (mSlot 4) (mC (.int 0))) (mC (.str "rows"))))
    (mSeq (mSetFld ["Portal"] "rows" (mItems false fIx (mSlot 4) (mC (.int 1))) (mSlot 3))
    (mRetS (mMeth "Portal" "portion" m_Portal_portion [] (mSlot 3) [(mSlot 2)]))) mNx)
  (mSeq (mSetFld ["Portal"] "ended" (mOp fEq (mItems false fIx (mSlot 4) (mC (.int 0))) (mC (.str "complete"))) (mSlot 3))
  (mRetS (mSlot 4))))))))))
def m_Session__run_k08 : FM := mDef 5 b_Session__run_k08
/-! Session._run_command : 0 self, 1 command, 2 name, 3 string, 4 portal, 5 values, 6 most -/
def b_Session__run_command_k08 : SM :=
  (mMatch (mSlot 1) [([some "prepare", none, none], [2, 3], (mRet (mMeth "Session" "_prepare" m_Session__prepare_k08 [] (mSlot 0) [(mSlot 2), (mSlot 3)]))),
      ([some "bind", none, none, none], [4, 2, 5], (mRet (mMeth "Session" "_bind" m_Session__bind [] (mSlot 0) [(mSlot 4), (mSlot 2), (mSlot 5)]))),
      ([some "run", none, none], [4, 6], (mRet (mMeth "Session" "_run" m_Session__run_k08 [] (mSlot 0) [(mSlot 4), (mSlot 6)]))),
      ([some "forget", none], [2], (mRet (mMeth "Session" "_forget" m_Session__forget [] (mSlot 0) [(mSlot 2)]))),
      ([some "close", none], [4], (mRet (mMeth "Session" "_close" m_Session__close [] (mSlot 0) [(mSlot 4)])))])
def m_Session__run_command_k08 : FM := mDef 7 b_Session__run_command_k08
/-! Session.run_batch : 0 self, 1 commands, 2 replies, 3 failed, 4 command, 5 reply -/
/-! _law_begun : 0 count, 1 batches, 2 k -/
/-! law : 0 script, 1 count, 2 session, 3 commands, 4 rows, 5 kind, 6 string, 7 left, 8 told, 9 ended, 10 number, 11 most, 12 size, 13 due, 14 change, 15 k, 16 row, 17 j -/
end Cm
end
section
namespace Cm
open PySem XM L2 SX SM
end Cm
end
section
namespace XM
open PySem L2 SX
def boolO (x : Option D) : Option Bool := match x with
  | some (.bool b) => some b
  | _ => none
theorem boolO_bool {b : Bool} : boolO (some (.bool b)) = some b := rfl
theorem at_chain {f g : D → D → Option D} {ma mb mc : M R} {ρ : Fr} : mChain f g ma mb mc ρ = andM (ma ρ) fun ra ρ => andM (mb ρ) fun rb ρ => andO (boolO (op2 f (vw ra ρ) (vw rb ρ))) fun b => iteM b (andM (mc ρ) fun rc ρ => atomR (op2 g (vw rb ρ) (vw rc ρ)) ρ) (some (.ok (.dat (.bool false)) ρ)) := by
  refine andM_ext fun ra ρ1 => andM_ext fun rb ρ2 => ?_
  cases h1 : vw ra ρ2 with
  | none => simp only [op2, boolO, andO]
  | some d =>
    cases h2 : vw rb ρ2 with
    | none => simp only [op2, boolO, andO]
    | some e =>
      simp only [op2]
      cases h3 : f d e with
      | none => simp only [boolO, andO]
      | some z =>
        cases z with
        | bool b =>
          cases b with
          | false => rfl
          | true =>
            show bnd mc _ ρ2 = andM (mc ρ2) _
            refine andM_ext fun rc ρ3 => ?_
            cases h4 : vw rb ρ3 with
            | none => simp only [op2, atomR]
            | some e' =>
              cases h5 : vw rc ρ3 with
              | none => simp only [op2, atomR]
              | some d' =>
                simp only [op2, atomR]
                try (cases g e' d' <;> rfl)
        | _ => rfl
end XM
namespace Cm
open PySem XM L2 SX SM
end Cm
end
section
namespace Cm
open PySem XM L2 SX SM
/-! run_on_store -/
end Cm
end
section
/-! running methods: fields, dicts, calls -/
namespace XM
open PySem L2 SX
section
variable {ρ : Fr} {ms : List (M R)} {m mo md mk mv mx : M R}
def okR (x : Option (R × Fr)) : Option (Out R) := x.map fun p => .ok p.1 p.2
theorem okR_some {r : R} {ρ' : Fr} : okR (some (r, ρ')) = some (.ok r ρ') := rfl
def fldR (x : Option (Nat × Str × List (Str × T))) (cs : List Str) (f : Str) (ρ : Fr) : Option (Out R) := match x with
  | some (n, c, _) => if c ∈ cs then okR (borrow n (.fld f) ρ) else none
  | none => none
theorem at_fld {cs : List Str} {f : Str} : mFld cs f m ρ = andM (m ρ) fun r ρ => fldR (clsAt r ρ) cs f ρ := by
  refine andM_ext fun r ρ1 => ?_
  unfold fldR
  cases clsAt r ρ1 <;> rfl
theorem fldR_yes {n : Nat} {c f : Str} {fs : List (Str × T)} : fldR (some (n, c, fs)) [c] f ρ = okR (borrow n (.fld f) ρ) := if_pos (List.mem_singleton.mpr rfl)
/-- what is found at a place -/
def borR (o : Option T) (n : Nat) (p : Pl) (t : T) (pr : Option (Nat × Pl)) (ρ : Fr) : Option (R × Fr) := match o with
  | some (.dat d) => some (.dat d, ρ)
  | some (.fn x) => some (.fn x, ρ)
  | some .gone => (findPar n p 0 ρ.rt).map fun k => (.ref k, ρ)
  | some c => some (.ref ρ.rt.length, { ρ with rt := ρ.rt.set n ⟨setc .gone p t, pr⟩ ++ [⟨c, some (n, p)⟩] })
  | none => none
def borQ (x : Option Rt) (n : Nat) (p : Pl) (ρ : Fr) : Option (R × Fr) := match x with
  | some ⟨t, pr⟩ => borR (getc p t) n p t pr ρ
  | none => none
theorem at_borrow {n : Nat} {p : Pl} : borrow n p ρ = borQ ρ.rt[n]? n p ρ := by
  unfold borrow borQ
  cases ρ.rt[n]? with
  | none => rfl
  | some x =>
    obtain ⟨t, pr⟩ := x
    show (match getc p t with | some (.dat d) => _ | some (.fn x) => _ | some .gone => _ | some c => _ | none => _) = borR (getc p t) n p t pr ρ
    unfold borR
    cases getc p t with
    | none => rfl
    | some c => cases c <;> rfl
theorem borQ_some {n : Nat} {p : Pl} {t : T} {pr : Option (Nat × Pl)} : borQ (some ⟨t, pr⟩) n p ρ = borR (getc p t) n p t pr ρ := rfl
theorem getc_fld {f c : Str} {fs : List (Str × T)} : getc (.fld f) (.ins c fs) = getA f fs := rfl
theorem getc_key {k : Key} {l : List (Key × T)} : getc (.key k) (.od l) = getA k l := rfl
theorem setc_fld {f c : Str} {fs : List (Str × T)} {s : T} : setc s (.fld f) (.ins c fs) = .ins c (putA f s fs) := rfl
theorem setc_key {k : Key} {l : List (Key × T)} {s : T} : setc s (.key k) (.od l) = .od (putA k s l) := rfl
theorem getc_gone {p : Pl} : getc p .gone = none := by cases p <;> rfl
theorem setc_gone {p : Pl} {t : T} : setc t p .gone = .gone := by cases p <;> rfl
theorem getA_cons {κ β : Type} [DecidableEq κ] {k j : κ} {x : β} {r : List (κ × β)} : getA k ((j, x) :: r) = iteM (decide (j = k)) (some x) (getA k r) := by
  unfold iteM
  rw [getA]
  by_cases h : j = k <;> simp [h]
theorem getA_nil {κ β : Type} [DecidableEq κ] {k : κ} : getA k ([] : List (κ × β)) = none := rfl
theorem putA_cons {κ β : Type} [DecidableEq κ] {k j : κ} {x y : β} {r : List (κ × β)} : putA k y ((j, x) :: r) = iteM (decide (j = k)) ((j, y) :: r) ((j, x) :: putA k y r) := by
  unfold iteM
  rw [putA]
  by_cases h : j = k <;> simp [h]
theorem putT_cons {k j : Str} {x y : T} {r : List (Str × T)} : putT k y ((j, x) :: r) = iteM (decide (j = k)) ((j, y) :: r) ((j, x) :: putT k y r) := by
  unfold iteM
  rw [putT]
  by_cases h : j = k <;> simp [h]
theorem putT_nil {k : Str} {y : T} : putT k y [] = [(k, y)] := rfl
theorem borR_dat {n : Nat} {p : Pl} {t : T} {pr : Option (Nat × Pl)} {d : D} : borR (some (.dat d)) n p t pr ρ = some (.dat d, ρ) := rfl
theorem borR_gone {n : Nat} {p : Pl} {t : T} {pr : Option (Nat × Pl)} : borR (some .gone) n p t pr ρ = (findPar n p 0 ρ.rt).map fun k => (.ref k, ρ) := rfl
theorem borR_dl {n : Nat} {p : Pl} {t : T} {pr : Option (Nat × Pl)} {l : List D} : borR (some (.dl l)) n p t pr ρ = some (.ref ρ.rt.length, { ρ with rt := ρ.rt.set n ⟨setc .gone p t, pr⟩ ++ [⟨.dl l, some (n, p)⟩] }) := rfl
theorem borR_dd {n : Nat} {p : Pl} {t : T} {pr : Option (Nat × Pl)} {l : List (Key × D)} : borR (some (.dd l)) n p t pr ρ = some (.ref ρ.rt.length, { ρ with rt := ρ.rt.set n ⟨setc .gone p t, pr⟩ ++ [⟨.dd l, some (n, p)⟩] }) := rfl
theorem borR_od {n : Nat} {p : Pl} {t : T} {pr : Option (Nat × Pl)} {l : List (Key × T)} : borR (some (.od l)) n p t pr ρ = some (.ref ρ.rt.length, { ρ with rt := ρ.rt.set n ⟨setc .gone p t, pr⟩ ++ [⟨.od l, some (n, p)⟩] }) := rfl
theorem borR_ins {n : Nat} {p : Pl} {t : T} {pr : Option (Nat × Pl)} {c : Str} {l : List (Str × T)} : borR (some (.ins c l)) n p t pr ρ = some (.ref ρ.rt.length, { ρ with rt := ρ.rt.set n ⟨setc .gone p t, pr⟩ ++ [⟨.ins c l, some (n, p)⟩] }) := rfl
theorem findPar_nil {n : Nat} {p : Pl} {i : Nat} : findPar n p i [] = none := rfl
theorem findPar_none {n : Nat} {p : Pl} {i : Nat} {t : T} {r : List Rt} : findPar n p i (⟨t, none⟩ :: r) = findPar n p (i + 1) r := if_neg (fun h => nomatch h)
theorem findPar_some {n j : Nat} {p q : Pl} {i : Nat} {t : T} {r : List Rt} : findPar n p i (⟨t, some (j, q)⟩ :: r) = iteM (decide (j = n ∧ q = p)) (some i) (findPar n p (i + 1) r) := by
  unfold iteM
  rw [findPar]
  by_cases h : j = n ∧ q = p
  · obtain ⟨rfl, rfl⟩ := h; simp
  · have : ¬ (some (j, q) = some (n, p)) := fun z => h (by cases z; exact ⟨rfl, rfl⟩)
    simp [h, this]
end
end XM
namespace XM
open PySem L2 SX
section
variable {ρ : Fr} {ms : List (M R)} {m mo md mk mv mx : M R}
/-! writing a field -/
def takR (x : Option Rt) (k : Nat) (ρ : Fr) : Option (T × Fr) := match x with
  | some x => some (x.t, { ρ with rt := ρ.rt.set k ⟨.gone, x.par⟩ })
  | none => none
theorem takeR_dat {d : D} : takeR (.dat d) ρ = some (.dat d, ρ) := rfl
theorem takeR_own {t : T} : takeR (.own t) ρ = some (t, ρ) := rfl
theorem takeR_ref {k : Nat} : takeR (.ref k) ρ = takR ρ.rt[k]? k ρ := by
  show (match ρ.rt[k]? with | some x => _ | none => none) = _
  cases ρ.rt[k]? <;> rfl
theorem takR_some {x : Rt} {k : Nat} : takR (some x) k ρ = some (x.t, { ρ with rt := ρ.rt.set k ⟨.gone, x.par⟩ }) := rfl
def stoR (x : Option Rt) (cs : List Str) (n : Nat) (f : Str) (t : T) (ρ : Fr) : Option Fr := match x with
  | some ⟨.ins c fs, pr⟩ => if c ∈ cs ∧ fs.length < 1000 then some { ρ with rt := ρ.rt.set n ⟨.ins c (putT f t fs), pr⟩ } else none
  | _ => none
theorem at_storeF {cs : List Str} {n : Nat} {f : Str} {t : T} : storeF cs n f t ρ = stoR (clr (fun jp => jp.1 == n && decide (jp.2 = .fld f)) ρ).rt[n]? cs n f t (clr (fun jp => jp.1 == n && decide (jp.2 = .fld f)) ρ) := by
  unfold storeF stoR isIns
  cases (clr (fun jp => jp.1 == n && decide (jp.2 = .fld f)) ρ).rt[n]? with
  | none => rfl
  | some x =>
    obtain ⟨t, pr⟩ := x
    cases t <;> rfl
theorem stoR_ins {c f : Str} {fs : List (Str × T)} {pr : Option (Nat × Pl)} {n : Nat} {t : T} (h : fs.length < 1000) : stoR (some ⟨.ins c fs, pr⟩) [c] n f t ρ = some { ρ with rt := ρ.rt.set n ⟨.ins c (putT f t fs), pr⟩ } := if_pos ⟨List.mem_singleton.mpr rfl, h⟩
theorem clr_mk {q : Nat × Pl → Bool} {sl : List Sl} {rt : List Rt} {np : Nat} : clr q ⟨sl, rt, np⟩ = ⟨sl, rt.map (clrR q), np⟩ := rfl
theorem clrR_none {q : Nat × Pl → Bool} {t : T} : clrR q ⟨t, none⟩ = ⟨t, none⟩ := rfl
theorem clrR_some {q : Nat × Pl → Bool} {t : T} {jp : Nat × Pl} : clrR q ⟨t, some jp⟩ = iteM (q jp) ⟨t, none⟩ ⟨t, some jp⟩ := rfl
theorem refN_ref {n : Nat} : refN (.ref n) = some n := rfl
theorem at_setFld {cs : List Str} {f : Str} : mSetFld cs f m mo ρ = andS (m ρ) fun r ρ => andS (mo ρ) fun ro ρ => andO (refN ro) fun n => andO (takeR r ρ) fun p => (storeF cs n f p.1 p.2).map fun ρ' => .nx (tidy ρ') := by
  refine andS_ext fun r ρ1 => andS_ext fun ro ρ2 => ?_
  cases refN ro with
  | none => rfl
  | some n =>
    show (match takeR r ρ2 with | some p => (storeF cs n f p.1 p.2).map fun ρ' => SO.nx (tidy ρ') | none => none) = andO (takeR r ρ2) fun p => (storeF cs n f p.1 p.2).map fun ρ' => SO.nx (tidy ρ')
    cases takeR r ρ2 <;> rfl
theorem at_fldTup {cs : List Str} {f : Str} {j : Nat} : mFldTup cs f j mo m ρ = andS (m ρ) fun r ρ1 => andO (itsT r ρ1) fun l => andO (consO (some l)) fun p => andO (consO (some p.2)) fun q => iteM q.2.isEmpty (andS (mo ρ1) fun ro ρ => andO (refN ro) fun n => (storeF cs n f (.dat p.1) ρ).map fun ρ' => .nx (tidy { ρ' with sl := ρ'.sl.set j (.dat q.1) })) none := by
  refine andS_ext fun r ρ1 => ?_
  cases itsT r ρ1 with
  | none => rfl
  | some l => cases l with
    | nil => rfl
    | cons d l => cases l with
      | nil => rfl
      | cons d2 l => cases l with
        | nil =>
          refine andS_ext fun ro ρ2 => ?_
          cases refN ro <;> rfl
        | cons _ _ => rfl
/-! dicts -/
theorem at_dnew : mDNew ρ = some (.ok (.own (.dd [])) ρ) := rfl
theorem toR_dd {l : List (Key × D)} : toR (.dd l) = .own (.dd l) := rfl
def dgR (x : Option Rt) (n : Nat) (z : Str) (ρ : Fr) : Option (R × Fr) := match x with
  | some ⟨.dd l, _⟩ => (getA (Sum.inr z : Key) l).map fun d => (.dat d, ρ)
  | some ⟨.od _, _⟩ => borrow n (.key (.inr z)) ρ
  | _ => none
theorem at_dget1 {n : Nat} {z : Str} : dget n z ρ = dgR ρ.rt[n]? n z ρ := by
  show (match ρ.rt[n]? with | some ⟨.dd l, _⟩ => _ | some ⟨.od _, _⟩ => _ | _ => none) = _
  unfold dgR
  rfl
theorem dgR_dd {n : Nat} {z : Str} {l : List (Key × D)} {p : Option (Nat × Pl)} : dgR (some ⟨.dd l, p⟩) n z ρ = (getA (Sum.inr z : Key) l).map fun d => (.dat d, ρ) := rfl
theorem dgR_od {n : Nat} {z : Str} {l : List (Key × T)} {p : Option (Nat × Pl)} : dgR (some ⟨.od l, p⟩) n z ρ = borrow n (.key (.inr z)) ρ := rfl
theorem at_dget {md mk : M R} : mDGet md mk ρ = andM (md ρ) fun rd ρ => andM (mk ρ) fun rk ρ => andO (refN rd) fun n => andO (strO (vw rk ρ)) fun z => okR (dget n z ρ) := by
  refine andM_ext fun rd ρ1 => andM_ext fun rk ρ2 => ?_
  show (match refN rd, vw rk ρ2 with | some n, some (.str z) => _ | _, _ => none) = andO (refN rd) _
  cases refN rd with
  | none => rfl
  | some n =>
    cases vw rk ρ2 with
    | none => rfl
    | some d => cases d <;> rfl
end
end XM
end
section
/-! running methods: dicts, match, calls -/
namespace XM
open PySem L2 SX
section
variable {ρ : Fr} {ms : List (M R)} {m mo md mk mv mx me : M R}
theorem keysR_ref {n : Nat} : keysR (.ref n) ρ = (ρ.rt[n]?).bind fun t => t.t.dkeys := rfl
theorem dkeys_dd {l : List (Key × D)} : T.dkeys (.dd l) = some (l.map (·.1)) := rfl
theorem dkeys_od {l : List (Key × T)} : T.dkeys (.od l) = some (l.map (·.1)) := rfl
theorem at_dIn {neg : Bool} : mDIn neg mk md ρ = andM (mk ρ) fun rk ρ => andM (md ρ) fun rd ρ => andO (strO (vw rk ρ)) fun z => andO (keysR rd ρ) fun ks => some (.ok (.dat (.bool (neg != ks.any fun j => decide (j = .inr z)))) ρ) := by
  refine andM_ext fun rk ρ1 => andM_ext fun rd ρ2 => ?_
  cases vw rk ρ2 with
  | none => rfl
  | some d =>
    cases d <;> try rfl
    rename_i z
    cases keysR rd ρ2 <;> rfl
theorem at_fLenD {r : R} : fLenD [r] ρ = andO (keysR r ρ) fun ks => some (.ok (.dat (.int (ks.length : Nat))) ρ) := by
  show (match keysR r ρ with | some ks => _ | none => _) = _
  cases keysR r ρ <;> rfl
theorem at_dput {md mk : M R} : mDPut mv md mk ρ = andS (mv ρ) fun r ρ => andS (md ρ) fun rd ρ => andS (mk ρ) fun rk ρ => andO (refN rd) fun n => andO (strO (vw rk ρ)) fun z => andO (takeR r ρ) fun p => (dput n z p.1 p.2).map fun ρ' => .nx (tidy ρ') := by
  refine andS_ext fun r ρ1 => andS_ext fun rd ρ2 => andS_ext fun rk ρ3 => ?_
  cases refN rd with
  | none => rfl
  | some n =>
    cases vw rk ρ3 with
    | none => rfl
    | some d =>
      cases d <;> try rfl
      rename_i z
      show (match takeR r ρ3 with | some p => (dput n z p.1 p.2).map fun ρ' => SO.nx (tidy ρ') | none => none) = andO (takeR r ρ3) fun p => (dput n z p.1 p.2).map fun ρ' => SO.nx (tidy ρ')
      cases takeR r ρ3 <;> rfl
def dpuR (x : Option Rt) (n : Nat) (z : Str) (t : T) (ρ : Fr) : Option Fr := match x with
  | some ⟨.dd l, pr⟩ => if (l.map (·.1)).any (fun j => decide (j = (Sum.inr z : Key))) = false ∧ l.length < 1000 then (match t with
    | .dat d => some { ρ with rt := ρ.rt.set n ⟨.dd (l ++ [(.inr z, d)]), pr⟩ }
    | .ins c fs => match l with
      | [] => if (ρ.rt.all fun x => noPar n x) = true then some { ρ with rt := ρ.rt.set n ⟨.od [(.inr z, .ins c fs)], pr⟩ } else none
      | _ => none
    | _ => none) else none
  | some ⟨.od l, pr⟩ => if (l.map (·.1)).any (fun j => decide (j = (Sum.inr z : Key))) = false ∧ l.length < 1000 ∧ (ρ.rt.all fun x => decide (x.par ≠ some (n, .key (.inr z)))) = true then some { ρ with rt := ρ.rt.set n ⟨.od (l ++ [(.inr z, t)]), pr⟩ } else none
  | _ => none
theorem at_dput1 {n : Nat} {z : Str} {t : T} : dput n z t ρ = dpuR ρ.rt[n]? n z t ρ := rfl
/-! match -/
end
end XM
/-! the same as in Z3 -/
namespace XM
open PySem L2 SX
section
variable {ρ : Fr} {ms : List (M R)} {mo : M R}
def newR (x : Option FO) (rs : List R) (ρ : Fr) : Option (Out R) := match x with
  | some (.ret (.dat .none) (s :: ts)) => some (.ok (toR s) (puts rs ts ρ))
  | _ => none
theorem newR_ret {s : T} {ts : List T} {rs : List R} : newR (some (.ret (.dat .none) (s :: ts))) rs ρ = some (.ok (toR s) (puts rs ts ρ)) := rfl
theorem at_new {c : Str} {f : FM} {dts : List D} : mNew c f dts ms ρ = andM (mArgs ms ρ) fun rs ρ => newR (f (.ins c [] :: (takes (rs ++ dts.map R.dat) (gathers (rs ++ dts.map R.dat) ρ)).1)) (rs ++ dts.map R.dat) (takes (rs ++ dts.map R.dat) (gathers (rs ++ dts.map R.dat) ρ)).2 := rfl
theorem toR_ins {c : Str} {fs : List (Str × T)} : toR (.ins c fs) = .own (.ins c fs) := rfl
def clsR (x : Option Rt) (n : Nat) : Option (Nat × Str × List (Str × T)) := match x with
  | some ⟨.ins c fs, _⟩ => some (n, c, fs)
  | _ => none
theorem clsAt_ref {n : Nat} : clsAt (.ref n) ρ = clsR ρ.rt[n]? n := by
  show (match ρ.rt[n]? with | some ⟨.ins c fs, _⟩ => _ | _ => none) = _
  unfold clsR
  rfl
theorem clsR_ins {c : Str} {fs : List (Str × T)} {p : Option (Nat × Pl)} {n : Nat} : clsR (some ⟨.ins c fs, p⟩) n = some (n, c, fs) := rfl
def methR (x : Option (Nat × Str × List (Str × T))) (c m : Str) (k : Option (Out R)) : Res k (Option (Out R)) := match x with
  | some (_, c', fs) => if c' = c ∧ getA m fs = none then k else none
  | none => none
theorem methR_yes {n : Nat} {c m : Str} {fs : List (Str × T)} {k : Option (Out R)} (h : getA m fs = none) : methR (some (n, c, fs)) c m k = k := if_pos ⟨rfl, h⟩
theorem at_meth {c m : Str} {f : FM} {dts : List D} : mMeth c m f dts mo ms ρ = andM (mo ρ) fun ro ρ0 => methR (clsAt ro ρ0) c m (andM (mArgs ms ρ0) fun rs ρ => okOnly (callR (f (takes (ro :: (rs ++ dts.map R.dat)) (gathers (ro :: (rs ++ dts.map R.dat)) ρ)).1) (ro :: (rs ++ dts.map R.dat)) (takes (ro :: (rs ++ dts.map R.dat)) (gathers (ro :: (rs ++ dts.map R.dat)) ρ)).2)) := by
  refine andM_ext fun ro ρ1 => ?_
  unfold methR
  cases clsAt ro ρ1 with
  | none => rfl
  | some p => rfl
end
end XM
end
open PySem XM L2 SX in
local macro_rules | `(tactic| simp_all only [evB, $xs,*]) => `(tactic| simp only [↓at_bnd, ↓at_seq, ↓at_sBnd, ↓at_expr, ↓at_ret, ↓at_retN, ↓at_if, ↓at_set, ↓at_slot, ↓at_op, ↓at_asB, ↓at_notT, ↓at_andT, ↓at_orT, ↓at_andV, ↓at_orV, ↓at_ifE, ↓at_v1, ↓at_args0, ↓at_args1, ↓at_cons, ↓at_star, ↓at_tup, ↓at_lst, ↓at_tupA, ↓at_lstA, ↓at_items, ↓at_cat, ↓at_rep, ↓at_seqI, ↓at_strI, ↓at_rng1, ↓at_rev1, ↓at_rng2, ↓at_for, ↓at_lc, ↓at_call0, ↓at_call, ↓at_mB, ↓at_isi, ↓at_join, ↓at_rev, ↓at_slice, ↓at_ix, ↓at_def, ↓at_c, ↓at_f, ↓at_lcOne, ↓at_yes, ↓at_bName, ↓at_f1, ↓at_fLen, ↓at_fList, ↓at_fTup, ↓at_nx, ↓toDs_app, ↓at_opt0, ↓at_opt1, ↓at_append, ↓at_extend, ↓at_unp1, ↓at_dget2, ↓at_tindex, ↓at_index, ↓at_setIx, ↓at_fMax, ↓at_zipTL, ↓at_fd, ↓at_callF, ↓at_bNil, ↓at_bCons, ↓at_bTup, ↓idxS_cons, ↓idxF_cons, ↓lkD_cons, ↓lookup_str, ↓at_fSl, ↓at_forO, ↓at_lcO, ↓andM_ok, ↓andM_ex, ↓andS_ok, ↓andS_ex, ↓andQ_nx, ↓andQ_rt, ↓andQ_ex, ↓andQ_bk, ↓andQ_ct, ↓andO_some, ↓andO_none, ↓iteM_true, ↓iteM_false, ↓lcQ_true, ↓lcQ_false, ↓forQ_nx, ↓forQ_rt, ↓walkS_some, ↓walkS_none, ↓lcS_some, ↓lcS_none, andM_ok, andM_ex, andS_ok, andS_ex, andQ_nx, andQ_rt, andQ_ex, andQ_bk, andQ_ct, andO_some, andO_none, iteM_true, iteM_false, atSlot_dat, atSlot_fn, atSlot_ref, atRef_some, vw_dat, vw_own, vw_ref, view_dat, view_dl, atomR_int, atomR_str, atomR_bool, atomR_non, atomB_bool, op2_some, op1_some, toDs_nil, toDs_cons, toDs_dats, toD_dat, toD_own, toD_ref, small_yes, its_dat, its_own, its_ref, items_list, items_tup, items_dl, items_frz, fIx_int, intD_int, strO_str, okIf_yes, listOf_list, listOf_tup, seqD_dat, seqD_own, seqD_ref, seqRef_dat, seqRef_dl, seqRef_frz, callR_ret, callR_ex, okOnly_ok, takes_nil, takes_dat, takes_own, takes_fn, gathers_nil, gathers_dat, gathers_own, gathers_fn, at_puts0, puts_dat, puts_own, puts_fn, puts_ref, toR_dat, toR_dl, toR_fn, endD_rt, endD_nx, endD_ex, lv_dat, lv_own, lv_fn, lenR_dat, lenR_own, lenR_ref, tyR_dat, tyR_own, tyR_ref, lcQ_true, lcQ_false, lcE_ok, lcZ_ok, wipeS, e_add, e_addS, e_sub, e_mul, e_mulL, e_div, e_mod, e_pow, e_shr, e_and, e_lt, e_le, e_gt, e_ge, e_eqI, e_eqS, e_neI, e_neS, e_neg, e_notB, e_int, e_intB, takes, gathers, putR, clr, clrR, leave, params_mk, sweep_mk, sweepN, backK, named, tidy_mk, trim_mk, trimL, trSl_un, trSl_dat, trSl_fn, trSl_ref, trRt_none, trRt_some, setS_mk, kidR_none, kidR_some, kid_mk, T.isGone, letGo_mk, toSl_dat, toSl_fn, toSl_ref, toSl_own, place, freeAt, freeN, isFree, isRef, entry, slFrom, desc, itsL_dat, itsL_own, itsL_ref, itsT_dat, itsT_own, itsT_ref, itemsL_list, itemsL_dl, itemsL_tup, itemsL_str, itemsT_list, itemsT_str, itemsT_dl, itemsT_tup, items_str, dlAt_dl, refO_ref, consO_cons, getOr_some, getOr_int, tupO_tup, lstO_lst, fnO_fn, e_inL, e_inT, e_notInL, flatS_int, flatS_str, eqF_int, eqF_str, eqF_is, eqF_si, len_list, len_tup, len_dl, len_str, len_frz, ty_int, ty_str, ty_bool, ty_none, ty_list, ty_tup, tyT_dl, tyT_dat, lit_inj, len_S, ownL_dat, ownL_own, ownL_ref, ownR_dl, ownR_dat, ownR_frz, walkS_some, walkS_none, lcS_some, lcS_none, pin_mk, unpin_mk, unpinO_nx, unpinO_rt, sl3_l, sl3_t, sl3_s, idxF_strs, all_flat, cut_one, atI_pos, Int.reduceToNat, Int.toNat_natCast, lkD_nil, forL_nil, forQ_nx, forQ_rt, forL_cons, and255, rangeC, rangeD, strD, isT, List.getElem?_cons_zero, List.getElem?_cons_succ, List.set_cons_zero, List.set_cons_succ, List.length_cons, List.length_nil, List.any_cons, List.any_nil, List.all_cons, List.all_nil, List.map_cons, List.map_nil, List.take_succ_cons, List.take_zero, List.take_nil, List.drop_succ_cons, List.drop_zero, List.drop_nil, List.nil_append, List.cons_append, List.append_nil, List.replicate_succ, List.replicate_zero, Option.map_some, Option.map_none, Option.bind_some, Option.bind_none, Bool.true_and, Bool.false_and, Bool.and_true, Bool.and_false, Bool.true_or, Bool.false_or, Bool.or_true, Bool.or_false, Bool.not_true, Bool.not_false, if_true, if_false, reduceIte, Nat.sub_self, Nat.add_zero, Nat.zero_add, Nat.reduceAdd, Nat.reduceSub, Nat.reduceMul, Nat.reduceBEq, Nat.reduceLeDiff, Nat.reduceLT, Nat.reduceEqDiff, Int.reduceLT, Int.reduceLE, Int.reduceNeg, Int.reduceEq, String.reduceEq, String.reduceNe, List.reverse_cons, List.reverse_nil, eq_self, and_self, true_and, and_true, beq_self_eq_true, decide_true, decide_false, decide_eq_true_eq, reduceCtorEq, Bool.false_eq_true, ↓at_fld, clsAt_ref, clsR_ins, fldR_yes, at_borrow, borQ_some, getc_fld, getc_key, setc_fld, setc_key, ↓getA_cons, getA_nil, ↓putA_cons, borR_dat, borR_gone, borR_dl, borR_dd, borR_od, borR_ins, findPar_nil, findPar_none, ↓findPar_some, okR_some, ↓at_setFld, refN_ref, takeR_dat, takeR_own, takeR_ref, takR_some, at_storeF, clr_mk, clrR_none, ↓clrR_some, ↓putT_cons, putT_nil, ↓at_fldTup, ↓at_dnew, toR_dd, ↓at_dget, at_dget1, dgR_dd, dgR_od, ↓at_dIn, at_fLenD, keysR_ref, dkeys_dd, dkeys_od, ↓at_dput, at_dput1, ↓at_new, newR_ret, toR_ins, ↓at_meth, Bool.false_bne, Bool.true_bne, getc_gone, setc_gone, XM.Pl.fld.injEq, XM.Pl.key.injEq, $xs,*])
section
namespace Cm
open PySem XM L2 SX SM
/-- a session -/
def ses (store base : D) (state : Str) (sv : List D) (pr : List (Key × D)) (po : T) : T :=
  .ins "Session" [("_store", .dat store), ("_base", .dat base), ("_state", .dat (.str state)), ("_savepoints", .dl sv), ("_prepared", .dd pr), ("_portals", po)]
end Cm
end
section
namespace Cm
open PySem XM L2 SX SM
end Cm
end
section
namespace XM
open PySem L2 SX
end XM
namespace Cm
open PySem XM L2 SX SM
end Cm
end
section
namespace XM
open PySem L2 SX
end XM
namespace Cm
open PySem XM L2 SX SM
end Cm
end
section
namespace XM
open PySem L2 SX
end XM
end
section
namespace Cm
open PySem XM L2 SX SM
end Cm
end
section
namespace Cm
open PySem XM L2 SX SM
end Cm
end
section
namespace XM
open PySem L2 SX
end XM
namespace Cm
open PySem XM L2 SX SM
end Cm
end
section
namespace Cm
open PySem XM L2 SX SM
/-- a session's parts -/
structure SS where
  st : D
  ba : D
  sta : Str
  sv : List D
  pr : List (Key × D)
  po : T
def SS.t (S : SS) : T := ses S.st S.ba S.sta S.sv S.pr S.po
/-- commands that are run one after another, none of them wrong -/
inductive Steps : SS → List D → SS → List D → Prop
  | nil (S : SS) : Steps S [] S []
  | cons {S S' S'' : SS} {c : D} {w : Str} {rest cs rs : List D} : m_Session__run_command_k08 [S.t, .dat c] = some (.ret (.dat (.tuple (.str w :: rest))) [S'.t, .dat c]) → w ≠ "wrong" → Steps S' cs S'' rs → Steps S (c :: cs) S'' (.tuple (.str w :: rest) :: rs)
theorem Steps.len {S S' : SS} {cs rs : List D} (h : Steps S cs S' rs) : rs.length = cs.length := by
  induction h with
  | nil => rfl
  | cons _ _ _ ih => simp [ih]
def UDs (x : Sl) : Prop := x = .un ∨ ∃ d, x = .dat d
def bodyB : SM := (mIf (asB (mSlot 3))
      (mExpr (mAppend (mSlot 2) (mTup [(mC (.str "skipped"))])))
      (mSeq (mSet 5 (mMeth "Session" "_run_command" m_Session__run_command_k08 [] (mSlot 0) [(mSlot 4)]))
      (mSeq (mExpr (mAppend (mSlot 2) (mSlot 5)))
      (mSet 3 (mOp fEq (mItems false fIx (mSlot 5) (mC (.int 0))) (mC (.str "wrong")))))))
end Cm
end
section
namespace Cm
open PySem XM L2 SX SM
end Cm
end
section
namespace XM
theorem andQ_assoc {x : Option SO} {s t : SM} : (andQ x (mSeq s t) : Option SO) = andQ (andQ x s) t := by
  cases x with
  | none => rfl
  | some o => cases o <;> rfl
end XM
namespace Cm
open PySem XM L2 SX SM
/-! the commands -/
end Cm
end
section
namespace XM
open PySem L2 SX
def tlR (x : Option Ty) (ρ : Fr) : Option (Out R) := match x with
  | some t => (tyTL t).map fun b => .ok (.dat (.bool b)) ρ
  | none => none
theorem at_isTL {m : M R} {ρ : Fr} : mIsTL m ρ = andM (m ρ) fun r ρ => tlR (tyR r ρ) ρ := by
  refine andM_ext fun r ρ1 => ?_
  cases h : tyR r ρ1 <;> simp only [tlR]
theorem tlR_tup {ρ : Fr} : tlR (some .tuple) ρ = some (.ok (.dat (.bool true)) ρ) := rfl
end XM
namespace Cm
open PySem XM L2 SX SM
end Cm
end
section
namespace Cm
open PySem XM L2 SX SM
end Cm
end
section
namespace Cm
open PySem XM L2 SX SM
/-- data that may be compared -/
def Lay (n : Nat) (d : D) : Prop := d.canLay0 = true ∧ d.depth ≤ n
theorem Lay.mono {n m : Nat} {d : D} (h : Lay n d) (le : n ≤ m) : Lay m d := ⟨h.1, Nat.le_trans h.2 le⟩
theorem Lay.int (i : Int) (n : Nat) : Lay n (.int i) := ⟨by unfold PyData.canLay0; rfl, by unfold PyData.depth; exact Nat.zero_le _⟩
theorem Lay.bool (b : Bool) (n : Nat) : Lay n (.bool b) := ⟨by unfold PyData.canLay0; rfl, by unfold PyData.depth; exact Nat.zero_le _⟩
theorem Lay.str {s : Str} (h : PyData.canLay0 (.str s) = true) (n : Nat) : Lay n (.str s) := ⟨h, by unfold PyData.depth; exact Nat.zero_le _⟩
theorem lay_all {n : Nat} : ∀ {l : List D}, (∀ d ∈ l, Lay n d) → PyData.canLayAll0 l = true ∧ PyData.depthAll l ≤ n
  | [], _ => ⟨by unfold PyData.canLayAll0; rfl, by unfold PyData.depthAll; exact Nat.zero_le _⟩
  | d :: l, h => by
    obtain ⟨a, b⟩ := lay_all fun x hx => h x (List.mem_cons_of_mem _ hx)
    obtain ⟨c, e⟩ := h d List.mem_cons_self
    refine ⟨?_, ?_⟩
    · unfold PyData.canLayAll0
      rw [c, a]
      rfl
    · unfold PyData.depthAll
      exact Nat.max_le.mpr ⟨e, b⟩
theorem Lay.list {n : Nat} {l : List D} (h : ∀ d ∈ l, Lay n d) : Lay (n + 1) (.list l) := by
  obtain ⟨a, b⟩ := lay_all h
  exact ⟨by unfold PyData.canLay0; exact a, by unfold PyData.depth; omega⟩
theorem Lay.tuple {n : Nat} {l : List D} (h : ∀ d ∈ l, Lay n d) : Lay (n + 1) (.tuple l) := by
  obtain ⟨a, b⟩ := lay_all h
  exact ⟨by unfold PyData.canLay0; exact a, by unfold PyData.depth; omega⟩
theorem Lay.shaped {d : D} (h : Lay 64 d) : SeqAt.shaped d = true := by
  unfold SeqAt.shaped
  rw [h.1, decide_eq_true h.2]
  rfl
theorem eqD_self {d : D} (h : Lay 64 d) : fEqD d d = some (.bool true) := by
  unfold fEqD
  rw [if_pos ⟨h.shaped, h.shaped⟩, SeqAt.eqv_refl _ h.1]
theorem neD_self {d : D} (h : Lay 64 d) : fNeD d d = some (.bool false) := by
  unfold fNeD
  rw [if_pos ⟨h.shaped, h.shaped⟩, SeqAt.eqv_refl _ h.1]
  rfl
end Cm
end
section
namespace XM
open PySem L2 SX
end XM
namespace Cm
open PySem XM L2 SX SM
/-- the number of a part that is a parameter -/
def parNo : D → Option D
  | .tuple [_, .int n] => some (.int n)
  | _ => none
end Cm
end
section
namespace Cm
open PySem XM L2 SX SM
/-! batches with errors -/
inductive Bat : Bool → SS → List D → Bool → SS → List D → Prop
  | nil (f : Bool) (S : SS) : Bat f S [] f S []
  | run {S S' S'' : SS} {c : D} {w : Str} {rest cs rs : List D} {f : Bool} : m_Session__run_command_k08 [S.t, .dat c] = some (.ret (.dat (.tuple (.str w :: rest))) [S'.t, .dat c]) → Bat (decide (w = "wrong")) S' cs f S'' rs → Bat false S (c :: cs) f S'' (.tuple (.str w :: rest) :: rs)
  | skip {S S'' : SS} {c : D} {cs rs : List D} {f : Bool} : Bat true S cs f S'' rs → Bat true S (c :: cs) f S'' (.tuple [.str "skipped"] :: rs)
theorem Bat.len {S S' : SS} {cs rs : List D} {f g : Bool} (h : Bat f S cs g S' rs) : rs.length = cs.length := by
  induction h with
  | nil => rfl
  | run _ _ ih => simp [ih]
  | skip _ ih => simp [ih]
theorem body_run {S S' : SS} {c : D} {w : Str} {rest cs done : List D} (h : m_Session__run_command_k08 [S.t, .dat c] = some (.ret (.dat (.tuple (.str w :: rest))) [S'.t, .dat c])) (hl : done.length < 1000) {x5 : Sl} (hx : UDs x5) :
    bodyB ⟨[.ref 0, .ref 1, .ref 2, .dat (.bool false), .dat c, x5], [⟨S.t, none⟩, ⟨.dl cs, none⟩, ⟨.dl done, none⟩], 3⟩ =
      some (.nx ⟨[.ref 0, .ref 1, .ref 2, .dat (.bool (decide (w = "wrong"))), .dat c, .dat (.tuple (.str w :: rest))], [⟨S'.t, none⟩, ⟨.dl cs, none⟩, ⟨.dl (done ++ [.tuple (.str w :: rest)]), none⟩], 3⟩) := by
  have ms : ∀ (k : Option (Out R)) (n : Nat) (a b c d e g : T), methR (some (n, ("Session" : Str), [("_store", a), ("_base", b), ("_state", c), ("_savepoints", d), ("_prepared", e), ("_portals", g)])) "Session" "_run_command" k = k := fun k n a b c d e g => methR_yes (by simp [getA_cons, getA_nil, iteM_false, lit_inj])
  have hl' : done.length < 1000000 := by omega
  unfold SS.t ses at *
  rcases hx with rfl | ⟨d, rfl⟩
  · simp_all only [evB, bodyB, ↓ms, h, hl']
  · simp_all only [evB, bodyB, ↓ms, h, hl']
end Cm
end
section
/-! data compared by a function that is good for the kernel -/
namespace XM
open PySem L2 SX
mutual
def sameD : D → D → Bool
  | .none, .none => true
  | .bool a, .bool b => decide (a = b)
  | .int a, .int b => decide (a = b)
  | .str a, .str b => decide (a = b)
  | .list a, .list b => sameDs a b
  | .tuple a, .tuple b => sameDs a b
  | .dict a, .dict b => a.isEmpty && b.isEmpty
  | _, _ => false
def sameDs : List D → List D → Bool
  | [], [] => true
  | a :: r, b :: s => sameD a b && sameDs r s
  | _, _ => false
end
mutual
theorem sameD_ok : ∀ {a b : D}, sameD a b = true → a = b
  | .none, b, h => by cases b <;> simp [sameD] at h; rfl
  | .bool a, b, h => by cases b <;> simp [sameD] at h; rw [h]
  | .int a, b, h => by cases b <;> simp [sameD] at h; rw [h]
  | .str a, b, h => by cases b <;> simp [sameD] at h; rw [h]
  | .list a, b, h => by cases b <;> simp [sameD] at h; rw [sameDs_ok h]
  | .tuple a, b, h => by cases b <;> simp [sameD] at h; rw [sameDs_ok h]
  | .dict a, b, h => by cases b <;> simp [sameD] at h; rw [h.1, h.2]
theorem sameDs_ok : ∀ {a b : List D}, sameDs a b = true → a = b
  | [], [], _ => rfl
  | [], b :: s, h => by simp [sameDs] at h
  | a :: r, [], h => by simp [sameDs] at h
  | a :: r, b :: s, h => by
    rw [sameDs, Bool.and_eq_true] at h
    rw [sameD_ok h.1, sameDs_ok h.2]
end
def sameKD : List (Key × D) → List (Key × D) → Bool
  | [], [] => true
  | (j, x) :: r, (k, y) :: s => decide (j = k) && sameD x y && sameKD r s
  | _, _ => false
theorem sameKD_ok : ∀ {a b : List (Key × D)}, sameKD a b = true → a = b
  | [], [], _ => rfl
  | [], b :: s, h => by simp [sameKD] at h
  | (j, x) :: r, [], h => by simp [sameKD] at h
  | (j, x) :: r, (k, y) :: s, h => by
    simp only [sameKD, Bool.and_eq_true, decide_eq_true_eq] at h
    rw [h.1.1, sameD_ok h.1.2, sameKD_ok h.2]
mutual
def sameT : T → T → Bool
  | .dat a, .dat b => sameD a b
  | .dl a, .dl b => sameDs a b
  | .dd a, .dd b => sameKD a b
  | .od a, .od b => sameKT a b
  | .ins c a, .ins d b => decide (c = d) && sameFT a b
  | .gone, .gone => true
  | _, _ => false
def sameKT : List (Key × T) → List (Key × T) → Bool
  | [], [] => true
  | (j, x) :: r, (k, y) :: s => decide (j = k) && sameT x y && sameKT r s
  | _, _ => false
def sameFT : List (Str × T) → List (Str × T) → Bool
  | [], [] => true
  | (j, x) :: r, (k, y) :: s => decide (j = k) && sameT x y && sameFT r s
  | _, _ => false
end
mutual
theorem sameT_ok : ∀ {a b : T}, sameT a b = true → a = b
  | .dat a, b, h => by cases b <;> simp [sameT] at h; rw [sameD_ok h]
  | .dl a, b, h => by cases b <;> simp [sameT] at h; rw [sameDs_ok h]
  | .dd a, b, h => by cases b <;> simp [sameT] at h; rw [sameKD_ok h]
  | .od a, b, h => by cases b <;> simp [sameT] at h; rw [sameKT_ok h]
  | .ins c a, b, h => by cases b <;> simp [sameT] at h; rw [h.1, sameFT_ok h.2]
  | .gone, b, h => by cases b <;> simp [sameT] at h; rfl
  | .fn a, b, h => by cases b <;> simp [sameT] at h
  | .ol a, b, h => by cases b <;> simp [sameT] at h
  | .ot a, b, h => by cases b <;> simp [sameT] at h
  | .frz a, b, h => by cases b <;> simp [sameT] at h
  | .hole a, b, h => by cases b <;> simp [sameT] at h
theorem sameKT_ok : ∀ {a b : List (Key × T)}, sameKT a b = true → a = b
  | [], [], _ => rfl
  | [], b :: s, h => by simp [sameKT] at h
  | (j, x) :: r, [], h => by simp [sameKT] at h
  | (j, x) :: r, (k, y) :: s, h => by
    simp only [sameKT, Bool.and_eq_true, decide_eq_true_eq] at h
    rw [h.1.1, sameT_ok h.1.2, sameKT_ok h.2]
theorem sameFT_ok : ∀ {a b : List (Str × T)}, sameFT a b = true → a = b
  | [], [], _ => rfl
  | [], b :: s, h => by simp [sameFT] at h
  | (j, x) :: r, [], h => by simp [sameFT] at h
  | (j, x) :: r, (k, y) :: s, h => by
    simp only [sameFT, Bool.and_eq_true, decide_eq_true_eq] at h
    rw [h.1.1, sameT_ok h.1.2, sameFT_ok h.2]
end
end XM
end
section
/-! bytes of messages: what the program's defs answer -/
namespace Cq
open PySem XM L2 SX Cm
theorem e_write_flag (b : Bool) : m_write_flag [.dat (.bool b)] = some (.ret (.dl [.int (if b then 1 else 0)]) [.dat (.bool b)]) := by
  cases b <;> simp_all only [evE, m_write_flag, b_write_flag]
/-- the n bytes of a number -/
def bytes (n : Int) (c : Nat) : List D := (List.range c).map fun i => .int (n / 256 ^ (c - 1 - i) % 256)
theorem bytes_len {n : Int} {c : Nat} : (bytes n c).length = c := by unfold bytes; simp
theorem e_number_bytes (n c : Int) (h0 : 0 ≤ c) (h1 : c ≤ 1000) : m_number_bytes [.dat (.int n), .dat (.int c)] = some (.ret (.dl (bytes n c.toNat)) [.dat (.int n), .dat (.int c)]) := by
  obtain ⟨c, rfl⟩ := Int.eq_ofNat_of_zero_le h0
  have a : -1000000 ≤ (c : Int) := by omega
  have b : (c : Int) ≤ 1000000 := by omega
  have e : ((c : Int) - 0).toNat = c := by omega
  simp_all only [evE, m_number_bytes, b_number_bytes, a, b, true_and, e]
  rw [lcM (fun i : Nat => .int (n / 256 ^ (c - 1 - i) % 256)) (by simp; omega)]
  · simp_all only [evE, true_and]
    rfl
  · intro i hi
    have hi' : i < c := List.mem_range.mp hi
    have h0 : (0 : Int) ≤ 8 * (0 + (c : Int) - 1 + (i : Int) * -1) := by omega
    have e2 : (8 * (0 + (c : Int) - 1 + (i : Int) * -1)).toNat = 8 * (c - 1 - i) := by omega
    have e3 : (2 : Int) ^ (8 * (c - 1 - i)) = 256 ^ (c - 1 - i) := by rw [Int.pow_mul]; rfl
    simp_all only [evE, h0, e2, e3]
theorem e_write_byte (n : Int) : m_write_byte [.dat (.int n)] = some (.ret (.dl (bytes n 1)) [.dat (.int n)]) := by
  (simp_all only [evE, m_write_byte, b_write_byte, e_number_bytes n 1 (by decide) (by decide)] <;> rfl)
theorem e_write_short (n : Int) : m_write_short [.dat (.int n)] = some (.ret (.dl (bytes n 2)) [.dat (.int n)]) := by
  (simp_all only [evE, m_write_short, b_write_short, e_number_bytes n 2 (by decide) (by decide)] <;> rfl)
theorem e_write_long (n : Int) : m_write_long [.dat (.int n)] = some (.ret (.dl (bytes n 4)) [.dat (.int n)]) := by
  (simp_all only [evE, m_write_long, b_write_long, e_number_bytes n 4 (by decide) (by decide)] <;> rfl)
theorem e_write_state0 : m_write_state [.dat (.str "none")] = some (.ret (.dl (bytes 0 1)) [.dat (.str "none")]) := by
  (simp_all only [evE, m_write_state, b_write_state, e_write_byte] <;> rfl)
theorem e_write_state1 : m_write_state [.dat (.str "open")] = some (.ret (.dl (bytes 1 1)) [.dat (.str "open")]) := by
  (simp_all only [evE, m_write_state, b_write_state, e_write_byte] <;> rfl)
theorem e_write_state2 : m_write_state [.dat (.str "failed")] = some (.ret (.dl (bytes 2 1)) [.dat (.str "failed")]) := by
  (simp_all only [evE, m_write_state, b_write_state, e_write_byte] <;> rfl)
/-- a text's bytes -/
def strB (s : Str) : List D := bytes s.length 1 ++ s.cps.toList.map fun (c : Nat) => .int (c : Int)
theorem strB_len {s : Str} : (strB s).length = 1 + s.length := by unfold strB; rw [List.length_append, bytes_len, List.length_map]; rfl
theorem one_len (c : Nat) : (⟨#[c]⟩ : Str).length = 1 := rfl
theorem one_at (c : Nat) : (⟨#[c]⟩ : Str).cps.getD 0 0 = c := rfl
theorem e_write_string (s : Str) (h : s.length ≤ 1000) : m_write_string [.dat (.str s)] = some (.ret (.dl (strB s)) [.dat (.str s)]) := by
  have a : s.length ≤ 1000000 := by omega
  have b : s.cps.toList.length ≤ 1000000 := a
  simp_all only [evE, m_write_string, b_write_string, a, e_write_byte]
  rw [lcM (fun (c : Nat) => .int (c : Int)) b]
  · have z : (bytes s.length 1 ++ s.cps.toList.map fun (c : Nat) => PyData.int (c : Int)).length ≤ 1000000 := by
      rw [List.length_append, bytes_len, List.length_map]
      show 1 + s.length ≤ _
      omega
    simp_all only [evE, z]
    rfl
  · intro c _
    simp_all only [evE, e_ord, one_len, one_at]
    rfl
/-- values that can be written -/
inductive Val : D → Prop
  | int (i : Int) : Val (.int i)
  | str (s : Str) : s.length ≤ 200 → Val (.str s)
def valB : D → List D
  | .str s => .int 1 :: strB s
  | .int v => .int 0 :: bytes v 4
  | _ => []
theorem valB_len {d : D} (h : Val d) : (valB d).length ≤ 202 := by
  cases h with
  | int i => unfold valB; rw [List.length_cons, bytes_len]; omega
  | str s h => unfold valB; rw [List.length_cons, strB_len]; omega
theorem e_write_value {d : D} (h : Val d) : m_write_value [.dat d] = some (.ret (.dl (valB d)) [.dat d]) := by
  have z := valB_len h
  cases h with
  | int i =>
    simp_all only [evE, m_write_value, b_write_value, e_write_long, bytes_len]
    rfl
  | str s h =>
    have a : s.length ≤ 1000 := by omega
    have b : (strB s).length + 1 ≤ 1000000 := by rw [strB_len]; omega
    simp_all only [evE, m_write_value, b_write_value, e_write_string s a, b]
    rfl
def valsB (l : List D) : List D := bytes l.length 1 ++ l.flatMap valB
theorem flat_len {l : List D} (h : ∀ d ∈ l, Val d) : (l.flatMap valB).length ≤ 202 * l.length := by
  induction l with
  | nil => simp
  | cons d l ih =>
    have := valB_len (h d List.mem_cons_self)
    have := ih fun x hx => h x (List.mem_cons_of_mem _ hx)
    rw [List.flatMap_cons, List.length_append, List.length_cons]
    omega
theorem valsB_len {l : List D} (h : ∀ d ∈ l, Val d) : (valsB l).length ≤ 1 + 202 * l.length := by
  unfold valsB
  rw [List.length_append, bytes_len]
  have := flat_len h
  omega
/-- a list or a tuple -/
inductive Seq : D → List D → Prop
  | lst (l : List D) : Seq (.list l) l
  | tup (l : List D) : Seq (.tuple l) l
theorem e_write_values {v : D} {l : List D} (hv : Seq v l) (h : ∀ d ∈ l, Val d) (hl : l.length ≤ 1000) : m_write_values [.dat v] = some (.ret (.dl (valsB l)) [.dat v]) := by
  have main : ∃ ρ', forL (bName 2) (mExpr (mExtend (mSlot 1) (mCall0 m_write_value [(mSlot 2)]))) l ⟨[.ref 0, .ref 1, .un], [⟨.dat v, none⟩, ⟨.dl (bytes l.length 1), none⟩], 1⟩ = some (.nx ρ') ∧
      ∃ x, ρ' = ⟨[.ref 0, .ref 1, x], [⟨.dat v, none⟩, ⟨.dl (valsB l), none⟩], 1⟩ := by
    refine for_to (fun r ρ => ∃ x acc, ρ = ⟨[.ref 0, .ref 1, x], [⟨.dat v, none⟩, ⟨.dl acc, none⟩], 1⟩ ∧ acc ++ r.flatMap valB = valsB l ∧ ∀ d ∈ r, Val d) ⟨.un, bytes l.length 1, rfl, rfl, h⟩ ?_ ?_
    · rintro d r ρ ⟨x, acc, rfl, h1, h2⟩
      have hd := h2 d List.mem_cons_self
      have z : acc.length + (valB d).length ≤ 1000000 := by
        have := valsB_len h
        rw [← h1, List.flatMap_cons, List.length_append, List.length_append] at this
        omega
      refine ⟨_, ⟨[.ref 0, .ref 1, .dat d], [⟨.dat v, none⟩, ⟨.dl (acc ++ valB d), none⟩], 1⟩, rfl, ?_, .dat d, acc ++ valB d, rfl, ?_, fun y hy => h2 y (List.mem_cons_of_mem _ hy)⟩
      · simp_all only [evE, e_write_value hd, z]
      · rw [← h1, List.flatMap_cons, List.append_assoc]
    · rintro _ ⟨x, acc, rfl, h1, _⟩
      rw [List.flatMap_nil, List.append_nil] at h1
      exact ⟨x, by rw [h1]⟩
  obtain ⟨ρ', e, x, rfl⟩ := main
  cases hv with
  | lst l =>
    simp_all only [evE, m_write_values, b_write_values, e_write_byte, e]
  | tup l =>
    simp_all only [evE, m_write_values, b_write_values, e_write_byte, e]
def rowB : D → List D
  | .list l => valsB l
  | .tuple l => valsB l
  | _ => []
/-- rows that can be written -/
inductive Row : D → Prop
  | mk (v : D) (l : List D) : Seq v l → (∀ d ∈ l, Val d) → l.length ≤ 10 → Row v
theorem Row.bytes {v : D} (h : Row v) : m_write_values [.dat v] = some (.ret (.dl (rowB v)) [.dat v]) ∧ (rowB v).length ≤ 2021 := by
  obtain ⟨l, hs, h1, h2⟩ := h
  have a := e_write_values hs h1 (by omega)
  have b := valsB_len h1
  cases hs <;> exact ⟨a, by show (valsB l).length ≤ _; omega⟩
def rowsB (l : List D) : List D := bytes l.length 1 ++ l.flatMap rowB
theorem rows_len {l : List D} (h : ∀ d ∈ l, Row d) : (rowsB l).length ≤ 1 + 2021 * l.length := by
  unfold rowsB
  rw [List.length_append, bytes_len]
  induction l with
  | nil => simp
  | cons d l ih =>
    have := (h d List.mem_cons_self).bytes.2
    have := ih fun x hx => h x (List.mem_cons_of_mem _ hx)
    rw [List.flatMap_cons, List.length_append, List.length_cons]
    omega
theorem e_write_rows {v : D} {l : List D} (hv : Seq v l) (h : ∀ d ∈ l, Row d) (hl : l.length ≤ 100) : m_write_rows [.dat v] = some (.ret (.dl (rowsB l)) [.dat v]) := by
  have main : ∃ ρ', forL (bName 2) (mExpr (mExtend (mSlot 1) (mCall0 m_write_values [(mSlot 2)]))) l ⟨[.ref 0, .ref 1, .un], [⟨.dat v, none⟩, ⟨.dl (bytes l.length 1), none⟩], 1⟩ = some (.nx ρ') ∧
      ∃ x, ρ' = ⟨[.ref 0, .ref 1, x], [⟨.dat v, none⟩, ⟨.dl (rowsB l), none⟩], 1⟩ := by
    refine for_to (fun r ρ => ∃ x acc, ρ = ⟨[.ref 0, .ref 1, x], [⟨.dat v, none⟩, ⟨.dl acc, none⟩], 1⟩ ∧ acc ++ r.flatMap rowB = rowsB l ∧ ∀ d ∈ r, Row d) ⟨.un, bytes l.length 1, rfl, rfl, h⟩ ?_ ?_
    · rintro d r ρ ⟨x, acc, rfl, h1, h2⟩
      have hd := (h2 d List.mem_cons_self).bytes.1
      have z : acc.length + (rowB d).length ≤ 1000000 := by
        have := rows_len h
        rw [← h1, List.flatMap_cons, List.length_append, List.length_append] at this
        omega
      refine ⟨_, ⟨[.ref 0, .ref 1, .dat d], [⟨.dat v, none⟩, ⟨.dl (acc ++ rowB d), none⟩], 1⟩, rfl, ?_, .dat d, acc ++ rowB d, rfl, ?_, fun y hy => h2 y (List.mem_cons_of_mem _ hy)⟩
      · simp_all only [evE, hd, z]
      · rw [← h1, List.flatMap_cons, List.append_assoc]
    · rintro _ ⟨x, acc, rfl, h1, _⟩
      rw [List.flatMap_nil, List.append_nil] at h1
      exact ⟨x, by rw [h1]⟩
  obtain ⟨ρ', e, x, rfl⟩ := main
  cases hv with
  | lst l =>
    simp_all only [evE, m_write_rows, b_write_rows, e_write_byte, e]
  | tup l =>
    simp_all only [evE, m_write_rows, b_write_rows, e_write_byte, e]
/-! ### a message's bytes -/
/-- what a field's writer makes of it -/
inductive Wr : Str → D → List D → Prop
  | long (n : Int) : Wr "long" (.int n) (bytes n 4)
  | most (n : Int) : Wr "most" (.int n) (bytes n 2)
  | pars (n : Int) : Wr "parameters" (.int n) (bytes n 1)
  | count (n : Int) : Wr "count" (.int n) (bytes n 1)
  | flag (b : Bool) : Wr "flag" (.bool b) [.int (if b then 1 else 0)]
  | st0 : Wr "state" (.str "none") (bytes 0 1)
  | st1 : Wr "state" (.str "open") (bytes 1 1)
  | st2 : Wr "state" (.str "failed") (bytes 2 1)
  | name (s : Str) : s.length ≤ 1000 → Wr "name" (.str s) (strB s)
  | stmt (s : Str) : s.length ≤ 1000 → Wr "statement" (.str s) (strB s)
  | reason (s : Str) : s.length ≤ 1000 → Wr "reason" (.str s) (strB s)
  | vals (v : D) (l : List D) : Seq v l → (∀ d ∈ l, Val d) → l.length ≤ 1000 → Wr "values" v (valsB l)
  | rows (v : D) (l : List D) : Seq v l → (∀ d ∈ l, Row d) → l.length ≤ 100 → Wr "rows" v (rowsB l)
theorem Wr.run {n : Str} {d : D} {b : List D} (h : Wr n d b) : ∃ fn f, tb_WRITERS.lookup n = some fn ∧ fm_WRITERS.lookup fn = some f ∧ f [.dat d] = some (.ret (.dl b) [.dat d]) ∧ b.length ≤ 205000 := by
  cases h with
  | long n => exact ⟨"write_long", _, by simp_all only [evE, tb_WRITERS], by simp_all only [evE, fm_WRITERS], e_write_long n, by rw [bytes_len]; omega⟩
  | most n => exact ⟨"write_short", _, by simp_all only [evE, tb_WRITERS], by simp_all only [evE, fm_WRITERS], e_write_short n, by rw [bytes_len]; omega⟩
  | pars n => exact ⟨"write_byte", _, by simp_all only [evE, tb_WRITERS], by simp_all only [evE, fm_WRITERS], e_write_byte n, by rw [bytes_len]; omega⟩
  | count n => exact ⟨"write_byte", _, by simp_all only [evE, tb_WRITERS], by simp_all only [evE, fm_WRITERS], e_write_byte n, by rw [bytes_len]; omega⟩
  | flag b => exact ⟨"write_flag", _, by simp_all only [evE, tb_WRITERS], by simp_all only [evE, fm_WRITERS], e_write_flag b, by simp⟩
  | st0 => exact ⟨"write_state", _, by simp_all only [evE, tb_WRITERS], by simp_all only [evE, fm_WRITERS], e_write_state0, by rw [bytes_len]; omega⟩
  | st1 => exact ⟨"write_state", _, by simp_all only [evE, tb_WRITERS], by simp_all only [evE, fm_WRITERS], e_write_state1, by rw [bytes_len]; omega⟩
  | st2 => exact ⟨"write_state", _, by simp_all only [evE, tb_WRITERS], by simp_all only [evE, fm_WRITERS], e_write_state2, by rw [bytes_len]; omega⟩
  | name s h => exact ⟨"write_string", _, by simp_all only [evE, tb_WRITERS], by simp_all only [evE, fm_WRITERS], e_write_string s h, by rw [strB_len]; omega⟩
  | stmt s h => exact ⟨"write_string", _, by simp_all only [evE, tb_WRITERS], by simp_all only [evE, fm_WRITERS], e_write_string s h, by rw [strB_len]; omega⟩
  | reason s h => exact ⟨"write_string", _, by simp_all only [evE, tb_WRITERS], by simp_all only [evE, fm_WRITERS], e_write_string s h, by rw [strB_len]; omega⟩
  | vals _ l h1 h2 h3 => exact ⟨"write_values", _, by simp_all only [evE, tb_WRITERS], by simp_all only [evE, fm_WRITERS], e_write_values h1 h2 h3, by have := valsB_len h2; omega⟩
  | rows _ l h1 h2 h3 => exact ⟨"write_rows", _, by simp_all only [evE, tb_WRITERS], by simp_all only [evE, fm_WRITERS], e_write_rows h1 h2 h3, by have := rows_len h2; omega⟩
/-- the fields' bytes, one behind the other -/
inductive Wrs : List Str → List D → List D → Prop
  | nil : Wrs [] [] []
  | cons {n : Str} {d : D} {b : List D} {ns : List Str} {ds bs : List D} : Wr n d b → Wrs ns ds bs → Wrs (n :: ns) (d :: ds) (b ++ bs)
theorem Wrs.len {ns : List Str} {ds bs : List D} (h : Wrs ns ds bs) : ns.length = ds.length ∧ bs.length ≤ 205000 * ns.length := by
  induction h with
  | nil => exact ⟨rfl, Nat.zero_le _⟩
  | cons a _ ih =>
    obtain ⟨_, _, _, _, _, l⟩ := a.run
    exact ⟨by rw [List.length_cons, List.length_cons, ih.1], by rw [List.length_append, List.length_cons]; omega⟩
end Cq
end
section
/-! bytes of messages: what the law's own defs answer -/
namespace Cq
open PySem XM L2 SX Cm
/-- the signs of texts -/
def okc (c : Nat) : Bool := decide (32 ≤ c ∧ c < 127 ∧ c ≠ 37)
def Good (s : Str) : Prop := s.length ≤ 200 ∧ ∀ c ∈ s.cps.toList, okc c = true
inductive GVal : D → Prop
  | int (i : Int) : i.natAbs < 18446744073709551616 → GVal (.int i)
  | str (s : Str) : Good s → GVal (.str s)
theorem GVal.val {d : D} (h : GVal d) : Val d := by
  cases h with
  | int i _ => exact .int i
  | str s h => exact .str s h.1
/-! ### whole messages, as the law writes them -/
section
variable {t : T}
def GRow (v : D) : Prop := ∃ l, Seq v l ∧ (∀ d ∈ l, GVal d) ∧ l.length ≤ 10
theorem GRow.row {v : D} (h : GRow v) : Row v := by
  obtain ⟨l, h1, h2, h3⟩ := h
  exact .mk v l h1 (fun d hd => (h2 d hd).val) h3
end
end Cq
end
section
/-! commands and replies, held against the law's own bytes -/
namespace Cq
open PySem XM L2 SX Cm
def Ints (l : List D) : Prop := ∃ is : List Int, l = is.map .int
theorem Ints.nil : Ints [] := ⟨[], rfl⟩
theorem Ints.cons {i : Int} {l : List D} (h : Ints l) : Ints (.int i :: l) := by
  obtain ⟨is, rfl⟩ := h
  exact ⟨i :: is, rfl⟩
theorem Ints.app {l r : List D} (h : Ints l) (h' : Ints r) : Ints (l ++ r) := by
  obtain ⟨is, rfl⟩ := h
  obtain ⟨js, rfl⟩ := h'
  exact ⟨is ++ js, List.map_append.symm⟩
theorem Ints.bytes {n : Int} {c : Nat} : Ints (bytes n c) := ⟨(List.range c).map fun i => n / 256 ^ (c - 1 - i) % 256, by rw [List.map_map]; rfl⟩
theorem Ints.str {s : Str} : Ints (strB s) := Ints.bytes.app ⟨s.cps.toList.map fun (c : Nat) => (c : Int), by rw [List.map_map]; rfl⟩
theorem Ints.flat {f : D → List D} : ∀ {l : List D}, (∀ d ∈ l, Ints (f d)) → Ints (l.flatMap f)
  | [], _ => .nil
  | d :: l, h => by rw [List.flatMap_cons]; exact (h d List.mem_cons_self).app (Ints.flat fun x hx => h x (List.mem_cons_of_mem _ hx))
theorem Ints.val {d : D} : Ints (valB d) := by
  cases d <;> first | exact .nil | exact .cons .str | exact .cons .bytes
theorem Ints.vals {l : List D} : Ints (valsB l) := Ints.bytes.app (.flat fun _ _ => .val)
theorem Ints.row {d : D} : Ints (rowB d) := by
  cases d <;> first | exact .nil | exact .vals
/-- a tree that is this message -/
inductive Is : List D → T → D → Prop
  | tup (L : List D) : Is L (.dat (.tuple L)) (.tuple L)
  | lst (L : List D) : Is L (.dl L) (.list L)
theorem Is.items {L : List D} {t : T} {d : D} (h : Is L t d) : t.items false = some L := by cases h <;> rfl
theorem Is.view {L : List D} {t : T} {d : D} (h : Is L t d) : t.view = some d := by cases h <;> (unfold T.view; rfl)
/-! ### the same message in other clothes -/
end Cq
end
section
/-! what the law draws its messages from -/
namespace Cq
open PySem XM L2 SX Cm
theorem e_law_cell (ns : List Int) (k : Nat) : ∃ c : Int, m_law_cell [.frz ns, .dat (.int k)] = some (.ret (.dat (.int c)) [.frz ns, .dat (.int k)]) := by
  by_cases h : k < ns.length
  · refine ⟨ns[k], ?_⟩
    have h' : (k : Int) < (ns.length : Int) := by omega
    have h0 : (0 : Int) ≤ (k : Int) := by omega
    have e : (ns.map PyData.int)[k]? = some (.int ns[k]) := by rw [List.getElem?_map, List.getElem?_eq_getElem h]; rfl
    simp_all only [evE, m_law_cell, b_law_cell, h', h0, e]
  · refine ⟨0, ?_⟩
    have h' : ¬ (k : Int) < (ns.length : Int) := by omega
    simp_all only [evE, m_law_cell, b_law_cell, h']
/-- the numbers of a row -/
def rowD (r : Nat → Nat) (n : Nat) : List D := (List.range n).map fun i => .int (r i : Nat)
theorem rowD_at {r : Nat → Nat} {n i : Nat} (h : i < n) : (rowD r n)[i]? = some (.int (r i : Nat)) := by
  unfold rowD
  rw [List.getElem?_map, List.getElem?_range h]
  rfl
theorem rowD_len {r : Nat → Nat} {n : Nat} : (rowD r n).length = n := by unfold rowD; simp
theorem rowD_of (ns : List Nat) : ns.map (fun x : Nat => PyData.int (x : Int)) = rowD (fun i => ns.getD i 0) ns.length := by
  refine List.ext_getElem? fun i => ?_
  by_cases h : i < ns.length
  · rw [rowD_at h, List.getElem?_map, List.getElem?_eq_getElem h, List.getD_eq_getElem?_getD, List.getElem?_eq_getElem h]
    rfl
  · rw [List.getElem?_eq_none (by simp; omega), List.getElem?_eq_none (by rw [rowD_len]; omega)]
theorem for_toE {α : Type} {b : D → Fr → Option Fr} {m : SM} {e : α → D} {xs : List α} {ρ : Fr} {P : Fr → Prop} (I : List α → Fr → Prop) (h0 : I xs ρ)
    (hs : ∀ x r ρ, I (x :: r) ρ → ∃ ρ1 ρ2, b (e x) ρ = some ρ1 ∧ m ρ1 = some (.nx ρ2) ∧ I r ρ2) (he : ∀ ρ', I [] ρ' → P ρ') : ∃ ρ', forL b m (xs.map e) ρ = some (.nx ρ') ∧ P ρ' := by
  obtain ⟨ρ', e, h⟩ := for_inv e I xs ρ h0 hs
  exact ⟨ρ', e, he ρ' h⟩
theorem pow18 : fPow (.int 10) (.int 18) = some (.int 1000000000000000000) := by rw [e_pow (by decide) (by decide) (by decide)]; rfl
theorem e_law_row (c : Int) (n : Nat) (hn : n ≤ 1000) : ∃ r : Nat → Nat, (∀ i, r i < 840) ∧ m_law_row [.dat (.int c), .dat (.int n)] = some (.ret (.dl (rowD r n)) [.dat (.int c), .dat (.int n)]) := by
  have a : -1000000 ≤ (n : Int) := by omega
  have b : (n : Int) ≤ 1000000 := by omega
  have main : ∃ ρ', forL (bName 5) (mIf (asB (mOp fGe (mSlot 0) (mOp fPow (mC (.int 10)) (mC (.int 18)))))
      (mSeq (mExpr (mAppend (mSlot 2) (mOp fMod (mB (f1 fInt) [(mSlot 3)]) (mC (.int 840)))))
      (mSet 3 (mOp fDiv (mSlot 3) (mC (.int 840)))))
      (mSeq (mSet 4 (mOp fMod (mB (f1 fInt) [(mOp fAdd (mOp fMul (mSlot 4) (mC (.int 48271))) (mSlot 5))]) (mC (.int 2147483647))))
      (mExpr (mAppend (mSlot 2) (mOp fMod (mOp fDiv (mOp fMod (mB (f1 fInt) [(mOp fMul (mSlot 4) (mC (.int 69621)))]) (mC (.int 2147483629))) (mC (.int 7))) (mC (.int 840)))))))
      ((List.range n).map fun i => PyData.int (0 + (i : Nat)))
      ⟨[.ref 0, .ref 1, .ref 2, .ref 0, .dat (.int (c % 2147483629 + 1)), .un], [⟨.dat (.int c), none⟩, ⟨.dat (.int n), none⟩, ⟨.dl [], none⟩], 2⟩ = some (.nx ρ') ∧
      ∃ (x3 x4 x5 : Sl) (ns : List Nat), ρ' = ⟨[.ref 0, .ref 1, .ref 2, x3, x4, x5], [⟨.dat (.int c), none⟩, ⟨.dat (.int n), none⟩, ⟨.dl (ns.map fun x : Nat => .int (x : Int)), none⟩], 2⟩ ∧ ns.length = n ∧ ∀ x ∈ ns, x < 840 := by
    refine for_toE
      (fun rest ρ => ∃ (x3 : Sl) (s : Int) (x5 : Sl) (ns : List Nat), ρ = ⟨[.ref 0, .ref 1, .ref 2, x3, .dat (.int s), x5], [⟨.dat (.int c), none⟩, ⟨.dat (.int n), none⟩, ⟨.dl (ns.map fun x : Nat => .int (x : Int)), none⟩], 2⟩ ∧ ns.length + rest.length = n ∧ (∀ x ∈ ns, x < 840) ∧ (x3 = .ref 0 ∨ ∃ j, x3 = .dat (.int j)))
      ⟨_, _, _, [], rfl, by simp, fun _ h => (nomatch h), .inl rfl⟩ (by
        rintro i rest ρ ⟨x3, s, x5, ns, rfl, hl, hns, hx⟩
        rw [List.length_cons] at hl
        have z : (ns.map fun x : Nat => PyData.int (x : Int)).length < 1000000 := by rw [List.length_map]; omega
        have app : ∀ x : Nat, (ns.map fun x : Nat => PyData.int (x : Int)) ++ [.int (x : Int)] = (ns ++ [x]).map fun x : Nat => PyData.int (x : Int) := fun x => by rw [List.map_append]; rfl
        by_cases big : 1000000000000000000 ≤ c
        · obtain ⟨j, hj⟩ : ∃ j, (x3 = .ref 0 ∧ j = c) ∨ x3 = .dat (.int j) := by
            rcases hx with rfl | ⟨j, rfl⟩
            · exact ⟨c, .inl ⟨rfl, rfl⟩⟩
            · exact ⟨j, .inr rfl⟩
          have e0 : j % 840 = (((j % 840).toNat : Nat) : Int) := by omega
          refine ⟨_, ⟨[.ref 0, .ref 1, .ref 2, .dat (.int (j / 840)), .dat (.int s), .dat (.int (0 + (i : Nat)))], [⟨.dat (.int c), none⟩, ⟨.dat (.int n), none⟩, ⟨.dl ((ns ++ [(j % 840).toNat]).map fun x : Nat => .int (x : Int)), none⟩], 2⟩, rfl, ?_, _, _, _, _, rfl, by rw [List.length_append, List.length_singleton]; omega, ?_, .inr ⟨_, rfl⟩⟩
          · rw [← app, ← e0]
            rcases hj with ⟨rfl, rfl⟩ | rfl
            · simp_all only [evE, big, pow18, z]
            · simp_all only [evE, big, pow18, z]
          · intro x hx
            rcases List.mem_append.mp hx with h | h
            · exact hns x h
            · simp at h; subst h; omega
        · have q : ∃ y : Nat, (s * 48271 + (0 + (i : Int))) % 2147483647 * 69621 % 2147483629 / 7 % 840 = (y : Int) ∧ y < 840 := ⟨((s * 48271 + (0 + (i : Int))) % 2147483647 * 69621 % 2147483629 / 7 % 840).toNat, by omega, by omega⟩
          obtain ⟨y, ey, hy⟩ := q
          refine ⟨_, ⟨[.ref 0, .ref 1, .ref 2, x3, .dat (.int ((s * 48271 + (0 + (i : Int))) % 2147483647)), .dat (.int (0 + (i : Nat)))], [⟨.dat (.int c), none⟩, ⟨.dat (.int n), none⟩, ⟨.dl ((ns ++ [y]).map fun x : Nat => .int (x : Int)), none⟩], 2⟩, rfl, ?_, _, _, _, _, rfl, by rw [List.length_append, List.length_singleton]; omega, ?_, hx⟩
          · rw [← app]
            rcases hx with rfl | ⟨j, rfl⟩
            · simp_all only [evE, big, pow18, z, ey]
            · simp_all only [evE, big, pow18, z, ey]
          · intro x hx
            rcases List.mem_append.mp hx with h | h
            · exact hns x h
            · simp at h; subst h; exact hy) ?_
    rintro _ ⟨x3, s, x5, ns, rfl, hl, hns, _⟩
    exact ⟨x3, _, x5, ns, rfl, by simpa using hl, hns⟩
  obtain ⟨ρ', e, x3, x4, x5, ns, rfl, hl, hns⟩ := main
  refine ⟨fun i => ns.getD i 0, fun i => ?_, ?_⟩
  · show ns.getD i 0 < 840
    rw [List.getD_eq_getElem?_getD]
    cases h : ns[i]? with
    | none => decide
    | some x => exact hns x (List.mem_of_getElem? h)
  · rw [← hl, ← rowD_of, hl]
    simp_all only [evE, m_law_row, b_law_row, a, b, e]
/-! ### texts -/
/-- a text by its codes -/
def okt (c : Nat) : Bool := decide (32 ≤ c ∧ c < 127 ∧ c ≠ 37 ∧ c ≠ 39)
theorem okt_c {c : Nat} (h : okt c = true) : okc c = true := by
  have := of_decide_eq_true h
  exact decide_eq_true (by omega)
def GoodL (n : Nat) (l : List Nat) : Prop := l.length ≤ n ∧ ∀ c ∈ l, okt c = true
/-- .. with quotes -/
def GoodC (n : Nat) (l : List Nat) : Prop := l.length ≤ n ∧ ∀ c ∈ l, okc c = true
theorem GoodL.c {n : Nat} {l : List Nat} (h : GoodL n l) : GoodC n l := ⟨h.1, fun c hc => okt_c (h.2 c hc)⟩
/-- a name -/
def NameL (l : List Nat) : Prop := 1 ≤ l.length ∧ l.length ≤ 8 ∧ ∀ c ∈ l, 97 ≤ c ∧ c ≤ 122
theorem NameL.goodL {l : List Nat} (h : NameL l) : GoodL 8 l := ⟨h.2.1, fun c hc => decide_eq_true (by have := h.2.2 c hc; omega)⟩
theorem join_ones : ∀ l : List Nat, TL.joinL [] (l.map fun c => [c]) = l
  | [] => rfl
  | [c] => rfl
  | c :: d :: r => by
    have ih := join_ones (d :: r)
    show [c] ++ [] ++ TL.joinL [] ((d :: r).map fun c => [c]) = _
    rw [ih]
    rfl
theorem sum_ones : ∀ l : List Nat, ((l.map fun c => [c]).map List.length).sum = l.length
  | [] => rfl
  | c :: r => by
    rw [List.map_cons, List.map_cons, List.sum_cons, sum_ones r, List.length_cons, List.length_cons, List.length_nil]
    omega
theorem nil_lit : ("" : Str) = S [] := by decide +kernel
/-- ''.join of single signs -/
theorem e_join1 (l : List Nat) (h : l.length ≤ 1000000) : fJoin (l.map fun c => .str ⟨#[c]⟩) (.str "") = some (.dat (.str (S l))) := by
  have e := e_join [] (l.map fun c => [c])
  rw [List.map_map, join_ones, sum_ones] at e
  have e' : fJoin (l.map fun c => .str ⟨#[c]⟩) (.str (S [])) = some (.dat (.str (S l))) := e.trans (okIf_yes (by simp; omega))
  rw [nil_lit]
  exact e'
def letters : List Nat := (List.range 26).map fun i => 97 + i
theorem letters_lit : ("abcdefghijklmnopqrstuvwxyz" : Str) = S letters := by decide +kernel
theorem letters_at {i : Nat} (h : i < 26) : letters[i]? = some (97 + i) := by
  unfold letters
  rw [List.getElem?_map, List.getElem?_range h]
  rfl
theorem e_law_name (n : Int) : ∃ l, NameL l ∧ m_law_name [.dat (.int n)] = some (.ret (.dat (.str (S l))) [.dat (.int n)]) := by
  have a : -1000000 ≤ 1 + n % 8 := by omega
  have b : 1 + n % 8 ≤ 1000000 := by omega
  have lenS : letters.length ≤ 1000000 := by decide
  refine ⟨(List.range (1 + n % 8).toNat).map fun i : Nat => 97 + (n / (1 + 3 * (0 + (i : Int))) % 26).toNat, ⟨by simp; omega, by simp; omega, ?_⟩, ?_⟩
  · intro c hc
    obtain ⟨i, _, rfl⟩ := List.mem_map.mp hc
    omega
  · simp_all only [evE, m_law_name, b_law_name, a, b]
    rw [lcM (fun i : Nat => .str ⟨#[97 + (n / (1 + 3 * (0 + (i : Int))) % 26).toNat]⟩) (by simp; omega)]
    · have e := e_join1 ((List.range (1 + n % 8).toNat).map fun i : Nat => 97 + (n / (1 + 3 * (0 + (i : Int))) % 26).toNat) (by simp; omega)
      rw [List.map_map] at e
      have e' : fJoin ((List.range (1 + n % 8).toNat).map fun i : Nat => PyData.str ⟨#[97 + (n / (1 + 3 * (0 + (i : Int))) % 26).toNat]⟩) (.str "") = _ := e
      simp_all only [evE, e']
    · intro i hi
      have hi' : i < (1 + n % 8).toNat := List.mem_range.mp hi
      have h1 : 0 < 1 + 3 * (0 + (i : Int)) := by omega
      have h2 : 1 + 3 * (0 + (i : Int)) < 1073741824 := by omega
      have h3 : 0 ≤ n / (1 + 3 * (0 + (i : Int))) % 26 := by omega
      have h4 := letters_at (i := (n / (1 + 3 * (0 + (i : Int))) % 26).toNat) (by omega)
      simp_all only [evE, h1, h2, letters_lit, h3, h4, lenS]
end Cq
end
section
/-! texts and values that the law draws -/
namespace Cq
open PySem XM L2 SX Cm
theorem fold_app : ∀ (as : List (Array Nat)) (acc : Array Nat), (as.foldl (· ++ ·) acc).toList = acc.toList ++ (as.map Array.toList).flatten
  | [], acc => by simp
  | a :: as, acc => by rw [List.foldl_cons, fold_app as, Array.toList_append, List.map_cons, List.flatten_cons, List.append_assoc]
theorem mul_S (l : List Nat) (n : Int) : Txt.mul (S l) n = S (List.replicate n.toNat l).flatten := by
  unfold Txt.mul
  by_cases h : n < 1
  · rw [if_pos h, show n.toNat = 0 by omega]; rfl
  · rw [if_neg h]
    split
    · rename_i c
      simp only [Bool.or_eq_true, beq_iff_eq, S_len] at c
      rcases c with rfl | c
      · show S l = S _
        rw [show (1 : Int).toNat = 1 from rfl, List.replicate_one, List.flatten_singleton]
      · cases l with
        | nil =>
          show S [] = S _
          congr 1
          simp
        | cons a r => rw [List.length_cons] at c; omega
    · apply TL.ext_tl
      show ((List.replicate n.toNat (S l).cps).foldl (· ++ ·) #[]).toList = (List.replicate n.toNat l).flatten
      rw [fold_app, List.map_replicate]
      rfl
theorem e_mulS (l : List Nat) (n : Int) : fMulS (.str (S l)) (.int n) = okIf (-1000000 ≤ n ∧ n ≤ 1000000 ∧ l.length * n.toNat ≤ 1000000) (some (.str (S (List.replicate n.toNat l).flatten))) := by
  show (if -1000000 ≤ n ∧ n ≤ 1000000 ∧ (S l).length * n.toNat ≤ 1000000 then some (PyData.str (Txt.mul (S l) n)) else none) = _
  rw [mul_S, S_len]
  rfl
theorem e_addL (a b : List Nat) : fAdd (.str (S a)) (.str (S b)) = small (a.length + b.length) 1000000 (some (.str (S (a ++ b)))) := by
  show (if (S a).length + (S b).length ≤ 1000000 then some (PyData.str (S a ++ S b)) else none) = _
  rw [S_len, S_len, S_cat]
  rfl
theorem at_mem {α : Type} {l : List α} {i : Nat} (h : i < l.length) : ∃ d, l[i]? = some d ∧ d ∈ l := ⟨l[i], List.getElem?_eq_getElem h, List.getElem_mem h⟩
def tsg1 : List Nat := 32 :: 33 :: ((List.range 92).map fun i => 35 + i).filter fun c => decide (c ≠ 37 ∧ c ≠ 39)
theorem tsg_lit : (" !#$&()*+,-./0123456789:;<=>?@ABCDEFGHIJKLMNOPQRSTUVWXYZ[\\]^_`abcdefghijklmnopqrstuvwxyz{|}~" : Str) = S tsg1 := by decide +kernel
theorem quo_lit : ("\"" : Str) = S [34] := by decide +kernel
theorem x_lit : ("x" : Str) = S [120] := by decide +kernel
theorem tsg_len : (tsg1 ++ [34]).length = 93 := by decide +kernel
theorem tsg_ok : ∀ c ∈ tsg1 ++ [34], okt c = true := by
  have : (tsg1 ++ [34]).all okt = true := by decide +kernel
  exact fun c hc => List.all_eq_true.mp this c hc
def x40 : List Nat := List.replicate 40 120
theorem e_x40 : fMulS (.str "x") (.int 40) = some (.str (S x40)) := by
  rw [x_lit, e_mulS, okIf_yes (by decide)]
  have : (List.replicate (40 : Int).toNat [120]).flatten = x40 := by decide
  rw [this]
/-- every text of this list is good -/
def strs40 : List D := [.str "", .str " ", .str "a b", .str "it", .str "$1", .str "-5", .str "~!#", .str (S x40), .str "Ab 9", .str "  ", .str "7", .str "put"]
theorem litS (s : String) : (Str.ofString s) = S (s.toList.map Char.toNat) := TL.ext_tl (cpsOfBytes_string s)
theorem goodL_lit (s : String) (n : Nat) (h : (decide (s.toList.length ≤ n) && s.toList.all fun c => okt c.toNat) = true) : ∃ l, Str.ofString s = S l ∧ GoodL n l := by
  rw [Bool.and_eq_true] at h
  refine ⟨_, litS s, by rw [List.length_map]; exact of_decide_eq_true h.1, fun c hc => ?_⟩
  obtain ⟨x, hx, rfl⟩ := List.mem_map.mp hc
  exact List.all_eq_true.mp h.2 x hx
def GStr (n : Nat) (d : D) : Prop := ∃ l, d = .str (S l) ∧ GoodL n l
theorem gstr_lit (s : String) (n : Nat) (h : (decide (s.toList.length ≤ n) && s.toList.all fun c => okt c.toNat) = true) : GStr n (.str (Str.ofString s)) := by
  obtain ⟨l, e, g⟩ := goodL_lit s n h
  exact ⟨l, by rw [e], g⟩
theorem strs40_ok : ∀ d ∈ strs40, GStr 40 d := by
  intro d hd
  unfold strs40 at hd
  simp only [List.mem_cons, List.not_mem_nil, or_false] at hd
  rcases hd with rfl | rfl | rfl | rfl | rfl | rfl | rfl | rfl | rfl | rfl | rfl | rfl
  all_goals first
    | exact gstr_lit _ _ (by decide)
    | exact ⟨_, rfl, by decide, fun c hc => by
        have : x40.all okt = true := by decide
        exact List.all_eq_true.mp this c hc⟩
theorem e_law_text (n : Int) : ∃ d, GStr 40 d ∧ m_law_text [.dat (.int n)] = some (.ret (.dat d) [.dat (.int n)]) := by
  have l1 : tsg1.length + 1 ≤ 1000000 := by decide +kernel
  have l2 : (tsg1 ++ [34]).length ≤ 1000000 := by rw [tsg_len]; decide
  by_cases h3 : n % 3 = 0
  · have a : -1000000 ≤ 1 + n / 3 % 40 := by omega
    have b : 1 + n / 3 % 40 ≤ 1000000 := by omega
    let f : Nat → Nat := fun i => (tsg1 ++ [34]).getD ((7 * (n / 3) + (0 + (i : Int)) * (1 + n % 5)) % 93).toNat 0
    have hf : ∀ i : Nat, (tsg1 ++ [34])[((7 * (n / 3) + (0 + (i : Int)) * (1 + n % 5)) % 93).toNat]? = some (f i) ∧ okt (f i) = true := fun i => by
      have lt : ((7 * (n / 3) + (0 + (i : Int)) * (1 + n % 5)) % 93).toNat < (tsg1 ++ [34]).length := by rw [tsg_len]; omega
      obtain ⟨c, e1, e2⟩ := at_mem lt
      have : f i = c := by show (tsg1 ++ [34]).getD _ 0 = c; rw [List.getD_eq_getElem?_getD, e1]; rfl
      rw [this]
      exact ⟨e1, tsg_ok c e2⟩
    refine ⟨.str (S ((List.range (1 + n / 3 % 40).toNat).map f)), ⟨_, rfl, by simp; omega, fun c hc => ?_⟩, ?_⟩
    · obtain ⟨i, _, rfl⟩ := List.mem_map.mp hc
      exact (hf i).2
    · simp_all only [evE, m_law_text, b_law_text, h3, a, b, tsg_lit, quo_lit, e_x40, S_cat, l1]
      rw [lcM (fun i : Nat => .str ⟨#[f i]⟩) (by simp; omega)]
      · have e := e_join1 ((List.range (1 + n / 3 % 40).toNat).map f) (by simp; omega)
        rw [List.map_map] at e
        have e' : fJoin ((List.range (1 + n / 3 % 40).toNat).map fun i : Nat => PyData.str ⟨#[f i]⟩) (.str "") = _ := e
        simp_all only [evE, e']
      · intro i hi
        have q1 : -18446744073709551616 < 1 + n % 5 := by omega
        have q2 : 1 + n % 5 < 18446744073709551616 := by omega
        have q3 : 0 ≤ (7 * (n / 3) + (0 + (i : Int)) * (1 + n % 5)) % 93 := by omega
        simp_all only [evE, q1, q2, q3, (hf i).1, l2]
  · by_cases h13 : n % 13 = 12
    · obtain ⟨l, g, e⟩ := e_law_name (n / 13)
      refine ⟨.str (S l), ⟨l, rfl, by have := g.2.1; omega, g.goodL.2⟩, ?_⟩
      simp_all only [evE, m_law_text, b_law_text, h3, h13, tsg_lit, quo_lit, e_x40, S_cat, l1, e]
    · have lt : (n % 13 % 12).toNat < strs40.length := by show _ < 12; omega
      obtain ⟨d, e1, e2⟩ := at_mem lt
      have q : 0 ≤ n % 13 % 12 := by omega
      refine ⟨d, strs40_ok d e2, ?_⟩
      unfold strs40 at e1
      simp_all only [evE, m_law_text, b_law_text, h3, h13, tsg_lit, quo_lit, e_x40, S_cat, l1, q, e1]
end Cq
end
section
/-! values, terms and statements that the law draws -/
namespace Cq
open PySem XM L2 SX Cm
/-- a drawn value -/
def V40 (d : D) : Prop := (∃ i : Int, d = .int i ∧ -2147483648 ≤ i ∧ i ≤ 2147483647) ∨ GStr 40 d
def ints7 : List D := [.int 2147483647, .int (-2147483648), .int 1000000, .int 0, .int 255, .int 256, .int (-1)]
theorem ints7_ok : ∀ d ∈ ints7, ∃ i : Int, d = .int i ∧ -2147483648 ≤ i ∧ i ≤ 2147483647 := by
  intro d hd
  unfold ints7 at hd
  simp only [List.mem_cons, List.not_mem_nil, or_false] at hd
  rcases hd with rfl | rfl | rfl | rfl | rfl | rfl | rfl <;> exact ⟨_, rfl, by omega, by omega⟩
theorem e_law_value (n : Int) : ∃ d, V40 d ∧ m_law_value [.dat (.int n)] = some (.ret (.dat d) [.dat (.int n)]) := by
  by_cases h1 : n % 5 < 2
  · refine ⟨.int (n / 5 % 7 - 3), .inl ⟨_, rfl, by omega, by omega⟩, ?_⟩
    simp_all only [evE, m_law_value, b_law_value, h1]
  · by_cases h2 : n % 5 = 2
    · refine ⟨.int ((n * 5113 * 40503 + 12345) % 4294967296 - 2147483648), .inl ⟨_, rfl, by omega, by omega⟩, ?_⟩
      simp_all only [evE, m_law_value, b_law_value, h1, h2]
    · by_cases h3 : n % 5 = 3
      · have lt : (n / 5 % 7).toNat < ints7.length := by show _ < 7; omega
        obtain ⟨d, e1, e2⟩ := at_mem lt
        have q : 0 ≤ n / 5 % 7 := by omega
        refine ⟨d, .inl (ints7_ok d e2), ?_⟩
        unfold ints7 at e1
        simp_all only [evE, m_law_value, b_law_value, h1, h2, h3, q, e1]
      · obtain ⟨d, g, e⟩ := e_law_text (n / 5)
        refine ⟨d, .inr g, ?_⟩
        simp_all only [evE, m_law_value, b_law_value, h1, h2, h3, e]
/-- a part of a drawn statement -/
inductive Part : D → Prop
  | word (d : D) : GStr 12 d → Part d
  | int (i : Int) : -2147483648 ≤ i → i ≤ 2147483647 → Part (.int i)
  | par (k : Int) : 1 ≤ k → k ≤ 4 → Part (.tuple [.str "parameter", .int k])
  | text (l : List Nat) : GoodL 40 l → Part (.tuple [.str "text", .str (S l)])
theorem e_law_term (n u : Int) (h0 : 0 ≤ u) (h5 : u ≤ 4) : ∃ d, (Part d ∧ ∀ z, d ≠ .str z) ∧ m_law_term [.dat (.int n), .dat (.int u)] = some (.ret (.dat d) [.dat (.int n), .dat (.int u)]) := by
  obtain ⟨v, hv, e⟩ := e_law_value (n / 7)
  have rest : ¬ (n % 7 = 0 ∧ u < 4) → ¬ (n % 7 = 1 ∧ 0 < u) → ∃ d, (Part d ∧ ∀ z, d ≠ .str z) ∧ m_law_term [.dat (.int n), .dat (.int u)] = some (.ret (.dat d) [.dat (.int n), .dat (.int u)]) := by
    intro c1 c2
    have w1 : (n % 7 = 0 ∧ ¬ u < 4) ∨ ¬ n % 7 = 0 := by omega
    have w2 : (n % 7 = 1 ∧ ¬ 0 < u) ∨ ¬ n % 7 = 1 := by omega
    rcases hv with ⟨i, rfl, h1, h2⟩ | ⟨l, rfl, g⟩
    · refine ⟨.int i, ⟨.int i h1 h2, fun z => by simp⟩, ?_⟩
      rcases w1 with ⟨a1, a2⟩ | a1 <;> rcases w2 with ⟨b1, b2⟩ | b1
      · omega
      · simp_all only [evE, m_law_term, b_law_term, a1, a2, b1, e]
      · simp_all only [evE, m_law_term, b_law_term, a1, b1, b2, e]
      · simp_all only [evE, m_law_term, b_law_term, a1, b1, e]
    · refine ⟨_, ⟨.text l g, fun z => by simp⟩, ?_⟩
      rcases w1 with ⟨a1, a2⟩ | a1 <;> rcases w2 with ⟨b1, b2⟩ | b1
      · omega
      · simp_all only [evE, m_law_term, b_law_term, a1, a2, b1, e]
      · simp_all only [evE, m_law_term, b_law_term, a1, b1, b2, e]
      · simp_all only [evE, m_law_term, b_law_term, a1, b1, e]
  by_cases c1 : n % 7 = 0 ∧ u < 4
  · refine ⟨.tuple [.str "parameter", .int (u + 1)], ⟨.par _ (by omega) (by omega), fun z => by simp⟩, ?_⟩
    simp_all only [evE, m_law_term, b_law_term, c1.1, c1.2]
  · by_cases c2 : n % 7 = 1 ∧ 0 < u
    · have : 0 ≤ n / 7 % u := Int.emod_nonneg _ (by omega)
      have : n / 7 % u < u := Int.emod_lt_of_pos _ c2.2
      refine ⟨.tuple [.str "parameter", .int (1 + n / 7 % u)], ⟨.par _ (by omega) (by omega), fun z => by simp⟩, ?_⟩
      simp_all only [evE, m_law_term, b_law_term, c2.1, c2.2]
    · exact rest c1 c2
theorem intsOf_map : ∀ is : List Int, intsOf (is.map PyData.int) = some is
  | [] => rfl
  | i :: r => by
    rw [List.map_cons]
    unfold intsOf
    rw [intsOf_map r]
    rfl
/-- the number of a parameter -/
def parNo (d : D) : Option D := match d with
  | .tuple [.str w, .int k] => if w = Str.ofString "parameter" then some (.int k) else none
  | _ => none
theorem parNo_ok {ps : List D} (h : ∀ d ∈ ps, Part d) : ∃ is : List Int, ps.filterMap parNo = is.map .int ∧ (∀ i ∈ is, 1 ≤ i ∧ i ≤ 4) ∧ is.length ≤ ps.length := by
  induction ps with
  | nil => exact ⟨[], rfl, fun _ h => (nomatch h), Nat.le_refl _⟩
  | cons d r ih =>
    obtain ⟨is, e, h1, h2⟩ := ih fun x hx => h x (List.mem_cons_of_mem _ hx)
    have hd := h d List.mem_cons_self
    have none_case : parNo d = none → ∃ is : List Int, (d :: r).filterMap parNo = is.map .int ∧ (∀ i ∈ is, 1 ≤ i ∧ i ≤ 4) ∧ is.length ≤ (d :: r).length := fun z => ⟨is, by rw [List.filterMap_cons, z]; exact e, h1, by rw [List.length_cons]; omega⟩
    cases hd with
    | word d g =>
      obtain ⟨l, rfl, _⟩ := g
      exact none_case rfl
    | int i _ _ => exact none_case rfl
    | par k k1 k2 =>
      refine ⟨k :: is, by rw [List.filterMap_cons, show parNo (.tuple [.str "parameter", .int k]) = some (.int k) by simp [parNo], List.map_cons, e], fun i hi => ?_, by rw [List.length_cons, List.length_cons]; omega⟩
      rcases List.mem_cons.mp hi with rfl | hi
      · exact ⟨k1, k2⟩
      · exact h1 i hi
    | text l g => exact none_case rfl
/-- parts, as a list of one's own or as a tuple -/
inductive PT : List D → T → Prop
  | dl (ps : List D) : PT ps (.dl ps)
  | tup (ps : List D) : PT ps (.dat (.tuple ps))
theorem used_one {t : T} {d : D} (h : Part d) : lcOne [2] (bName 2) (mAndT (asB (mIsi .tuple (mSlot 2))) (asB (mOp fEq (mItems false fIx (mSlot 2) (mC (.int 0))) (mC (.str "parameter"))))) (mItems false fIx (mSlot 2) (mC (.int 1)))
    ⟨[.ref 0, .un, .un], [⟨t, none⟩], 1⟩ d = some (parNo d, ⟨[.ref 0, .un, .un], [⟨t, none⟩], 1⟩) := by
  cases h with
  | word d g =>
    obtain ⟨l, rfl, _⟩ := g
    simp_all only [evE, parNo]
  | int i _ _ =>
    simp_all only [evE, parNo]
  | par k _ _ =>
    simp_all only [evE, parNo]
  | text l g =>
    simp_all only [evE, parNo]
theorem e_law_used {ps : List D} {t : T} (ht : PT ps t) (h : ∀ d ∈ ps, Part d) (hl : ps.length ≤ 100) : ∃ k : Int, (0 ≤ k ∧ k ≤ 4) ∧ m_law_used [t] = some (.ret (.dat (.int k)) [t]) := by
  obtain ⟨is, e, h1, h2⟩ := parNo_ok h
  have z : 1 + (is.map PyData.int).length ≤ 1000000 := by rw [List.length_map]; omega
  have e0 : intsOf (PyData.int 0 :: is.map PyData.int) = some (0 :: is) := by
    have := intsOf_map (0 :: is)
    rwa [List.map_cons] at this
  refine ⟨maxL (0 :: is), ?_, ?_⟩
  · obtain ⟨a, b⟩ := maxL_ok (ns := 0 :: is) (by simp)
    refine ⟨b 0 List.mem_cons_self, ?_⟩
    rcases List.mem_cons.mp a with q | q
    · omega
    · have := h1 _ q; omega
  · cases ht with
    | dl =>
      simp_all only [evE, m_law_used, b_law_used]
      rw [lcOF parNo rfl (by omega) (fun x hx => used_one (h x hx)), e]
      simp_all only [evE, z, e0]
    | tup =>
      simp_all only [evE, m_law_used, b_law_used]
      have := lcF (vs := [2]) (b := bName 2) (mt := mAndT (asB (mIsi .tuple (mSlot 2))) (asB (mOp fEq (mItems false fIx (mSlot 2) (mC (.int 0))) (mC (.str "parameter"))))) (me := mItems false fIx (mSlot 2) (mC (.int 1)))
        (sl := [.ref 0, .un, .un]) (rt := [⟨.dat (.tuple ps), none⟩]) (np := 1) (xs := ps) (e := fun d => d) parNo (by omega) (fun x hx => used_one (h x hx))
      rw [List.map_id'' (fun _ => rfl)] at this
      rw [this, e]
      simp_all only [evE, z, e0]
end Cq
end
section
/-! statements that the law draws -/
namespace Cq
open PySem XM L2 SX Cm
theorem cast_lit {n : Nat} : ((no_index (OfNat.ofNat n) : Nat) : Int) = (OfNat.ofNat n : Int) := rfl
def words21 : List D := [.str "create", .str "put", .str "put", .str "scan", .str "begin", .str "commit", .str "put", .str "get", .str "delete", .str "total", .str "scan", .str "save", .str "undo", .str "rollback", .str "drop", .str "create", .str "put", .str "begin", .str "save", .str "undo", .str "scan"]
theorem words21_ok : ∀ d ∈ words21, ∃ w, d = .str w ∧ GStr 12 (.str w) ∧ ∀ r2 : Int, (r2 = 0 ∨ r2 = 1) → ∃ c : Int, (c = 0 ∨ c = 1 ∨ c = 2) ∧ ∀ ρ, getOr (lkD w ["put", "get", "delete", "scan"] [.int 2, .int 1, .int 1, .int (2 * r2)]) (.int 0) ρ = some (.ok (.dat (.int c)) ρ) := by
  intro d hd
  unfold words21 at hd
  simp only [List.mem_cons, List.not_mem_nil, or_false] at hd
  have case0 : ∀ s : String, (decide (s.toList.length ≤ 12) && s.toList.all fun c => okt c.toNat) = true → ∀ c0 : Int → Int, (∀ r2 : Int, (r2 = 0 ∨ r2 = 1) → (c0 r2 = 0 ∨ c0 r2 = 1 ∨ c0 r2 = 2) ∧ ∀ ρ, getOr (lkD (Str.ofString s) ["put", "get", "delete", "scan"] [.int 2, .int 1, .int 1, .int (2 * r2)]) (.int 0) ρ = some (.ok (.dat (.int (c0 r2))) ρ)) →
      ∃ w, PyData.str (Str.ofString s) = .str w ∧ GStr 12 (.str w) ∧ ∀ r2 : Int, (r2 = 0 ∨ r2 = 1) → ∃ c : Int, (c = 0 ∨ c = 1 ∨ c = 2) ∧ ∀ ρ, getOr (lkD w ["put", "get", "delete", "scan"] [.int 2, .int 1, .int 1, .int (2 * r2)]) (.int 0) ρ = some (.ok (.dat (.int c)) ρ) :=
    fun s h c0 q => ⟨_, rfl, gstr_lit s 12 h, fun r2 hr => ⟨c0 r2, (q r2 hr).1, (q r2 hr).2⟩⟩
  rcases hd with rfl | rfl | rfl | rfl | rfl | rfl | rfl | rfl | rfl | rfl | rfl | rfl | rfl | rfl | rfl | rfl | rfl | rfl | rfl | rfl | rfl
  all_goals first
    | (refine case0 _ (by decide) (fun _ => 0) fun r2 hr => ⟨.inl rfl, fun ρ => ?_⟩; simp_all only [evE, true_and]; done)
    | (refine case0 _ (by decide) (fun _ => 1) fun r2 hr => ⟨.inr (.inl rfl), fun ρ => ?_⟩; simp_all only [evE, true_and]; done)
    | (refine case0 _ (by decide) (fun _ => 2) fun r2 hr => ⟨.inr (.inr rfl), fun ρ => ?_⟩; simp_all only [evE, true_and]; done)
    | (refine case0 _ (by decide) (fun r => 2 * r) fun r2 hr => ⟨by omega, fun ρ => ?_⟩; simp_all only [evE, true_and]; done)
/-- the terms behind a word and a name -/
theorem terms_ok {rt0 rt1 rt2 : T} {x3 : D} {row : Nat → Nat} (c : Int) (hc : c = 0 ∨ c = 1 ∨ c = 2) (ps : List D) (hp : ∀ d ∈ ps, Part d) (hl : ps.length ≤ 2) (hx : rt0.items false = some (rowD row 6)) : ∃ ps' ρ', (∀ d ∈ ps', Part d) ∧ ps'.length ≤ 4 ∧ ps <+: ps' ∧
    forL (bName 6) (mExpr (mAppend (mSlot 4) (mCall0 m_law_term [(mOp fAdd (mItems false fIx (mSlot 0) (mOp fAdd (mC (.int 3)) (mSlot 6))) (mOp fMulL (mC (.int 840)) (mItems false fIx (mSlot 0) (mOp fSub (mC (.int 5)) (mOp fMulL (mC (.int 3)) (mSlot 6)))))), (mCall0 m_law_used [(mSlot 4)])]))) ((List.range c.toNat).map fun i => PyData.int (0 + (i : Nat)))
      ⟨[.ref 0, .ref 1, .ref 2, .dat x3, .ref 3, .dat (.int c), .un], [⟨rt0, none⟩, ⟨rt1, none⟩, ⟨rt2, none⟩, ⟨.dl ps, none⟩], 2⟩ = some (.nx ρ') ∧ ∃ x, ρ' = ⟨[.ref 0, .ref 1, .ref 2, .dat x3, .ref 3, .dat (.int c), x], [⟨rt0, none⟩, ⟨rt1, none⟩, ⟨rt2, none⟩, ⟨.dl ps', none⟩], 2⟩ := by
  have one : ∀ (k : Nat) (x : Sl) (ps : List D), (∀ d ∈ ps, Part d) → ps.length ≤ 3 → k < 2 → ∃ d, Part d ∧ mExpr (mAppend (mSlot 4) (mCall0 m_law_term [(mOp fAdd (mItems false fIx (mSlot 0) (mOp fAdd (mC (.int 3)) (mSlot 6))) (mOp fMulL (mC (.int 840)) (mItems false fIx (mSlot 0) (mOp fSub (mC (.int 5)) (mOp fMulL (mC (.int 3)) (mSlot 6)))))), (mCall0 m_law_used [(mSlot 4)])]))
      ⟨[.ref 0, .ref 1, .ref 2, .dat x3, .ref 3, .dat (.int c), .dat (.int (0 + (k : Nat)))], [⟨rt0, none⟩, ⟨rt1, none⟩, ⟨rt2, none⟩, ⟨.dl ps, none⟩], 2⟩ = some (.nx ⟨[.ref 0, .ref 1, .ref 2, .dat x3, .ref 3, .dat (.int c), .dat (.int (0 + (k : Nat)))], [⟨rt0, none⟩, ⟨rt1, none⟩, ⟨rt2, none⟩, ⟨.dl (ps ++ [d]), none⟩], 2⟩) := by
    intro k x ps hp hl hk
    obtain ⟨u, ⟨u0, u5⟩, eu⟩ := e_law_used (.dl ps) hp (by omega)
    obtain ⟨d, ⟨pd, _⟩, ed⟩ := e_law_term (row (3 + k) + 840 * row (5 - 3 * k)) u u0 u5
    have q1 : (0 : Int) ≤ 3 + (0 + (k : Int)) := by omega
    have q2 : (3 + (0 + (k : Int))).toNat = 3 + k := by omega
    have q3 : (0 : Int) ≤ 5 - 3 * (0 + (k : Int)) := by omega
    have q4 : (5 - 3 * (0 + (k : Int))).toNat = 5 - 3 * k := by omega
    have r1 := rowD_at (r := row) (n := 6) (i := 3 + k) (by omega)
    have r2 := rowD_at (r := row) (n := 6) (i := 5 - 3 * k) (by omega)
    have z : ps.length < 1000000 := by omega
    refine ⟨d, pd, ?_⟩
    simp_all only [evE, hx, q1, q2, q3, q4, r1, r2, eu, ed, z]
  rcases hc with rfl | rfl | rfl
  · refine ⟨ps, _, hp, by omega, List.prefix_refl _, rfl, _, rfl⟩
  · obtain ⟨d, pd, e⟩ := one 0 .un ps hp (by omega) (by omega)
    refine ⟨ps ++ [d], ⟨[.ref 0, .ref 1, .ref 2, .dat x3, .ref 3, .dat (.int 1), .dat (.int (0 + ((0 : Nat) : Int)))], [⟨rt0, none⟩, ⟨rt1, none⟩, ⟨rt2, none⟩, ⟨.dl (ps ++ [d]), none⟩], 2⟩, fun x hx => ?_, by rw [List.length_append, List.length_singleton]; omega, List.prefix_append _ _, ?_, _, rfl⟩
    · rcases List.mem_append.mp hx with h | h
      · exact hp x h
      · simp at h; subst h; exact pd
    · rw [show (List.range (1 : Int).toNat) = [0] from rfl, List.map_cons, List.map_nil, forL_cons, at_bName, andO_some]
      show forQ (mExpr _ ⟨[.ref 0, .ref 1, .ref 2, .dat x3, .ref 3, .dat (.int 1), .dat (.int (0 + (0 : Nat)))], _, 2⟩) _ = _
      rw [e, forQ_nx, forL_nil]
  · obtain ⟨d, pd, e⟩ := one 0 .un ps hp (by omega) (by omega)
    have hp1 : ∀ x ∈ ps ++ [d], Part x := fun x hx => by
      rcases List.mem_append.mp hx with h | h
      · exact hp x h
      · simp at h; subst h; exact pd
    obtain ⟨d2, pd2, e2⟩ := one 1 .un (ps ++ [d]) hp1 (by rw [List.length_append, List.length_singleton]; omega) (by omega)
    refine ⟨ps ++ [d] ++ [d2], ⟨[.ref 0, .ref 1, .ref 2, .dat x3, .ref 3, .dat (.int 2), .dat (.int (0 + ((1 : Nat) : Int)))], [⟨rt0, none⟩, ⟨rt1, none⟩, ⟨rt2, none⟩, ⟨.dl (ps ++ [d] ++ [d2]), none⟩], 2⟩, fun x hx => ?_, by rw [List.length_append, List.length_append, List.length_singleton, List.length_singleton]; omega, (List.prefix_append _ _).trans (List.prefix_append _ _), ?_, _, rfl⟩
    · rcases List.mem_append.mp hx with h | h
      · exact hp1 x h
      · simp at h; subst h; exact pd2
    · rw [show (List.range (2 : Int).toNat) = [0, 1] from rfl, List.map_cons, List.map_cons, List.map_nil, forL_cons, at_bName, andO_some]
      show forQ (mExpr _ ⟨[.ref 0, .ref 1, .ref 2, .dat x3, .ref 3, .dat (.int 2), .dat (.int (0 + (0 : Nat)))], _, 2⟩) _ = _
      rw [e, forQ_nx, forL_cons, at_bName, andO_some]
      show forQ (mExpr _ ⟨[.ref 0, .ref 1, .ref 2, .dat x3, .ref 3, .dat (.int 2), .dat (.int (0 + (1 : Nat)))], _, 2⟩) _ = _
      rw [e2, forQ_nx, forL_nil]
theorem e_law_statement {row : Nat → Nat} {n0 n1 n2 : D} (g0 : GStr 12 n0) (g1 : GStr 12 n1) (g2 : GStr 12 n2) : ∃ ps, (∀ d ∈ ps, Part d) ∧ ps.length ≤ 4 ∧ m_law_statement [.dl (rowD row 6), .dat (.list [n0, n1, n2])] = some (.ret (.dat (.tuple ps)) [.dl (rowD row 6), .dat (.list [n0, n1, n2])]) := by
  have r0 := rowD_at (r := row) (n := 6) (i := 0) (by omega)
  have r1 := rowD_at (r := row) (n := 6) (i := 1) (by omega)
  have r2 := rowD_at (r := row) (n := 6) (i := 2) (by omega)
  have r5 := rowD_at (r := row) (n := 6) (i := 5) (by omega)
  have lt : ((row 0 : Int) % 21).toNat < words21.length := by show _ < 21; omega
  obtain ⟨d, e1, dm⟩ := at_mem lt
  obtain ⟨w, rfl, gw, hc⟩ := words21_ok d dm
  have q0 : 0 ≤ (row 0 : Int) % 21 := by omega
  have lt1 : ((row 1 : Int) % 3).toNat < [n0, n1, n2].length := by show _ < 3; omega
  obtain ⟨nm, e2, nmm⟩ := at_mem lt1
  have gn : GStr 12 nm := by
    simp only [List.mem_cons, List.not_mem_nil, or_false] at nmm
    rcases nmm with rfl | rfl | rfl <;> assumption
  have q1 : 0 ≤ (row 1 : Int) % 3 := by omega
  obtain ⟨c, c012, ec⟩ := hc ((row 2 : Int) % 2) (by omega)
  simp only [lkD_cons, lkD_nil] at ec
  unfold words21 at e1
  by_cases ctl : Str.ofString "begin" = w ∨ Str.ofString "commit" = w ∨ Str.ofString "rollback" = w
  · refine ⟨[.str w], fun d hd => ?_, by simp, ?_⟩
    · simp at hd; subst hd; exact .word _ gw
    · rcases ctl with rfl | rfl | rfl <;> simp_all only [evE, m_law_statement, b_law_statement, r0, q0, e1, cast_lit]
  · have c1 : ¬ Str.ofString "begin" = w := fun h => ctl (.inl h)
    have c2 : ¬ Str.ofString "commit" = w := fun h => ctl (.inr (.inl h))
    have c3 : ¬ Str.ofString "rollback" = w := fun h => ctl (.inr (.inr h))
    by_cases sp : c = 2 ∧ (row 5 : Int) % 3 = 0
    · obtain ⟨rfl, s5⟩ := sp
      refine ⟨[.str w, nm, .tuple [.str "parameter", .int 2], .tuple [.str "parameter", .int 1]], fun d hd => ?_, by simp, ?_⟩
      · simp only [List.mem_cons, List.not_mem_nil, or_false] at hd
        rcases hd with rfl | rfl | rfl | rfl
        · exact .word _ gw
        · exact .word _ gn
        · exact .par 2 (by omega) (by omega)
        · exact .par 1 (by omega) (by omega)
      · simp_all only [evE, m_law_statement, b_law_statement, r0, q0, e1, r1, q1, e2, r2, c1, c2, c3, ec, r5, s5, cast_lit]
    · have w1 : (c = 2 ∧ ¬ (row 5 : Int) % 3 = 0) ∨ ¬ c = 2 := by omega
      obtain ⟨ps', ρ', hp', hl', pre, ef, x, rfl⟩ := terms_ok (rt0 := .dl (rowD row 6)) (rt1 := .dat (.list [n0, n1, n2])) (rt2 := .dl words21) (x3 := .str w) (row := row) c c012 [.str w, nm] (fun d hd => by
        simp only [List.mem_cons, List.not_mem_nil, or_false] at hd
        rcases hd with rfl | rfl
        · exact .word _ gw
        · exact .word _ gn) (by simp) rfl
      unfold words21 at ef
      have ca : -1000000 ≤ c := by omega
      have cb : c ≤ 1000000 := by omega
      refine ⟨ps', hp', hl', ?_⟩
      rcases w1 with ⟨rfl, a2⟩ | a1
      · simp only [Int.reduceToNat] at ef
        simp_all only [evE, m_law_statement, b_law_statement, r0, q0, e1, r1, q1, e2, r2, c1, c2, c3, ec, r5, a2, cast_lit, ef]
      · simp_all only [evE, m_law_statement, b_law_statement, r0, q0, e1, r1, q1, e2, r2, c1, c2, c3, ec, r5, a1, cast_lit, ca, cb, ef]
end Cq
end
section
/-! written statements -/
namespace Cq
open PySem XM L2 SX Cm
theorem intS_good {i : Int} (h1 : -2147483648 ≤ i) (h2 : i ≤ 2147483647) : GoodC 11 (Mx.intS i) := by
  have l : (TL.numL i.natAbs).length ≤ 10 := TL.numL_len (by decide) (by omega)
  have d : ∀ c ∈ TL.numL i.natAbs, okc c = true := fun c hc => decide_eq_true (by have := TL.numL_digits i.natAbs c hc; omega)
  unfold Mx.intS
  split
  · refine ⟨by rw [List.length_cons]; omega, fun c hc => ?_⟩
    rcases List.mem_cons.mp hc with rfl | hc
    · decide
    · exact d c hc
  · exact ⟨by omega, d⟩
theorem e_strI {i : Int} (h : i.natAbs < 18446744073709551616) : fStrI (.int i) = some (.str (S (Mx.intS i))) := by
  show (if i.natAbs.log2 < 1920 then some (PyData.str ((toString i : String) : Str)) else none) = _
  rw [if_pos, show ((toString i : String) : Str) = S (Mx.intS i) from Mx.str_int i]
  by_cases z : i.natAbs = 0
  · rw [z]; decide
  · have := (Nat.log2_lt z (k := 64)).mpr (by omega)
    omega
theorem sq_lit : ("'" : Str) = S [39] := by decide +kernel
theorem dol_lit : ("$" : Str) = S [36] := by decide +kernel
theorem spc_lit : (" " : Str) = S [32] := by decide +kernel
/-- a part, as it is written -/
def partL : D → List Nat
  | .str s => s.cps.toList
  | .int i => Mx.intS i
  | .tuple [.str _, .str s] => [39] ++ s.cps.toList ++ [39]
  | .tuple [.str _, .int k] => [36] ++ Mx.intS k
  | _ => []
theorem partL_good {d : D} (h : Part d) : GoodC 42 (partL d) := by
  cases h with
  | word d g =>
    obtain ⟨l, rfl, g⟩ := g
    exact ⟨by have := g.1; show l.length ≤ 42; omega, g.c.2⟩
  | int i h1 h2 => exact ⟨by have := (intS_good h1 h2).1; show (Mx.intS i).length ≤ 42; omega, (intS_good h1 h2).2⟩
  | par k h1 h2 =>
    have g := intS_good (i := k) (by omega) (by omega)
    refine ⟨by have := g.1; show (36 :: Mx.intS k).length ≤ 42; rw [List.length_cons]; omega, fun c hc => ?_⟩
    rcases List.mem_cons.mp (show c ∈ 36 :: Mx.intS k from hc) with rfl | hc
    · decide
    · exact g.2 c hc
  | text l g =>
    refine ⟨by have := g.1; show (([39] ++ l ++ [39] : List Nat)).length ≤ 42; simp; omega, fun c hc => ?_⟩
    have hc : c ∈ ([39] ++ l ++ [39] : List Nat) := hc
    simp only [List.mem_append, List.mem_singleton] at hc
    rcases hc with (rfl | hc) | rfl
    · decide
    · exact g.c.2 c hc
    · decide
theorem written_one {t : T} {ws : List D} {d : D} (h : Part d) (hw : ws.length < 1000000) :
  (mIf (asB (mIsi .str (mSlot 2)))
      (mExpr (mAppend (mSlot 1) (mSlot 2)))
      (mIf (asB (mIsi .int (mSlot 2)))
        (mExpr (mAppend (mSlot 1) (mB (f1 fStrI) [(mSlot 2)])))
        (mIf (asB (mOp fEq (mItems false fIx (mSlot 2) (mC (.int 0))) (mC (.str "text"))))
          (mExpr (mAppend (mSlot 1) (mOp fAdd (mOp fAdd (mC (.str "'")) (mItems false fIx (mSlot 2) (mC (.int 1)))) (mC (.str "'")))))
          (mExpr (mAppend (mSlot 1) (mOp fAdd (mC (.str "$")) (mB (f1 fStrI) [(mItems false fIx (mSlot 2) (mC (.int 1)))]))))))) ⟨[.ref 0, .ref 1, .dat d], [⟨t, none⟩, ⟨.dl ws, none⟩], 1⟩ = some (.nx ⟨[.ref 0, .ref 1, .dat d], [⟨t, none⟩, ⟨.dl (ws ++ [.str (S (partL d))]), none⟩], 1⟩) := by
  cases h with
  | word d g =>
    obtain ⟨l, rfl, g⟩ := g
    simp_all only [evE, hw, partL]
  | int i h1 h2 =>
    have e := e_strI (i := i) (by omega)
    simp_all only [evE, hw, partL, e]
  | par k h1 h2 =>
    have e := e_strI (i := k) (by omega)
    have e2 := e_addL [36] (Mx.intS k)
    have g := (intS_good (i := k) (by omega) (by omega)).1
    rw [small_yes (by rw [List.length_singleton]; omega)] at e2
    simp_all only [evE, hw, partL, e, dol_lit, e2]
  | text l g =>
    have g := g.1
    have e1 := e_addL [39] l
    have e2 := e_addL (39 :: l) [39]
    rw [small_yes (by rw [List.length_singleton]; omega)] at e1
    rw [small_yes (by simp; omega)] at e2
    simp_all only [evE, hw, partL, sq_lit, e1, e2]
theorem joinL_good {n : Nat} : ∀ {ls : List (List Nat)}, (∀ l ∈ ls, GoodC n l) → GoodC ((n + 1) * ls.length) (TL.joinL [32] ls)
  | [], _ => ⟨Nat.zero_le _, fun c hc => nomatch hc⟩
  | [y], h => by
    rw [show TL.joinL [32] [y] = y by simp [TL.joinL]]
    exact ⟨by have := (h y (by simp)).1; simp; omega, (h y (by simp)).2⟩
  | y :: z :: r, h => by
    have a := h y (by simp)
    have b := joinL_good (ls := z :: r) fun x hx => h x (List.mem_cons_of_mem _ hx)
    have e : TL.joinL [32] (y :: z :: r) = y ++ [32] ++ TL.joinL [32] (z :: r) := by simp [TL.joinL]
    rw [e]
    refine ⟨?_, fun c hc => ?_⟩
    · have b1 := b.1
      have a1 := a.1
      rw [List.length_append, List.length_append, List.length_singleton]
      rw [List.length_cons (a := y), Nat.mul_succ]
      omega
    · simp only [List.mem_append, List.mem_singleton] at hc
      rcases hc with (hc | rfl) | hc
      · exact a.2 c hc
      · decide
      · exact b.2 c hc
theorem sum_le {n : Nat} : ∀ {ls : List (List Nat)}, (∀ l ∈ ls, l.length ≤ n) → (ls.map List.length).sum ≤ n * ls.length
  | [], _ => Nat.zero_le _
  | y :: r, h => by
    have a := h y (by simp)
    have b := sum_le (ls := r) fun x hx => h x (List.mem_cons_of_mem _ hx)
    rw [List.map_cons, List.sum_cons, List.length_cons, Nat.mul_succ]
    omega
/-- a statement, as it is written -/
def writtenL (ps : List D) : List Nat := TL.joinL [32] (ps.map partL)
theorem writtenL_good {ps : List D} (hp : ∀ d ∈ ps, Part d) (hl : ps.length ≤ 4) : GoodC 200 (writtenL ps) := by
  have := joinL_good (n := 42) (ls := ps.map partL) fun l hl => by
    obtain ⟨d, hd, rfl⟩ := List.mem_map.mp hl
    exact partL_good (hp d hd)
  rw [List.length_map] at this
  exact ⟨by have := this.1; show (TL.joinL [32] _).length ≤ 200; omega, this.2⟩
theorem e_law_written {ps : List D} (hp : ∀ d ∈ ps, Part d) (hl : ps.length ≤ 4) : m_law_written [.dat (.tuple ps)] = some (.ret (.dat (.str (S (writtenL ps)))) [.dat (.tuple ps)]) := by
  have main : ∃ ρ', forL (bName 2) (mIf (asB (mIsi .str (mSlot 2)))
      (mExpr (mAppend (mSlot 1) (mSlot 2)))
      (mIf (asB (mIsi .int (mSlot 2)))
        (mExpr (mAppend (mSlot 1) (mB (f1 fStrI) [(mSlot 2)])))
        (mIf (asB (mOp fEq (mItems false fIx (mSlot 2) (mC (.int 0))) (mC (.str "text"))))
          (mExpr (mAppend (mSlot 1) (mOp fAdd (mOp fAdd (mC (.str "'")) (mItems false fIx (mSlot 2) (mC (.int 1)))) (mC (.str "'")))))
          (mExpr (mAppend (mSlot 1) (mOp fAdd (mC (.str "$")) (mB (f1 fStrI) [(mItems false fIx (mSlot 2) (mC (.int 1)))]))))))) (ps.map fun d => d)
      ⟨[.ref 0, .ref 1, .un], [⟨.dat (.tuple ps), none⟩, ⟨.dl [], none⟩], 1⟩ = some (.nx ρ') ∧ ∃ x, ρ' = ⟨[.ref 0, .ref 1, x], [⟨.dat (.tuple ps), none⟩, ⟨.dl (ps.map fun d => .str (S (partL d))), none⟩], 1⟩ := by
    refine for_toE (e := fun d => d) (fun rest ρ => ∃ x pre, ρ = ⟨[.ref 0, .ref 1, x], [⟨.dat (.tuple ps), none⟩, ⟨.dl (pre.map fun d => .str (S (partL d))), none⟩], 1⟩ ∧ pre ++ rest = ps) ⟨_, [], rfl, rfl⟩ ?_ ?_
    · rintro d rest ρ ⟨x, pre, rfl, e⟩
      have hd : Part d := hp d (by rw [← e]; simp)
      have hn : pre.length ≤ 4 := by have := congrArg List.length e; rw [List.length_append] at this; omega
      refine ⟨_, _, rfl, written_one hd (by rw [List.length_map]; omega), .dat d, pre ++ [d], ?_, by rw [List.append_assoc]; exact e⟩
      rw [List.map_append]
      rfl
    · rintro _ ⟨x, pre, rfl, e⟩
      rw [List.append_nil] at e
      subst e
      exact ⟨x, rfl⟩
  rw [List.map_id'' (fun _ => rfl)] at main
  obtain ⟨ρ', e, x, rfl⟩ := main
  have j := e_join [32] (ps.map partL)
  rw [List.map_map, okIf_yes] at j
  · have j' : fJoin (ps.map fun d => PyData.str (S (partL d))) (.str " ") = some (.dat (.str (S (writtenL ps)))) := by rw [spc_lit]; exact j
    simp_all only [evE, m_law_written, b_law_written, e, j']
  · have := sum_le (n := 42) (ls := ps.map partL) fun l hl => by
      obtain ⟨d, hd, rfl⟩ := List.mem_map.mp hl
      exact (partL_good (hp d hd)).1
    rw [List.length_map] at this ⊢
    rw [List.length_singleton]
    omega
end Cq
end
section
/-! the commands that the law draws -/
namespace Cq
open PySem XM L2 SX Cm
def NStr (d : D) : Prop := ∃ l, d = .str (S l) ∧ NameL l
theorem nstr_lit (s : String) (h : (decide (1 ≤ s.toList.length ∧ s.toList.length ≤ 8) && s.toList.all fun c => decide (97 ≤ c.toNat ∧ c.toNat ≤ 122)) = true) : NStr (.str (Str.ofString s)) := by
  rw [Bool.and_eq_true] at h
  have h1 := of_decide_eq_true h.1
  refine ⟨_, by rw [litS s], by rw [List.length_map]; exact h1.1, by rw [List.length_map]; exact h1.2, fun c hc => ?_⟩
  obtain ⟨x, hx, rfl⟩ := List.mem_map.mp hc
  exact of_decide_eq_true (List.all_eq_true.mp h.2 x hx)
/-- a drawn command -/
inductive DCmd : D → Prop
  | close (p : List Nat) : NameL p → DCmd (.tuple [.str "close", .str (S p)])
  | forget (n : List Nat) : NameL n → DCmd (.tuple [.str "forget", .str (S n)])
  | prepare (n s : List Nat) : NameL n → GoodC 200 s → DCmd (.tuple [.str "prepare", .str (S n), .str (S s)])
  | bind (p n : List Nat) (vs : List D) : NameL p → NameL n → (∀ d ∈ vs, V40 d) → vs.length ≤ 4 → DCmd (.tuple [.str "bind", .str (S p), .str (S n), .tuple vs])
  | run (p : List Nat) (m : Int) : NameL p → 0 ≤ m → m ≤ 1000 → DCmd (.tuple [.str "run", .str (S p), .int m])
def names6 : List D := [.str "stmta", .str "stmtb", .str "stmt", .str "savexabc", .str "savexabd", .str "begin"]
theorem names6_ok : ∀ d ∈ names6, NStr d := by
  intro d hd
  unfold names6 at hd
  simp only [List.mem_cons, List.not_mem_nil, or_false] at hd
  rcases hd with rfl | rfl | rfl | rfl | rfl | rfl <;> exact nstr_lit _ (by decide)
def ports6 (n : D) : List D := [.str "porta", .str "portb", .str "port", .str "savexabc", n, n]
theorem ports6_ok {n : D} (h : NStr n) : ∀ d ∈ ports6 n, NStr d := by
  intro d hd
  unfold ports6 at hd
  simp only [List.mem_cons, List.not_mem_nil, or_false] at hd
  rcases hd with rfl | rfl | rfl | rfl | rfl | rfl
  all_goals first
    | assumption
    | exact nstr_lit _ (by decide)
def menus3 : List D := [.list [.str "tab", .str "tax", .str "tabb"], .list [.str "tab", .str "begin", .str "put"], .list [.str "tablelow", .str "tablelox", .str "tab"]]
theorem menus3_ok : ∀ d ∈ menus3, ∃ a b c, d = .list [a, b, c] ∧ GStr 12 a ∧ GStr 12 b ∧ GStr 12 c := by
  intro d hd
  unfold menus3 at hd
  simp only [List.mem_cons, List.not_mem_nil, or_false] at hd
  rcases hd with rfl | rfl | rfl <;> exact ⟨_, _, _, rfl, gstr_lit _ _ (by decide), gstr_lit _ _ (by decide), gstr_lit _ _ (by decide)⟩
def ints4 : List D := [.int 0, .int 0, .int 1, .int 2]
theorem ints4_ok : ∀ d ∈ ints4, ∃ j : Int, d = .int j ∧ 0 ≤ j ∧ j < 3 := by
  intro d hd
  unfold ints4 at hd
  simp only [List.mem_cons, List.not_mem_nil, or_false] at hd
  rcases hd with rfl | rfl | rfl | rfl <;> exact ⟨_, rfl, by omega, by omega⟩
theorem cut_row {r : Nat → Nat} {n a b : Nat} (h : a ≤ b) (h' : b ≤ n) : cutD (rowD r n) (some ((a : Nat) : Int)) (some ((b : Nat) : Int)) = rowD (fun i => r (a + i)) (b - a) := by
  unfold cutD
  rw [HT.sIx_nat, HT.sIx_nat, rowD_len, Nat.min_eq_left h', Nat.min_eq_left (by omega)]
  refine List.ext_getElem? fun i => ?_
  by_cases hi : i < b - a
  · rw [rowD_at hi, List.getElem?_take_of_lt hi, List.getElem?_drop, rowD_at (by omega)]
  · rw [List.getElem?_eq_none (by rw [List.length_take, List.length_drop, rowD_len]; omega), List.getElem?_eq_none (by rw [rowD_len]; omega)]
theorem cut_to {α : Type} {l : List α} {n : Nat} : cutD l none (some ((n : Nat) : Int)) = l.take n := by
  unfold cutD
  rw [HT.sIx_nat, HT.sIx_none]
  by_cases h : n ≤ l.length
  · rw [Nat.min_eq_left h]; simp
  · rw [Nat.min_eq_right (by omega), List.take_of_length_le (by simp), List.take_of_length_le (by omega)]; simp
theorem cut_from {α : Type} {l : List α} {n : Nat} : cutD l (some ((n : Nat) : Int)) none = l.drop n := by
  unfold cutD
  rw [HT.sIx_nat, HT.sIx_none]
  by_cases h : n ≤ l.length
  · rw [Nat.min_eq_left h, List.take_of_length_le (by simp)]
  · rw [Nat.min_eq_right (by omega), List.drop_of_length_le (by omega), List.drop_of_length_le (by omega)]; simp
noncomputable def valD (n : Int) : D := Classical.choose (e_law_value n)
theorem valD_ok (n : Int) : V40 (valD n) := (Classical.choose_spec (e_law_value n)).1
theorem e_valD (n : Int) : m_law_value [.dat (.int n)] = some (.ret (.dat (valD n)) [.dat (.int n)]) := (Classical.choose_spec (e_law_value n)).2
theorem unit_A (row : Nat → Nat) : ∃ (n p : List Nat) (menu : D) (ps vs : List D), NameL n ∧ NameL p ∧ (∀ d ∈ ps, Part d) ∧ ps.length ≤ 4 ∧ (∀ d ∈ vs, V40 d) ∧ vs.length ≤ 4 ∧ ∀ k : SM,
  (mSeq (mSet 1 (mItems false fIx (mLst [(mC (.str "stmta")), (mC (.str "stmtb")), (mC (.str "stmt")), (mC (.str "savexabc")), (mC (.str "savexabd")), (mC (.str "begin"))]) (mOp fMod (mItems false fIx (mSlot 0) (mC (.int 0))) (mC (.int 6)))))
  (mSeq (mSet 2 (mItems false fIx (mLst [(mC (.str "porta")), (mC (.str "portb")), (mC (.str "port")), (mC (.str "savexabc")), (mSlot 1), (mSlot 1)]) (mOp fMod (mItems false fIx (mSlot 0) (mC (.int 1))) (mC (.int 6)))))
  (mSeq (mSet 3 (mItems false fIx (mLst [(mLst [(mC (.str "tab")), (mC (.str "tax")), (mC (.str "tabb"))]), (mLst [(mC (.str "tab")), (mC (.str "begin")), (mC (.str "put"))]), (mLst [(mC (.str "tablelow")), (mC (.str "tablelox")), (mC (.str "tab"))])]) (mItems false fIx (mLst [(mC (.int 0)), (mC (.int 0)), (mC (.int 1)), (mC (.int 2))]) (mOp fMod (mOp fDiv (mItems false fIx (mSlot 0) (mC (.int 14))) (mC (.int 18))) (mC (.int 4))))))
  (mSeq (mSet 4 (mCall0 m_law_statement [(mSlice (mSlot 0) (some (mC (.int 2))) (some (mC (.int 8)))), (mSlot 3)]))
  (mSeq (mSet 5 (mLc [8] (mRng1 (mCall0 m_law_used [(mSlot 4)])) (bName 8) mYes (mCall0 m_law_value [(mItems false fIx (mSlot 0) (mOp fAdd (mC (.int 8)) (mSlot 8)))])))
  (mSeq (mIf (asB (mOp fEq (mOp fMod (mItems false fIx (mSlot 0) (mC (.int 12))) (mC (.int 9))) (mC (.int 0))))
    (mSet 5 (mSlice (mCat (mSlice (mSlot 5) (some (mC (.int 1))) none) (mRep (mLst [(mC (.int 5)), (mC (.str "x"))]) (mOp fMod (mOp fDiv (mItems false fIx (mSlot 0) (mC (.int 12))) (mC (.int 9))) (mC (.int 3))))) none (some (mC (.int 4))))) mNx)
    k)))))) (entry 9 [.dl (rowD row 16)]) =
  k ⟨[.ref 0, .dat (.str (S n)), .dat (.str (S p)), .dat menu, .dat (.tuple ps), .ref 1, .un, .un, .un], [⟨.dl (rowD row 16), none⟩, ⟨.dl vs, none⟩], 1⟩ := by
  have r0 := rowD_at (r := row) (n := 16) (i := 0) (by omega)
  have r1 := rowD_at (r := row) (n := 16) (i := 1) (by omega)
  have r12 := rowD_at (r := row) (n := 16) (i := 12) (by omega)
  have r14 := rowD_at (r := row) (n := 16) (i := 14) (by omega)
  have q0 : 0 ≤ (row 0 : Int) % 6 := by omega
  obtain ⟨dn, en, mn⟩ := at_mem (l := names6) (i := ((row 0 : Int) % 6).toNat) (by show _ < 6; omega)
  obtain ⟨n, rfl, hn⟩ := names6_ok _ mn
  have q1 : 0 ≤ (row 1 : Int) % 6 := by omega
  obtain ⟨dp, ep, mp⟩ := at_mem (l := ports6 (.str (S n))) (i := ((row 1 : Int) % 6).toNat) (by show _ < 6; omega)
  obtain ⟨p, rfl, hp⟩ := ports6_ok ⟨n, rfl, hn⟩ _ mp
  have q14 : 0 ≤ (row 14 : Int) / 18 % 4 := by omega
  obtain ⟨dj, ej, mj⟩ := at_mem (l := ints4) (i := ((row 14 : Int) / 18 % 4).toNat) (by show _ < 4; omega)
  obtain ⟨j, rfl, hj0, hj3⟩ := ints4_ok _ mj
  obtain ⟨dm, em, mm⟩ := at_mem (l := menus3) (i := j.toNat) (by show _ < 3; omega)
  obtain ⟨a, b, c, rfl, ga, gb, gc⟩ := menus3_ok _ mm
  obtain ⟨ps, hps, hpl, es⟩ := e_law_statement (row := fun i => row (2 + i)) ga gb gc
  obtain ⟨u, ⟨u0, u4⟩, eu⟩ := e_law_used (.tup ps) hps (by omega)
  unfold names6 at en
  unfold ports6 at ep
  unfold ints4 at ej
  unfold menus3 at em
  have c28 : cutD (rowD row 16) (some 2) (some 8) = rowD (fun i => row (2 + i)) 6 := cut_row (a := 2) (b := 8) (by omega) (by omega)
  have ua : -1000000 ≤ u := by omega
  have ub : u ≤ 1000000 := by omega
  have lc := lcM (vs := [8]) (b := bName 8) (mt := mYes) (me := mCall0 m_law_value [(mItems false fIx (mSlot 0) (mOp fAdd (mC (.int 8)) (mSlot 8)))]) (sl := [.ref 0, .dat (.str (S n)), .dat (.str (S p)), .dat (.list [a, b, c]), .dat (.tuple ps), .un, .un, .un, .un]) (rt := [⟨.dl (rowD row 16), none⟩]) (np := 1) (xs := List.range u.toNat) (e := fun i => PyData.int (0 + (i : Nat))) (fun i : Nat => valD (row (8 + i))) (by simp; omega) (by
    intro i hi
    have hi' := List.mem_range.mp hi
    have r8 := rowD_at (r := row) (n := 16) (i := 8 + i) (by omega)
    have z1 : (0 : Int) ≤ 8 + (0 + (i : Int)) := by omega
    have z2 : (8 + (0 + (i : Int))).toNat = 8 + i := by omega
    have ev := e_valD (row (8 + i))
    simp_all only [evE, z1, z2, r8, ev])
  have vok : ∀ d ∈ (List.range u.toNat).map fun i : Nat => valD (row (8 + i)), V40 d := fun d hd => by
    obtain ⟨i, _, rfl⟩ := List.mem_map.mp hd
    exact valD_ok _
  have vlen : ((List.range u.toNat).map fun i : Nat => valD (row (8 + i))).length ≤ 4 := by simp; omega
  generalize hv : ((List.range u.toNat).map fun i : Nat => valD (row (8 + i))) = vs at lc vok vlen
  by_cases h12 : (row 12 : Int) % 9 = 0
  · have k0 : -1000000 ≤ (row 12 : Int) / 9 % 3 := by omega
    have k1 : (row 12 : Int) / 9 % 3 ≤ 1000000 := by omega
    have k2 : 2 * ((row 12 : Int) / 9 % 3).toNat ≤ 1000000 := by omega
    have rep : ∀ d ∈ (List.replicate ((row 12 : Int) / 9 % 3).toNat [PyData.int 5, PyData.str "x"]).flatten, V40 d := fun d hd => by
      obtain ⟨l, h1, h2⟩ := List.mem_flatten.mp hd
      obtain ⟨_, rfl⟩ := List.mem_replicate.mp h1
      simp only [List.mem_cons, List.not_mem_nil, or_false] at h2
      rcases h2 with rfl | rfl
      · exact .inl ⟨5, rfl, by omega, by omega⟩
      · exact .inr (gstr_lit _ _ (by decide))
    have repl : (List.replicate ((row 12 : Int) / 9 % 3).toNat [PyData.int 5, PyData.str "x"]).flatten.length ≤ 4 := by simp; omega
    have c1 : cutD vs (some 1) none = vs.drop 1 := cut_from (n := 1)
    have c4 : ∀ l : List D, cutD l none (some 4) = l.take 4 := fun l => cut_to (n := 4)
    have sm : (vs.drop 1).length + (List.replicate ((row 12 : Int) / 9 % 3).toNat [PyData.int 5, PyData.str "x"]).flatten.length ≤ 1000000 := by rw [List.length_drop]; omega
    refine ⟨n, p, .list [a, b, c], ps, ((vs.drop 1) ++ (List.replicate ((row 12 : Int) / 9 % 3).toNat [PyData.int 5, PyData.str "x"]).flatten).take 4, hn, hp, hps, hpl, fun d hd => ?_, by rw [List.length_take]; omega, fun k => ?_⟩
    · rcases List.mem_append.mp (List.mem_of_mem_take hd) with h | h
      · exact vok d (List.mem_of_mem_drop h)
      · exact rep d h
    · simp_all only [evE, r0, r1, r12, r14, q0, en, q1, ep, q14, ej, hj0, em, c28, es, eu, ua, ub, lc, h12, k0, k1, k2, c1, c4, sm]
  · refine ⟨n, p, .list [a, b, c], ps, vs, hn, hp, hps, hpl, vok, vlen, fun k => ?_⟩
    simp_all only [evE, r0, r1, r12, r14, q0, en, q1, ep, q14, ej, hj0, em, c28, es, eu, ua, ub, lc, h12]
end Cq
end
section
/-! the commands that the law draws: units -/
namespace Cq
open PySem XM L2 SX Cm
theorem y_lit : ("y" : Str) = S [121] := by decide +kernel
theorem goodC_lit (s : String) (n : Nat) (h : (decide (s.toList.length ≤ n) && s.toList.all fun c => okt c.toNat) = true) : ∃ l, Str.ofString s = S l ∧ GoodC n l := by
  obtain ⟨l, e, g⟩ := goodL_lit s n h
  exact ⟨l, e, g.c⟩
def cmds5 (n p : List Nat) (ps vs : List D) (m : Int) : List D := [.tuple [.str "close", .str (S p)], .tuple [.str "forget", .str (S n)], .tuple [.str "prepare", .str (S n), .str (S (writtenL ps))], .tuple [.str "bind", .str (S p), .str (S n), .tuple vs], .tuple [.str "run", .str (S p), .int m]]
theorem cmds5_ok {n p : List Nat} {ps vs : List D} {m : Int} (hn : NameL n) (hp : NameL p) (hps : ∀ d ∈ ps, Part d) (hl : ps.length ≤ 4) (hv : ∀ d ∈ vs, V40 d) (hvl : vs.length ≤ 4) (m0 : 0 ≤ m) (m1 : m ≤ 1000) : ∀ d ∈ cmds5 n p ps vs m, DCmd d := by
  intro d hd
  unfold cmds5 at hd
  simp only [List.mem_cons, List.not_mem_nil, or_false] at hd
  rcases hd with rfl | rfl | rfl | rfl | rfl
  · exact .close p hp
  · exact .forget n hn
  · exact .prepare n _ hn (writtenL_good hps hl)
  · exact .bind p n vs hp hn hv hvl
  · exact .run p m hp m0 m1
def most4 (r : Nat) : List D := [.int 0, .int ((r : Int) / 4 % 24), .int 0, .int 1000]
theorem most4_ok (r : Nat) : ∀ d ∈ most4 r, ∃ m : Int, d = .int m ∧ 0 ≤ m ∧ m ≤ 1000 := by
  intro d hd
  unfold most4 at hd
  simp only [List.mem_cons, List.not_mem_nil, or_false] at hd
  rcases hd with rfl | rfl | rfl | rfl <;> exact ⟨_, rfl, by omega, by omega⟩
def ysL (r : Nat) : List Nat := List.replicate (99 + r % 102) 121
theorem e_ys (r : Nat) : fMulS (.str "y") (.int (99 + (r : Int) % 102)) = some (.str (S (ysL r))) := by
  rw [y_lit, e_mulS, okIf_yes (by simp; omega)]
  have e : (99 + (r : Int) % 102).toNat = 99 + r % 102 := by omega
  rw [e, List.flatten_replicate_singleton]
  rfl
theorem ysL_ok (r : Nat) : GoodC 200 (ysL r) := ⟨by unfold ysL; simp; omega, fun c hc => by
  unfold ysL at hc
  obtain ⟨_, rfl⟩ := List.mem_replicate.mp hc
  decide⟩
def prep5 (r : Nat) : List D := [.str "put t 1", .str "scan t $2 1", .str "PUT t 1 1", .str "", .str (S (ysL r))]
theorem prep5_ok (r : Nat) : ∀ d ∈ prep5 r, ∃ l, d = .str (S l) ∧ GoodC 200 l := by
  intro d hd
  unfold prep5 at hd
  simp only [List.mem_cons, List.not_mem_nil, or_false] at hd
  have lit : ∀ s : String, (decide (s.toList.length ≤ 200) && s.toList.all fun c => okt c.toNat) = true → ∃ l, PyData.str (Str.ofString s) = .str (S l) ∧ GoodC 200 l := fun s h => by
    obtain ⟨l, e, g⟩ := goodC_lit s 200 h
    exact ⟨l, by rw [e], g⟩
  rcases hd with rfl | rfl | rfl | rfl | rfl
  · exact lit _ (by decide)
  · exact lit _ (by decide)
  · exact lit _ (by decide)
  · exact lit _ (by decide)
  · exact ⟨_, rfl, ysL_ok r⟩
theorem ix52 : ixN 5 2 = some 2 := rfl
theorem e_law_unit (row : Nat → Nat) : ∃ cs, (∀ c ∈ cs, DCmd c) ∧ cs.length ≤ 6 ∧ m_law_unit [.dl (rowD row 16)] = some (.ret (.dl cs) [.dl (rowD row 16)]) := by
  obtain ⟨n, p, menu, ps, vs, hn, hp, hps, hpl, hv, hvl, ek⟩ := unit_A row
  have r13 := rowD_at (r := row) (n := 16) (i := 13) (by omega)
  have r14 := rowD_at (r := row) (n := 16) (i := 14) (by omega)
  have r15 := rowD_at (r := row) (n := 16) (i := 15) (by omega)
  have q13 : 0 ≤ (row 13 : Int) % 4 := by omega
  obtain ⟨dm, em, mm⟩ := at_mem (l := most4 (row 13)) (i := ((row 13 : Int) % 4).toNat) (by show _ < 4; omega)
  obtain ⟨m, rfl, m0, m1⟩ := most4_ok _ _ mm
  unfold most4 at em
  have ew := e_law_written hps hpl
  have ok5 := cmds5_ok hn hp hps hpl hv hvl m0 m1
  by_cases h0 : (row 14 : Int) % 6 = 0
  · have h18 : ¬ (row 14 : Int) % 18 = 2 := by omega
    refine ⟨cmds5 n p ps vs m ++ [.tuple [.str "run", .str (S p), .int ((row 15 : Int) % 3)]], fun c hc => ?_, by simp [cmds5], ?_⟩
    · rcases List.mem_append.mp hc with h | h
      · exact ok5 c h
      · simp only [List.mem_singleton] at h
        subst h
        exact .run p _ hp (by omega) (by omega)
    · unfold cmds5
      rw [m_law_unit, at_def, b_law_unit, ek]
      simp_all only [evE, r13, r14, r15, q13, em, ew, h0, h18]
  · by_cases h1 : (row 14 : Int) % 6 = 1
    · have h18 : ¬ (row 14 : Int) % 18 = 2 := by omega
      have c5 : ∀ l : List D, cutD l (some ((row 15 : Int) % 5)) none = l.drop (row 15 % 5) := fun l => by
        have := cut_from (l := l) (n := row 15 % 5)
        rwa [show (((row 15 % 5 : Nat)) : Int) = (row 15 : Int) % 5 by omega] at this
      refine ⟨(cmds5 n p ps vs m).drop (row 15 % 5), fun c hc => ok5 c (List.mem_of_mem_drop hc), by rw [List.length_drop]; simp [cmds5]; omega, ?_⟩
      unfold cmds5
      rw [m_law_unit, at_def, b_law_unit, ek]
      simp_all only [evE, r13, r14, r15, q13, em, ew, h1, h18, c5]
    · by_cases h2 : (row 14 : Int) % 18 = 2
      · have q15 : 0 ≤ (row 15 : Int) % 5 := by omega
        obtain ⟨d5, e5, m5⟩ := at_mem (l := prep5 (row 15)) (i := ((row 15 : Int) % 5).toNat) (by show _ < 5; omega)
        obtain ⟨l5, rfl, g5⟩ := prep5_ok _ _ m5
        unfold prep5 at e5
        have ey := e_ys (row 15)
        refine ⟨[.tuple [.str "close", .str (S p)], .tuple [.str "forget", .str (S n)], .tuple [.str "prepare", .str (S n), .str (S l5)], .tuple [.str "bind", .str (S p), .str (S n), .tuple vs], .tuple [.str "run", .str (S p), .int m]], fun c hc => ?_, by simp, ?_⟩
        · simp only [List.mem_cons, List.not_mem_nil, or_false] at hc
          rcases hc with rfl | rfl | rfl | rfl | rfl
          · exact .close p hp
          · exact .forget n hn
          · exact .prepare n _ hn g5
          · exact .bind p n vs hp hn hv hvl
          · exact .run p m hp m0 m1
        · rw [m_law_unit, at_def, b_law_unit, ek]
          simp_all only [evE, r13, r14, r15, q13, em, ew, h0, h1, h2, q15, ey, e5, ix52]
      · refine ⟨cmds5 n p ps vs m, ok5, by simp [cmds5], ?_⟩
        unfold cmds5
        rw [m_law_unit, at_def, b_law_unit, ek]
        simp_all only [evE, r13, r14, r15, q13, em, ew, h0, h1, h2]
theorem e_law_units (c N : Int) (n : Nat) (hN : N = n) (hn : n ≤ 20) : ∃ cs, (∀ c ∈ cs, DCmd c) ∧ cs.length ≤ 20 ∧ m_law_units [.dat (.int c), .dat (.int N)] = some (.ret (.dl cs) [.dat (.int c), .dat (.int N)]) := by
  subst hN
  obtain ⟨r, hr, er⟩ := e_law_row c (16 * n) (by omega)
  rw [show (((16 * n : Nat)) : Int) = 16 * (n : Int) by omega] at er
  have a : -1000000 ≤ (n : Int) := by omega
  have b : (n : Int) ≤ 1000000 := by omega
  have main : ∃ ρ', forL (bName 4) (mSet 3 (mCat (mSlot 3) (mCall0 m_law_unit [(mSlice (mSlot 2) (some (mOp fMulL (mC (.int 16)) (mSlot 4))) (some (mOp fAdd (mOp fMulL (mC (.int 16)) (mSlot 4)) (mC (.int 16)))))])))
      ((List.range n).map fun i => PyData.int (0 + (i : Nat))) ⟨[.ref 0, .ref 1, .ref 2, .ref 3, .un], [⟨.dat (.int c), none⟩, ⟨.dat (.int n), none⟩, ⟨.dl (rowD r (16 * n)), none⟩, ⟨.dl [], none⟩], 2⟩ = some (.nx ρ') ∧
      ∃ x cs, ρ' = ⟨[.ref 0, .ref 1, .ref 2, .ref 3, x], [⟨.dat (.int c), none⟩, ⟨.dat (.int n), none⟩, ⟨.dl (rowD r (16 * n)), none⟩, ⟨.dl cs, none⟩], 2⟩ ∧ ∀ c ∈ cs, DCmd c := by
    refine for_toE (fun rest ρ => ∃ x cs, ρ = ⟨[.ref 0, .ref 1, .ref 2, .ref 3, x], [⟨.dat (.int c), none⟩, ⟨.dat (.int n), none⟩, ⟨.dl (rowD r (16 * n)), none⟩, ⟨.dl cs, none⟩], 2⟩ ∧ (∀ c ∈ cs, DCmd c) ∧ cs.length + 6 * rest.length ≤ 6 * n ∧ ∀ i ∈ rest, i < n) ⟨_, [], rfl, fun _ h => (nomatch h), by simp, fun i hi => List.mem_range.mp hi⟩ ?_ ?_
    · rintro k rest ρ ⟨x, cs, rfl, hcs, hl, hi⟩
      have hk := hi k List.mem_cons_self
      obtain ⟨us, hus, hul, eu⟩ := e_law_unit fun i => r (16 * k + i)
      have cut : cutD (rowD r (16 * n)) (some (16 * (0 + (k : Int)))) (some (16 * (0 + (k : Int)) + 16)) = rowD (fun i => r (16 * k + i)) 16 := by
        have := cut_row (r := r) (n := 16 * n) (a := 16 * k) (b := 16 * k + 16) (by omega) (by omega)
        rwa [show ((16 * k : Nat) : Int) = 16 * (0 + (k : Int)) by omega, show ((16 * k + 16 : Nat) : Int) = 16 * (0 + (k : Int)) + 16 by omega, Nat.add_sub_cancel_left] at this
      have z : cs.length + us.length ≤ 1000000 := by rw [List.length_cons] at hl; omega
      refine ⟨_, ⟨[.ref 0, .ref 1, .ref 2, .ref 3, .dat (.int (0 + (k : Nat)))], [⟨.dat (.int c), none⟩, ⟨.dat (.int n), none⟩, ⟨.dl (rowD r (16 * n)), none⟩, ⟨.dl (cs ++ us), none⟩], 2⟩, rfl, ?_, _, _, rfl, ?_, ?_, fun i h => hi i (List.mem_cons_of_mem _ h)⟩
      · simp_all only [evE, cut, eu, z]
      · intro d hd
        rcases List.mem_append.mp hd with h | h
        · exact hcs d h
        · exact hus d h
      · rw [List.length_append]
        rw [List.length_cons] at hl
        omega
    · rintro _ ⟨x, cs, rfl, hcs, _⟩
      exact ⟨x, cs, rfl, hcs⟩
  obtain ⟨ρ', e, x, cs, rfl, hcs⟩ := main
  have c20 : cutD cs none (some 20) = cs.take 20 := cut_to (n := 20)
  refine ⟨cs.take 20, fun d hd => hcs d (List.mem_of_mem_take hd), by rw [List.length_take]; omega, ?_⟩
  simp_all only [evE, m_law_units, b_law_units, er, a, b, e, c20]
end Cq
end
section
namespace Cm
open PySem PySem.Spec PyProof.Rows L2 Tl XM
/-! _law_did : 0 session, 1 string, 2 values, 3 commands -/
/-! _law_rank : 0 value -/
/-! _law_put : 0 rows, 1 key, 2 entry, 3 left, 4 before, 5 row -/
/-! _law_reply : 0 rows, 1 word, 2 key, 3 entry, 4 made, 5 left, 6 found, 7 row -/
/-! law : 0 script, 1 session, 2 rows, 3 shift, 4 number, 5 word, 6 key, 7 entry, 8 due, 9 values, 10 string -/
end Cm
end
section
/-! exceptions: raise, try, defs and methods that raise -/
namespace XM
open PySem PySem.Spec PyProof.Rows L2 Tl
/-- what is raised here is heard by those around -/
def Hears (X : Cx) (E : EK) : Prop := L2N.Takes X (fun cls d σ H => E σ cls d H)
theorem Hears.pass {X : Cx} {E : EK} (h : Hears X E) : ∀ σ, PassesAt (L2N.CX X.prog X.w) X σ (E σ) := fun σ => L2N.passAt h σ
theorem hears_fn {P : Program} {w : World} {K : PySem.W.Frag} {mg : Str → Option Value} {base : Heap} {N : List Str} {qual : Str} {scope : Scope} {f : Addr} {cd : Value} {A : Around} {outer : List Env} {s : Shared} {H : Hp} {E : XK} :
    Hears (cxOf (L2N.CX P w) P w K mg base N qual scope f cd A outer s H E) (fun _ => E) := L2N.takes_of rfl rfl rfl rfl
theorem hears_no {X : Cx} : Hears X (fun _ _ _ _ => False) := by
  rintro _ _ ⟨_, _, _, _, _, _, _, _, _, _, _, _, _, _, _, _, z⟩
  exact z.elim
/-- a class of errors of the program -/
structure ErrG (K : PySem.W.Frag) (mg : Str → Option Value) (x : Str) : Prop where
  ex : ∃ C bs newId initId bm, mg x = some (.ref C) ∧ PySem.ExcBaseFacts bs newId initId bm ∧ PySem.W.excIn K C bm newId = true ∧ PySem.W.keepIn K (.ref C) = true ∧ PySem.W.subIn K (.ref C) (.type "BaseException") = some true ∧ PySem.W.typeIn K (.ref C) = some (.type "type")
def sRaise (c : Str) (m : M R) : SM := sBnd m fun _ ρ => some (.ex c ρ)
section
variable {X : Cx} {E : EK} {e : Expr} {x : Str} {p pos pos' : Pos} {m : M R}
theorem ds_raise (er : ErrG X.K X.mg x) (hc : X.calm = true) (tk : Hears X E) (hg : Gl X x) (he : DE X E e m) (hs : starEach [e] X.env = (false, eval e X.env) :: starEach [] X.env := by rfl) (hdb : (x == ("__debug__" : Str)) = false := by decide) :
    DS X E (.Raise (some (.Call (.Name x p) [e] [] pos')) none pos) (sRaise x m) := by
  obtain ⟨C, bs, newId, initId, bm, g, F, q, kp, sb, ty⟩ := er.ex
  refine ⟨ps_imp (L2N.ps_raise hc tk (pmk_ownN1 F q g kp (raises_own sb ty) hg he.pe hs hdb)) fun D σ H h => ?_⟩
  obtain ⟨B, O, A, ρ, out, S, hm, kk⟩ := h
  refine run_st S kk hm fun r ρ1 v H1 A1 F1 hk S1 rr st => ?_
  cases hk
  exact kk C σ H1 A1 g (S1.weak fun a => le_add a) (st.weak fun a => le_add a).toSto
end
/-! ### try -/
end XM
end
section
/-! methods that raise; comprehensions whose element raises -/
namespace XM
open PySem PySem.Spec PyProof.Rows L2 Tl
section
variable {P : Program} {w : World} {K : PySem.W.Frag} {mg : Str → Option Value} {base : Heap} {c m qual x : Str} {st : Stmt} {N ps : List Str} {k n j : Nat} {b : SM} {dts : List D}
/-- a def that may raise, its numbers told -/
theorem fnXn (D : Dn K mg x st ps) (S : FnScope N ps (defScope st)) (hl : ps.length ≤ N.length) (hn : N.length = n) (hj : ps.length = j)
    (hb : ∀ (f : Addr) (cdv : Value) (A : Around) (outer : List Env) (s : Shared) (H : Hp) (E : XK), Quiet (A.deeper (envOfC x (defScope st) s.heap.objs.size f cdv)) → Room k (A.deeper (envOfC x (defScope st) s.heap.objs.size f cdv)) → DSs (cxOf (L2N.CX P w) P w K mg base N x (defScope st) f cdv A outer s H E) (fun _ => E) (defBody st) b) :
    PrG P w K mg base (L2N.CX P w) (k + 1) x ps (spM K mg j (mDef n b)) := by
  subst hn hj
  exact fnX D S hl hb
/-- a method that may raise -/
theorem mtXn (D : MDnG K mg c m qual st ps dts) (S : FnScope N ps (defScope st)) (hl : ps.length ≤ N.length) (hn : N.length = n) (hj : ps.length = j)
    (hb : ∀ (f : Addr) (cdv : Value) (A : Around) (outer : List Env) (s : Shared) (H : Hp) (E : XK), Quiet (A.deeper (envOfC qual (defScope st) s.heap.objs.size f cdv)) → Room k (A.deeper (envOfC qual (defScope st) s.heap.objs.size f cdv)) → DSs (cxOf (L2N.CX P w) P w K mg base N qual (defScope st) f cdv A outer s H E) (fun _ => E) (defBody st) b) :
    MetG P w K mg base (L2N.CX P w) (k + 1) c m j dts (spM K mg j (mDef n b)) := by
  subst hn hj
  obtain ⟨C, f, fd, ds, dvs, hc, cl, me, F, bi, vd, dq⟩ := D.ex
  refine ⟨C, f, fd, ps, ds, dvs, hc, cl, me, fnG_of F S (fun vs H Q E h => sp_len h) fun cdv A outer s H vs Q E hq hr h => ?_, bi, vd, dq, rfl⟩
  obtain ⟨η, O, F, as, out, e, p1, p2, p3, hm, kk⟩ := h
  exact ⟨_, (hb f cdv A outer s H E hq hr).pss, body_run p1 p2 p3 (by rw [e]; exact hl) hm kk⟩
end
def mMethX (c m : Str) (f : FM) (dts : List D) (mo : M R) (ms : List (M R)) : M R := bnd mo fun ro ρ0 => match clsAt ro ρ0 with
  | some (_, c', fs) => if c' = c ∧ getA m fs = none then (bnd (mArgs ms) fun rs => callM f (ro :: (rs ++ dts.map R.dat))) ρ0 else none
  | none => none
section
variable {X : Cx} {E : EK} {o e : Expr} {es : List Expr} {c m x : Str} {f : FM} {mo : M R} {dts : List D} {k j n : Nat} {p apos pos : Pos} {pl : Sem Bool}
theorem run_methX {C : Addr} {dvs : List V} {ms : List (M R)} {σ : L2.St} {H : Hp} {Q : VK} (hC : X.mg c = some (.ref C)) (dq : ∀ G, DqAll X.K G dvs dts) (hn : ms.length + 1 + dts.length = n) (h : ERun X.K X.mg (mMethX c m f dts mo ms) E σ H Q) :
    tMeth C m (spM X.K X.mg n f) dvs (E σ) (ERun X.K X.mg mo E) (ARun X.K X.mg (mArgs ms) E) σ H Q := by
  obtain ⟨B, O, A, ρ, out, S, hm, kk⟩ := h
  refine run_bnd S hm kk.exc fun ro ρ1 v H1 A1 F1 hk S1 rr1 st1 x1 => ?_
  split at hk
  · rename_i i c' fs e1
    split at hk
    · rename_i q
      obtain ⟨rfl, q2⟩ := q
      obtain ⟨a, C', dx, fvs, Fn, pr, rfl, rfl, rfl, ha, hC', ho, hkk, _, _, _⟩ := clsAt_ok S1 rr1 e1
      rw [add_zer] at S1 st1
      have : C' = C := by have z := hC.symm.trans hC'; cases z; rfl
      subst this
      refine ⟨a, dx, fvs, rfl, ho, ?_, ?_⟩
      · cases z : List.lookup m fvs with
        | none => rfl
        | some u =>
          exfalso
          have : ∀ {fs : List (Str × T)} {fvs : List (Str × V)}, fvs.map (·.1) = fs.map (·.1) → getA m fs = none → List.lookup m fvs = none := by
            intro fs
            induction fs with
            | nil => intro fvs e _; cases fvs with | nil => rfl | cons _ _ => simp at e
            | cons p fs ih =>
              intro fvs e g
              cases fvs with
              | nil => simp at e
              | cons q fvs =>
                obtain ⟨e1, e2⟩ : q.1 = p.1 ∧ fvs.map (·.1) = fs.map (·.1) := by simpa using e
                unfold getA at g
                split at g
                · cases g
                · rename_i ne
                  obtain ⟨q1, q2⟩ := q
                  dsimp only at e1
                  subst e1
                  rw [List.lookup_cons, show (m == p.1) = false from beq_eq_false_iff_ne.mpr fun z => ne z.symm]
                  exact ih e2 g
          rw [this hkk q2] at z
          cases z
      · rw [add_zer] at x1
        refine run_args S1 hk x1 fun rs ρ2 vs H2 A2 F2 hk2 hl S2 rr2 st2 => ?_
        have self : RR X.K ⟨X.mg, B.η⟩ (al A2) (hid (tot (add O F2) A2) H2) H2 (.ref a) zer (.ref i) := ⟨rfl, st2.al _ _ ha⟩
        have rrs := RRs.cons self (rr2.defs dq)
        rw [zer_add] at rrs
        refine call_ok (E := E) S2 rrs (by simp [hl]; omega) hk2 (st1.trans st2 fun _ n => n) kk.exc fun r ρ' z => by cases z; exact kk.oks
    · cases hk
  · cases hk
theorem de_methX {ms : List (M R)} (c0 : MetG X.prog X.w X.K X.mg X.base (L2N.CX X.prog X.w) k c m n dts (spM X.K X.mg n f)) (tk : ∀ σ, PassesAt (L2N.CX X.prog X.w) X σ (E σ)) (quiet : Quiet X.A) (hr : Room j X.A) (hk : k ≤ j) (hn : ms.length + 1 + dts.length = n) (ho : DE X E o mo) (ha : DA X E (e :: es) (mArgs ms))
    (he : starEach (e :: es) X.env = (false, eval e X.env) :: starEach es X.env := by rfl) (hpl : (backTo pos (starEach es X.env)).any (·.1) = false := by rfl)
    (ht : eval (.Call (.Attribute o m apos) (e :: es) [] pos) X.env = (do
      let ov ← eval o X.env
      standAt apos.atName
      let (f, first) ← holding [ov] (getMethod ov m pl)
      callWith pos f first (backTo pos (starEach (e :: es) X.env)) (backToKw pos (keywordEach [] X.env))) := by rfl) :
    DE X E (.Call (.Attribute o m apos) (e :: es) [] pos) (mMethX c m f dts mo ms) := by
  obtain ⟨C, g, fd, ps, ds, dvs, hC, cl, me, F, bi, vd, dq, rfl⟩ := c0.ex
  refine ⟨pe_imp (pe_methG (pl := pl) (E := E) F cl me bi vd quiet (hr.mono hk) tk ho.pe ha.pa fun I h => ?_) fun σ H Q h => run_methX hC dq hn h⟩
  refine PySem.W.methodCall_KW (pl := pl) (wpAny_mono h (fun ov s1 h1 => wpAny_mono h1 (fun fx s2 h2 => ?_) fun _ _ q => q) fun _ _ q => q) ht
  obtain ⟨us0, rfl, kin, h3⟩ := h2
  exact PySem.W.callWith_K (first := us0) (h₀ := X.base) I.ok.mod.kin me.kp h3 he hpl
theorem de_methX0 (c0 : MetG X.prog X.w X.K X.mg X.base (L2N.CX X.prog X.w) k c m n dts (spM X.K X.mg n f)) (tk : ∀ σ, PassesAt (L2N.CX X.prog X.w) X σ (E σ)) (quiet : Quiet X.A) (hr : Room j X.A) (hk : k ≤ j) (hn : 1 + dts.length = n) (ho : DE X E o mo)
    (ht : eval (.Call (.Attribute o m apos) [] [] pos) X.env = (do
      let ov ← eval o X.env
      standAt apos.atName
      let (f, first) ← holding [ov] (getMethod ov m pl)
      callWith pos f first (backTo pos (starEach [] X.env)) (backToKw pos (keywordEach [] X.env))) := by rfl) :
    DE X E (.Call (.Attribute o m apos) [] [] pos) (mMethX c m f dts mo []) := by
  obtain ⟨C, g, fd, ps, ds, dvs, hC, cl, me, F, bi, vd, dq, hps⟩ := c0.ex
  refine ⟨pe_imp (t := fun σ H Q => tMeth C m (spM X.K X.mg n f) dvs (E σ) (ERun X.K X.mg mo E) tNil σ H Q) ⟨fun pins s σ H Q I h => ?_⟩ fun σ H Q h => ?_⟩
  · refine PySem.W.methodCall_KW (pl := pl) (thn (ho.pe.run pins s σ H _ I h) fun u s1 ⟨x, H1, I1, rx, a, dx, fs, ex, ea, l, q⟩ => ?_) ht
    subst ex
    obtain rfl : u = Value.ref a := rx
    exact getmeth_ok I1 ea cl me l (PySem.W.callWith_K0 (first := [.ref a]) I1.kIn me.kp (run_fnG (E := E) (us := [.ref a]) (vs := [.ref a]) F quiet (hr.mono hk) bi vd (tk σ) I1 (.cons rfl .nil) q))
  · have q := run_methX (n := n) (ms := []) hC dq (by rw [List.length_nil, Nat.zero_add]; exact hn) h
    obtain ⟨B, O, A, ρ, out, S, hm, kk⟩ := q
    exact ⟨B, O, A, ρ, out, S, hm, kk.imp fun r ρ' q v H' A' F' S' rr st => by
      obtain ⟨a, dx, fs, e1, e2, e3, q⟩ := q v H' A' F' S' rr st
      exact ⟨a, dx, fs, e1, e2, e3, arun_nil q⟩⟩
end
end XM
end
section
/-! comprehensions whose element raises -/
namespace XM
open PySem PySem.Spec PyProof.Rows L2 Tl
end XM
end
section
/-! what an except clause catches; f'..{n}..' -/
namespace XM
open PySem PySem.Spec PyProof.Rows L2 Tl
/-- the clause 'except x': which of these classes it catches -/
structure CatG (K : PySem.W.Frag) (mg : Str → Option Value) (x : Str) (cs : List (Str × Bool)) : Prop where
  ex : ∃ C, mg x = some (.ref C) ∧ ∀ z b D, cs.lookup z = some b → mg z = some (.ref D) → PySem.W.exmOne K (.ref D) (.ref C) = some b
end XM
end
section
/-! s.split(t), list(range(a, b)) -/
namespace XM
open PySem PySem.Spec PyProof.Rows L2 Tl
end XM
end
section
namespace Cm
open PySem PySem.Spec PyProof.Rows L2 Tl XM
/-! Session.base : 0 self -/
/-! find_form : 0 word, 1 many, 2 form -/
/-! parse_name : 0 piece -/
/-! parse_text : 0 piece, 1 text -/
/-! parse_number : 0 piece, 1 digits, 2 number -/
/-! parse_part : 0 letter, 1 piece -/
/-! parse_statement : 0 string, 1 word, 2 pieces, 3 form, 4 parts, 5 n, 6 letter, 7 piece -/
/-! Session._prepare : 0 self, 1 name, 2 string, 3 parts -/
/-! drop_table : 0 store, 1 name, 2 left, 3 table -/
/-! run_on_store : 0 store, 1 parts, 2 word, 3 name, 4 terms, 5 action -/
/-! Session._run_statement : 0 self, 1 parts, 2 name, 3 answer -/
/-! Session._run : 0 self, 1 name, 2 most, 3 portal, 4 answer -/
/-! Session._run_command : 0 self, 1 command, 2 name, 3 string, 4 portal, 5 values, 6 most -/
/-! Session.run_batch : 0 self, 1 commands, 2 replies, 3 failed, 4 command, 5 reply -/
/-! _law_start : 0 first, 1 k -/
/-! _law_batches : 0 cell, 1 count, 2 batches, 3 k -/
/-! _law_fits : 0 command, 1 reply -/
/-! _law_replies_hold : 0 commands, 1 replies, 2 wrong, 3 skipped, 4 k -/
/-! _law_ends : 0 replies, 1 reply -/
/-! _law_kept : 0 tables, 1 name, 2 rows -/
/-! law : 0 script, 1 session, 2 mode, 3 commands, 4 before, 5 told, 6 words, 7 cell, 8 command -/
end Cm
end
section
/-! properties -/
namespace XM
open PySem PySem.Spec PyProof.Rows L2 Tl
/-- the property f of the class named c, its getter stands in the text as st -/
structure PDnG (K : PySem.W.Frag) (mg : Str → Option Value) (c f qual : Str) (st : Stmt) (ps : List Str) : Prop where
  ex : ∃ C p g fd, mg c = some (.ref C) ∧ Cls K C ∧ PropOf K C f p g ∧ Fun K f qual st g fd ∧ L2.Binds K fd ps []
structure PrpG (P : Program) (w : World) (K : PySem.W.Frag) (mg : Str → Option Value) (base : Heap) (k : Nat) (c f : Str) (sp : Sp) : Prop where
  ex : ∃ C p g fd ps, mg c = some (.ref C) ∧ Cls K C ∧ PropOf K C f p g ∧ FnG P w K mg base CX0 k g fd ps sp ∧ L2.Binds K fd ps [] ∧ ps.length = 1
section
variable {P : Program} {w : World} {K : PySem.W.Frag} {mg : Str → Option Value} {base : Heap} {c m qual : Str} {st : Stmt} {N ps : List Str} {k n j : Nat} {b : SM} {dts : List D}
theorem pp0n (D : PDnG K mg c m qual st ps) (S : FnScope N ps (defScope st)) (hl : ps.length ≤ N.length) (hn : N.length = n) (hj : ps.length = 1)
    (hb : ∀ (f : Addr) (cdv : Value) (A : Around) (outer : List Env) (s : Shared) (H : Hp) (E : XK), Quiet (A.deeper (envOfC qual (defScope st) s.heap.objs.size f cdv)) → Room k (A.deeper (envOfC qual (defScope st) s.heap.objs.size f cdv)) → DSs (cxOf CX0 P w K mg base N qual (defScope st) f cdv A outer s H E).nox (fun _ _ _ _ => False) (defBody st) b) :
    PrpG P w K mg base (k + 1) c m (sp0 K mg 1 (mDef n b)) := by
  subst hn
  obtain ⟨C, p, g, fd, hc, cl, me, F, bi⟩ := D.ex
  refine ⟨C, p, g, fd, ps, hc, cl, me, fnG_of F S (fun vs H Q E h => (sp_len h).trans hj.symm) fun cdv A outer s H vs Q E hq hr h => ?_, bi, hj⟩
  obtain ⟨η, O, F, as, out, e, p1, p2, p3, hm, kk⟩ := h
  exact ⟨_, (hb g cdv A outer s H E hq hr).pss.nox, body_run p1 p2 p3 (by rw [e, ← hj]; exact hl) hm kk⟩
end
/-- e.f, a property -/
def mProp (c : Str) (f : FM) (mo : M R) : M R := bnd mo fun ro ρ0 => match clsAt ro ρ0 with
  | some (_, c', _) => if c' = c then noEx (callM f [ro]) ρ0 else none
  | none => none
section
variable {X : Cx} {k j : Nat} {C p g a dx : Addr} {fs : List (Str × V)} {f c : Str} {fd : FuncData} {ps : List Str} {sp : Sp} {E : EK} {e : Expr} {pos : Pos} {ta : TE} {mo : M R} {m : FM}
theorem getpropG_ok {pins : List (Addr × Obj)} {σ : L2.St} {H : Hp} {s : Shared} {Q : VK} {b : Bool} {E' : Value → Shared → Prop} {E0 : XK} (I : L2.Inv X pins σ H s) (ea : H a = some (.ins C dx fs)) (c : Cls X.K C) (hp : PropOf X.K C f p g)
    (F : FnG X.prog X.w X.K X.mg X.base CX0 k g fd ps sp) (quiet : Quiet X.A) (hr : Room (k + 1) X.A) (hb : L2.Binds X.K fd ps []) (h : sp [.ref a] H Q E0) :
    wpAny (model X.prog X.w) X.A (getAttr (.ref a) f b) (EP X pins σ Q) E' s := by
  obtain ⟨mA, O, _, _, _, _⟩ := ins_get I.hok ea
  obtain ⟨od, J, _⟩ := O.look
  obtain ⟨rest, hrec⟩ := hp.rec_
  have I1 := I.tok (s.toks + 1)
  have hl : ([Value.ref a] ++ ([] : List Value)).length = ps.length := by
    rw [← F.len _ _ _ _ h]
    rfl
  have hc : (PySem.W.clsIn X.K C).isSome = true := by
    obtain ⟨cd, hc, _⟩ := PySem.W.any_some c.hd
    rw [hc]
    rfl
  refine PySem.W.get_bind I.kIn J (PySem.W.plainGet_of (c.get f)).1 (PySem.W.findObj_data hc hp.at_ hp.get hp.tak) (PySem.W.plainGet_of (c.get f)).2 (wpAny_call (PySem.W.prop_get (s := { s with toks := s.toks + 1 }) I.kIn hrec ?_))
  refine codeAny_mono (F.run X.A.in1 X.stack { s with toks := s.toks + 1 } H ⟨[.ref a], []⟩ [.ref a] [.ref a] Q E0 quiet hr.in1 I1.env0.in1 (hb _ [.ref a] I1.kIn hl) (.cons rfl .nil) h) fun r s' hq => ?_
  cases r with
  | error er => exact False.elim hq
  | ok fl =>
    cases fl with
    | ret u =>
      obtain ⟨v, H', I3, rv, q3⟩ := I1.after hq
      show wpAny _ _ (handedOut u) _ _ _
      rw [PySem.W.handedOut_of (handed_of rv)]
      exact wpAny_pure ⟨v, H', I3, rv, q3⟩
    | next => exact False.elim hq
    | brk => exact False.elim hq
    | cont => exact False.elim hq
theorem de_prop (c0 : PrpG X.prog X.w X.K X.mg X.base k c f (sp0 X.K X.mg 1 m)) (quiet : Quiet X.A) (hr : Room (j + 1) X.A) (hk : k ≤ j) (ho : DE X E e mo)
    (hab : attributeBase e f X.env (eval e X.env) = eval e X.env := by rfl) : DE X E (.Attribute e f pos) (mProp c m mo) := by
  obtain ⟨C, p, g, fd, ps, hC, cl, me, F, bi, hl⟩ := c0.ex
  refine ⟨pe_imp (t := tProp C (sp0 X.K X.mg 1 m) [] (fun _ _ _ => False) (ERun X.K X.mg mo E)) ⟨fun pins s σ H Q I h => ?_⟩ fun σ H Q h => ?_⟩
  · refine attr_of hab (thn (ho.pe.run pins s σ H _ I h) fun u s1 ⟨x, H1, I1, rx, a, dx, fs, ex, ea, q⟩ => ?_)
    subst ex
    obtain rfl : u = Value.ref a := rx
    exact getpropG_ok I1 ea cl me F quiet (hr.mono (Nat.succ_le_succ hk)) bi q
  · obtain ⟨B, O, A, ρ, out, S, hm, kk⟩ := h
    refine run_bnd S hm kk.exc fun ro ρ1 v H1 A1 F1 hk S1 rr1 st1 x1 => ?_
    split at hk
    · rename_i i c' fs e1
      split at hk
      · rename_i q
        subst q
        obtain ⟨a, C', dx, fvs, Fn, pr, rfl, rfl, rfl, ha, hC', ho, hkk, _, _, _⟩ := clsAt_ok S1 rr1 e1
        rw [add_zer] at S1 st1
        have : C' = C := by have z := hC.symm.trans hC'; cases z; rfl
        subst this
        refine ⟨a, dx, fvs, rfl, ho, ?_⟩
        obtain ⟨r, ρ', rfl, e2⟩ := noEx_some hk
        have self : RR X.K ⟨X.mg, B.η⟩ (al A1) (hid (tot O A1) H1) H1 (.ref a) zer (.ref i) := ⟨rfl, ha⟩
        have rrs := RRs.cons self .nil
        rw [add_zer] at rrs
        exact call_ok (E := fun _ _ _ _ => False) (by rw [add_zer]; exact S1) (by rw [add_zer]; exact rrs) rfl e2 (by rw [add_zer]; exact st1) (fun c ρ' z => nomatch z) fun r ρ' z => by cases z; exact kk.oks
      · cases hk
    · cases hk
end
end XM
end
section
/-! methods with defaults, methods called with keywords -/
namespace XM
open PySem PySem.Spec PyProof.Rows L2 Tl
/-- the method m of the class named c has defaults, of which dts fill up -/
structure MDnE (K : PySem.W.Frag) (mg : Str → Option Value) (c m qual : Str) (st : Stmt) (ps : List Str) (dts : List D) : Prop where
  ex : ∃ C f fd ds dvs advs, mg c = some (.ref C) ∧ Cls K C ∧ Meth K C m f ∧ FunD K m qual (defArgs st) (defBody st) (defScope st) advs [] f fd ∧ L2.Binds K fd ps ds ∧ Vals dvs ds ∧ ∀ G, DqAll K G dvs dts
/-- .. is called with keywords only, in the parameters' order -/
structure MDnK (K : PySem.W.Frag) (mg : Str → Option Value) (c m qual : Str) (st : Stmt) (ps ks : List Str) : Prop where
  ex : ∃ C f fd advs, mg c = some (.ref C) ∧ Cls K C ∧ Meth K C m f ∧ FunD K m qual (defArgs st) (defBody st) (defScope st) advs [] f fd ∧ KBn K fd ps 1 ks (fun us ws => us ++ ws) (fun vs zs => vs ++ zs)
structure MetK (P : Program) (w : World) (K : PySem.W.Frag) (mg : Str → Option Value) (base : Heap) (CX : CXT) (k : Nat) (c m : Str) (ks : List Str) (sp : Sp) : Prop where
  ex : ∃ C f fd ps, mg c = some (.ref C) ∧ Cls K C ∧ Meth K C m f ∧ FnG P w K mg base CX k f fd ps sp ∧ KBn K fd ps 1 ks (fun us ws => us ++ ws) (fun vs zs => vs ++ zs)
section
variable {P : Program} {w : World} {K : PySem.W.Frag} {mg : Str → Option Value} {base : Heap} {c m qual : Str} {st : Stmt} {N ps ks : List Str} {k n j : Nat} {b : SM} {dts : List D}
theorem mtXe (D : MDnE K mg c m qual st ps dts) (S : FnScope N ps (defScope st)) (hl : ps.length ≤ N.length) (hn : N.length = n) (hj : ps.length = j)
    (hb : ∀ (f : Addr) (cdv : Value) (A : Around) (outer : List Env) (s : Shared) (H : Hp) (E : XK), Quiet (A.deeper (envOfC qual (defScope st) s.heap.objs.size f cdv)) → Room k (A.deeper (envOfC qual (defScope st) s.heap.objs.size f cdv)) → DSs (cxOf (L2N.CX P w) P w K mg base N qual (defScope st) f cdv A outer s H E) (fun _ => E) (defBody st) b) :
    MetG P w K mg base (L2N.CX P w) (k + 1) c m j dts (spM K mg j (mDef n b)) := by
  subst hn hj
  obtain ⟨C, f, fd, ds, dvs, advs, hc, cl, me, F, bi, vd, dq⟩ := D.ex
  refine ⟨C, f, fd, ps, ds, dvs, hc, cl, me, fnG_ofD F S (fun vs H Q E h => sp_len h) fun cdv A outer s H vs Q E hq hr h => ?_, bi, vd, dq, rfl⟩
  obtain ⟨η, O, F, as, out, e, p1, p2, p3, hm, kk⟩ := h
  exact ⟨_, (hb f cdv A outer s H E hq hr).pss, body_run p1 p2 p3 (by rw [e]; exact hl) hm kk⟩
theorem mtXk (D : MDnK K mg c m qual st ps ks) (S : FnScope N ps (defScope st)) (hl : ps.length ≤ N.length) (hn : N.length = n) (hj : ps.length = j)
    (hb : ∀ (f : Addr) (cdv : Value) (A : Around) (outer : List Env) (s : Shared) (H : Hp) (E : XK), Quiet (A.deeper (envOfC qual (defScope st) s.heap.objs.size f cdv)) → Room k (A.deeper (envOfC qual (defScope st) s.heap.objs.size f cdv)) → DSs (cxOf (L2N.CX P w) P w K mg base N qual (defScope st) f cdv A outer s H E) (fun _ => E) (defBody st) b) :
    MetK P w K mg base (L2N.CX P w) (k + 1) c m ks (spM K mg j (mDef n b)) := by
  subst hn hj
  obtain ⟨C, f, fd, advs, hc, cl, me, F, bi⟩ := D.ex
  refine ⟨C, f, fd, ps, hc, cl, me, fnG_ofD F S (fun vs H Q E h => sp_len h) fun cdv A outer s H vs Q E hq hr h => ?_, bi⟩
  obtain ⟨η, O, F, as, out, e, p1, p2, p3, hm, kk⟩ := h
  exact ⟨_, (hb f cdv A outer s H E hq hr).pss, body_run p1 p2 p3 (by rw [e]; exact hl) hm kk⟩
end
/-! ### keywords -/
structure DK (X : Cx) (E : EK) (kws : List Keyword) (m : M (List R)) : Prop where
  pk : PK X kws (ARun X.K X.mg m E)
theorem pk_imp {X : Cx} {es : List Keyword} {t t' : TA} (h : PK X es t) (i : ∀ σ H Q, t' σ H Q → t σ H Q) : PK X es t' := ⟨fun pos pins s σ H Q I q => h.run pos pins s σ H Q I (i _ _ _ q)⟩
section
variable {X : Cx} {E : EK} {e : Expr} {kws : List Keyword} {nm : Option Str} {kpos : Pos}
theorem dk_nil : DK X E [] (mArgs []) := by
  refine ⟨pk_imp pk_nil fun σ H Q h => ?_⟩
  obtain ⟨B, O, A, ρ, out, S, hm, k⟩ := h
  obtain rfl := Option.some.inj hm
  exact k.oks [] H A zer (by rw [add_zer]; exact S) .nil (by rw [add_zer]; exact Stp.refl)
theorem dk_cons {m : M R} {ms : List (M R)} (ha : DE X E e m) (hr : DK X E kws (mArgs ms)) : DK X E (⟨nm, e, kpos⟩ :: kws) (mArgs (m :: ms)) := by
  refine ⟨pk_imp (pk_cons ha.pe hr.pk) fun σ H Q h => ?_⟩
  obtain ⟨B, O, A, ρ, out, S, hm, k⟩ := h
  refine run_bnd S hm k.exc fun r ρ1 v H1 A1 F hk S1 rr1 st1 x1 => ?_
  refine run_bndA S1 hk x1 fun rs ρ2 vs H2 A2 F2 hk2 S2 rr2 st2 x2 => ?_
  obtain rfl := Option.some.inj hk2
  have st := st1.trans st2 fun a n => add_l n
  rw [add_assoc] at S2 rr2 st
  have rr1' := rr1.step st2 (fun a n => add_r n)
  rw [add_assoc] at rr1'
  exact k.oks (v :: vs) H2 A2 (add F F2) S2 (.cons rr1' rr2) st
end
/-! ### the call -/
section
variable {X : Cx} {CX : CXT} {E : EK} {o e : Expr} {kws : List Keyword} {c m x : Str} {f : FM} {mo : M R} {k j n : Nat} {p apos pos : Pos} {pl : Sem Bool} {ks ps : List Str} {fd : FuncData} {fa : Addr} {sp : Sp}
theorem run_fnK {pins : List (Addr × Obj)} {σ : L2.St} {H : Hp} {s : Shared} {Q : VK} {us ws : List Value} {vs zs : List V} (F : FnG X.prog X.w X.K X.mg X.base CX k fa fd ps sp) (quiet : Quiet X.A) (hr : Room k X.A) (hb : KBn X.K fd ps n ks (fun us ws => us ++ ws) (fun vs zs => vs ++ zs)) (hx : PassesAt CX X σ (E σ))
    (I : L2.Inv X pins σ H s) (r : Vals vs us) (rz : Vals zs ws) (l1 : us.length = n) (l2 : ws.length = ks.length) (h : sp (vs ++ zs) H Q (E σ)) : wpAny (model X.prog X.w) X.A (call (.ref fa) us (ks.zip ws)) (EP X pins σ Q) X.xe s := by
  refine wpAny_call (codeAny_mono (F.run X.A X.stack s H ⟨us, ks.zip ws⟩ (us ++ ws) (vs ++ zs) Q (E σ) quiet hr I.env0 (hb.to s us ws I.kIn l1 l2) (hb.rel r rz) h) fun r s2 got => ?_)
  rcases r with e | fl
  · exact hx pins H s e s2 I got
  · cases fl with
    | ret u => exact I.after got
    | next => exact got.elim
    | brk => exact got.elim
    | cont => exact got.elim
theorem de_methK {ms : List (M R)} (c0 : MetK X.prog X.w X.K X.mg X.base (L2N.CX X.prog X.w) k c m ks (spM X.K X.mg n f)) (tk : ∀ σ, PassesAt (L2N.CX X.prog X.w) X σ (E σ)) (quiet : Quiet X.A) (hr : Room j X.A) (hk : k ≤ j) (hn : ms.length + 1 = n) (hkl : ms.length = ks.length) (ho : DE X E o mo) (ha : DK X E kws (mArgs ms))
    (hall : (backToKw pos (keywordEach kws X.env)).all (·.1.isSome) = true := by rfl) (hks : (backToKw pos (keywordEach kws X.env)).filterMap (·.1) = ks := by rfl)
    (hpl : ((backTo pos (starEach [] X.env)).any (·.1) || (backToKw pos (keywordEach kws X.env)).any (·.1.isNone)) = false := by rfl)
    (ht : eval (.Call (.Attribute o m apos) [] kws pos) X.env = (do
      let ov ← eval o X.env
      standAt apos.atName
      let (f, first) ← holding [ov] (getMethod ov m pl)
      callWith pos f first (backTo pos (starEach [] X.env)) (backToKw pos (keywordEach kws X.env))) := by rfl) :
    DE X E (.Call (.Attribute o m apos) [] kws pos) (mMethX c m f [] mo ms) := by
  obtain ⟨C, g, fd, ps, hC, cl, me, F, bi⟩ := c0.ex
  have lenR : ∀ {ms : List (M R)} {σ : L2.St} {H : Hp} {Q : List V → Hp → Prop}, ARun X.K X.mg (mArgs ms) E σ H Q → ARun X.K X.mg (mArgs ms) E σ H fun vs H1 => vs.length = ms.length ∧ Q vs H1 := by
    intro ms σ H Q h
    obtain ⟨B, O, A, ρ, out, S, hm, kk⟩ := h
    refine ⟨B, O, A, ρ, out, S, hm, ?_⟩
    cases out with
    | ex c ρ' => exact kk
    | ok rs ρ' =>
      intro vs H' A' F' S' rr st
      refine ⟨?_, kk vs H' A' F' S' rr st⟩
      rw [← rr.len]
      exact len_args hm
  refine ⟨pe_imp (t := fun σ H Q => tMeth C m (spM X.K X.mg n f) [] (E σ) (ERun X.K X.mg mo E) (ARun X.K X.mg (mArgs ms) E) σ H Q) ⟨fun pins s σ H Q I h => ?_⟩ fun σ H Q h => run_methX hC (fun _ => .nil) (by rw [List.length_nil]; exact hn) h⟩
  refine PySem.W.methodCall_KW (pl := pl) (thn (ho.pe.run pins s σ H _ I h) fun u s1 ⟨x, H1, I1, rx, a, dx, fs, ex, ea, l, q⟩ => ?_) ht
  subst ex
  obtain rfl : u = Value.ref a := rx
  refine getmeth_ok I1 ea cl me l ?_
  refine PySem.W.callWith_KW0 (h₀ := X.base) (first := [.ref a]) I.ok.mod.kin me.kp hall (thn (ha.pk.run pos pins s1 σ H1 _ I1 (lenR q)) fun ws s2 ⟨zs, H2, I2, rz, lz, q2⟩ => ⟨I2.kIn, ?_⟩) hpl
  rw [hks]
  rw [List.append_nil] at q2
  exact run_fnK (E := E) (us := [.ref a]) (vs := [.ref a]) F quiet (hr.mono hk) bi (tk σ) I2 (.cons rfl .nil) rz rfl (by rw [← rz.length, lz]; exact hkl) q2
end
end XM
end
section
set_option maxHeartbeats 2000000
/-! several clauses, each with a name -/
namespace XM
open PySem PySem.Spec PyProof.Rows L2 Tl
abbrev TSa := Addr → Value → Option Addr → TS
/-- clauses, all of which bind the same name -/
inductive Cls2 (X : Cx) (nm : Str) : List ExceptHandler → List (Value × TSa) → Prop
  | nil : Cls2 X nm [] []
  | cons {y : Str} {v : Value} {t : TSa} {s0 : Stmt} {ss : List Stmt} {q1 q2 : Pos} {hs : List ExceptHandler} {ts : List (Value × TSa)} (who : Names X y v)
      (does : ∀ (z : Addr) (zo : Obj) (zc : Value) (zd : Option Addr) (zs : List (Addr × Obj)), L2N.Zn zc zd zo → (∃ fs, zo.data = .fields fs) → PSs (X.suite z ((z, zo) :: zs)) (s0 :: ss) (t z zc zd)) (more : Cls2 X nm hs ts) :
      Cls2 X nm (.ExceptHandler (some (.Name y q1)) (some nm) (s0 :: ss) q2 :: hs) ((v, t) :: ts)
def wSome (K : PySem.W.Frag) (i : Nat) (W : WX) (D : Ends) : List (Value × TSa) → WX
  | [] => W
  | (v, t) :: r => wAs K v i t (wSome K i W D r) D
/-- an exception that was caught, and is looked at by the clauses -/
structure Ctc (X : Cx) (pins : List (Addr × Obj)) (σ : L2.St) (H : Hp) (sI : Shared) (B : Heap) (z : Addr) (zc : Value) (zd : Option Addr) (t : Shared) : Prop where
  inv : L2.Inv X pins σ H sI
  old : ∀ (b : Addr) (o : Obj), sI.heap.get? b = some o → ¬ b ∈ frs X.stack → B.get? b = some o
  upto : sI.heap.UpToSlots t.heap
  free : H z = none
  same : t.os = sI.os
  bare : AllBare t.gens
  fly : HandSPX.FlyingZ B (X.env :: X.outer) z (L2N.Zn zc zd) t.heap
section
variable {X : Cx} {pins : List (Addr × Obj)} {σ : L2.St} {H : Hp} {sI t : Shared} {B : Heap} {z : Addr} {zc : Value} {zd : Option Addr} {nm : Str} {i : Nat} {body : List Stmt} {h0 : ExceptHandler} {hds : List ExceptHandler} {l : List (Value × TSa)} {pos : Pos} {tb : WX → TS} {W0 : WX} {D : Ends}
theorem Ctc.here (c : Ctc X pins σ H sI B z zc zd t) : L2.Inv X pins σ H t := c.inv.landed c.old c.fly.1 c.upto c.same c.bare
theorem Ctc.move (c : Ctc X pins σ H sI B z zc zd t) {hp : Heap} (f : HandSPX.FlyingZ B (X.env :: X.outer) z (L2N.Zn zc zd) hp) (u : t.heap.UpToSlots hp) : Ctc X pins σ H sI B z zc zd { t with heap := hp } :=
  ⟨c.inv, c.old, c.upto.trans u, c.free, c.same, c.bare, f⟩
theorem Ctc.in_ (c : Ctc X pins σ H sI B z zc zd t) (fr : X.env.frame = some X.env.locals) : ∃ zo fs, t.heap.get? z = some zo ∧ zo.data = .fields fs ∧ L2N.Zn zc zd zo ∧ L2.Inv (X.suite z ((z, zo) :: (X.pn ++ pins))) [] σ H t := by
  obtain ⟨zo, fs, g, k, dd⟩ := c.fly.there
  have out : z ∉ frs (X.env :: X.outer) := fun m => by
    obtain ⟨_, zo', g', no⟩ := c.fly.2.2.1.mem m
    have := g.symm.trans g'
    cases this
    exact no _ dd
  have ne : z ≠ X.env.locals := fun q => out (List.mem_filterMap.mpr ⟨X.env, List.mem_cons_self, by rw [fr, q]⟩)
  have nf : z ∉ X.fs := fun m => by
    obtain ⟨en, me, q⟩ := List.mem_filterMap.mp m
    exact out (List.mem_filterMap.mpr ⟨en, List.mem_cons_of_mem _ me, q⟩)
  exact ⟨zo, fs, g, dd, k, c.here.suite g dd c.free ne nf⟩
/-- no clause is left: it goes on -/
theorem Ctc.leaves (c : Ctc X pins σ H sI B z zc zd t) (hs : X.stack = X.env :: X.outer) (fr : X.env.frame = some X.env.locals) (tk : L2N.Takes X W0) (w : W0 zc zd σ H) : wpAny (model X.prog X.w) X.A (handleBy (.ref z) X.env []) (SP X pins D) X.xe t := by
  refine wpAny_handleBy_nil ?_
  have last : wpAny (model X.prog X.w) X.A (setFlight (.ref z) X.env.frame) (fun _ t2 => wpAny (model X.prog X.w) X.A (throw (.ref z) : Sem Flow) (SP X pins D) X.xe t2) X.xe t := by
    rw [fr]
    refine HandSPX.setFlight_upZ c.fly fun hp held u => wpAny_throw (tk _ _ ?_)
    exact ⟨z, B, sI, pins, σ, H, zc, zd, rfl, c.inv, c.old, c.upto.trans u, .inr (.inr (by rw [hs]; exact held)), c.free, c.same, c.bare, w⟩
  obtain ⟨_, _, _, zo, fs, T, _, _, g, _, dd, tr, _⟩ := id c.fly
  unfold PySem.passOn
  refine wpAny_bind (wpAny_field g dd tr ?_)
  rw [if_neg (show ¬ ((Value.ref T == Value.none) = true) by simp)]
  first
    | exact wpAny_bind (wpAny_pure (wpAny_bind last))
    | exact wpAny_bind last
/-- the clauses are asked one after another -/
theorem Ctc.asks (c : Ctc X pins σ H sI B z zc zd t) (hs : X.stack = X.env :: X.outer) (fr : X.env.frame = some X.env.locals) (ok : X.Ok) (nd : X.N.Nodup) (hi : X.N[i]? = some nm) (kd : X.env.kindOf nm = some .local) (tk : L2N.Takes X W0) :
    ∀ {hds : List ExceptHandler} {l : List (Value × TSa)}, Cls2 X nm hds l → wSome X.K i W0 D l zc zd σ H → wpAny (model X.prog X.w) X.A (handleBy (.ref z) X.env hds) (SP X pins D) X.xe t := by
  intro hds l k
  induction k with
  | nil => exact fun w => c.leaves hs fr tk w
  | @cons y v ta s0 ss q1 q2 more ts who does _ ih =>
    rintro ⟨b, eb, yes, no⟩
    obtain ⟨zo, fs, g, dd, kz, S⟩ := c.in_ fr
    have asked : ∀ {Q E : Value → Shared → Prop}, Q v t → wpAny (model X.prog X.w) (X.A.mark (some (.ref z))) (eval (.Name y q1) X.env) Q E t := fun {Q E} q => by
      obtain ⟨gl, db, m | ⟨m, bb, nn⟩⟩ := who
      · exact ld_glob (X := X.suite z ((z, zo) :: (X.pn ++ pins))) S gl m q db
      · exact ld_blt (X := X.suite z ((z, zo) :: (X.pn ++ pins))) S gl m bb q nn db
    have ty : PySem.W.Looks (model X.prog X.w) t.heap (typeOf (.ref z)) zc := fun _ Q _ _ kp q => wpAny_typeOf_ref (kp _ _ g) (by rw [kz.1]; exact q)
    refine wpAny_handleBy_cons (codeAny_handlers_test (asked ((PySem.W.exm_one (M := model X.prog X.w) c.here.kIn ty eb).here ?_))) (by intro q; cases q)
    cases b with
    | false => exact ih (no rfl)
    | true =>
      refine codeAny_handlers_suite_as (HandSPX.lands_againZ c.fly fun hp f u => ?_)
      have c2 := c.move f u
      obtain ⟨zo2, fs2, _, dd2, k2, S2⟩ := c2.in_ fr
      refine store_ok (X := X.suite z ((z, zo2) :: (X.pn ++ pins))) (v := .ref z) S2 nd hi (.inl kd) rfl (fun t3 S3 => ?_) (.inr kd)
      refine wpAny_mono ((does z zo2 zc zd (X.pn ++ pins) k2 ⟨_, dd2⟩).run [] t3 _ H _ S3 (yes rfl z c.free)) (fun fl t4 got => ?_) fun _ _ no => no.elim
      have tidy : ∀ {σ4 : L2.St} {H4 : Hp} {Q : Shared → Prop}, L2.Inv (X.suite z ((z, zo2) :: (X.pn ++ pins))) [] σ4 H4 t4 → (∀ t5, L2.Inv X pins (σ4.set i none) H4 t5 → Q t5) →
          wpAny (model X.prog X.w) X.A (do bindName X.env nm .none; unbindBehindTheSuite X.env nm q2) (fun _ t5 => Q t5) X.xe t4 := fun I4 go => gone_ok (I4.unsuite ok) nd hi kd go
      match fl, got with
      | .next, ⟨_, _, I4, q⟩ => exact tidy I4 fun _ I5 => ⟨_, _, I5, q⟩
      | .brk, ⟨_, _, I4, q⟩ => exact tidy I4 fun _ I5 => ⟨_, _, I5, q⟩
      | .cont, ⟨_, _, I4, q⟩ => exact tidy I4 fun _ I5 => ⟨_, _, I5, q⟩
      | .ret u, ⟨_, _, _, I4, r, q⟩ => exact tidy I4 fun _ I5 => ⟨_, _, _, I5, r, q⟩
/-- try: body, then clauses that bind a name -/
theorem ps_tries (hs : X.stack = X.env :: X.outer) (fr : X.env.frame = some X.env.locals) (nd : X.N.Nodup) (hi : X.N[i]? = some nm) (kd : X.env.kindOf nm = some .local) (tk : L2N.Takes X W0)
    (inn : ∀ (W : WX) (zs : List (Addr × Obj)) (xe : Value → Shared → Prop), L2N.Takes (X.tr zs xe) W → PassesOwn (model X.prog X.w) X.A X.env xe → PSs (X.tr zs xe) body (tb W)) (k : Cls2 X nm (h0 :: hds) l) :
    PS X (.Try body (h0 :: hds) [] [] pos) (fun D σ H => tb (wSome X.K i W0 D l) D σ H) := by
  refine ⟨fun pins s σ H D I want => ?_⟩
  have ok := I.ok
  refine wpAny_Try_except (wpAny_mono ((inn (wSome X.K i W0 D l) (X.pn ++ pins) _ (fun u s1 got => ?_) PassesOwn.looking).run [] s σ H D (I.toTry _) want) (fun fl s1 got => ?_) fun _ _ x => x)
  · obtain ⟨z, B, sI, pins2, σ2, H2, zc, zd, rfl, J, old, upto, sky, free, same, bare, w⟩ := got
    rw [show (X.tr (X.pn ++ pins) _).stack = X.env :: X.outer from hs] at sky
    refine L2N.Sky.land L2N.Zn.steady (by rw [ok.frames, hs]) fr sky fun hp fly up2 => ?_
    have c : Ctc X pins σ2 H2 sI B z zc zd { s1 with heap := hp } := ⟨J.ofTry ok, old, upto.trans up2, free, same, bare, fly⟩
    exact c.asks hs fr ok nd hi kd tk k w
  · match fl, got with
    | .next, ⟨_, _, I2, q⟩ => exact wpAny_execs_nil ⟨_, _, I2.ofTry ok, q⟩
    | .brk, ⟨_, _, I2, q⟩ => exact ⟨_, _, I2.ofTry ok, q⟩
    | .cont, ⟨_, _, I2, q⟩ => exact ⟨_, _, I2.ofTry ok, q⟩
    | .ret u, ⟨_, _, _, I2, r, q⟩ => exact ⟨_, _, _, I2.ofTry ok, r, q⟩
end
end XM
end
section
/-! try: body; clauses that hand back a list of constants -/
namespace XM
open PySem PySem.Spec PyProof.Rows L2 Tl
/-- which classes a clause catches, and what it hands back -/
abbrev Hd := List (Str × Bool) × R
def pickC (c : Str) (ρ : Fr) : List Hd → Option SO
  | [] => some (.ex c ρ)
  | (cs, l) :: r => match cs.lookup c with
    | some true => some (.rt l ρ)
    | some false => pickC c ρ r
    | none => none
def mTryC (i : Nat) (hl : List Hd) (mb : SM) : SM := fun ρ => match mb ρ with
  | some (.ex c ρ1) => if i < ρ1.sl.length then pickC c ρ1 hl else none
  | o => o
/-- what a clause does: it hands back a new list with the items vs -/
def tHands (mg : Str → Option Value) (i : Nat) (cs : List (Str × Bool)) (vs : List V) : TSa := fun z zc zd D σ H =>
  σ[i]? = some (some (.ref z)) ∧ H z = none ∧ zd = none ∧ (∃ c C, cs.lookup c = some true ∧ mg c = some (.ref C) ∧ zc = .ref C) ∧ ∀ H' p, Same H H' → H p = none → H' p = some (.lst vs) → D.rt (.ref p) H'
/-- .. it hands back an atom -/
def tHandsD (mg : Str → Option Value) (i : Nat) (cs : List (Str × Bool)) (v : V) : TSa := fun z zc zd D σ H =>
  σ[i]? = some (some (.ref z)) ∧ H z = none ∧ zd = none ∧ (∃ c C, cs.lookup c = some true ∧ mg c = some (.ref C) ∧ zc = .ref C) ∧ ∀ H', Same H H' → D.rt v H'
theorem StC.same {K : PySem.W.Frag} {mg : Str → Option Value} {B : Bs} {O : Ft} {A : Al} {ρ : Fr} {σ : L2.St} {H H' : Hp} (S : StC K mg B O A ρ σ H) (s : Same H H') : StC K mg B O A ρ σ H' ∧ Sto O A H O A H' := by
  have eq : ∀ a, H a ≠ none → H' a = H a := fun a n => by
    cases h : H a with
    | none => exact absurd h n
    | some u => exact s a u h
  have sh : Same (hid (tot O A) H) (hid (tot O A) H') := fun a u h => by
    obtain ⟨h1, h2⟩ := hid_some h
    exact hid_at h1 (s a u h2)
  refine ⟨S.move sh (fun a n => eq a (S.al a (by unfold tot add; omega))) S.le1 (fun a n => ?_), ⟨fun a n => eq a (S.al a (by unfold tot add; omega)), sh⟩⟩
  have := S.al a n
  rw [eq a this]
  exact this
inductive Cls3 (X : Cx) (nm : Str) (i : Nat) : List ExceptHandler → List Hd → Prop
  | nil : Cls3 X nm i [] []
  | cons {y : Str} {v : Value} {cs : List (Str × Bool)} {vs : List V} {l : List D} {s0 : Stmt} {ss : List Stmt} {q1 q2 : Pos} {hs : List ExceptHandler} {hl : List Hd} (who : Names X y v)
      (cat : ∀ z b C, cs.lookup z = some b → X.mg z = some (.ref C) → PySem.W.exmOne X.K (.ref C) v = some b) (dq : ∀ G, DqAll X.K G vs l)
      (does : ∀ (z : Addr) (zo : Obj) (zc : Value) (zd : Option Addr) (zs : List (Addr × Obj)), L2N.Zn zc zd zo → (∃ fs, zo.data = .fields fs) → PSs (X.suite z ((z, zo) :: zs)) (s0 :: ss) (tHands X.mg i cs vs z zc zd)) (more : Cls3 X nm i hs hl) :
      Cls3 X nm i (.ExceptHandler (some (.Name y q1)) (some nm) (s0 :: ss) q2 :: hs) ((cs, .own (.dl l)) :: hl)
  | atom {y : Str} {v : Value} {cs : List (Str × Bool)} {u : V} {d : D} {s0 : Stmt} {ss : List Stmt} {q1 q2 : Pos} {hs : List ExceptHandler} {hl : List Hd} (who : Names X y v)
      (cat : ∀ z b C, cs.lookup z = some b → X.mg z = some (.ref C) → PySem.W.exmOne X.K (.ref C) v = some b) (dq : ∀ G, Dq X.K G u d)
      (does : ∀ (z : Addr) (zo : Obj) (zc : Value) (zd : Option Addr) (zs : List (Addr × Obj)), L2N.Zn zc zd zo → (∃ fs, zo.data = .fields fs) → PSs (X.suite z ((z, zo) :: zs)) (s0 :: ss) (tHandsD X.mg i cs u z zc zd)) (more : Cls3 X nm i hs hl) :
      Cls3 X nm i (.ExceptHandler (some (.Name y q1)) (some nm) (s0 :: ss) q2 :: hs) ((cs, .dat d) :: hl)
section
variable {X : Cx} {E : EK} {nm : Str} {i : Nat} {body : List Stmt} {h0 : ExceptHandler} {hds : List ExceptHandler} {hl : List Hd} {pos : Pos} {mb : SM}
theorem Cls3.to (k : Cls3 X nm i hds hl) : ∃ l, Cls2 X nm hds l ∧ ∀ (B : Bs) (O : Ft) (A : Al) (H : Hp) (D : Ends) (c : Str) (C : Addr) (ρ1 : Fr) (out : SO) (σ1 : L2.St) (H1 : Hp) (A1 : Al), i < σ1.length → X.mg c = some (.ref C) → StC X.K X.mg B O A1 ρ1 σ1 H1 → Sto O A H O A1 H1 → pickC c ρ1 hl = some out →
    AftS X.K X.mg B O A H E D out → wSome X.K i (fun cls d σ H => E σ cls d H) D l (.ref C) none σ1 H1 := by
  induction k with
  | nil => exact ⟨[], .nil, fun B O A H D c C ρ1 out σ1 H1 A1 _ hc S st e kk => by cases e; exact kk C σ1 H1 A1 hc S st⟩
  | @cons y v cs vs l s0 ss q1 q2 hs hl who cat dq does _ ih =>
    obtain ⟨ls, k2, go⟩ := ih
    refine ⟨(v, tHands X.mg i cs vs) :: ls, .cons who does k2, fun B O A H D c C ρ1 out σ1 H1 A1 hi hc S st e kk => ?_⟩
    unfold pickC at e
    split at e
    · rename_i lk
      cases e
      refine ⟨true, cat c true C lk hc, fun _ a na => ⟨?_, na, rfl, ⟨c, C, lk, hc, rfl⟩, fun H2 p s np hp => ?_⟩, (fun q => nomatch q)⟩
      · rw [List.getElem?_set_self hi]
      · obtain ⟨S2, st2⟩ := S.grown s np hp
        have zz : RR X.K ⟨X.mg, B.η⟩ (al A1) (hid (tot (add O (one p)) A1) H2) H2 (.ref p) (add (one p) zer) (.own (.dl l)) := .dl hp (dq _)
        rw [add_zer] at zz
        exact kk σ1 (.ref p) H2 A1 (one p) S2 zz (st.trans st2.toSto fun _ n => n)
    · rename_i lk
      exact ⟨false, cat c false C lk hc, (fun q => nomatch q), fun _ => go B O A H D c C ρ1 out σ1 H1 A1 hi hc S st e kk⟩
    · cases e
  | @atom y v cs u d s0 ss q1 q2 hs hl who cat dq does _ ih =>
    obtain ⟨ls, k2, go⟩ := ih
    refine ⟨(v, tHandsD X.mg i cs u) :: ls, .cons who does k2, fun B O A H D c C ρ1 out σ1 H1 A1 hi hc S st e kk => ?_⟩
    unfold pickC at e
    split at e
    · rename_i lk
      cases e
      refine ⟨true, cat c true C lk hc, fun _ a na => ⟨?_, na, rfl, ⟨c, C, lk, hc, rfl⟩, fun H2 s => ?_⟩, (fun q => nomatch q)⟩
      · rw [List.getElem?_set_self hi]
      · obtain ⟨S2, st2⟩ := S.same s
        exact kk σ1 u H2 A1 zer (by rw [add_zer]; exact S2) ⟨rfl, dq _⟩ (by rw [add_zer]; exact st.trans st2 fun _ n => n)
    · rename_i lk
      exact ⟨false, cat c false C lk hc, (fun q => nomatch q), fun _ => go B O A H D c C ρ1 out σ1 H1 A1 hi hc S st e kk⟩
    · cases e
theorem ds_tryC (hs : X.stack = X.env :: X.outer) (hf : X.env.frame = some X.env.locals) (nd : X.N.Nodup) (hi : X.N[i]? = some nm) (kd : X.env.kindOf nm = some .local) (tk : Hears X E)
    (hb : ∀ (E' : EK) (pn : List (Addr × Obj)) (xe : Value → Shared → Prop), Hears (X.tr pn xe) E' → PassesOwn (model X.prog X.w) X.A X.env xe → DSs (X.tr pn xe) E' body mb)
    (k : Cls3 X nm i (h0 :: hds) hl) : DS X E (.Try body (h0 :: hds) [] [] pos) (mTryC i hl mb) := by
  obtain ⟨l, k2, go⟩ := k.to (E := E)
  refine ⟨ps_imp (ps_tries (tb := fun W => SRun X.K X.mg mb (fun σ cls d H => W cls d σ H)) hs hf nd hi kd tk (fun W pn xe tkW po => (hb (fun σ cls d H => W cls d σ H) pn xe tkW po).pss) k2) fun D σ H h => ?_⟩
  obtain ⟨B, O, A, ρ, out, S, hm, kk⟩ := h
  unfold mTryC at hm
  split at hm
  · rename_i c ρ1 e
    split at hm
    · rename_i lt
      exact ⟨B, O, A, ρ, _, S, e, fun C σ1 H1 A1 hc S1 st => go B O A H D c C ρ1 out σ1 H1 A1 (by rw [S1.slen]; exact lt) hc S1 st hm kk⟩
    · cases hm
  · rename_i o ne
    refine ⟨B, O, A, ρ, out, S, hm, ?_⟩
    cases out with
    | nx ρ' => exact kk
    | bk ρ' => exact kk
    | ct ρ' => exact kk
    | rt r ρ' => exact kk
    | ex z ρ' => exact absurd hm (ne z ρ')
end
end XM
end
section
/-! in a def that an except suite calls: a comprehension over a range, isinstance of the exception -/
namespace Hq
open PySem PySem.Spec PyProof.Rows L2
/-- p is the exception that is handled; it stood at the entry, out of the reach of what is tracked -/
structure Held (X : Cx) (p : Addr × Obj) : Prop where
  hh : X.A.handled = some (.ref p.1)
  vs : ∃ vs : Array Value, p.2.data = .fields vs ∧ vs[2]? = some .none
  was : X.s_0.heap.get? p.1 = some p.2
  untr : X.H_0 p.1 = none
  nofr : p.1 ∉ X.fs
  noex : p.1 ∉ X.ex
section
variable {X : Cx} {p : Addr × Obj} {pins : List (Addr × Obj)} {σ : L2.St} {H : Hp} {s : Shared}
theorem Held.is (h : Held X p) (I : Inv X pins σ H s) : s.heap.get? p.1 = some p.2 ∧ H p.1 = none :=
  ⟨I.base.keep _ _ h.was h.untr h.nofr h.noex, I.base.free _ _ h.was h.untr h.noex⟩
theorem Held.hot (h : Held X p) (I : Inv X pins σ H s) : HotX.HotAt X.A p.1 s.heap := by
  obtain ⟨vs, e1, e2⟩ := h.vs
  exact ⟨h.hh, p.2, vs, (h.is I).1, e1, e2⟩
theorem held_def {CX : CXT} {P : Program} {w : World} {K : PySem.W.Frag} {mg : Str → Option Value} {base : Heap} {N : List Str} {qual : Str} {scope : Scope} {f : Addr} {cd : Value} {A : Around} {outer : List Env} {E : XK}
    (h1 : L2H.Hot1 A p) (h2 : L2H.PinOk outer H s p) : Held (L2H.cxH CX P w K mg base N qual scope f cd A outer s H E p) p :=
  ⟨h1.1, h1.2, h2.get, h2.free, h2.nofs, fun z => absurd (show p.1 ∈ ([] : List Addr) from z) (by simp)⟩
/-- within a block of such a def -/
theorem held_blk {scope : Scope} {ce : Env} {fp : List Addr} (h : Held X p) (i : CqN.In X s H scope ce fp) (hp : p ∈ X.pn) : Held (X.blk s H scope ce fp) p := by
  obtain ⟨pins, σ, I, hfp⟩ := i.inv
  have z := h.is I
  have q := I.pin p (List.mem_append_left _ hp)
  refine ⟨h.hh, h.vs, z.1, z.2, fun hm => ?_, fun hm => ?_⟩
  · rcases List.mem_cons.mp (I.stkSub p.1 hm) with e | e
    · exact q.2.2.1 e
    · exact q.2.2.2.1 e
  · exact (hfp p.1 hm).2.2.2.2.2 p (List.mem_append_left _ hp) rfl
/-- isinstance(e, C), e the exception -/
theorem call_isH {D : Addr} (h : Held X p) (C : ExcC X.K D) (hz : Zc (.ref D) none p.2) : CallR X (.builtin "isinstance") (rIsE X.K D p.1) := by
  intro pins s σ H xs us Q I r want
  obtain ⟨c, cv, b, rfl, hcv, e, q⟩ := want
  cases r with
  | cons rx rr =>
  cases rr with
  | cons rt rr =>
  cases rr
  cases rx
  obtain rfl := hcv _ rt
  have got := (h.is I).1
  obtain ⟨vs, hv, _⟩ := h.vs
  have J : PySem.W.InstAt s.heap p.1 p.2 D none := by
    obtain ⟨a, oc, od, oda, osl⟩ := p
    obtain ⟨k1, k2⟩ := hz
    dsimp only at k1 k2 hv
    subst k1 k2 hv
    exact ⟨got, rfl, rfl, trivial⟩
  exact PySem.W.kia_one (PySem.W.handS_kitx_exc C.hg C.hk C.hs C.hd C.ha C.hn C.ht C.hm) I.kIn J e (fun z => nomatch z) fun tk => ⟨.bl b, H, I.kept (t' := tk) fun _ _ z => z, rfl, q⟩
end
/-- an iterator that turns there -/
structure TurnH (P : Program) (w : World) (K : PySem.W.Frag) (tg : Expr) (J : It) (fp : List Addr) (it : Addr) (tn : Nat → Heap → Prop) : Prop where
  obj : ∀ i h, tn i h → ∀ b ∈ fp, ∃ o, h.get? b = some o ∧ ∀ v, o.data ≠ .cell v
  keep : ∀ i h h', tn i h → (∀ b ∈ fp, ∀ o, h.get? b = some o → h'.get? b = some o) → tn i h'
  item : ∀ (X : Cx) (p : Addr × Obj), X.prog = P → X.w = w → X.K = K → Held X p → ∀ (i : Nat) (pins : List (Addr × Obj)) (s : Shared) (σ : L2.St) (H : Hp) (E : Value → Shared → Prop),
    Inv X pins σ H s → (∀ b ∈ fp, FpOk X pins H b) → tn i s.heap → J.go i H →
    wpAny (model P w) X.A (pyNext (.ref it)) (fun r s1 => ∃ u, r = some u ∧ wpAny (model P w) X.A (letOwnedTupleGo tg (.ref it) u)
      (fun _ s2 => ∃ x H', Inv X pins σ H' s2 ∧ RelV x u ∧ J.yld i H x H' ∧ tn (i + 1) s2.heap ∧ ∀ b ∈ fp, H' b = none) E s1) E s
  over : ∀ (X : Cx) (p : Addr × Obj), X.prog = P → X.w = w → X.K = K → Held X p → ∀ (i : Nat) (pins : List (Addr × Obj)) (s : Shared) (σ : L2.St) (H : Hp) (E : Value → Shared → Prop),
    Inv X pins σ H s → (∀ b ∈ fp, FpOk X pins H b) → tn i s.heap → J.stop i H → wpAny (model P w) X.A (pyNext (.ref it)) (fun r s1 => r = none ∧ Inv X pins σ H s1) E s
  iter : ∀ (A : Around) (i : Nat) (s : Shared) (Q E : Value → Shared → Prop), tn i s.heap → Q (.ref it) s → wpAny (model P w) A (pyIter (.ref it)) Q E s
theorem turnH_range {P : Program} {w : World} {K : PySem.W.Frag} {tg : Expr} (it : Addr) (lo : Int) (n : Nat) :
    TurnH P w K tg (Itr lo n) [it] it (fun i h => IsRangeIter h it (lo + (i : Nat)) ((n : Int) - (i : Nat)) 1) where
  obj := fun i h st b hb => by
    obtain rfl : b = it := List.mem_singleton.mp hb
    exact ⟨_, st, fun v z => by cases (show Data.fields _ = Data.cell v from z)⟩
  keep := fun i h h' st k => k it (List.mem_singleton.mpr rfl) _ st
  item := by
    intro X p e1 e2 e3 hp i pins s σ H E I hf st lt
    subst e1 e2 e3
    have lt : i < n := lt
    obtain ⟨f0, f1, f2, f3, f4, f5⟩ := hf it (List.mem_singleton.mpr rfl)
    refine wpAny_pyNext_range_item st (by omega) fun h' nxt sb => ?_
    have J1 := I.turned (h' := h') (t' := s.toks + 1) (fun b o hb e => (sb.2 b hb).trans e) f0 f1 f3 f4 f5
    have nx2 : IsRangeIter h' it (lo + ((i + 1 : Nat) : Int)) ((n : Int) - ((i + 1 : Nat) : Int)) 1 := by
      rw [show lo + ((i + 1 : Nat) : Int) = lo + (i : Int) + 1 by omega, show (n : Int) - ((i + 1 : Nat) : Int) = (n : Int) - (i : Int) - 1 by omega]
      exact nxt
    refine ⟨_, rfl, go_of (n := "range_iterator") nxt rfl rfl (by decide) ⟨.int (lo + i), H, J1, ⟨_, rfl⟩, ⟨rfl, rfl⟩, nx2, fun b hb => (hf b hb).1⟩⟩
  over := by
    intro X p e1 e2 e3 hp i pins s σ H E I hf st le
    subst e1 e2 e3
    have le : n ≤ i := le
    obtain ⟨f0, f1, f2, f3, f4, f5⟩ := hf it (List.mem_singleton.mpr rfl)
    exact HotX.pyNext_range_end_hot (hp.hot I) st (by omega) fun h' k => ⟨rfl, I.kept (t' := s.toks) k⟩
  iter := fun _ _ _ _ _ st q => wpAny_pyIter_rangeiter st q
/-- range(..) walked there -/
def PIEH (X : Cx) (pins : List (Addr × Obj)) (σ : L2.St) (tg : Expr) (R : It → Hp → Prop) (v : Value) (s : Shared) : Prop :=
  ∃ (it : Addr) (fp : List Addr) (tn : Nat → Heap → Prop) (J : It) (H' : Hp), v = .ref it ∧ Inv X pins σ H' s ∧ TurnH X.prog X.w X.K tg J fp it tn ∧ tn 0 s.heap ∧ (∀ b ∈ fp, FpOk X pins H' b) ∧ R J H'
structure PIH (X : Cx) (tg iter : Expr) (wi : TI) : Prop where
  run : ∀ (pins : List (Addr × Obj)) (s : Shared) (σ : L2.St) (H : Hp) (R : It → Hp → Prop), Inv X pins σ H s → wi σ H R →
    wpAny (model X.prog X.w) X.A (eval iter X.env) (fun v s1 => wpAny (model X.prog X.w) X.A (pyIter v) (PIEH X pins σ tg R) X.xe s1) X.xe s
theorem rangeH {X : Cx} {tg : Expr} {pins : List (Addr × Obj)} {σ : L2.St} {H : Hp} {s : Shared} {R : It → Hp → Prop} {E : Value → Shared → Prop} {lo hi : Int} {t u v : Tok} {tk : Nat} (I : Inv X pins σ H s)
    (b1 : -(2 ^ 62) ≤ lo ∧ lo < 2 ^ 62) (b2 : -(2 ^ 62) ≤ hi ∧ hi < 2 ^ 62) (q : R (Itr lo (hi - lo).toNat) H) :
    wpAny (model X.prog X.w) X.A (pyIter (.ref s.heap.objs.size)) (PIEH X pins σ tg R) E { s with heap := s.heap.push { cls := .type "range", data := .fields #[.int lo t, .int hi u, .int 1 v] }, toks := tk } := by
  refine wpAny_pyIter_range (IsRange.new ..) (small_one b1.1 b1.2 b2.1 b2.2) ?_
  obtain ⟨h1, e1⟩ : ∃ h1, h1 = s.heap.push { cls := .type "range", data := .fields #[.int lo t, .int hi u, .int 1 v] } := ⟨_, rfl⟩
  rw [← e1]
  have J1 : Inv X pins σ H { s with heap := h1, toks := tk } := I.kept fun b o e => by rw [e1]; exact Heap.get?_push_of_some _ e
  have J2 := J1.kept (h' := h1.push { cls := .type "range_iterator", data := .fields #[rawInt lo, rawInt (Builtin.Range.rangeSize lo hi 1), rawInt 1] }) (t' := tk) fun b o e => Heap.get?_push_of_some _ e
  refine ⟨h1.objs.size, [h1.objs.size], _, _, H, rfl, J2, turnH_range _ lo (hi - lo).toNat, ?_, fun b hb => ?_, q⟩
  · have z : (((hi - lo).toNat : Nat) : Int) - ((0 : Nat) : Int) = Builtin.Range.rangeSize lo hi 1 := by
      rw [rangeSize_one]
      split <;> omega
    show IsRangeIter _ _ (lo + ((0 : Nat) : Int)) ((((hi - lo).toNat : Nat) : Int) - ((0 : Nat) : Int)) 1
    rw [z, show lo + ((0 : Nat) : Int) = lo by simp]
    exact Heap.get?_push_size _ rfl
  · obtain rfl : b = h1.objs.size := List.mem_singleton.mp hb
    exact J1.fpOk (Nat.le_refl _) (J1.hok.fresh (Nat.le_refl _))
theorem piH_range1 {X : Cx} {tg a : Expr} {ta : TA} {p pos : Pos} (hg : Gl X "range") (hm : X.mg "range" = none) (ha : PA X [a] ta) (hs : starEach [a] X.env = [(false, eval a X.env)] := by rfl) : PIH X tg (.Call (.Name "range" p) [a] [] pos) (iRng1 ta) := by
  constructor
  intro pins s σ H R I want
  refine Call_ (ld_blt I hg hm boot_range (PyProof.Rows.callWith_type1 (thn (ha.run pos pins s σ H _ I want) fun us s1 hh => ?_) hs rfl))
  obtain ⟨vs, H1, I1, r1, j, rfl, b1, b2, q⟩ := hh
  cases r1 with
  | cons r rr =>
  cases rr
  obtain ⟨t, rfl⟩ := r
  exact call_range_1 (rangeH I1 ⟨by omega, by omega⟩ ⟨b1, b2⟩ (by simpa using q))
theorem turnsH {X : Cx} {s s' : Shared} {H H' : Hp} {scope : Scope} {ce : Env} {fp : List Addr} {τ : L2.St} (J : Inv (X.blk s H scope ce fp) [] τ H' s') (n : ∀ b ∈ fp, H' b = none) : ∀ b ∈ fp, FpOk (X.blk s H scope ce fp) [] H' b := CqN.turns_in J n
/-- [elt for target in range(..) if ..] there -/
theorem pe_lcH {X : Cx} {p : Addr × Obj} {elt tg iter : Expr} {ifs : List Expr} {scope : Scope} {own : List (Str × Nat)} {pos : Pos} {wi : TI} {g : TG} {tt : TT} {te : TE}
    (hp : Held X p) (mp : p ∈ X.pn) (hN : X.N.Nodup) (hi : PIH X tg iter wi) (ok : BlkOk X.N X.env.scope scope own)
    (hg : ∀ s H C cl fp, PG (X.blk s H scope (compEnvC scope cl C X.env) fp) tg g)
    (ht : ∀ s H C cl fp, Held (X.blk s H scope (compEnvC scope cl C X.env) fp) p → PTs (X.blk s H scope (compEnvC scope cl C X.env) fp) ifs tt)
    (he : ∀ s H C cl fp, Held (X.blk s H scope (compEnvC scope cl C X.env) fp) p → PE (X.blk s H scope (compEnvC scope cl C X.env) fp) elt te)
    (hs : ∀ x, foldedSetIterable iter X.env x = pure x := by intro _; rfl) : PE X (.ListComp elt [⟨tg, iter, ifs, 0⟩] scope pos) (tLc wi g tt te (own.map (·.2))) := by
  refine ⟨fun pins s σ H Q I want => ?_⟩
  rw [eval_ListComp]
  have free : ∀ y ∈ scope.names, y.2 = .free → ∃ c, X.env.cells.lookup y.1 = some c := by
    intro y hy e
    exact (ok.free y hy e).elim (fun k => I.ok.has _ (.inl k)) fun k => I.ok.has _ (.inr k)
  refine wpAny_comprehension_free (use := none) rfl hs (closure_ok free) ok.kind (fun y hy e => (ok.uniq y hy).trans (by rw [e])) ?_
  refine thn (hi.run pins s σ H _ I want) fun xv sa hx => thn hx fun itv sb hy => ?_
  obtain ⟨it, fp, tn, J, H2, rfl, I2, T, begun, own2, q⟩ := hy
  refine wpAny_newObj_type (newEnv_comp ?_) (Nat.zero_le _)
  obtain ⟨D, hD⟩ : ∃ D, D = sb.heap.objs.size := ⟨_, rfl⟩
  have nD : H2 D = none := I2.hok.fresh (by rw [hD]; exact Nat.le_refl _)
  obtain ⟨W, ⟨m0, w0⟩, turn⟩ := q D nD
  rw [← hD]
  have atD : (sb.heap.push { cls := .type "list", data := .seq ([] : List Value).toArray }).get? D = some { cls := .type "list", data := .seq ([] : List Value).toArray } := by
    rw [hD]
    exact Heap.get?_push_size _ rfl
  obtain ⟨sc, hsc⟩ : ∃ sc : Shared, sc = { sb with heap := sb.heap.push { cls := .type "list", data := .seq ([] : List Value).toArray } } := ⟨_, rfl⟩
  have more : ∀ b o, sb.heap.get? b = some o → sc.heap.get? b = some o := fun b o e => by
    rw [hsc]
    exact Heap.get?_push_of_some _ e
  have Ic : Inv X pins σ (upd H2 D (.lst [])) sc := by
    have := I2.laid (a := D) (o := .lst []) (t' := sb.toks) (h' := sc.heap) more (by rw [hD]; exact Nat.le_refl _) ⟨Nat.zero_le _, [], 0, .nil, by rw [hsc]; exact atD⟩
    rw [hsc] at this ⊢
    exact this
  have under : ∀ b ∈ fp, b < sb.heap.objs.size := fun b hbf => by
    obtain ⟨o, e, _⟩ := T.obj _ _ begun b hbf
    exact Heap.lt_size e
  have sz : sc.heap.objs.size = sb.heap.objs.size + 1 := by rw [hsc]; exact Heap.size_push ..
  have fine : ∀ b ∈ fp, FpOk X pins (upd H2 D (.lst [])) b ∧ b < sc.heap.objs.size := fun b hbf => by
    have lt := under b hbf
    have z := own2 b hbf
    refine ⟨⟨?_, z.2⟩, by rw [sz]; exact Nat.lt_succ_of_lt lt⟩
    rw [upd_ne (by rw [hD]; exact Nat.ne_of_lt lt)]
    exact z.1
  have begun3 : tn 0 sc.heap := T.keep _ _ _ begun fun b _ o e => more b o e
  have I4 := block_start Ic ok hN fine
  obtain ⟨cl, hcl⟩ : ∃ cl, cl = cellsFrom (sc.heap.objs.size + 1) scope.names (cloFrom X.env.cells scope.names []) := ⟨_, rfl⟩
  obtain ⟨C, hC⟩ : ∃ C, C = sc.heap.objs.size := ⟨_, rfl⟩
  obtain ⟨ce, hce⟩ : ∃ ce, ce = compEnvC scope cl C X.env := ⟨_, rfl⟩
  obtain ⟨H3, hH3⟩ : ∃ H3, H3 = upd H2 D (.lst []) := ⟨_, rfl⟩
  rw [← hH3] at Ic w0 fine I4
  have inX : CqN.In X sc H3 scope (compEnvC scope cl C X.env) fp := ⟨⟨pins, σ, Ic, fun b hbf => (fine b hbf).1⟩, hC, rfl⟩
  have hb := held_blk hp inX mp
  have pg := hg sc H3 C cl fp
  have pt := ht sc H3 C cl fp hb
  have pe := he sc H3 C cl fp hb
  rw [← hcl, ← hC, ← hce] at I4
  rw [← hce] at pg pt pe hb
  have cL : ce.locals = C := by rw [hce]; rfl
  obtain ⟨sd, hsd⟩ : ∃ sd : Shared, sd = { sc with heap := pushCells (sc.heap.push { cls := .type "dict", data := .dict #[] }) scope.names } := ⟨_, rfl⟩
  rw [← hsd] at I4
  have begun4 : tn 0 sd.heap := T.keep _ _ _ begun3 fun b _ o e => by
    rw [hsd]
    exact pushCells_keeps _ _ _ _ (Heap.get?_push_of_some _ e)
  have nfp : ∀ b ∈ fp, H3 b = none := fun b hbf => (fine b hbf).1.1
  have goal : codeAny (model X.prog X.w) X.A (.compStart (.ListComp elt [⟨tg, iter, ifs, 0⟩] scope pos) 0 (.ref it) (.ref D) ce)
      (compPost (model X.prog X.w) X.A X.xe none (EP X pins σ Q) (.ref D) C) sd := by
    have loop : codeAny (model X.prog X.w) X.A (.compLoop (.ListComp elt [⟨tg, iter, ifs, 0⟩] scope pos) 0 (.ref it) (.ref D) ce)
        (compPost (model X.prog X.w) X.A X.xe none (EP X pins σ Q) (.ref D) C) sd := by
      refine compLoop_any (fun n s' => ∃ i H', Inv (X.blk sc H3 scope ce fp) [] (wipe σ (own.map (·.2))) H' s' ∧ tn i s'.heap ∧ (∀ b ∈ fp, H' b = none) ∧ W i n H') ?_ m0 ⟨0, H3, I4, begun4, nfp, w0⟩
      rintro n s5 ⟨i, H5, I5, at5, n5, w5⟩
      rcases turn i n H5 w5 with ⟨stop, fin⟩ | ⟨go, Nx, hNx, step⟩
      · have ends := T.over (X.blk sc H3 scope ce fp) p rfl rfl rfl hb i [] s5 _ H5 (fun _ _ => False) I5 (turnsH I5 n5) at5 stop
        refine thnF ends fun r s6 ⟨er, I6⟩ => ?_
        subst er
        have I7 : Inv X pins σ H5 s6 := Ic.call' (ch := fp) I6.os I6.base I6.hok I6.bare fun b hbf => by
          obtain ⟨z1, z2, z3, z4, z5, z6⟩ := (fine b hbf).1
          exact ⟨z4, z2, z5, z6⟩
        obtain ⟨m, hn, _⟩ := I6.loc
        have hn : s6.heap.Ns ce.locals m := hn
        have nC : H5 ce.locals = none := I6.free
        rw [cL] at hn nC
        refine ⟨m, hn, fun h'' sb'' => ?_⟩
        obtain ⟨f0, f1, f2, f3, f4, f5⟩ := Ic.fpOk (b := C) (by rw [hC]; exact Nat.le_refl _) nC
        exact ⟨.ref D, H5, I7.turned (t' := s6.toks) (fun b o ne e => (sb''.2 b ne).trans e) f0 f1 f3 f4 f5, rfl, fin⟩
      · have draw := T.item (X.blk sc H3 scope ce fp) p rfl rfl rfl hb i [] s5 _ H5 (fun _ _ => False) I5 (turnsH I5 n5) at5 go
        refine thnF draw fun r s6 ⟨u, er, h6⟩ => ?_
        subst er
        refine thnF h6 fun _ s7 ⟨x, H7, I7, r7, y7, at7, n7⟩ => ?_
        have I7p := I7.pinned (turnsH I7 n7) (T.obj _ _ at7)
        refine thnF (pg.run _ s7 _ H7 x u _ I7p r7 (step x H7 y7)) fun _ s8 ⟨σ8, H8, I8, hw8, q8⟩ => ?_
        refine thnF (pt.run _ s8 σ8 H8 _ I8 q8) fun b s9 ⟨H9, I9, q9⟩ => ?_
        have again : ∀ {s' : Shared} {H' : Hp}, Inv (X.blk sc H3 scope ce fp) ([] ++ pinsAt fp s7.heap) σ8 H' s' → Nx H' →
            ∃ m, m < n ∧ ∃ i H', Inv (X.blk sc H3 scope ce fp) [] (wipe σ (own.map (·.2))) H' s' ∧ tn i s'.heap ∧ (∀ b ∈ fp, H' b = none) ∧ W i m H' := by
          intro s' H' K nx
          obtain ⟨m', lt, w'⟩ := hNx H' nx
          have pinned : ∀ b ∈ fp, ∀ o, s7.heap.get? b = some o → s'.heap.get? b = some o ∧ H' b = none := by
            intro b hbf o e
            have z := K.pin (b, o) (List.mem_append_right _ (List.mem_append_right _ (mem_pinsAt hbf e)))
            exact ⟨z.1, z.2.1⟩
          have len : (wipe σ (own.map (·.2))).length = σ8.length := by
            rw [← hw8, wipe_length]
          refine ⟨m', lt, i + 1, H', (K.unpinned (pins := [])).weak len (fun j v e => (wipe_some (hw8 ▸ e)).1), T.keep _ _ _ at7 (fun b hbf o e => (pinned b hbf o e).1), fun b hbf => ?_, w'⟩
          obtain ⟨o, e, _⟩ := T.obj _ _ at7 b hbf
          exact (pinned b hbf o e).2
        cases b with
        | false =>
          simp only [Bool.false_eq_true, if_false] at q9 ⊢
          exact again I9 q9
        | true =>
          simp only [if_true] at q9 ⊢
          refine thnF (pe.run _ s9 σ8 H9 _ I9 q9) fun z sz ⟨yv, H10, I10, r10, acc, atD10, lt10, nx⟩ => ?_
          exact app_ok (X := X.blk sc H3 scope ce fp) I10 atD10 lt10 r10 fun s11 I11 => again I11 nx
    exact codeAny_compStart_list loop (T.iter X.A 0 _ _ _ begun4 loop)
  rw [hsc] at hcl hC hsd
  rw [hce, hcl, hC, hsd] at goal
  exact goal
end Hq
end
section
/-! a def that is called in an except suite and is told the exception -/
namespace Hq
open PySem PySem.Spec PyProof.Rows L2 L2H
structure FnK (P : Program) (w : World) (K : PySem.W.Frag) (mg : Str → Option Value) (base : Heap) (k : Nat) (f : Addr) (fd : FuncData) (ps : List Str) (sp : Addr × Obj → Sp) : Prop where
  len : ∀ p vs H Q E, sp p vs H Q E → vs.length = ps.length
  run : ∀ (A : Around) (outer : List Env) (s : Shared) (H : Hp) (args : Args) (us : List Value) (vs : List V) (Q : VK) (p : Addr × Obj), RoomH k A → Hot1 A p → PinOk outer H s p →
    Env0 P w K mg base A outer s H → BindsTo s fd args (ps.zip us) → Vals vs us → sp p vs H Q E0 → codeAny (model P w) A (.call (.ref f) args) (CR CX0 outer P w H s Q E0) s
structure PrK (P : Program) (w : World) (K : PySem.W.Frag) (mg : Str → Option Value) (base : Heap) (k : Nat) (x : Str) (ps : List Str) (sp : Addr × Obj → Sp) : Prop where
  ex : ∃ f fd, mg x = some (.ref f) ∧ PySem.W.keepIn K (.ref f) = true ∧ Binds K fd ps [] ∧ FnK P w K mg base k f fd ps sp
section
variable {P : Program} {w : World} {K : PySem.W.Frag} {mg : Str → Option Value} {base : Heap}
theorem prK {x : Str} {st : Stmt} {N ps : List Str} {k : Nat} {sp : Addr × Obj → Sp} (D : Tl.Dn K mg x st ps) (S : FnScope N ps (defScope st)) (len : ∀ p vs H Q E, sp p vs H Q E → vs.length = ps.length)
    (hbody : ∀ (f : Addr) (cdv : Value) (A : Around) (outer : List Env) (s : Shared) (H : Hp) (vs : List V) (Q : VK) (p : Addr × Obj), Hot1 A p → PinOk outer H s p → RoomH k (A.deeper (envOfC x (defScope st) s.heap.objs.size f cdv)) → sp p vs H Q E0 →
      ∃ t, PSs (cxH CX0 P w K mg base N x (defScope st) f cdv A outer s H E0 p) (defBody st) t ∧ t { nx := fun _ H' => Q .non H', rt := Q } (L2.start N vs) H) : PrK P w K mg base (k + 1) x ps sp := by
  obtain ⟨f, fd, hm, F, b⟩ := D.ex
  have kp := F.kp
  obtain ⟨oc, od, kV, doc, pm, an, cdv, ct, osl, rfl, lk, hcd⟩ := F.ex
  refine ⟨f, _, hm, kp, b, len, ?_⟩
  intro A outer s H args us vs Q p hr hot pin e0 hb r want
  have keepB : ∀ b o, base.get? b = some o → s.heap.get? b = some o := fun b o e => (e0.bs b o e).1
  have KX := e0.mod.kin.keeps keepB
  have lim := e0.mod.nolimit.keeps keepB
  have kinds : ∀ y ∈ ps.zip us, (defScope st).names.lookup y.1 = some .local ∨
      ((defScope st).names.lookup y.1 = some .cell ∧ ((cellsFrom (s.heap.objs.size + 1) (defScope st).names []).lookup y.1).isSome = true) := by
    rintro ⟨n, v⟩ hy
    exact (S.par n (List.of_mem_zip hy).1).imp id fun q => ⟨q, PySem.W.cellsFrom_some _ _ _ (.inl q)⟩
  refine codeAny_call_function hr.depth (KX _ _ lk) rfl S.co S.gen rfl (PySem.W.codeRec_of KX hcd) (hb _ _ _ _ (wpAny_newFunctionEnv_cells S.kind kinds ?_))
  intro env he s1 inc
  subst he
  refine ⟨lim.keeps inc.toInCall.keep, codeAny_func ?_⟩
  obtain ⟨t, ht, hq⟩ := hbody f cdv A outer s H vs Q p hot pin (hr.deeper _) want
  have I := inv_startH (CX := CX0) (E := E0) S pin e0 (len _ _ _ _ _ want) r inc
  refine wpAny_mono (ht.run [] s1 _ H _ I hq) (fun fl s' hs => ?_) fun e s' hs => hs
  cases fl with
  | ret u =>
    obtain ⟨v, σ', H', J, rv, q⟩ := hs
    exact ⟨v, H', J.os, J.bare, J.base, J.hok, rv, q⟩
  | next =>
    obtain ⟨σ', H', J, q⟩ := hs
    exact ⟨.non, H', J.os, J.bare, J.base, J.hok, rfl, q⟩
  | brk =>
    obtain ⟨_, _, _, bad⟩ := hs
    exact False.elim bad
  | cont =>
    obtain ⟨_, _, _, bad⟩ := hs
    exact False.elim bad
end
section
variable {X : Cx} {k : Nat} {x : Str} {ps : List Str} {sp : Addr × Obj → Sp} {q pos : Pos} {e : Expr} {es : List Expr} {t : TA} {p : Addr × Obj}
theorem pe_kG {R : List V → Hp → VK → Prop} (hR : ∀ vs H Q, R vs H Q → sp p (vs ++ []) H Q E0) (c : PrK X.prog X.w X.K X.mg X.base k x ps sp) (hr : RoomH k X.A) (hot : Hot1 X.A p) (hp : p ∈ X.pn) (hg : Gl X x) (ha : PA X (e :: es) t)
    (hdb : (x == ("__debug__" : Str)) = false := by decide) (he : starEach (e :: es) X.env = (false, eval e X.env) :: starEach es X.env := by rfl) (hpl : (backTo pos (starEach es X.env)).any (·.1) = false := by rfl) :
    PE X (.Call (.Name x q) (e :: es) [] pos) (fun σ H Q => t σ H fun vs H1 => R vs H1 Q) := by
  obtain ⟨f, fd, hm, kp, hb, F⟩ := c.ex
  refine ⟨fun pins s σ H Q I want => ?_⟩
  refine wpAny_Call_Name_kw (ld_glob I hg hm (PySem.W.callWith_K (h₀ := X.base) I.ok.mod.kin kp (thn (ha.run pos pins s σ H _ I want) fun us s1 hh => ?_) he hpl) hdb)
  obtain ⟨vs, H1, I1, r, w1⟩ := hh
  refine ⟨I1.kIn, ?_⟩
  replace w1 := hR _ _ _ w1
  rw [List.append_nil] at w1
  have hl : us.length = ps.length := r.length ▸ F.len _ _ _ _ _ w1
  have b := hb s1 us I1.kIn (by rw [List.append_nil]; exact hl)
  rw [List.append_nil] at b
  obtain ⟨z1, z2, z3, z4, z5⟩ := I1.pin p (List.mem_append_left _ hp)
  have pin : PinOk X.stack H1 s1 p := by
    refine ⟨z1, z2, fun hm => ?_, z5⟩
    rcases List.mem_cons.mp (I1.stkSub p.1 hm) with z | z
    · exact z3 z
    · exact z4 z
  refine wpAny_call (codeAny_mono (F.run X.A X.stack s1 H1 ⟨us, []⟩ us vs Q p hr hot pin I1.env0 b r w1) fun r s' hq => ?_)
  cases r with
  | error e => exact hq.elim
  | ok fl =>
    cases fl with
    | ret u => exact I1.after hq
    | next => exact hq.elim
    | brk => exact hq.elim
    | cont => exact hq.elim
theorem pe_kZ {a : Addr} {oe : Obj} {cls : Value} {d : Option Addr} (hz : L2N.Zn cls d oe) (c : PrK X.prog X.w X.K X.mg X.base k x ps sp) (hr : RoomH k X.A) (hot : Hot1 X.A (a, oe)) (hp : (a, oe) ∈ X.pn) (hg : Gl X x) (ha : PA X (e :: es) t)
    (hdb : (x == ("__debug__" : Str)) = false := by decide) (he : starEach (e :: es) X.env = (false, eval e X.env) :: starEach es X.env := by rfl) (hpl : (backTo pos (starEach es X.env)).any (·.1) = false := by rfl) :
    PE X (.Call (.Name x q) (e :: es) [] pos) (fun σ H Q => t σ H fun vs H1 => ∀ oe, Zc cls d oe → sp (a, oe) (vs ++ []) H1 Q E0) :=
  pe_kG (p := (a, oe)) (fun vs H Q z => z oe hz.zc) c hr hot hp hg ha hdb he hpl
end
end Hq
end
section
/-! the kinds of an error, as the laws ask for them -/
namespace XM
open PySem PySem.Spec PyProof.Rows L2 Tl
theorem pe_gref {X : Cx} {x : Str} {D : Addr} {pos : Pos} (hg : Gl X x) (hm : X.mg x = some (.ref D)) (hd : (x == ("__debug__" : Str)) = false := by decide) : PE X (.Name x pos) (tC (.ref D)) := pe_glob (v := .ref D) hg hm rfl hd
/-- isinstance(e, c) in the suite, whatever its class -/
theorem call_isS {X : Cx} {a : Addr} {oe : Obj} {pn : List (Addr × Obj)} {cls : Value} {d : Option Addr} (hz : L2N.Zn cls d oe) (hf : ∃ vs, oe.data = .fields vs) :
    CallR (X.suite a ((a, oe) :: pn)) (.builtin "isinstance") (fun xs H Q => ∃ D, cls = .ref D ∧ d = none ∧ ExcC X.K D ∧ rIsE X.K D a xs H Q) := by
  intro pins s σ H xs us Q I r want
  obtain ⟨D, rfl, rfl, C, w2⟩ := want
  exact call_isE C hz.zc hf pins s σ H xs us Q I r w2
theorem one_true {c : Str} : ∀ {cs : List (Str × Bool)}, (cs.all fun p => !p.2 || decide (p.1 = c)) = true → ∀ x, cs.lookup x = some true → x = c
  | [], _, x, h => by cases h
  | (k, b) :: r, a, x, h => by
    rw [List.all_cons, Bool.and_eq_true] at a
    rw [List.lookup_cons] at h
    split at h
    · rename_i e
      cases h
      rw [beq_iff_eq] at e
      subst e
      simpa using a.1
    · exact one_true a.2 x h
/-- errors of the class named c, which is the m-th of the six -/
structure ErrK (K : PySem.W.Frag) (mg : Str → Option Value) (c : Str) (m : Nat) (C : Addr) : Prop where
  g : mg c = some (.ref C)
  ex : ExcC K C
  c0 : ∃ D, mg "Unreadable" = some (.ref D) ∧ PySem.W.kitOne K (.ref C) (.ref D) = some (decide (m = 0))
  c1 : ∃ D, mg "InvalidCommand" = some (.ref D) ∧ PySem.W.kitOne K (.ref C) (.ref D) = some (decide (m = 1))
  c2 : ∃ D, mg "BatchFull" = some (.ref D) ∧ PySem.W.kitOne K (.ref C) (.ref D) = some (decide (m = 2))
  c3 : ∃ D, mg "TooManyBatches" = some (.ref D) ∧ PySem.W.kitOne K (.ref C) (.ref D) = some (decide (m = 3))
  c4 : ∃ D, mg "NotClosed" = some (.ref D) ∧ PySem.W.kitOne K (.ref C) (.ref D) = some (decide (m = 4))
  c5 : ∃ D, mg "NoSuchBatch" = some (.ref D) ∧ PySem.W.kitOne K (.ref C) (.ref D) = some (decide (m = 5))
  b : ∃ B, mg "EndError" = some (.ref B) ∧ PySem.W.kitOne K (.ref C) (.ref B) = some true
  ve : PySem.W.kitOne K (.ref C) (.type "ValueError") = some true
def kname (m : Nat) : Str := (["unreadable", "invalid", "full", "batches", "closed", "none"] : List Str).getD m ""
def spK (C : Addr) (m : Nat) : Addr × Obj → Sp := fun p vs H Q _ => vs = [.ref p.1] ∧ Zc (.ref C) none p.2 ∧ ∀ H' D, Same H H' → H D = none → H' D = some (.lst [.str (kname m)]) → Q (.ref D) H'
section
variable {K : PySem.W.Frag} {mg : Str → Option Value} {c : Str} {m : Nat} {C : Addr} {w : Str} {cs : List (Str × Bool)} {i : Nat} {z : Addr} {zc : Value} {zd : Option Addr} {D : Ends} {σ : L2.St} {H : Hp} {Gv : V → Prop}
theorem lay1 {s : Str} (h : PyData.canLay0 (.str s) = true) : SeqAt.shaped (.list [.str s]) = true := by
  unfold SeqAt.shaped
  rw [PyData.canLay0, PyData.canLayAll0, h, PyData.canLayAll0, PyData.depth, PyData.depthAll, PyData.depthAll, PyData.depth]
  rfl
/-- return [w, isinstance(e, ValueError) and kinds(e) == [w]] -/
theorem handsA (R : ErrK K mg c m C) (one : ∀ x, cs.lookup x = some true → x = c) (hw : kname m = w) (lw : PyData.canLay0 (.str w) = true) (h : tHands mg i cs [.str w, .bl true] z zc zd D σ H) :
    tRet (tLst (tCons (tC (V.str w)) (tCons (tAndV (tCB (fun xs H Q => ∃ D, zc = Value.ref D ∧ zd = (none : Option Addr) ∧ ExcC K D ∧ rIsE K D z xs H Q) (tCons (tVar i) (tCons (tC (V.ty "ValueError")) tNil)))
      (tOp (rEqD K) (fun σ H Q => tCons (tVar i) tNil σ H fun vs H1 => ∀ (oe : Obj), Zc zc zd oe → spK C m (z, oe) (vs ++ []) H1 Q E0) (tLst (tCons (tC (V.str w)) tNil)))) tNil))) D σ H := by
  obtain ⟨hv, nz, rfl, ⟨x, C', lk, hx, rfl⟩, q⟩ := h
  obtain rfl := one x lk
  have : C' = C := by have e := R.g.symm.trans hx; cases e; rfl
  subst this hw
  refine ⟨_, hv, C', rfl, rfl, R.ex, _, _, _, rfl, (fun u h => h), R.ve, _, rfl, iteT ?_⟩
  refine ⟨_, hv, fun oe hz => ⟨rfl, hz, fun H2 D2 sm2 nD2 at2 => ?_⟩⟩
  refine ⟨(by show 1 ≤ sizeLine; decide), fun p3 n3 => ?_⟩
  have s3 := same_upd (o := HO.lst [.str (kname m)]) n3
  refine ⟨.list [.str (kname m)], .list [.str (kname m)], .lst (SqL.of (s3 _ _ at2)) (.cons (.str _) .nil), .lst (SqL.of upd_same) (.cons (.str _) .nil), lay1 lw, lay1 lw, ?_⟩
  rw [show PyData.eqv (.list [.str (kname m)]) (.list [.str (kname m)]) = true by simp [PyData.eqv, PyData.eqvAll]]
  exact ⟨(by show 2 ≤ sizeLine; decide), fun p4 n4 => q _ p4 ((sm2.trans s3).trans (same_upd n4)) ((sm2.trans s3).free n4) upd_same⟩
/-- return [w, kinds(e) == [w]] -/
theorem handsB (R : ErrK K mg c m C) (one : ∀ x, cs.lookup x = some true → x = c) (hw : kname m = w) (lw : PyData.canLay0 (.str w) = true) (h : tHands mg i cs [.str w, .bl true] z zc zd D σ H) :
    tRet (tLst (tCons (tC (V.str w)) (tCons (tOp (rEqD K) (fun σ H Q => tCons (tVar i) tNil σ H fun vs H1 => ∀ (oe : Obj), Zc zc zd oe → spK C m (z, oe) (vs ++ []) H1 Q E0) (tLst (tCons (tC (V.str w)) tNil))) tNil))) D σ H := by
  obtain ⟨hv, nz, rfl, ⟨x, C', lk, hx, rfl⟩, q⟩ := h
  obtain rfl := one x lk
  have : C' = C := by have e := R.g.symm.trans hx; cases e; rfl
  subst this hw
  refine ⟨_, hv, fun oe hz => ⟨rfl, hz, fun H2 D2 sm2 nD2 at2 => ?_⟩⟩
  refine ⟨(by show 1 ≤ sizeLine; decide), fun p3 n3 => ?_⟩
  have s3 := same_upd (o := HO.lst [.str (kname m)]) n3
  refine ⟨.list [.str (kname m)], .list [.str (kname m)], .lst (SqL.of (s3 _ _ at2)) (.cons (.str _) .nil), .lst (SqL.of upd_same) (.cons (.str _) .nil), lay1 lw, lay1 lw, ?_⟩
  rw [show PyData.eqv (.list [.str (kname m)]) (.list [.str (kname m)]) = true by simp [PyData.eqv, PyData.eqvAll]]
  exact ⟨(by show 2 ≤ sizeLine; decide), fun p4 n4 => q _ p4 ((sm2.trans s3).trans (same_upd n4)) ((sm2.trans s3).free n4) upd_same⟩
end
end XM
end
section
/-! data that a name holds, read as data (it may be read again) -/
namespace XM
open PySem PySem.Spec PyProof.Rows L2 Tl
def shareR (r : R) (ρ : Fr) : R := match r with
  | .ref k => match ρ.rt[k]? with
    | some ⟨.dat d, _⟩ => .dat d
    | _ => .ref k
  | r => r
def mShare (m : M R) : M R := bnd m fun r ρ => some (.ok (shareR r ρ) ρ)
section
variable {X : Cx} {E : EK} {e : Expr} {m : M R}
theorem de_share (he : DE X E e m) : DE X E e (mShare m) := by
  refine ⟨pe_imp he.pe fun σ H Q h => ?_⟩
  obtain ⟨B, O, A, ρ, out, S, hm, k⟩ := h
  refine run_bnd S hm k.exc fun r ρ1 v H1 A1 F hk S1 rr1 st1 x1 => ?_
  cases hk
  have same : RR X.K ⟨X.mg, B.η⟩ (al A1) (hid (tot (add O F) A1) H1) H1 v F (shareR r ρ1) := by
    unfold shareR
    cases r with
    | ref n =>
      dsimp only
      split
      · rename_i d pr e1
        obtain ⟨hz, ha⟩ := rr1
        obtain ⟨F', hA⟩ := al_at ha
        have t := S1.rts n _ ⟨.dat d, pr⟩ hA e1
        cases t with
        | dat q => exact ⟨hz, q⟩
      · exact rr1
    | dat d => exact rr1
    | own t => exact rr1
    | fn x => exact rr1
  exact k.oks v H1 A1 F S1 same st1
end
end XM
end
section
namespace Cm
open PySem PySem.Spec PyProof.Rows L2 Tl XM
/-! Wire.__init__ : 0 self, 1 side -/
def b_Wire___init__ : SM :=
  (mSeq (mSetFld ["Wire"] "_forms" (mIfE (asB (mOp fEq (mSlot 1) (mC (.str "client")))) (mC (.tuple [(.tuple [(.str "hello"), (.str "long"), (.str "long")]), (.tuple [(.str "prepare"), (.str "name"), (.str "statement")]), (.tuple [(.str "bind"), (.str "name"), (.str "name"), (.str "values")]), (.tuple [(.str "run"), (.str "name"), (.str "most")]), (.tuple [(.str "forget"), (.str "name")]), (.tuple [(.str "close"), (.str "name")]), (.tuple [(.str "sync"), (.str "long"), (.str "long")])])) (mC (.tuple [(.tuple [(.str "welcome"), (.str "long"), (.str "long")]), (.tuple [(.str "refused"), (.str "name")]), (.tuple [(.str "ready"), (.str "long"), (.str "state")]), (.tuple [(.str "prepared"), (.str "parameters")]), (.tuple [(.str "bound")]), (.tuple [(.str "closed")]), (.tuple [(.str "skipped")]), (.tuple [(.str "rows"), (.str "flag"), (.str "rows")]), (.tuple [(.str "complete"), (.str "count")]), (.tuple [(.str "wrong"), (.str "reason")])]))) (mSlot 0))
  (mSeq (mSetFld ["Wire"] "_data" (mLst []) (mSlot 0))
  (mSetFld ["Wire"] "_broken" (mC (.bool false)) (mSlot 0))))
def m_Wire___init__ : FM := mDef 2 b_Wire___init__
/-! Line.__init__ : 0 self, 1 other_side -/
def b_Line___init__ : SM :=
  (mSeq (mSetFld ["Line"] "stage" (mC (.str "closed")) (mSlot 0))
  (mSeq (mSetFld ["Line"] "why" (mC .none) (mSlot 0))
  (mSeq (mSetFld ["Line"] "_other_side" (mShare (mSlot 1)) (mSlot 0))
  (mSeq (mSetFld ["Line"] "_wire" (mNew "Wire" m_Wire___init__ [] [(mSlot 1)]) (mSlot 0))
  (mSeq (mSetFld ["Line"] "_data" (mLst []) (mSlot 0))
  (mSetFld ["Line"] "_taken" (mC (.int 0)) (mSlot 0)))))))
def m_Line___init__ : FM := mDef 2 b_Line___init__
/-! Client.__init__ : 0 self -/
def b_Client___init__ : SM :=
  (mSeq (mSetFld ["Client"] "_line" (mNew "Line" m_Line___init__ [] [(mC (.str "server"))]) (mSlot 0))
  (mSeq (mSetFld ["Client"] "_number" (mC (.int 0)) (mSlot 0))
  (mSeq (mSetFld ["Client"] "_commands" (mLst []) (mSlot 0))
  (mSeq (mSetFld ["Client"] "_batches" (mLst []) (mSlot 0))
  (mSeq (mSetFld ["Client"] "_outcomes" (mLst []) (mSlot 0))
  (mSetFld ["Client"] "_replies" (mLst []) (mSlot 0)))))))
def m_Client___init__ : FM := mDef 1 b_Client___init__
/-! Client.phase : 0 self -/
def b_Client_phase : SM :=
  (mRet (mFld ["Line"] "stage" (mFld ["Client"] "_line" (mSlot 0))))
def m_Client_phase : FM := mDef 1 b_Client_phase
/-! Client.session : 0 self -/
def b_Client_session : SM :=
  (mRet (mFld ["Client"] "_number" (mSlot 0)))
def m_Client_session : FM := mDef 1 b_Client_session
/-! Client.handed : 0 self -/
def b_Client_handed : SM :=
  (mRet (mB fLen [(mFld ["Client"] "_batches" (mSlot 0))]))
def m_Client_handed : FM := mDef 1 b_Client_handed
/-! Client.received : 0 self -/
def b_Client_received : SM :=
  (mRet (mB fLen [(mFld ["Client"] "_outcomes" (mSlot 0))]))
def m_Client_received : FM := mDef 1 b_Client_received
/-! Line.many_to_send : 0 self -/
def b_Line_many_to_send : SM :=
  (mRet (mOp fSub (mB fLen [(mFld ["Line"] "_data" (mSlot 0))]) (mFld ["Line"] "_taken" (mSlot 0))))
def m_Line_many_to_send : FM := mDef 1 b_Line_many_to_send
/-! Client.waiting : 0 self -/
def b_Client_waiting : SM :=
  (mRet (mMeth "Line" "many_to_send" m_Line_many_to_send [] (mFld ["Client"] "_line" (mSlot 0)) []))
def m_Client_waiting : FM := mDef 1 b_Client_waiting
/-! is_integer : 0 thing -/
def b_is_integer : SM :=
  (mRet (mAndV (mIsi .int (mSlot 0)) (mV1 fNotB (mIsi .bool (mSlot 0)))))
def m_is_integer : FM := mDef 1 b_is_integer
/-! copy_reply : 0 reply -/
def b_copy_reply : SM :=
  (mSeq (mIf (asB (mOp fEq (mItems false fIx (mSlot 0) (mC (.int 0))) (mC (.str "rows"))))
    (mRet (mTup [(mC (.str "rows")), (mB fList [(mItems false fIx (mSlot 0) (mC (.int 1)))]), (mItems false fIx (mSlot 0) (mC (.int 2)))])) mNx)
  (mRet (mSlot 0)))
def m_copy_reply : FM := mDef 1 b_copy_reply
/-! Client.outcome : 0 self, 1 batch, 2 state, 3 replies, 4 reply -/
def b_Client_outcome : SM :=
  (mSeq (mIf (mOrT (mNotT (asB (mCall0 m_is_integer [(mSlot 1)]))) (mNotT (asB (mChain fLe fLe (mC (.int 1)) (mSlot 1) (mB fLen [(mFld ["Client"] "_batches" (mSlot 0))])))))
    (sRaise "NoSuchBatch" (mC (.str "no batch of this number was handed over"))) mNx)
  (mSeq (mIf (asB (mOp fGt (mSlot 1) (mB fLen [(mFld ["Client"] "_outcomes" (mSlot 0))])))
    (mRet (mC .none)) mNx)
  (mSeq (mUnpG (bSeq 2 (bCons (bName 2) (bCons (bName 3) bNil))) (mItems false fIx (mFld ["Client"] "_outcomes" (mSlot 0)) (mOp fSub (mSlot 1) (mC (.int 1)))))
  (mRet (mTup [(mSlot 2), (mLcO [4] (mSlot 3) (bName 4) mYes (mCall0 m_copy_reply [(mSlot 4)]))])))))
def m_Client_outcome : FM := mDef 5 b_Client_outcome
/-! check_name : 0 name -/
def b_check_name : SM :=
  (mIf (mOrT (mNotT (asB (mIsi .str (mSlot 0)))) (mNotT (asB (mCall0 m_is_name [(mSlot 0)]))))
    (sRaise "InvalidCommand" (mC (.str "a name has 1 to 8 letters from a to z"))) mNx)
def m_check_name : FM := mDef 1 b_check_name
/-! check_string : 0 string -/
def b_check_string : SM :=
  (mIf (mOrT (mNotT (asB (mIsi .str (mSlot 0)))) (mNotT (asB (mCall0 m_may_be_prepared [(mSlot 0)]))))
    (sRaise "InvalidCommand" (mC (.str "a string that is prepared has at most 200 signs"))) mNx)
def m_check_string : FM := mDef 1 b_check_string
/-! Client._add : 0 self, 1 command -/
def b_Client__add : SM :=
  (mSeq (mIf (asB (mOp fGe (mB fLen [(mFld ["Client"] "_commands" (mSlot 0))]) (mC (.int 20))))
    (sRaise "BatchFull" (mC (.str "a batch has at most 20 commands"))) mNx)
  (mSeq (mExpr (mAppend (mFld ["Client"] "_commands" (mSlot 0)) (mSlot 1)))
  (mRet (mOp fSub (mB fLen [(mFld ["Client"] "_commands" (mSlot 0))]) (mC (.int 1))))))
def m_Client__add : FM := mDef 2 b_Client__add
/-! Client.prepare : 0 self, 1 name, 2 string -/
def b_Client_prepare : SM :=
  (mSeq (mExpr (mCall m_check_name [(mSlot 1)]))
  (mSeq (mExpr (mCall m_check_string [(mSlot 2)]))
  (mRet (mMethX "Client" "_add" m_Client__add [] (mSlot 0) [(mTup [(mC (.str "prepare")), (mSlot 1), (mSlot 2)])]))))
def m_Client_prepare : FM := mDef 3 b_Client_prepare
/-! is_value : 0 thing -/
def b_is_value : SM :=
  (mSeq (mIf (asB (mIsi .str (mSlot 0)))
    (mRet (mCall0 m_is_text [(mSlot 0)])) mNx)
  (mRet (mAndV (mCall0 m_is_integer [(mSlot 0)]) (mCall0 m_is_number [(mSlot 0)]))))
def m_is_value : FM := mDef 1 b_is_value
/-! check_values : 0 values, 1 value -/
def b_check_values : SM :=
  (mSeq (mIf (mOrT (mNotT (asB (mIsTL (mSlot 0)))) (asB (mOp fGt (mB fLen [(mSlot 0)]) (mC (.int 4)))))
    (sRaise "InvalidCommand" (mC (.str "there is a tuple of at most 4 values"))) mNx)
  (mIf (mNotT (asB (mB fAll [(mLcO [1] (mSlot 0) (bName 1) mYes (mCall0 m_is_value [(mSlot 1)]))])))
    (sRaise "InvalidCommand" (mC (.str "a value is a number or a text"))) mNx))
def m_check_values : FM := mDef 2 b_check_values
/-! Client.bind : 0 self, 1 portal, 2 name, 3 values -/
def b_Client_bind : SM :=
  (mSeq (mExpr (mCall m_check_name [(mSlot 1)]))
  (mSeq (mExpr (mCall m_check_name [(mSlot 2)]))
  (mSeq (mExpr (mCall m_check_values [(mSlot 3)]))
  (mRet (mMethX "Client" "_add" m_Client__add [] (mSlot 0) [(mTup [(mC (.str "bind")), (mSlot 1), (mSlot 2), (mB fTup [(mSlot 3)])])])))))
def m_Client_bind : FM := mDef 4 b_Client_bind
/-! check_most : 0 most -/
def b_check_most : SM :=
  (mIf (mOrT (mNotT (asB (mCall0 m_is_integer [(mSlot 0)]))) (mNotT (asB (mChain fLe fLe (mC (.int 0)) (mSlot 0) (mC (.int 1000))))))
    (sRaise "InvalidCommand" (mC (.str "most is an integer from 0 to 1000"))) mNx)
def m_check_most : FM := mDef 1 b_check_most
/-! Client.run : 0 self, 1 portal, 2 most -/
def b_Client_run : SM :=
  (mSeq (mExpr (mCall m_check_name [(mSlot 1)]))
  (mSeq (mExpr (mCall m_check_most [(mSlot 2)]))
  (mRet (mMethX "Client" "_add" m_Client__add [] (mSlot 0) [(mTup [(mC (.str "run")), (mSlot 1), (mSlot 2)])]))))
def m_Client_run : FM := mDef 3 b_Client_run
/-! Client.forget : 0 self, 1 name -/
def b_Client_forget : SM :=
  (mSeq (mExpr (mCall m_check_name [(mSlot 1)]))
  (mRet (mMethX "Client" "_add" m_Client__add [] (mSlot 0) [(mTup [(mC (.str "forget")), (mSlot 1)])])))
def m_Client_forget : FM := mDef 2 b_Client_forget
/-! Client.close : 0 self, 1 portal -/
def b_Client_close : SM :=
  (mSeq (mExpr (mCall m_check_name [(mSlot 1)]))
  (mRet (mMethX "Client" "_add" m_Client__add [] (mSlot 0) [(mTup [(mC (.str "close")), (mSlot 1)])])))
def m_Client_close : FM := mDef 2 b_Client_close
/-! _law_named : 0 client, 1 command -/
def b_law_named : SM :=
  (mSeq (mIf (asB (mOp fEq (mItems false fIx (mSlot 1) (mC (.int 0))) (mC (.str "prepare"))))
    (mRet (mMethX "Client" "prepare" m_Client_prepare [] (mSlot 0) [(mItems false fIx (mSlot 1) (mC (.int 1))), (mItems false fIx (mSlot 1) (mC (.int 2)))])) mNx)
  (mSeq (mIf (asB (mOp fEq (mItems false fIx (mSlot 1) (mC (.int 0))) (mC (.str "bind"))))
    (mRet (mMethX "Client" "bind" m_Client_bind [] (mSlot 0) [(mItems false fIx (mSlot 1) (mC (.int 1))), (mItems false fIx (mSlot 1) (mC (.int 2))), (mItems false fIx (mSlot 1) (mC (.int 3)))])) mNx)
  (mSeq (mIf (asB (mOp fEq (mItems false fIx (mSlot 1) (mC (.int 0))) (mC (.str "run"))))
    (mRet (mMethX "Client" "run" m_Client_run [] (mSlot 0) [(mItems false fIx (mSlot 1) (mC (.int 1))), (mItems false fIx (mSlot 1) (mC (.int 2)))])) mNx)
  (mSeq (mIf (asB (mOp fEq (mItems false fIx (mSlot 1) (mC (.int 0))) (mC (.str "forget"))))
    (mRet (mMethX "Client" "forget" m_Client_forget [] (mSlot 0) [(mItems false fIx (mSlot 1) (mC (.int 1)))])) mNx)
  (mRet (mMethX "Client" "close" m_Client_close [] (mSlot 0) [(mItems false fIx (mSlot 1) (mC (.int 1)))]))))))
def m_law_named : FM := mDef 2 b_law_named
/-! _law_add : 0 client, 1 command -/
def b_law_add : SM :=
  (mSeq (mIf (mAndT (asB (mIsi .str (mItems false fIx (mSlot 1) (mC (.int 1))))) (asB (mOp fEq (mB fLen [(mItems false fIx (mSlot 1) (mC (.int 1)))]) (mC (.int 8)))))
    (mRet (mCall m_law_named [(mSlot 0), (mSlot 1)])) mNx)
  (mSeq (mIf (asB (mOp fEq (mItems false fIx (mSlot 1) (mC (.int 0))) (mC (.str "prepare"))))
    (mRet (mMethX "Client" "prepare" m_Client_prepare [] (mSlot 0) [(mItems false fIx (mSlot 1) (mC (.int 1))), (mItems false fIx (mSlot 1) (mC (.int 2)))])) mNx)
  (mSeq (mIf (asB (mOp fEq (mItems false fIx (mSlot 1) (mC (.int 0))) (mC (.str "bind"))))
    (mRet (mMethX "Client" "bind" m_Client_bind [] (mSlot 0) [(mItems false fIx (mSlot 1) (mC (.int 1))), (mItems false fIx (mSlot 1) (mC (.int 2))), (mItems false fIx (mSlot 1) (mC (.int 3)))])) mNx)
  (mSeq (mIf (mAndT (asB (mOp fEq (mItems false fIx (mSlot 1) (mC (.int 0))) (mC (.str "run")))) (mAndT (asB (mOp fEqD (mItems false fIx (mSlot 1) (mC (.int 2))) (mC (.int 0)))) (asB (mOp fEq (mB fLen [(mItems false fIx (mSlot 1) (mC (.int 1)))]) (mC (.int 4))))))
    (mRet (mMethX "Client" "run" m_Client_run [(.int 0)] (mSlot 0) [(mItems false fIx (mSlot 1) (mC (.int 1)))])) mNx)
  (mSeq (mIf (asB (mOp fEq (mItems false fIx (mSlot 1) (mC (.int 0))) (mC (.str "run"))))
    (mRet (mMethX "Client" "run" m_Client_run [] (mSlot 0) [(mItems false fIx (mSlot 1) (mC (.int 1))), (mItems false fIx (mSlot 1) (mC (.int 2)))])) mNx)
  (mSeq (mIf (asB (mOp fEq (mItems false fIx (mSlot 1) (mC (.int 0))) (mC (.str "forget"))))
    (mRet (mMethX "Client" "forget" m_Client_forget [] (mSlot 0) [(mItems false fIx (mSlot 1) (mC (.int 1)))])) mNx)
  (mRet (mMethX "Client" "close" m_Client_close [] (mSlot 0) [(mItems false fIx (mSlot 1) (mC (.int 1)))]))))))))
def m_law_add : FM := mDef 2 b_law_add
/-! _law_told : 0 client, 1 command, 2 e -/
def b_law_told : SM :=
  (mTryC 2 [([("BatchFull", true), ("InvalidCommand", false)], .own (.dl [.str "full", .bool true])), ([("InvalidCommand", true)], .own (.dl [.str "invalid", .bool true]))]
    (mRet (mCall m_law_add [(mSlot 0), (mSlot 1)])))
def m_law_told : FM := mDef 3 b_law_told
/-! _law_wrong : 0 names, 1 rows, 2 name -/
def b_law_wrong : SM :=
  (mSeq (mSet 0 (mLst [(mC (.str "")), (mC (.str "A")), (mC (.str "a1")), (mC (.str "a b")), (mC (.str "abcdefghi")), (mC (.str "a'")), (mC .none), (mC (.int 7))]))
  (mSeq (mSet 1 (mCat (mLcO [2] (mSlot 0) (bName 2) mYes (mTup [(mC (.str "prepare")), (mSlot 2), (mC (.str "begin"))])) (mLcO [2] (mSlot 0) (bName 2) mYes (mTup [(mC (.str "bind")), (mSlot 2), (mC (.str "s")), (mTup [])]))))
  (mSeq (mSet 1 (mCat (mCat (mSlot 1) (mLcO [2] (mSlot 0) (bName 2) mYes (mTup [(mC (.str "bind")), (mC (.str "p")), (mSlot 2), (mTup [])]))) (mLcO [2] (mSlot 0) (bName 2) mYes (mTup [(mC (.str "run")), (mSlot 2), (mC (.int 1))]))))
  (mSeq (mSet 1 (mCat (mCat (mSlot 1) (mLcO [2] (mSlot 0) (bName 2) mYes (mTup [(mC (.str "forget")), (mSlot 2)]))) (mLcO [2] (mSlot 0) (bName 2) mYes (mTup [(mC (.str "close")), (mSlot 2)]))))
  (mSeq (mSet 1 (mCat (mSlot 1) (mLst [(mTup [(mC (.str "prepare")), (mC (.str "s")), (mOp fMulS (mC (.str "x")) (mC (.int 201)))]), (mTup [(mC (.str "prepare")), (mC (.str "s")), (mC (.str "a\n"))]), (mTup [(mC (.str "prepare")), (mC (.str "s")), (mC (.str "\t"))]), (mTup [(mC (.str "prepare")), (mC (.str "s")), (mC .none)])])))
  (mSeq (mSet 1 (mCat (mSlot 1) (mLst [(mTup [(mC (.str "bind")), (mC (.str "p")), (mC (.str "s")), (mTup [(mC (.int 1)), (mC (.int 2)), (mC (.int 3)), (mC (.int 4)), (mC (.int 5))])]), (mTup [(mC (.str "bind")), (mC (.str "p")), (mC (.str "s")), (mTup [(mC (.int 2147483648))])]), (mTup [(mC (.str "bind")), (mC (.str "p")), (mC (.str "s")), (mTup [(mC (.str "'"))])])])))
  (mSeq (mSet 1 (mCat (mSlot 1) (mLst [(mTup [(mC (.str "bind")), (mC (.str "p")), (mC (.str "s")), (mTup [(mOp fMulS (mC (.str "y")) (mC (.int 41)))])]), (mTup [(mC (.str "bind")), (mC (.str "p")), (mC (.str "s")), (mTup [(mC .none)])]), (mTup [(mC (.str "bind")), (mC (.str "p")), (mC (.str "s")), (mTup [(mC (.bool true))])]), (mTup [(mC (.str "bind")), (mC (.str "p")), (mC (.str "s")), (mC (.int 5))])])))
  (mSeq (mSet 1 (mCat (mSlot 1) (mLst [(mTup [(mC (.str "bind")), (mC (.str "p")), (mC (.str "s")), (mTup [(mC (.str "a\nb"))])]), (mTup [(mC (.str "bind")), (mC (.str "p")), (mC (.str "s")), (mTup [(mC (.int 1)), (mC (.str "\t"))])]), (mTup [(mC (.str "bind")), (mC (.str "p")), (mC (.str "s")), (mTup [(mV1 fNeg (mC (.int 2147483649)))])])])))
  (mSeq (mSet 1 (mCat (mSlot 1) (mLst [(mTup [(mC (.str "bind")), (mC (.str "p")), (mC (.str "s")), (mC (.str "ab"))]), (mTup [(mC (.str "bind")), (mC (.str "p")), (mC (.str "s")), (mC (.str ""))]), (mTup [(mC (.str "prepare")), (mLst [(mC (.str "a"))]), (mC (.str "begin"))]), (mTup [(mC (.str "prepare")), (mC (.str "s")), (mLst [(mC (.str "a"))])])])))
  (mSeq (mSet 1 (mCat (mSlot 1) (mLst [(mTup [(mC (.str "bind")), (mC (.str "p")), (mC (.str "s")), mDNew]), (mTup [(mC (.str "bind")), (mLst [(mC (.str "p"))]), (mC (.str "s")), (mTup [])]), (mTup [(mC (.str "bind")), (mC (.str "p")), (mLst [(mC (.str "s"))]), (mTup [])]), (mTup [(mC (.str "close")), (mLst [(mC (.str "a"))])]), (mTup [(mC (.str "forget")), (mTup [(mC (.str "a"))])])])))
  (mRet (mCat (mSlot 1) (mLst [(mTup [(mC (.str "run")), (mC (.str "p")), (mV1 fNeg (mC (.int 1)))]), (mTup [(mC (.str "run")), (mC (.str "p")), (mC (.int 1001))]), (mTup [(mC (.str "run")), (mC (.str "p")), (mC (.bool true))]), (mTup [(mC (.str "run")), (mC (.str "p")), (mC (.str "1"))]), (mTup [(mC (.str "bind")), (mC (.str "p")), (mC (.str "s")), (mTup [(mTup [(mC (.int 1))])])])])))))))))))))
def m_law_wrong : FM := mDef 3 b_law_wrong
/-! Client.sync : 0 self, 1 batch -/
def b_Client_sync : SM :=
  (mSeq (mIf (asB (mOp fGe (mB fLen [(mFld ["Client"] "_batches" (mSlot 0))]) (mC (.int 50))))
    (sRaise "TooManyBatches" (mC (.str "50 batches were handed over"))) mNx)
  (mSeq (mExpr (mAppend (mFld ["Client"] "_batches" (mSlot 0)) (mFld ["Client"] "_commands" (mSlot 0))))
  (mSeq (mSetFld ["Client"] "_commands" (mLst []) (mSlot 0))
  (mSeq (mSet 1 (mB fLen [(mFld ["Client"] "_batches" (mSlot 0))]))
  (mSeq (mIf (asB (mOp fEq (mFld ["Line"] "stage" (mFld ["Client"] "_line" (mSlot 0))) (mC (.str "open"))))
    sDead mNx)
  (mRet (mSlot 1)))))))
def m_Client_sync : FM := mDef 2 b_Client_sync
/-! _law_synced : 0 client, 1 e -/
def b_law_synced : SM :=
  (mTryC 1 [([("TooManyBatches", true)], .own (.dl [.str "batches", .bool true]))]
    (mRet (mMethX "Client" "sync" m_Client_sync [] (mSlot 0) [])))
def m_law_synced : FM := mDef 2 b_law_synced
/-! _law_outcome : 0 client, 1 number, 2 e -/
def b_law_outcome : SM :=
  (mTryC 2 [([("NoSuchBatch", true)], .own (.dl [.str "none", .bool true]))]
    (mRet (mMethX "Client" "outcome" m_Client_outcome [] (mSlot 0) [(mSlot 1)])))
def m_law_outcome : FM := mDef 3 b_law_outcome
/-! _law_fifty : 0 client -/
def b_law_fifty : SM :=
  (mSeq (mIf (asB (mOp fLt (mProp "Client" m_Client_handed (mSlot 0)) (mC (.int 50))))
    (mRet (mC (.bool true))) mNx)
  (mSeq (mIf (mOrT (asB (mOp fNeD (mCall0 m_law_told [(mSlot 0), (mTup [(mC (.str "forget")), (mC (.str "a"))])]) (mC (.int 0)))) (asB (mOp fNeD (mCall0 m_law_told [(mSlot 0), (mTup [(mC (.str "close")), (mC (.str "a"))])]) (mC (.int 1)))))
    (mRet (mC (.bool false))) mNx)
  (mRet (mAndV (mOp fEqD (mCall0 m_law_synced [(mSlot 0)]) (mLst [(mC (.str "batches")), (mC (.bool true))])) (mAndV (mOp fEqD (mCall0 m_law_told [(mSlot 0), (mTup [(mC (.str "forget")), (mC (.str "b"))])]) (mC (.int 2))) (mOp fEq (mProp "Client" m_Client_handed (mSlot 0)) (mC (.int 50))))))))
def m_law_fifty : FM := mDef 1 b_law_fifty
/-! law : 0 script, 1 client, 2 wrong, 3 count, 4 handed, 5 commands, 6 command, 7 number, 8 due, 9 k, 10 total -/
def b_law_k11 : SM :=
  (mSeq (mSet 1 (mNew "Client" m_Client___init__ [] []))
  (mSeq (mSet 2 (mCall0 m_law_wrong []))
  (mSeq (mSet 3 (mC (.int 0)))
  (mSeq (mSet 4 (mC (.int 0)))
  (mSeq (mSet 5 (mCat (mCat (mCall0 m_law_units [(mCall0 m_law_cell [(mSlot 0), (mC (.int 0))]), (mC (.int 4))]) (mCall0 m_law_units [(mCall0 m_law_cell [(mSlot 0), (mC (.int 1))]), (mC (.int 4))])) (mCall0 m_law_units [(mCall0 m_law_cell [(mSlot 0), (mC (.int 2))]), (mC (.int 4))])))
  (mSeq (mSet 5 (mCat (mSlot 5) (mLst [(mTup [(mC (.str "prepare")), (mC (.str "s")), (mOp fMulS (mC (.str "x")) (mOp fAdd (mC (.int 99)) (mOp fMod (mCall0 m_law_cell [(mSlot 0), (mC (.int 0))]) (mC (.int 102)))))]), (mTup [(mC (.str "bind")), (mC (.str "p")), (mC (.str "s")), (mLst [(mC (.int 1)), (mC (.str "b")), (mC (.int 3)), (mC (.str "d"))])])])))
  (mSeq (mForO (mSlot 5) (bName 6)
    (mSeq (mSet 7 (mOp fAdd (mOp fAdd (mCall0 m_law_cell [(mSlot 0), (mC (.int 3))]) (mOp fMulL (mC (.int 7)) (mSlot 3))) (mSlot 4)))
    (mSeq (mIf (asB (mOp fNeD (mCall0 m_law_told [(mSlot 1), (mItems false fIx (mSlot 2) (mOp fMod (mSlot 7) (mB fLen [(mSlot 2)])))]) (mLst [(mC (.str "invalid")), (mC (.bool true))])))
      (mRet (mC (.bool false))) mNx)
    (mSeq (mSet 8 (mSlot 3))
    (mSeq (mIf (asB (mOp fEq (mSlot 3) (mC (.int 20))))
      (mSet 8 (mLst [(mC (.str "full")), (mC (.bool true))])) mNx)
    (mSeq (mIf (mOrT (asB (mOp fNe (mB (f1 fRepr) [(mCall0 m_law_told [(mSlot 1), (mSlot 6)])]) (mB (f1 fRepr) [(mSlot 8)]))) (mOrT (asB (mOp fNe (mProp "Client" m_Client_phase (mSlot 1)) (mC (.str "closed")))) (asB (mOp fNe (mProp "Client" m_Client_waiting (mSlot 1)) (mC (.int 0))))))
      (mRet (mC (.bool false))) mNx)
    (mSeq (mSet 3 (mB fMin2 [(mC (.int 20)), (mOp fAdd (mSlot 3) (mC (.int 1)))]))
    (mIf (asB (mOp fEq (mOp fMod (mSlot 7) (mC (.int 23))) (mC (.int 0))))
      (mSeq (mSet 3 (mC (.int 0)))
      (mSeq (mSet 4 (mOp fAdd (mSlot 4) (mC (.int 1))))
      (mIf (asB (mOp fNe (mB (f1 fRepr) [(mCall0 m_law_synced [(mSlot 1)])]) (mB (f1 fRepr) [(mSlot 4)])))
        (mRet (mC (.bool false))) mNx))) mNx))))))))
  (mSeq (mFor (mRng2 (mSlot 4) (mOp fAdd (mC (.int 47)) (mOp fMod (mCall0 m_law_cell [(mSlot 0), (mC (.int 4))]) (mC (.int 7))))) (bName 9)
    (mSeq (mSet 8 (mOp fAdd (mSlot 9) (mC (.int 1))))
    (mSeq (mIf (asB (mOp fGe (mSlot 9) (mC (.int 50))))
      (mSet 8 (mLst [(mC (.str "batches")), (mC (.bool true))])) mNx)
    (mIf (mOrT (asB (mOp fNeD (mCall0 m_law_synced [(mSlot 1)]) (mSlot 8))) (asB (mOp fNe (mProp "Client" m_Client_handed (mSlot 1)) (mB fMin2 [(mOp fAdd (mSlot 9) (mC (.int 1))), (mC (.int 50))]))))
      (mRet (mC (.bool false))) mNx))))
  (mSeq (mSet 10 (mProp "Client" m_Client_handed (mSlot 1)))
  (mSeq (mForO (mLst [(mC (.int 0)), (mOp fAdd (mSlot 10) (mC (.int 1))), (mV1 fNeg (mC (.int 1))), (mC (.int 51)), (mC (.bool true)), (mC .none), (mC (.str "1"))]) (bName 7)
    (mIf (asB (mOp fNeD (mCall0 m_law_outcome [(mSlot 1), (mSlot 7)]) (mLst [(mC (.str "none")), (mC (.bool true))])))
      (mRet (mC (.bool false))) mNx))
  (mSeq (mIf (mOrT (mNotT (asB (mCall0 m_law_fifty [(mSlot 1)]))) (mOrT (asB (mOp fNotN (mCall0 m_law_outcome [(mSlot 1), (mC (.int 1))]) (mC .none))) (asB (mOp fNotN (mMethX "Client" "outcome" m_Client_outcome [] (mSlot 1) [(mSlot 10)]) (mC .none)))))
    (mRet (mC (.bool false))) mNx)
  (mRet (mAndV (mOp fEq (mProp "Client" m_Client_received (mSlot 1)) (mC (.int 0))) (mOp fEq (mProp "Client" m_Client_session (mSlot 1)) (mC (.int 0))))))))))))))))
def m_law_k11 : FM := mDef 11 b_law_k11
end Cm
end
section
/-! k11: names, strings, values that are right -/
namespace Ca
open PySem XM L2 SX SM Cm
theorem f_all_eq {r : R} {ρ : Fr} : fAll [r] ρ = andO (itsL r ρ) fun l => andO (boolsOf l) fun bs => some (.ok (.dat (.bool (bs.all id))) ρ) := by
  show (match itsL r ρ with | some l => _ | none => _) = _
  cases itsL r ρ with
  | none => rfl
  | some l =>
    show (match boolsOf l with | some bs => _ | none => _) = _
    cases h : boolsOf l <;> simp [andO, h]
def chD (c : Nat) : D := .str ⟨#[c]⟩
theorem e_sign {c : Nat} (h : Cq.okc c = true) : m_is_sign [.dat (chD c)] = some (.ret (.dat (.bool true)) [.dat (chD c)]) := by
  unfold Cq.okc at h
  have h := of_decide_eq_true h
  have o : fOrd (chD c) = some (.int (c : Nat)) := rfl
  have l3 : fNe (.int (c : Nat)) (.int 37) = some (.bool true) := by
    show some (PyData.bool (!decide (((c : Nat) : Int) = 37))) = _
    rw [decide_eq_false (by omega)]; rfl
  have l1 : fLe (.int 32) (.int (c : Nat)) = some (.bool true) := by
    show some (PyData.bool (decide ((32 : Int) ≤ ((c : Nat) : Int)))) = _
    rw [decide_eq_true (by omega)]
  have l2 : fLe (.int (c : Nat)) (.int 126) = some (.bool true) := by
    show some (PyData.bool (decide (((c : Nat) : Int) ≤ 126))) = _
    rw [decide_eq_true (by omega)]
  have z1 : decide ((32 : Int) ≤ ((c : Nat) : Int)) = true := decide_eq_true (by omega)
  have z2 : decide (((c : Nat) : Int) ≤ 126) = true := decide_eq_true (by omega)
  have z3 : decide (((c : Nat) : Int) = 37) = false := decide_eq_false (by omega)
  generalize chD c = d at *
  simp_all only [evB, m_is_sign, b_is_sign, o, ↓at_chain, boolO_bool, l1, l2, l3, z1, z2, z3]
theorem bools_true {α : Type} : ∀ l : List α, boolsOf (l.map fun _ => PyData.bool true) = some (l.map fun _ => true)
  | [] => rfl
  | a :: l => by
    rw [List.map_cons, List.map_cons]
    unfold boolsOf
    rw [bools_true l]
    rfl
theorem all_true {α : Type} (l : List α) : (l.map fun _ => true).all id = true := by
  induction l with
  | nil => rfl
  | cons a l ih => rw [List.map_cons, List.all_cons, ih]; rfl
theorem strD_S (l : List Nat) : strD (S l) = l.map chD := by
  unfold strD S
  rfl
theorem e_signs {l : List Nat} {n : Nat} (hn : n ≤ 1000) (h : Cq.GoodC n l) : m_has_only_signs [.dat (.str (S l))] = some (.ret (.dat (.bool true)) [.dat (.str (S l))]) := by
  have q : ∀ ρ : Fr, ρ = ⟨[.ref 0, .un], [⟨.dat (.str (S l)), none⟩], 1⟩ → lcL [1] (bName 1) mYes (mCall0 m_is_sign [(mSlot 1)]) [.ref 0, .un] (strD (S l)) [] ρ = some (l.map (fun _ => .bool true), ρ) := by
    rintro ρ rfl
    rw [strD_S, lcM (fun _ => .bool true) (by have := h.1; omega)]
    intro c hc
    have e := e_sign (h.2 c hc)
    generalize chD c = d at *
    simp_all only [evB, e]
  have q := q _ rfl
  have bm := bools_true l
  have al := all_true l
  generalize (l.map fun _ => PyData.bool true) = bl at *
  generalize l.map (fun _ => true) = bs at *
  unfold strD at q
  simp_all only [evB, m_has_only_signs, b_has_only_signs, q, ↓f_all_eq, bm, al]
theorem small_S {l : List Nat} {α : Type} (h : l.length ≤ 1000) (z : Option α) : small l.length 1000000 z = z := if_pos (by omega)
theorem prep_yes {l : List Nat} (h : Cq.GoodC 200 l) : m_may_be_prepared [.dat (.str (S l))] = some (.ret (.dat (.bool true)) [.dat (.str (S l))]) := by
  have e := e_signs (by omega) h
  have hl := h.1
  have sm := small_S (α := Nat) (l := l) (by omega) (some l.length)
  have z : decide (((l.length : Nat) : Int) ≤ 200) = true := decide_eq_true (by omega)
  simp_all only [evB, m_may_be_prepared, b_may_be_prepared, sm, z, e]
def LET : Str := "abcdefghijklmnopqrstuvwxyz"
theorem let_in {c : Nat} (h : 97 ≤ c ∧ c ≤ 122) : c ∈ LET.cps.toList := by
  have : LET.cps.toList = (List.range 26).map (97 + ·) := by decide +kernel
  rw [this]
  exact List.mem_map.mpr ⟨c - 97, List.mem_range.mpr (by omega), by omega⟩
theorem isname_yes {l : List Nat} (h : Cq.NameL l) : m_is_name [.dat (.str (S l))] = some (.ret (.dat (.bool true)) [.dat (.str (S l))]) := by
  obtain ⟨h1, h8, hc⟩ := h
  have q : ∀ ρ : Fr, ρ = ⟨[.ref 0, .un], [⟨.dat (.str (S l)), none⟩], 1⟩ → lcL [1] (bName 1) mYes (mOp fInC (mSlot 1) (mC (.str "abcdefghijklmnopqrstuvwxyz"))) [.ref 0, .un] (strD (S l)) [] ρ = some (l.map (fun _ => .bool true), ρ) := by
    rintro ρ rfl
    rw [strD_S, lcM (fun _ => .bool true) (by omega)]
    intro c hm
    have e : fInC (chD c) (.str LET) = some (.bool true) := by
      show some (PyData.bool (decide (c ∈ LET.cps.toList))) = _
      rw [decide_eq_true (let_in (hc c hm))]
    unfold LET at e
    generalize chD c = d at *
    simp_all only [evB, e]
  have q := q _ rfl
  have bm := bools_true l
  have al := all_true l
  have sm := small_S (α := Nat) (l := l) (by omega) (some l.length)
  have z1 : decide ((1 : Int) ≤ (l.length : Nat)) = true := decide_eq_true (by omega)
  have z2 : decide (((l.length : Nat) : Int) ≤ 8) = true := decide_eq_true (by omega)
  have l1 : fLe (.int 1) (.int (l.length : Nat)) = some (.bool true) := by rw [← z1]; rfl
  have l2 : fLe (.int (l.length : Nat)) (.int 8) = some (.bool true) := by rw [← z2]; rfl
  generalize (l.map fun _ => PyData.bool true) = bl at *
  generalize l.map (fun _ => true) = bs at *
  unfold strD at q
  simp_all only [evB, m_is_name, b_is_name, ↓at_chain, sm, l1, l2, z1, z2, boolO_bool, q, ↓f_all_eq, bm, al]
theorem at_raise {c : Str} {m : M R} {ρ : Fr} : sRaise c m ρ = andS (m ρ) fun _ ρ => some (.ex c ρ) := rfl
theorem name_ok {l : List Nat} (h : Cq.NameL l) : m_check_name [.dat (.str (S l))] = some (.ret (.dat .none) [.dat (.str (S l))]) := by
  have e := isname_yes h
  simp_all only [evB, m_check_name, b_check_name, e]
theorem string_ok {l : List Nat} (h : Cq.GoodC 200 l) : m_check_string [.dat (.str (S l))] = some (.ret (.dat .none) [.dat (.str (S l))]) := by
  have e := prep_yes h
  simp_all only [evB, m_check_string, b_check_string, e]
theorem istext_yes {l : List Nat} (h : Cq.GoodL 40 l) : m_is_text [.dat (.str (S l))] = some (.ret (.dat (.bool true)) [.dat (.str (S l))]) := by
  have e := e_signs (by omega) h.c
  have hl := h.1
  have sm := small_S (α := Nat) (l := l) (by omega) (some l.length)
  have z : decide (((l.length : Nat) : Int) ≤ 40) = true := decide_eq_true (by omega)
  have ni : fNotInC (.str "'") (.str (S l)) = some (.bool true) := by
    show some (PyData.bool (!decide (39 ∈ (S l).cps.toList))) = _
    have : ¬ 39 ∈ (S l).cps.toList := fun m => by
      have q := h.2 39 (by simpa [S] using m)
      exact absurd q (by decide)
    rw [decide_eq_false this]; rfl
  simp_all only [evB, m_is_text, b_is_text, sm, z, ni, e]
theorem isvalue_yes {d : D} (h : Cq.V40 d) : m_is_value [.dat d] = some (.ret (.dat (.bool true)) [.dat d]) := by
  rcases h with ⟨i, rfl, h1, h2⟩ | ⟨l, rfl, g⟩
  · have z1 : decide ((-2147483648 : Int) ≤ i) = true := decide_eq_true h1
    have z2 : decide (i ≤ 2147483647) = true := decide_eq_true h2
    have e : m_is_number [.dat (.int i)] = some (.ret (.dat (.bool true)) [.dat (.int i)]) := by
      have l1 : fLe (.int (-2147483648)) (.int i) = some (.bool true) := by rw [← z1]; rfl
      have l2 : fLe (.int i) (.int 2147483647) = some (.bool true) := by rw [← z2]; rfl
      simp_all only [evB, m_is_number, b_is_number, ↓at_chain, boolO_bool, l1, l2, z1, z2]
    have e2 : m_is_integer [.dat (.int i)] = some (.ret (.dat (.bool true)) [.dat (.int i)]) := by
      simp_all only [evB, m_is_integer, b_is_integer]
    simp_all only [evB, m_is_value, b_is_value, e, e2]
  · have e := istext_yes g
    simp_all only [evB, m_is_value, b_is_value, e]
theorem vals_lc {vs : List D} (hl : vs.length ≤ 4) (h : ∀ d ∈ vs, Cq.V40 d) {t : T} {rt : List Rt} : lcL [1] (bName 1) mYes (mCall0 m_is_value [(mSlot 1)]) [.ref 0, .un] vs [] ⟨[.ref 0, .un], [⟨t, none⟩], 1⟩ = some (vs.map (fun _ => .bool true), ⟨[.ref 0, .un], [⟨t, none⟩], 1⟩) := by
  have := lcM (vs := [1]) (b := bName 1) (mt := mYes) (me := mCall0 m_is_value [(mSlot 1)]) (sl := [.ref 0, .un]) (rt := [⟨t, none⟩]) (np := 1) (xs := vs) (e := id) (fun _ => .bool true) (by omega) (by
    intro d hd
    have e := isvalue_yes (h d hd)
    show lcOne _ _ _ _ _ d = _
    simp_all only [evB, e])
  rwa [List.map_id] at this
theorem values_tup {vs : List D} (hl : vs.length ≤ 4) (h : ∀ d ∈ vs, Cq.V40 d) : m_check_values [.dat (.tuple vs)] = some (.ret (.dat .none) [.dat (.tuple vs)]) := by
  have q := vals_lc hl h (t := .dat (.tuple vs)) (rt := [])
  have bm := bools_true vs
  have al := all_true vs
  have z : decide (((vs.length : Nat) : Int) > 4) = false := decide_eq_false (by omega)
  have sm : ∀ {α : Type} (z : Option α), small vs.length 1000000 z = z := fun z => if_pos (by omega)
  generalize (vs.map fun _ => PyData.bool true) = bl at *
  generalize vs.map (fun _ => true) = bs at *
  simp_all only [evB, m_check_values, b_check_values, ↓at_isTL, tlR_tup, q, ↓f_all_eq, bm, al, z, sm]
theorem tlR_list {ρ : Fr} : tlR (some .list) ρ = some (.ok (.dat (.bool true)) ρ) := rfl
theorem values_lst {vs : List D} (hl : vs.length ≤ 4) (h : ∀ d ∈ vs, Cq.V40 d) : m_check_values [.dat (.list vs)] = some (.ret (.dat .none) [.dat (.list vs)]) := by
  have q := vals_lc hl h (t := .dat (.list vs)) (rt := [])
  have bm := bools_true vs
  have al := all_true vs
  have z : decide (((vs.length : Nat) : Int) > 4) = false := decide_eq_false (by omega)
  have sm : ∀ {α : Type} (z : Option α), small vs.length 1000000 z = z := fun z => if_pos (by omega)
  generalize (vs.map fun _ => PyData.bool true) = bl at *
  generalize vs.map (fun _ => true) = bs at *
  simp_all only [evB, m_check_values, b_check_values, ↓at_isTL, tlR_list, q, ↓f_all_eq, bm, al, z, sm]
theorem most_ok {m : Int} (h0 : 0 ≤ m) (h1 : m ≤ 1000) : m_check_most [.dat (.int m)] = some (.ret (.dat .none) [.dat (.int m)]) := by
  have z1 : decide ((0 : Int) ≤ m) = true := decide_eq_true h0
  have z2 : decide (m ≤ 1000) = true := decide_eq_true h1
  have l1 : fLe (.int 0) (.int m) = some (.bool true) := by rw [← z1]; rfl
  have l2 : fLe (.int m) (.int 1000) = some (.bool true) := by rw [← z2]; rfl
  have e2 : m_is_integer [.dat (.int m)] = some (.ret (.dat (.bool true)) [.dat (.int m)]) := by
    simp_all only [evB, m_is_integer, b_is_integer]
  simp_all only [evB, m_check_most, b_check_most, ↓at_chain, boolO_bool, l1, l2, z1, z2, e2]
end Ca
end
section
/-! k11: the client, its phase closed -/
namespace Ca
open PySem XM L2 SX SM Cm
theorem at_methX {c m : Str} {f : FM} {dts : List D} {mo : M R} {ms : List (M R)} {ρ : Fr} : mMethX c m f dts mo ms ρ = andM (mo ρ) fun ro ρ0 => methR (clsAt ro ρ0) c m (andM (mArgs ms ρ0) fun rs ρ => callR (f (takes (ro :: (rs ++ dts.map R.dat)) (gathers (ro :: (rs ++ dts.map R.dat)) ρ)).1) (ro :: (rs ++ dts.map R.dat)) (takes (ro :: (rs ++ dts.map R.dat)) (gathers (ro :: (rs ++ dts.map R.dat)) ρ)).2) := rfl
def propR (x : Option (Nat × Str × List (Str × T))) (c : Str) (k : Option (Out R)) : Option (Out R) := match x with
  | some (_, c', _) => if c' = c then k else none
  | none => none
theorem propR_yes {n : Nat} {c : Str} {fs : List (Str × T)} {k : Option (Out R)} : propR (some (n, c, fs)) c k = k := if_pos rfl
theorem at_prop {c : Str} {f : FM} {mo : M R} {ρ : Fr} : mProp c f mo ρ = andM (mo ρ) fun ro ρ0 => propR (clsAt ro ρ0) c (okOnly (callR (f (takes [ro] (gathers [ro] ρ0)).1) [ro] (takes [ro] (gathers [ro] ρ0)).2)) := rfl
def wire0 : T := .ins "Wire" [("_forms", .dat (.tuple [(.tuple [(.str "welcome"), (.str "long"), (.str "long")]), (.tuple [(.str "refused"), (.str "name")]), (.tuple [(.str "ready"), (.str "long"), (.str "state")]), (.tuple [(.str "prepared"), (.str "parameters")]), (.tuple [(.str "bound")]), (.tuple [(.str "closed")]), (.tuple [(.str "skipped")]), (.tuple [(.str "rows"), (.str "flag"), (.str "rows")]), (.tuple [(.str "complete"), (.str "count")]), (.tuple [(.str "wrong"), (.str "reason")])])), ("_data", .dl []), ("_broken", .dat (.bool false))]
def line0 : T := .ins "Line" [("stage", .dat (.str "closed")), ("why", .dat .none), ("_other_side", .dat (.str "server")), ("_wire", wire0), ("_data", .dl []), ("_taken", .dat (.int 0))]
def Cl (cs bs : List D) : T := .ins "Client" [("_line", line0), ("_number", .dat (.int 0)), ("_commands", .dl cs), ("_batches", .dl bs), ("_outcomes", .dl []), ("_replies", .dl [])]
section
variable {cs bs : List D} {d : D}
theorem add_ok (h : cs.length < 20) : m_Client__add [Cl cs bs, .dat d] = some (.ret (.dat (.int (cs.length : Nat))) [Cl (cs ++ [d]) bs, .dat d]) := by
  have z : decide (((cs.length : Nat) : Int) ≥ 20) = false := decide_eq_false (by omega)
  have z2 : decide ((20 : Int) ≤ ((cs.length : Nat) : Int)) = false := decide_eq_false (by omega)
  have sm : ∀ {α : Type} (z : Option α), small cs.length 1000000 z = z := fun z => if_pos (by omega)
  have sm2 : ∀ {α : Type} (z : Option α), small (cs.length + 1) 1000000 z = z := fun z => if_pos (by omega)
  have l2 : cs.length < 1000000 := by omega
  have e : (cs ++ [d]).length = cs.length + 1 := by rw [List.length_append, List.length_singleton]
  have e2 : (((cs.length + 1 : Nat) : Int) - 1) = (cs.length : Nat) := by omega
  unfold Cl
  generalize line0 = ln
  simp_all only [evB, m_Client__add, b_Client__add, z, z2, sm, sm2, l2, e, e2, List.length_append]
theorem add_full (h : 20 ≤ cs.length) (h2 : cs.length ≤ 1000) : m_Client__add [Cl cs bs, .dat d] = some (.ex "BatchFull" [Cl cs bs, .dat d]) := by
  have z : decide (((cs.length : Nat) : Int) ≥ 20) = true := decide_eq_true (by omega)
  have z2 : decide ((20 : Int) ≤ ((cs.length : Nat) : Int)) = true := decide_eq_true (by omega)
  have sm : ∀ {α : Type} (z : Option α), small cs.length 1000000 z = z := fun z => if_pos (by omega)
  unfold Cl
  generalize line0 = ln
  simp_all only [evB, m_Client__add, b_Client__add, z, z2, sm, at_raise]
def iniC (o : Option FO) : Bool := match o with
  | some (.ret (.dat .none) [c]) => sameT c (Cl [] [])
  | _ => false
theorem ini11 : m_Client___init__ [.ins "Client" []] = some (.ret (.dat .none) [Cl [] []]) := by
  have h : iniC (m_Client___init__ [.ins "Client" []]) = true := by decide +kernel
  unfold iniC at h
  split at h
  · rename_i c e
    rw [e, sameT_ok h]
  · cases h
/-- what a method that adds a command answers -/
def AddR (o : Option FO) (cs bs : List D) (d : D) (ts : List T) : Prop := (cs.length < 20 ∧ o = some (.ret (.dat (.int (cs.length : Nat))) (Cl (cs ++ [d]) bs :: ts))) ∨ (20 ≤ cs.length ∧ o = some (.ex "BatchFull" (Cl cs bs :: ts)))
theorem ms11 {m : Str} (h : m ≠ "_line" ∧ m ≠ "_number" ∧ m ≠ "_commands" ∧ m ≠ "_batches" ∧ m ≠ "_outcomes" ∧ m ≠ "_replies") (k : Option (Out R)) (n : Nat) (a b c d e g : T) : methR (some (n, ("Client" : Str), [("_line", a), ("_number", b), ("_commands", c), ("_batches", d), ("_outcomes", e), ("_replies", g)])) "Client" m k = k := by
  obtain ⟨h1, h2, h3, h4, h5, h6⟩ := h
  exact methR_yes (by simp [getA_cons, getA_nil, iteM_false, Ne.symm h1, Ne.symm h2, Ne.symm h3, Ne.symm h4, Ne.symm h5, Ne.symm h6])
theorem prep_add {n s : Str} (h1 : m_check_name [.dat (.str n)] = some (.ret (.dat .none) [.dat (.str n)])) (h2 : m_check_string [.dat (.str s)] = some (.ret (.dat .none) [.dat (.str s)])) (hl : cs.length ≤ 1000) :
    AddR (m_Client_prepare [Cl cs bs, .dat (.str n), .dat (.str s)]) cs bs (.tuple [.str "prepare", .str n, .str s]) [.dat (.str n), .dat (.str s)] := by
  have ms := ms11 (m := "_add") (by decide)
  by_cases h : cs.length < 20
  · have e := add_ok (bs := bs) (d := .tuple [.str "prepare", .str n, .str s]) h
    refine .inl ⟨h, ?_⟩
    unfold Cl at *
    generalize line0 = ln at *
    simp_all only [evB, m_Client_prepare, b_Client_prepare, ↓at_methX, ↓ms, h1, h2, e]
  · have e := add_full (bs := bs) (d := .tuple [.str "prepare", .str n, .str s]) (show 20 ≤ cs.length by omega) hl
    refine .inr ⟨by omega, ?_⟩
    unfold Cl at *
    generalize line0 = ln at *
    simp_all only [evB, m_Client_prepare, b_Client_prepare, ↓at_methX, ↓ms, h1, h2, e]
theorem bind_add {p n : Str} {v : D} {vs : List D} (h1 : m_check_name [.dat (.str p)] = some (.ret (.dat .none) [.dat (.str p)])) (h2 : m_check_name [.dat (.str n)] = some (.ret (.dat .none) [.dat (.str n)])) (h3 : m_check_values [.dat v] = some (.ret (.dat .none) [.dat v])) (hv : v = .tuple vs ∨ v = .list vs) (hvl : vs.length ≤ 4) (hl : cs.length ≤ 1000) :
    AddR (m_Client_bind [Cl cs bs, .dat (.str p), .dat (.str n), .dat v]) cs bs (.tuple [.str "bind", .str p, .str n, .tuple vs]) [.dat (.str p), .dat (.str n), .dat v] := by
  have ms := ms11 (m := "_add") (by decide)
  have sm : ∀ {α : Type} (z : Option α), small vs.length 1000000 z = z := fun z => if_pos (by omega)
  by_cases h : cs.length < 20
  · have e := add_ok (bs := bs) (d := .tuple [.str "bind", .str p, .str n, .tuple vs]) h
    refine .inl ⟨h, ?_⟩
    unfold Cl at *
    generalize line0 = ln at *
    rcases hv with rfl | rfl
    · simp_all only [evB, m_Client_bind, b_Client_bind, ↓at_methX, ↓ms, h1, h2, h3, e, sm]
    · simp_all only [evB, m_Client_bind, b_Client_bind, ↓at_methX, ↓ms, h1, h2, h3, e, sm]
  · have e := add_full (bs := bs) (d := .tuple [.str "bind", .str p, .str n, .tuple vs]) (show 20 ≤ cs.length by omega) hl
    refine .inr ⟨by omega, ?_⟩
    unfold Cl at *
    generalize line0 = ln at *
    rcases hv with rfl | rfl
    · simp_all only [evB, m_Client_bind, b_Client_bind, ↓at_methX, ↓ms, h1, h2, h3, e, sm]
    · simp_all only [evB, m_Client_bind, b_Client_bind, ↓at_methX, ↓ms, h1, h2, h3, e, sm]
theorem run_add {p : Str} {m : Int} (h1 : m_check_name [.dat (.str p)] = some (.ret (.dat .none) [.dat (.str p)])) (h2 : m_check_most [.dat (.int m)] = some (.ret (.dat .none) [.dat (.int m)])) (hl : cs.length ≤ 1000) :
    AddR (m_Client_run [Cl cs bs, .dat (.str p), .dat (.int m)]) cs bs (.tuple [.str "run", .str p, .int m]) [.dat (.str p), .dat (.int m)] := by
  have ms := ms11 (m := "_add") (by decide)
  by_cases h : cs.length < 20
  · have e := add_ok (bs := bs) (d := .tuple [.str "run", .str p, .int m]) h
    refine .inl ⟨h, ?_⟩
    unfold Cl at *
    generalize line0 = ln at *
    simp_all only [evB, m_Client_run, b_Client_run, ↓at_methX, ↓ms, h1, h2, e]
  · have e := add_full (bs := bs) (d := .tuple [.str "run", .str p, .int m]) (show 20 ≤ cs.length by omega) hl
    refine .inr ⟨by omega, ?_⟩
    unfold Cl at *
    generalize line0 = ln at *
    simp_all only [evB, m_Client_run, b_Client_run, ↓at_methX, ↓ms, h1, h2, e]
theorem forget_add {p : Str} (h1 : m_check_name [.dat (.str p)] = some (.ret (.dat .none) [.dat (.str p)])) (hl : cs.length ≤ 1000) :
    AddR (m_Client_forget [Cl cs bs, .dat (.str p)]) cs bs (.tuple [.str "forget", .str p]) [.dat (.str p)] := by
  have ms := ms11 (m := "_add") (by decide)
  by_cases h : cs.length < 20
  · have e := add_ok (bs := bs) (d := .tuple [.str "forget", .str p]) h
    refine .inl ⟨h, ?_⟩
    unfold Cl at *
    generalize line0 = ln at *
    simp_all only [evB, m_Client_forget, b_Client_forget, ↓at_methX, ↓ms, h1, e]
  · have e := add_full (bs := bs) (d := .tuple [.str "forget", .str p]) (show 20 ≤ cs.length by omega) hl
    refine .inr ⟨by omega, ?_⟩
    unfold Cl at *
    generalize line0 = ln at *
    simp_all only [evB, m_Client_forget, b_Client_forget, ↓at_methX, ↓ms, h1, e]
theorem close_add {p : Str} (h1 : m_check_name [.dat (.str p)] = some (.ret (.dat .none) [.dat (.str p)])) (hl : cs.length ≤ 1000) :
    AddR (m_Client_close [Cl cs bs, .dat (.str p)]) cs bs (.tuple [.str "close", .str p]) [.dat (.str p)] := by
  have ms := ms11 (m := "_add") (by decide)
  by_cases h : cs.length < 20
  · have e := add_ok (bs := bs) (d := .tuple [.str "close", .str p]) h
    refine .inl ⟨h, ?_⟩
    unfold Cl at *
    generalize line0 = ln at *
    simp_all only [evB, m_Client_close, b_Client_close, ↓at_methX, ↓ms, h1, e]
  · have e := add_full (bs := bs) (d := .tuple [.str "close", .str p]) (show 20 ≤ cs.length by omega) hl
    refine .inr ⟨by omega, ?_⟩
    unfold Cl at *
    generalize line0 = ln at *
    simp_all only [evB, m_Client_close, b_Client_close, ↓at_methX, ↓ms, h1, e]
end
end Ca
end
section
/-! k11: commands that are told to a client -/
namespace Ca
open PySem XM L2 SX SM Cm
def tryCR (x : Option SO) (i : Nat) (hl : List Hd) : Option SO := match x with
  | some (.ex c ρ1) => if i < ρ1.sl.length then pickC c ρ1 hl else none
  | o => o
theorem at_tryC {i : Nat} {hl : List Hd} {mb : SM} {ρ : Fr} : mTryC i hl mb ρ = tryCR (mb ρ) i hl := rfl
theorem tryCR_rt {i : Nat} {hl : List Hd} {r : R} {ρ : Fr} : tryCR (some (.rt r ρ)) i hl = some (.rt r ρ) := rfl
theorem tryCR_ex {i : Nat} {hl : List Hd} {c : Str} {ρ : Fr} (h : i < ρ.sl.length) : tryCR (some (.ex c ρ)) i hl = pickC c ρ hl := if_pos h
def full11 : List D := [.str "full", .bool true]
def inv11 : List D := [.str "invalid", .bool true]
theorem pk_full (ρ : Fr) : pickC "BatchFull" ρ [([("BatchFull", true), ("InvalidCommand", false)], .own (.dl [.str "full", .bool true])), ([("InvalidCommand", true)], .own (.dl [.str "invalid", .bool true]))] = some (.rt (.own (.dl full11)) ρ) := rfl
theorem pk_inv (ρ : Fr) : pickC "InvalidCommand" ρ [([("BatchFull", true), ("InvalidCommand", false)], .own (.dl [.str "full", .bool true])), ([("InvalidCommand", true)], .own (.dl [.str "invalid", .bool true]))] = some (.rt (.own (.dl inv11)) ρ) := rfl
theorem eqd_int (m : Int) : fEqD (.int m) (.int 0) = some (.bool (decide (m = 0))) := by
  unfold fEqD
  rw [if_pos ⟨(Lay.int m 64).shaped, (Lay.int 0 64).shaped⟩]
  show some (PyData.bool (PyData.eqv (.int m) (.int 0))) = _
  unfold PyData.eqv
  rfl
def ToldR (o : Option FO) (cs bs : List D) (d d' : D) : Prop := (cs.length < 20 ∧ o = some (.ret (.dat (.int (cs.length : Nat))) [Cl (cs ++ [d']) bs, .dat d])) ∨ (20 ≤ cs.length ∧ o = some (.ret (.dl full11) [Cl cs bs, .dat d]))
section
variable {cs bs : List D}
theorem cl_ins (cs bs : List D) : ∃ fs, Cl cs bs = .ins "Client" fs ∧ ∀ {m : Str}, (m ≠ "_line" ∧ m ≠ "_number" ∧ m ≠ "_commands" ∧ m ≠ "_batches" ∧ m ≠ "_outcomes" ∧ m ≠ "_replies") → ∀ (k : Option (Out R)) (n : Nat), methR (some (n, ("Client" : Str), fs)) "Client" m k = k :=
  ⟨_, rfl, fun h k n => ms11 h k n _ _ _ _ _ _⟩
theorem told_prep {n s : List Nat} (hn : Cq.NameL n) (hs : Cq.GoodC 200 s) (hl : cs.length ≤ 1000) : ToldR (m_law_told [Cl cs bs, .dat (.tuple [.str "prepare", .str (S n), .str (S s)])]) cs bs (.tuple [.str "prepare", .str (S n), .str (S s)]) (.tuple [.str "prepare", .str (S n), .str (S s)]) := by
  have sm : ∀ {α : Type} (z : Option α), small n.length 1000000 z = z := fun z => if_pos (by have := hn.2.1; omega)
  obtain ⟨fs, e1, ms⟩ := cl_ins cs bs
  have ms := ms (m := "prepare") (by decide)
  rcases prep_add (cs := cs) (bs := bs) (name_ok hn) (string_ok hs) hl with ⟨h, e⟩ | ⟨h, e⟩
  · refine .inl ⟨h, ?_⟩
    rw [e1] at e ⊢
    cases z : decide (((n.length : Nat) : Int) = 8)
    · simp_all only [evB, m_law_told, b_law_told, ↓at_tryC, tryCR_rt, m_law_add, b_law_add, ↓at_methX, ↓ms, sm, z, e]
    · simp_all only [evB, m_law_told, b_law_told, ↓at_tryC, tryCR_rt, m_law_add, b_law_add, m_law_named, b_law_named, ↓at_methX, ↓ms, sm, z, e]
  · refine .inr ⟨h, ?_⟩
    rw [e1] at e ⊢
    cases z : decide (((n.length : Nat) : Int) = 8)
    · simp_all only [evB, m_law_told, b_law_told, ↓at_tryC, tryCR_ex, pk_full, m_law_add, b_law_add, ↓at_methX, ↓ms, sm, z, e]
    · simp_all only [evB, m_law_told, b_law_told, ↓at_tryC, tryCR_ex, pk_full, m_law_add, b_law_add, m_law_named, b_law_named, ↓at_methX, ↓ms, sm, z, e]
theorem told_forget {n : List Nat} (hn : Cq.NameL n) (hl : cs.length ≤ 1000) : ToldR (m_law_told [Cl cs bs, .dat (.tuple [.str "forget", .str (S n)])]) cs bs (.tuple [.str "forget", .str (S n)]) (.tuple [.str "forget", .str (S n)]) := by
  have sm : ∀ {α : Type} (z : Option α), small n.length 1000000 z = z := fun z => if_pos (by have := hn.2.1; omega)
  obtain ⟨fs, e1, ms⟩ := cl_ins cs bs
  have ms := ms (m := "forget") (by decide)
  rcases forget_add (cs := cs) (bs := bs) (name_ok hn) hl with ⟨h, e⟩ | ⟨h, e⟩
  · refine .inl ⟨h, ?_⟩
    rw [e1] at e ⊢
    cases z : decide (((n.length : Nat) : Int) = 8)
    · simp_all only [evB, m_law_told, b_law_told, ↓at_tryC, tryCR_rt, m_law_add, b_law_add, ↓at_methX, ↓ms, sm, z, e]
    · simp_all only [evB, m_law_told, b_law_told, ↓at_tryC, tryCR_rt, m_law_add, b_law_add, m_law_named, b_law_named, ↓at_methX, ↓ms, sm, z, e]
  · refine .inr ⟨h, ?_⟩
    rw [e1] at e ⊢
    cases z : decide (((n.length : Nat) : Int) = 8)
    · simp_all only [evB, m_law_told, b_law_told, ↓at_tryC, tryCR_ex, pk_full, m_law_add, b_law_add, ↓at_methX, ↓ms, sm, z, e]
    · simp_all only [evB, m_law_told, b_law_told, ↓at_tryC, tryCR_ex, pk_full, m_law_add, b_law_add, m_law_named, b_law_named, ↓at_methX, ↓ms, sm, z, e]
theorem told_close {n : List Nat} (hn : Cq.NameL n) (hl : cs.length ≤ 1000) : ToldR (m_law_told [Cl cs bs, .dat (.tuple [.str "close", .str (S n)])]) cs bs (.tuple [.str "close", .str (S n)]) (.tuple [.str "close", .str (S n)]) := by
  have sm : ∀ {α : Type} (z : Option α), small n.length 1000000 z = z := fun z => if_pos (by have := hn.2.1; omega)
  obtain ⟨fs, e1, ms⟩ := cl_ins cs bs
  have ms := ms (m := "close") (by decide)
  rcases close_add (cs := cs) (bs := bs) (name_ok hn) hl with ⟨h, e⟩ | ⟨h, e⟩
  · refine .inl ⟨h, ?_⟩
    rw [e1] at e ⊢
    cases z : decide (((n.length : Nat) : Int) = 8)
    · simp_all only [evB, m_law_told, b_law_told, ↓at_tryC, tryCR_rt, m_law_add, b_law_add, ↓at_methX, ↓ms, sm, z, e]
    · simp_all only [evB, m_law_told, b_law_told, ↓at_tryC, tryCR_rt, m_law_add, b_law_add, m_law_named, b_law_named, ↓at_methX, ↓ms, sm, z, e]
  · refine .inr ⟨h, ?_⟩
    rw [e1] at e ⊢
    cases z : decide (((n.length : Nat) : Int) = 8)
    · simp_all only [evB, m_law_told, b_law_told, ↓at_tryC, tryCR_ex, pk_full, m_law_add, b_law_add, ↓at_methX, ↓ms, sm, z, e]
    · simp_all only [evB, m_law_told, b_law_told, ↓at_tryC, tryCR_ex, pk_full, m_law_add, b_law_add, m_law_named, b_law_named, ↓at_methX, ↓ms, sm, z, e]
theorem told_bind {p n : List Nat} {v : D} {vs : List D} (hp : Cq.NameL p) (hn : Cq.NameL n) (hc : m_check_values [.dat v] = some (.ret (.dat .none) [.dat v])) (hv : v = .tuple vs ∨ v = .list vs) (hvl : vs.length ≤ 4) (hl : cs.length ≤ 1000) : ToldR (m_law_told [Cl cs bs, .dat (.tuple [.str "bind", .str (S p), .str (S n), v])]) cs bs (.tuple [.str "bind", .str (S p), .str (S n), v]) (.tuple [.str "bind", .str (S p), .str (S n), .tuple vs]) := by
  have sm : ∀ {α : Type} (z : Option α), small p.length 1000000 z = z := fun z => if_pos (by have := hp.2.1; omega)
  obtain ⟨fs, e1, ms⟩ := cl_ins cs bs
  have ms := ms (m := "bind") (by decide)
  rcases bind_add (cs := cs) (bs := bs) (name_ok hp) (name_ok hn) hc hv hvl hl with ⟨h, e⟩ | ⟨h, e⟩
  · refine .inl ⟨h, ?_⟩
    rw [e1] at e ⊢
    cases z : decide (((p.length : Nat) : Int) = 8)
    · simp_all only [evB, m_law_told, b_law_told, ↓at_tryC, tryCR_rt, m_law_add, b_law_add, ↓at_methX, ↓ms, sm, z, e]
    · simp_all only [evB, m_law_told, b_law_told, ↓at_tryC, tryCR_rt, m_law_add, b_law_add, m_law_named, b_law_named, ↓at_methX, ↓ms, sm, z, e]
  · refine .inr ⟨h, ?_⟩
    rw [e1] at e ⊢
    cases z : decide (((p.length : Nat) : Int) = 8)
    · simp_all only [evB, m_law_told, b_law_told, ↓at_tryC, tryCR_ex, pk_full, m_law_add, b_law_add, ↓at_methX, ↓ms, sm, z, e]
    · simp_all only [evB, m_law_told, b_law_told, ↓at_tryC, tryCR_ex, pk_full, m_law_add, b_law_add, m_law_named, b_law_named, ↓at_methX, ↓ms, sm, z, e]
theorem told_run {p : List Nat} {m : Int} (hp : Cq.NameL p) (h0 : 0 ≤ m) (h1 : m ≤ 1000) (hl : cs.length ≤ 1000) : ToldR (m_law_told [Cl cs bs, .dat (.tuple [.str "run", .str (S p), .int m])]) cs bs (.tuple [.str "run", .str (S p), .int m]) (.tuple [.str "run", .str (S p), .int m]) := by
  have sm : ∀ {α : Type} (z : Option α), small p.length 1000000 z = z := fun z => if_pos (by have := hp.2.1; omega)
  obtain ⟨fs, e1, ms⟩ := cl_ins cs bs
  have ms := ms (m := "run") (by decide)
  rcases run_add (cs := cs) (bs := bs) (name_ok hp) (most_ok h0 h1) hl with ⟨h, e⟩ | ⟨h, e⟩
  · refine .inl ⟨h, ?_⟩
    rw [e1] at e ⊢
    cases z : decide (((p.length : Nat) : Int) = 8)
    · have q := eqd_int m
      cases zm : decide (m = 0)
      · rw [zm] at q
        simp_all only [evB, m_law_told, b_law_told, ↓at_tryC, tryCR_rt, m_law_add, b_law_add, ↓at_methX, ↓ms, sm, z, q, e]
      · rw [zm] at q
        have m0 := of_decide_eq_true zm
        subst m0
        cases z4 : decide (((p.length : Nat) : Int) = 4)
        · simp_all only [evB, m_law_told, b_law_told, ↓at_tryC, tryCR_rt, m_law_add, b_law_add, ↓at_methX, ↓ms, sm, z, z4, q, e]
        · simp_all only [evB, m_law_told, b_law_told, ↓at_tryC, tryCR_rt, m_law_add, b_law_add, ↓at_methX, ↓ms, sm, z, z4, q, e]
    · simp_all only [evB, m_law_told, b_law_told, ↓at_tryC, tryCR_rt, m_law_add, b_law_add, m_law_named, b_law_named, ↓at_methX, ↓ms, sm, z, e]
  · refine .inr ⟨h, ?_⟩
    rw [e1] at e ⊢
    cases z : decide (((p.length : Nat) : Int) = 8)
    · have q := eqd_int m
      cases zm : decide (m = 0)
      · rw [zm] at q
        simp_all only [evB, m_law_told, b_law_told, ↓at_tryC, tryCR_ex, pk_full, m_law_add, b_law_add, ↓at_methX, ↓ms, sm, z, q, e]
      · rw [zm] at q
        have m0 := of_decide_eq_true zm
        subst m0
        cases z4 : decide (((p.length : Nat) : Int) = 4)
        · simp_all only [evB, m_law_told, b_law_told, ↓at_tryC, tryCR_ex, pk_full, m_law_add, b_law_add, ↓at_methX, ↓ms, sm, z, z4, q, e]
        · simp_all only [evB, m_law_told, b_law_told, ↓at_tryC, tryCR_ex, pk_full, m_law_add, b_law_add, ↓at_methX, ↓ms, sm, z, z4, q, e]
    · simp_all only [evB, m_law_told, b_law_told, ↓at_tryC, tryCR_ex, pk_full, m_law_add, b_law_add, m_law_named, b_law_named, ↓at_methX, ↓ms, sm, z, e]
end
end Ca
end
section
/-! k11: commands that are wrong -/
namespace Ca
open PySem XM L2 SX SM Cm
def exK (f : FM) (d : D) : Bool := match f [.dat d] with
  | some (.ex c [.dat d']) => decide (c = "InvalidCommand") && sameD d' d
  | _ => false
theorem exK_ok {f : FM} {d : D} (h : exK f d = true) : f [.dat d] = some (.ex "InvalidCommand" [.dat d]) := by
  unfold exK at h
  split at h
  · rename_i c d' e
    rw [Bool.and_eq_true, decide_eq_true_eq] at h
    rw [e, h.1, sameD_ok h.2]
  · cases h
def okK (f : FM) (d : D) : Bool := match f [.dat d] with
  | some (.ret (.dat .none) [.dat d']) => sameD d' d
  | _ => false
theorem okK_ok {f : FM} {d : D} (h : okK f d = true) : f [.dat d] = some (.ret (.dat .none) [.dat d]) := by
  unfold okK at h
  split at h
  · rename_i d' e
    rw [e, sameD_ok h]
  · cases h
def ne0 (m : D) : Bool := match fEqD m (.int 0) with
  | some (.bool false) => true
  | _ => false
theorem ne0_ok {m : D} (h : ne0 m = true) : fEqD m (.int 0) = some (.bool false) := by
  unfold ne0 at h
  split at h
  · assumption
  · cases h
def rep (n c : Nat) : Str := S (List.replicate n c)
inductive Wr : D → Prop
  | prepNs {b : D} {x : Str} (h8 : x.length ≤ 1000 ∧ x.length ≠ 8) (h : exK m_check_name (.str x) = true) : Wr (.tuple [.str "prepare", .str x, b])
  | prepNo {b : D} {a : D} {t : Ty} (ht : tyD a = some t) (hn : decide (t = Ty.str) = false) (h : exK m_check_name a = true) : Wr (.tuple [.str "prepare", a, b])
  | bindPs {b c : D} {x : Str} (h8 : x.length ≤ 1000 ∧ x.length ≠ 8) (h : exK m_check_name (.str x) = true) : Wr (.tuple [.str "bind", .str x, b, c])
  | bindPo {b c : D} {a : D} {t : Ty} (ht : tyD a = some t) (hn : decide (t = Ty.str) = false) (h : exK m_check_name a = true) : Wr (.tuple [.str "bind", a, b, c])
  | runNs {x : Str} (h8 : x.length ≤ 1000 ∧ x.length ≠ 8) (h : exK m_check_name (.str x) = true) : Wr (.tuple [.str "run", .str x, .int 1])
  | runNo {a : D} {t : Ty} (ht : tyD a = some t) (hn : decide (t = Ty.str) = false) (h : exK m_check_name a = true) : Wr (.tuple [.str "run", a, .int 1])
  | forgetNs {x : Str} (h8 : x.length ≤ 1000 ∧ x.length ≠ 8) (h : exK m_check_name (.str x) = true) : Wr (.tuple [.str "forget", .str x])
  | forgetNo {a : D} {t : Ty} (ht : tyD a = some t) (hn : decide (t = Ty.str) = false) (h : exK m_check_name a = true) : Wr (.tuple [.str "forget", a])
  | closeNs {x : Str} (h8 : x.length ≤ 1000 ∧ x.length ≠ 8) (h : exK m_check_name (.str x) = true) : Wr (.tuple [.str "close", .str x])
  | closeNo {a : D} {t : Ty} (ht : tyD a = some t) (hn : decide (t = Ty.str) = false) (h : exK m_check_name a = true) : Wr (.tuple [.str "close", a])
  | prepS {b : D} {x : Str} (h8 : x.length ≤ 1000 ∧ x.length ≠ 8) (h1 : okK m_check_name (.str x) = true) (h : exK m_check_string b = true) : Wr (.tuple [.str "prepare", .str x, b])
  | bindN {b c : D} {x : Str} (h8 : x.length ≤ 1000 ∧ x.length ≠ 8) (h1 : okK m_check_name (.str x) = true) (h : exK m_check_name b = true) : Wr (.tuple [.str "bind", .str x, b, c])
  | bindV {b c : D} {x : Str} (h8 : x.length ≤ 1000 ∧ x.length ≠ 8) (h1 : okK m_check_name (.str x) = true) (h2 : okK m_check_name b = true) (h : exK m_check_values c = true) : Wr (.tuple [.str "bind", .str x, b, c])
  | runM {b : D} {x : Str} (h8 : x.length ≤ 1000 ∧ x.length ≠ 8) (h1 : okK m_check_name (.str x) = true) (h2 : ne0 b = true) (h : exK m_check_most b = true) : Wr (.tuple [.str "run", .str x, b])
theorem told_wr {cs bs : List D} {d : D} (h : Wr d) : m_law_told [Cl cs bs, .dat d] = some (.ret (.dl inv11) [Cl cs bs, .dat d]) := by
  obtain ⟨fs, e1, ms⟩ := cl_ins cs bs
  rw [e1]
  have q1 : fEqD (.int 1) (.int 0) = some (.bool false) := ne0_ok (by decide +kernel)
  cases h
  case prepNs x h8 h =>
    have ms := ms (m := "prepare") (by decide)
    have e := exK_ok h
    have sm : ∀ {α : Type} (z : Option α), small x.length 1000000 z = z := fun z => if_pos (by omega)
    have z : decide (((x.length : Nat) : Int) = 8) = false := decide_eq_false (by omega)
    simp_all only [evB, m_law_told, b_law_told, ↓at_tryC, tryCR_ex, pk_inv, m_law_add, b_law_add, ↓at_methX, ↓ms, sm, z, e, m_Client_prepare, b_Client_prepare]
  case prepNo a t ht hn h =>
    have ms := ms (m := "prepare") (by decide)
    have e := exK_ok h
    simp_all only [evB, m_law_told, b_law_told, ↓at_tryC, tryCR_ex, pk_inv, m_law_add, b_law_add, ↓at_methX, ↓ms, ht, hn, e, m_Client_prepare, b_Client_prepare]
  case bindPs x h8 h =>
    have ms := ms (m := "bind") (by decide)
    have e := exK_ok h
    have sm : ∀ {α : Type} (z : Option α), small x.length 1000000 z = z := fun z => if_pos (by omega)
    have z : decide (((x.length : Nat) : Int) = 8) = false := decide_eq_false (by omega)
    simp_all only [evB, m_law_told, b_law_told, ↓at_tryC, tryCR_ex, pk_inv, m_law_add, b_law_add, ↓at_methX, ↓ms, sm, z, e, m_Client_bind, b_Client_bind]
  case bindPo a t ht hn h =>
    have ms := ms (m := "bind") (by decide)
    have e := exK_ok h
    simp_all only [evB, m_law_told, b_law_told, ↓at_tryC, tryCR_ex, pk_inv, m_law_add, b_law_add, ↓at_methX, ↓ms, ht, hn, e, m_Client_bind, b_Client_bind]
  case runNs x h8 h =>
    have ms := ms (m := "run") (by decide)
    have e := exK_ok h
    have sm : ∀ {α : Type} (z : Option α), small x.length 1000000 z = z := fun z => if_pos (by omega)
    have z : decide (((x.length : Nat) : Int) = 8) = false := decide_eq_false (by omega)
    simp_all only [evB, m_law_told, b_law_told, ↓at_tryC, tryCR_ex, pk_inv, m_law_add, b_law_add, ↓at_methX, ↓ms, sm, z, e, m_Client_run, b_Client_run, q1]
  case runNo a t ht hn h =>
    have ms := ms (m := "run") (by decide)
    have e := exK_ok h
    simp_all only [evB, m_law_told, b_law_told, ↓at_tryC, tryCR_ex, pk_inv, m_law_add, b_law_add, ↓at_methX, ↓ms, ht, hn, e, m_Client_run, b_Client_run, q1]
  case forgetNs x h8 h =>
    have ms := ms (m := "forget") (by decide)
    have e := exK_ok h
    have sm : ∀ {α : Type} (z : Option α), small x.length 1000000 z = z := fun z => if_pos (by omega)
    have z : decide (((x.length : Nat) : Int) = 8) = false := decide_eq_false (by omega)
    simp_all only [evB, m_law_told, b_law_told, ↓at_tryC, tryCR_ex, pk_inv, m_law_add, b_law_add, ↓at_methX, ↓ms, sm, z, e, m_Client_forget, b_Client_forget]
  case forgetNo a t ht hn h =>
    have ms := ms (m := "forget") (by decide)
    have e := exK_ok h
    simp_all only [evB, m_law_told, b_law_told, ↓at_tryC, tryCR_ex, pk_inv, m_law_add, b_law_add, ↓at_methX, ↓ms, ht, hn, e, m_Client_forget, b_Client_forget]
  case closeNs x h8 h =>
    have ms := ms (m := "close") (by decide)
    have e := exK_ok h
    have sm : ∀ {α : Type} (z : Option α), small x.length 1000000 z = z := fun z => if_pos (by omega)
    have z : decide (((x.length : Nat) : Int) = 8) = false := decide_eq_false (by omega)
    simp_all only [evB, m_law_told, b_law_told, ↓at_tryC, tryCR_ex, pk_inv, m_law_add, b_law_add, ↓at_methX, ↓ms, sm, z, e, m_Client_close, b_Client_close]
  case closeNo a t ht hn h =>
    have ms := ms (m := "close") (by decide)
    have e := exK_ok h
    simp_all only [evB, m_law_told, b_law_told, ↓at_tryC, tryCR_ex, pk_inv, m_law_add, b_law_add, ↓at_methX, ↓ms, ht, hn, e, m_Client_close, b_Client_close]
  case prepS b x h8 h1 h =>
    have ms := ms (m := "prepare") (by decide)
    have e := exK_ok h
    have e1 := okK_ok h1
    have sm : ∀ {α : Type} (z : Option α), small x.length 1000000 z = z := fun z => if_pos (by omega)
    have z : decide (((x.length : Nat) : Int) = 8) = false := decide_eq_false (by omega)
    simp_all only [evB, m_law_told, b_law_told, ↓at_tryC, tryCR_ex, pk_inv, m_law_add, b_law_add, ↓at_methX, ↓ms, sm, z, e, e1, m_Client_prepare, b_Client_prepare]
  case bindN b c x h8 h1 h =>
    have ms := ms (m := "bind") (by decide)
    have e := exK_ok h
    have e1 := okK_ok h1
    have sm : ∀ {α : Type} (z : Option α), small x.length 1000000 z = z := fun z => if_pos (by omega)
    have z : decide (((x.length : Nat) : Int) = 8) = false := decide_eq_false (by omega)
    simp_all only [evB, m_law_told, b_law_told, ↓at_tryC, tryCR_ex, pk_inv, m_law_add, b_law_add, ↓at_methX, ↓ms, sm, z, e, e1, m_Client_bind, b_Client_bind]
  case bindV b c x h8 h1 h2 h =>
    have ms := ms (m := "bind") (by decide)
    have e := exK_ok h
    have e1 := okK_ok h1
    have e2 := okK_ok h2
    have sm : ∀ {α : Type} (z : Option α), small x.length 1000000 z = z := fun z => if_pos (by omega)
    have z : decide (((x.length : Nat) : Int) = 8) = false := decide_eq_false (by omega)
    simp_all only [evB, m_law_told, b_law_told, ↓at_tryC, tryCR_ex, pk_inv, m_law_add, b_law_add, ↓at_methX, ↓ms, sm, z, e, e1, e2, m_Client_bind, b_Client_bind]
  case runM b x h8 h1 h2 h =>
    have ms := ms (m := "run") (by decide)
    have e := exK_ok h
    have e1 := okK_ok h1
    have e2 := ne0_ok h2
    have sm : ∀ {α : Type} (z : Option α), small x.length 1000000 z = z := fun z => if_pos (by omega)
    have z : decide (((x.length : Nat) : Int) = 8) = false := decide_eq_false (by omega)
    simp_all only [evB, m_law_told, b_law_told, ↓at_tryC, tryCR_ex, pk_inv, m_law_add, b_law_add, ↓at_methX, ↓ms, sm, z, e, e1, e2, m_Client_run, b_Client_run]
def wrongL : List D := [
  .tuple [.str "prepare", .str "", .str "begin"],
  .tuple [.str "prepare", .str "A", .str "begin"],
  .tuple [.str "prepare", .str "a1", .str "begin"],
  .tuple [.str "prepare", .str "a b", .str "begin"],
  .tuple [.str "prepare", .str "abcdefghi", .str "begin"],
  .tuple [.str "prepare", .str "a'", .str "begin"],
  .tuple [.str "prepare", .none, .str "begin"],
  .tuple [.str "prepare", .int 7, .str "begin"],
  .tuple [.str "bind", .str "", .str "s", .tuple []],
  .tuple [.str "bind", .str "A", .str "s", .tuple []],
  .tuple [.str "bind", .str "a1", .str "s", .tuple []],
  .tuple [.str "bind", .str "a b", .str "s", .tuple []],
  .tuple [.str "bind", .str "abcdefghi", .str "s", .tuple []],
  .tuple [.str "bind", .str "a'", .str "s", .tuple []],
  .tuple [.str "bind", .none, .str "s", .tuple []],
  .tuple [.str "bind", .int 7, .str "s", .tuple []],
  .tuple [.str "bind", .str "p", .str "", .tuple []],
  .tuple [.str "bind", .str "p", .str "A", .tuple []],
  .tuple [.str "bind", .str "p", .str "a1", .tuple []],
  .tuple [.str "bind", .str "p", .str "a b", .tuple []],
  .tuple [.str "bind", .str "p", .str "abcdefghi", .tuple []],
  .tuple [.str "bind", .str "p", .str "a'", .tuple []],
  .tuple [.str "bind", .str "p", .none, .tuple []],
  .tuple [.str "bind", .str "p", .int 7, .tuple []],
  .tuple [.str "run", .str "", .int 1],
  .tuple [.str "run", .str "A", .int 1],
  .tuple [.str "run", .str "a1", .int 1],
  .tuple [.str "run", .str "a b", .int 1],
  .tuple [.str "run", .str "abcdefghi", .int 1],
  .tuple [.str "run", .str "a'", .int 1],
  .tuple [.str "run", .none, .int 1],
  .tuple [.str "run", .int 7, .int 1],
  .tuple [.str "forget", .str ""],
  .tuple [.str "forget", .str "A"],
  .tuple [.str "forget", .str "a1"],
  .tuple [.str "forget", .str "a b"],
  .tuple [.str "forget", .str "abcdefghi"],
  .tuple [.str "forget", .str "a'"],
  .tuple [.str "forget", .none],
  .tuple [.str "forget", .int 7],
  .tuple [.str "close", .str ""],
  .tuple [.str "close", .str "A"],
  .tuple [.str "close", .str "a1"],
  .tuple [.str "close", .str "a b"],
  .tuple [.str "close", .str "abcdefghi"],
  .tuple [.str "close", .str "a'"],
  .tuple [.str "close", .none],
  .tuple [.str "close", .int 7],
  .tuple [.str "prepare", .str "s", .str (rep 201 120)],
  .tuple [.str "prepare", .str "s", .str "a\n"],
  .tuple [.str "prepare", .str "s", .str "\t"],
  .tuple [.str "prepare", .str "s", .none],
  .tuple [.str "bind", .str "p", .str "s", .tuple [.int 1, .int 2, .int 3, .int 4, .int 5]],
  .tuple [.str "bind", .str "p", .str "s", .tuple [.int 2147483648]],
  .tuple [.str "bind", .str "p", .str "s", .tuple [.str "'"]],
  .tuple [.str "bind", .str "p", .str "s", .tuple [.str (rep 41 121)]],
  .tuple [.str "bind", .str "p", .str "s", .tuple [.none]],
  .tuple [.str "bind", .str "p", .str "s", .tuple [.bool true]],
  .tuple [.str "bind", .str "p", .str "s", .int 5],
  .tuple [.str "bind", .str "p", .str "s", .tuple [.str "a\nb"]],
  .tuple [.str "bind", .str "p", .str "s", .tuple [.int 1, .str "\t"]],
  .tuple [.str "bind", .str "p", .str "s", .tuple [.int (-2147483649)]],
  .tuple [.str "bind", .str "p", .str "s", .str "ab"],
  .tuple [.str "bind", .str "p", .str "s", .str ""],
  .tuple [.str "prepare", .list [.str "a"], .str "begin"],
  .tuple [.str "prepare", .str "s", .list [.str "a"]],
  .tuple [.str "bind", .str "p", .str "s", .dict []],
  .tuple [.str "bind", .list [.str "p"], .str "s", .tuple []],
  .tuple [.str "bind", .str "p", .list [.str "s"], .tuple []],
  .tuple [.str "close", .list [.str "a"]],
  .tuple [.str "forget", .tuple [.str "a"]],
  .tuple [.str "run", .str "p", .int (-1)],
  .tuple [.str "run", .str "p", .int 1001],
  .tuple [.str "run", .str "p", .bool true],
  .tuple [.str "run", .str "p", .str "1"],
  .tuple [.str "bind", .str "p", .str "s", .tuple [.tuple [.int 1]]]]
def wrK (o : Option FO) : Bool := match o with
  | some (.ret (.dl l) []) => sameDs l wrongL
  | _ => false
theorem wrong_ok : m_law_wrong [] = some (.ret (.dl wrongL) []) := by
  have h : wrK (m_law_wrong []) = true := by decide +kernel
  unfold wrK at h
  split at h
  · rename_i l e
    rw [e, sameDs_ok h]
  · cases h
theorem wrong_len : wrongL.length = 76 := rfl
theorem all_wr : ∀ d ∈ wrongL, Wr d := by
  intro d hd
  unfold wrongL at hd
  simp only [List.mem_cons, List.not_mem_nil, or_false] at hd
  rcases hd with rfl | rfl | rfl | rfl | rfl | rfl | rfl | rfl | rfl | rfl | rfl | rfl | rfl | rfl | rfl | rfl | rfl | rfl | rfl | rfl | rfl | rfl | rfl | rfl | rfl | rfl | rfl | rfl | rfl | rfl | rfl | rfl | rfl | rfl | rfl | rfl | rfl | rfl | rfl | rfl | rfl | rfl | rfl | rfl | rfl | rfl | rfl | rfl | rfl | rfl | rfl | rfl | rfl | rfl | rfl | rfl | rfl | rfl | rfl | rfl | rfl | rfl | rfl | rfl | rfl | rfl | rfl | rfl | rfl | rfl | rfl | rfl | rfl | rfl | rfl | rfl
  · exact .prepNs (by decide +kernel) (by decide +kernel)
  · exact .prepNs (by decide +kernel) (by decide +kernel)
  · exact .prepNs (by decide +kernel) (by decide +kernel)
  · exact .prepNs (by decide +kernel) (by decide +kernel)
  · exact .prepNs (by decide +kernel) (by decide +kernel)
  · exact .prepNs (by decide +kernel) (by decide +kernel)
  · exact .prepNo rfl rfl (by decide +kernel)
  · exact .prepNo rfl rfl (by decide +kernel)
  · exact .bindPs (by decide +kernel) (by decide +kernel)
  · exact .bindPs (by decide +kernel) (by decide +kernel)
  · exact .bindPs (by decide +kernel) (by decide +kernel)
  · exact .bindPs (by decide +kernel) (by decide +kernel)
  · exact .bindPs (by decide +kernel) (by decide +kernel)
  · exact .bindPs (by decide +kernel) (by decide +kernel)
  · exact .bindPo rfl rfl (by decide +kernel)
  · exact .bindPo rfl rfl (by decide +kernel)
  · exact .bindN (by decide +kernel) (by decide +kernel) (by decide +kernel)
  · exact .bindN (by decide +kernel) (by decide +kernel) (by decide +kernel)
  · exact .bindN (by decide +kernel) (by decide +kernel) (by decide +kernel)
  · exact .bindN (by decide +kernel) (by decide +kernel) (by decide +kernel)
  · exact .bindN (by decide +kernel) (by decide +kernel) (by decide +kernel)
  · exact .bindN (by decide +kernel) (by decide +kernel) (by decide +kernel)
  · exact .bindN (by decide +kernel) (by decide +kernel) (by decide +kernel)
  · exact .bindN (by decide +kernel) (by decide +kernel) (by decide +kernel)
  · exact .runNs (by decide +kernel) (by decide +kernel)
  · exact .runNs (by decide +kernel) (by decide +kernel)
  · exact .runNs (by decide +kernel) (by decide +kernel)
  · exact .runNs (by decide +kernel) (by decide +kernel)
  · exact .runNs (by decide +kernel) (by decide +kernel)
  · exact .runNs (by decide +kernel) (by decide +kernel)
  · exact .runNo rfl rfl (by decide +kernel)
  · exact .runNo rfl rfl (by decide +kernel)
  · exact .forgetNs (by decide +kernel) (by decide +kernel)
  · exact .forgetNs (by decide +kernel) (by decide +kernel)
  · exact .forgetNs (by decide +kernel) (by decide +kernel)
  · exact .forgetNs (by decide +kernel) (by decide +kernel)
  · exact .forgetNs (by decide +kernel) (by decide +kernel)
  · exact .forgetNs (by decide +kernel) (by decide +kernel)
  · exact .forgetNo rfl rfl (by decide +kernel)
  · exact .forgetNo rfl rfl (by decide +kernel)
  · exact .closeNs (by decide +kernel) (by decide +kernel)
  · exact .closeNs (by decide +kernel) (by decide +kernel)
  · exact .closeNs (by decide +kernel) (by decide +kernel)
  · exact .closeNs (by decide +kernel) (by decide +kernel)
  · exact .closeNs (by decide +kernel) (by decide +kernel)
  · exact .closeNs (by decide +kernel) (by decide +kernel)
  · exact .closeNo rfl rfl (by decide +kernel)
  · exact .closeNo rfl rfl (by decide +kernel)
  · exact .prepS (by decide +kernel) (by decide +kernel) (by decide +kernel)
  · exact .prepS (by decide +kernel) (by decide +kernel) (by decide +kernel)
  · exact .prepS (by decide +kernel) (by decide +kernel) (by decide +kernel)
  · exact .prepS (by decide +kernel) (by decide +kernel) (by decide +kernel)
  · exact .bindV (by decide +kernel) (by decide +kernel) (by decide +kernel) (by decide +kernel)
  · exact .bindV (by decide +kernel) (by decide +kernel) (by decide +kernel) (by decide +kernel)
  · exact .bindV (by decide +kernel) (by decide +kernel) (by decide +kernel) (by decide +kernel)
  · exact .bindV (by decide +kernel) (by decide +kernel) (by decide +kernel) (by decide +kernel)
  · exact .bindV (by decide +kernel) (by decide +kernel) (by decide +kernel) (by decide +kernel)
  · exact .bindV (by decide +kernel) (by decide +kernel) (by decide +kernel) (by decide +kernel)
  · exact .bindV (by decide +kernel) (by decide +kernel) (by decide +kernel) (by decide +kernel)
  · exact .bindV (by decide +kernel) (by decide +kernel) (by decide +kernel) (by decide +kernel)
  · exact .bindV (by decide +kernel) (by decide +kernel) (by decide +kernel) (by decide +kernel)
  · exact .bindV (by decide +kernel) (by decide +kernel) (by decide +kernel) (by decide +kernel)
  · exact .bindV (by decide +kernel) (by decide +kernel) (by decide +kernel) (by decide +kernel)
  · exact .bindV (by decide +kernel) (by decide +kernel) (by decide +kernel) (by decide +kernel)
  · exact .prepNo rfl rfl (by decide +kernel)
  · exact .prepS (by decide +kernel) (by decide +kernel) (by decide +kernel)
  · exact .bindV (by decide +kernel) (by decide +kernel) (by decide +kernel) (by decide +kernel)
  · exact .bindPo rfl rfl (by decide +kernel)
  · exact .bindN (by decide +kernel) (by decide +kernel) (by decide +kernel)
  · exact .closeNo rfl rfl (by decide +kernel)
  · exact .forgetNo rfl rfl (by decide +kernel)
  · exact .runM (by decide +kernel) (by decide +kernel) (by decide +kernel) (by decide +kernel)
  · exact .runM (by decide +kernel) (by decide +kernel) (by decide +kernel) (by decide +kernel)
  · exact .runM (by decide +kernel) (by decide +kernel) (by decide +kernel) (by decide +kernel)
  · exact .runM (by decide +kernel) (by decide +kernel) (by decide +kernel) (by decide +kernel)
  · exact .bindV (by decide +kernel) (by decide +kernel) (by decide +kernel) (by decide +kernel)
end Ca
end
section
/-! k11: batches are handed over; outcomes are asked for -/
namespace Ca
open PySem XM L2 SX SM Cm
section
variable {cs bs : List D}
theorem stoC (f : Str) (n : Nat) (pr0 : Option (Nat × Pl)) (t : T) (ρ : Fr) (a b c d e g : Str × T) : stoR (some ⟨.ins "Client" [a, b, c, d, e, g], pr0⟩) ["Client"] n f t ρ = some { ρ with rt := ρ.rt.set n ⟨.ins "Client" (putT f t [a, b, c, d, e, g]), pr0⟩ } := stoR_ins (by simp)
theorem sync_ok (h : bs.length < 50) : m_Client_sync [Cl cs bs] = some (.ret (.dat (.int ((bs.length + 1 : Nat) : Int))) [Cl [] (bs ++ [.list cs])]) := by
  have z : decide ((50 : Int) ≤ ((bs.length : Nat) : Int)) = false := decide_eq_false (by omega)
  have z' : decide (((bs.length : Nat) : Int) ≥ 50) = false := decide_eq_false (by omega)
  have sm : ∀ {α : Type} (z : Option α), small bs.length 1000000 z = z := fun z => if_pos (by omega)
  have sm2 : ∀ {α : Type} (z : Option α), small (bs.length + 1) 1000000 z = z := fun z => if_pos (by omega)
  have l2 : bs.length < 1000000 := by omega
  have e : (bs ++ [PyData.list cs]).length = bs.length + 1 := by rw [List.length_append, List.length_singleton]
  unfold Cl line0
  generalize wire0 = ln
  simp_all only [evB, m_Client_sync, b_Client_sync, z, z', sm, sm2, l2, e, ↓stoC, List.length_append]
theorem sync_full (h : 50 ≤ bs.length) (h2 : bs.length ≤ 1000) : m_Client_sync [Cl cs bs] = some (.ex "TooManyBatches" [Cl cs bs]) := by
  have z : decide ((50 : Int) ≤ ((bs.length : Nat) : Int)) = true := decide_eq_true (by omega)
  have z' : decide (((bs.length : Nat) : Int) ≥ 50) = true := decide_eq_true (by omega)
  have sm : ∀ {α : Type} (z : Option α), small bs.length 1000000 z = z := fun z => if_pos (by omega)
  unfold Cl
  generalize line0 = ln
  simp_all only [evB, m_Client_sync, b_Client_sync, z, z', sm, at_raise]
def bat11 : List D := [.str "batches", .bool true]
def non11 : List D := [.str "none", .bool true]
theorem pk_bat (ρ : Fr) : pickC "TooManyBatches" ρ [([("TooManyBatches", true)], .own (.dl [.str "batches", .bool true]))] = some (.rt (.own (.dl bat11)) ρ) := rfl
theorem pk_non (ρ : Fr) : pickC "NoSuchBatch" ρ [([("NoSuchBatch", true)], .own (.dl [.str "none", .bool true]))] = some (.rt (.own (.dl non11)) ρ) := rfl
theorem synced_ok (h : bs.length < 50) : m_law_synced [Cl cs bs] = some (.ret (.dat (.int ((bs.length + 1 : Nat) : Int))) [Cl [] (bs ++ [.list cs])]) := by
  have e := sync_ok (cs := cs) h
  obtain ⟨fs, e1, ms⟩ := cl_ins cs bs
  have ms := ms (m := "sync") (by decide)
  rw [e1] at e ⊢
  simp_all only [evB, m_law_synced, b_law_synced, ↓at_tryC, tryCR_rt, ↓at_methX, ↓ms, e]
theorem synced_full (h : 50 ≤ bs.length) (h2 : bs.length ≤ 1000) : m_law_synced [Cl cs bs] = some (.ret (.dl bat11) [Cl cs bs]) := by
  have e := sync_full (cs := cs) h h2
  obtain ⟨fs, e1, ms⟩ := cl_ins cs bs
  have ms := ms (m := "sync") (by decide)
  rw [e1] at e ⊢
  simp_all only [evB, m_law_synced, b_law_synced, ↓at_tryC, tryCR_ex, pk_bat, ↓at_methX, ↓ms, e]
theorem handed_ok (h : bs.length ≤ 1000) : m_Client_handed [Cl cs bs] = some (.ret (.dat (.int (bs.length : Nat))) [Cl cs bs]) := by
  have sm : ∀ {α : Type} (z : Option α), small bs.length 1000000 z = z := fun z => if_pos (by omega)
  unfold Cl
  generalize line0 = ln
  simp_all only [evB, m_Client_handed, b_Client_handed, sm]
theorem received_ok : m_Client_received [Cl cs bs] = some (.ret (.dat (.int 0)) [Cl cs bs]) := by
  have sm : ∀ {α : Type} (z : Option α), small 0 1000000 z = z := fun z => if_pos (by omega)
  have c0 : ((0 : Nat) : Int) = 0 := rfl
  unfold Cl
  generalize line0 = ln
  simp_all only [evB, m_Client_received, b_Client_received, sm, c0]
theorem session_ok : m_Client_session [Cl cs bs] = some (.ret (.dat (.int 0)) [Cl cs bs]) := by
  unfold Cl
  generalize line0 = ln
  simp_all only [evB, m_Client_session, b_Client_session]
theorem phase_ok : m_Client_phase [Cl cs bs] = some (.ret (.dat (.str "closed")) [Cl cs bs]) := by
  unfold Cl line0
  generalize wire0 = ln
  simp_all only [evB, m_Client_phase, b_Client_phase]
theorem waiting_ok : m_Client_waiting [Cl cs bs] = some (.ret (.dat (.int 0)) [Cl cs bs]) := by
  have sm : ∀ {α : Type} (z : Option α), small 0 1000000 z = z := fun z => if_pos (by omega)
  have c0 : ((0 : Nat) : Int) = 0 := rfl
  have ms : ∀ (k : Option (Out R)) (n : Nat) (a b c d e g : T), methR (some (n, ("Line" : Str), [("stage", a), ("why", b), ("_other_side", c), ("_wire", d), ("_data", e), ("_taken", g)])) "Line" "many_to_send" k = k := fun k n a b c d e g => methR_yes (by simp [getA_cons, getA_nil, iteM_false, lit_inj])
  unfold Cl line0
  generalize wire0 = ln
  simp_all only [evB, m_Client_waiting, b_Client_waiting, m_Line_many_to_send, b_Line_many_to_send, ↓ms, sm, c0, Int.sub_self]
theorem out_none {i : Int} (h1 : 1 ≤ i) (h2 : i ≤ (bs.length : Nat)) (h3 : bs.length ≤ 1000) : m_Client_outcome [Cl cs bs, .dat (.int i)] = some (.ret (.dat .none) [Cl cs bs, .dat (.int i)]) := by
  have sm : ∀ {α : Type} (z : Option α), small bs.length 1000000 z = z := fun z => if_pos (by omega)
  have sm0 : ∀ {α : Type} (z : Option α), small 0 1000000 z = z := fun z => if_pos (by omega)
  have c0 : ((0 : Nat) : Int) = 0 := rfl
  have z1 : decide ((1 : Int) ≤ i) = true := decide_eq_true h1
  have z2 : decide (i ≤ (bs.length : Nat)) = true := decide_eq_true h2
  have z3 : decide (i > 0) = true := decide_eq_true (by omega)
  have z4 : decide ((0 : Int) < i) = true := decide_eq_true (by omega)
  have l1 : fLe (.int 1) (.int i) = some (.bool true) := by rw [← z1]; rfl
  have l2 : fLe (.int i) (.int (bs.length : Nat)) = some (.bool true) := by rw [← z2]; rfl
  have e2 : m_is_integer [.dat (.int i)] = some (.ret (.dat (.bool true)) [.dat (.int i)]) := by
    simp_all only [evB, m_is_integer, b_is_integer]
  unfold Cl
  generalize line0 = ln
  simp_all only [evB, m_Client_outcome, b_Client_outcome, e2, ↓at_chain, boolO_bool, sm, sm0, c0, l1, l2, z1, z2, z3, z4]
theorem out_low {i : Int} (h1 : i < 1) : m_Client_outcome [Cl cs bs, .dat (.int i)] = some (.ex "NoSuchBatch" [Cl cs bs, .dat (.int i)]) := by
  have z1 : decide ((1 : Int) ≤ i) = false := decide_eq_false (by omega)
  have l1 : fLe (.int 1) (.int i) = some (.bool false) := by rw [← z1]; rfl
  have e2 : m_is_integer [.dat (.int i)] = some (.ret (.dat (.bool true)) [.dat (.int i)]) := by
    simp_all only [evB, m_is_integer, b_is_integer]
  unfold Cl
  generalize line0 = ln
  simp_all only [evB, m_Client_outcome, b_Client_outcome, e2, ↓at_chain, boolO_bool, l1, z1, at_raise]
theorem out_high {i : Int} (h1 : 1 ≤ i) (h2 : (bs.length : Nat) < i) (h3 : bs.length ≤ 1000) : m_Client_outcome [Cl cs bs, .dat (.int i)] = some (.ex "NoSuchBatch" [Cl cs bs, .dat (.int i)]) := by
  have sm : ∀ {α : Type} (z : Option α), small bs.length 1000000 z = z := fun z => if_pos (by omega)
  have z1 : decide ((1 : Int) ≤ i) = true := decide_eq_true h1
  have z2 : decide (i ≤ (bs.length : Nat)) = false := decide_eq_false (by omega)
  have l1 : fLe (.int 1) (.int i) = some (.bool true) := by rw [← z1]; rfl
  have l2 : fLe (.int i) (.int (bs.length : Nat)) = some (.bool false) := by rw [← z2]; rfl
  have e2 : m_is_integer [.dat (.int i)] = some (.ret (.dat (.bool true)) [.dat (.int i)]) := by
    simp_all only [evB, m_is_integer, b_is_integer]
  unfold Cl
  generalize line0 = ln
  simp_all only [evB, m_Client_outcome, b_Client_outcome, e2, ↓at_chain, boolO_bool, sm, l1, l2, z1, z2, at_raise]
theorem out_other {d : D} (h : d = .bool true ∨ d = .none ∨ d = .str "1") : m_Client_outcome [Cl cs bs, .dat d] = some (.ex "NoSuchBatch" [Cl cs bs, .dat d]) := by
  have e2 : m_is_integer [.dat d] = some (.ret (.dat (.bool false)) [.dat d]) := by
    rcases h with rfl | rfl | rfl <;> simp_all only [evB, m_is_integer, b_is_integer]
  unfold Cl
  generalize line0 = ln
  simp_all only [evB, m_Client_outcome, b_Client_outcome, e2, at_raise]
theorem lout_none {i : Int} (h1 : 1 ≤ i) (h2 : i ≤ (bs.length : Nat)) (h3 : bs.length ≤ 1000) : m_law_outcome [Cl cs bs, .dat (.int i)] = some (.ret (.dat .none) [Cl cs bs, .dat (.int i)]) := by
  have e := out_none (cs := cs) h1 h2 h3
  obtain ⟨fs, e1, ms⟩ := cl_ins cs bs
  have ms := ms (m := "outcome") (by decide)
  rw [e1] at e ⊢
  simp_all only [evB, m_law_outcome, b_law_outcome, ↓at_tryC, tryCR_rt, ↓at_methX, ↓ms, e]
theorem lout_ex {d : D} (e : m_Client_outcome [Cl cs bs, .dat d] = some (.ex "NoSuchBatch" [Cl cs bs, .dat d])) : m_law_outcome [Cl cs bs, .dat d] = some (.ret (.dl non11) [Cl cs bs, .dat d]) := by
  obtain ⟨fs, e1, ms⟩ := cl_ins cs bs
  have ms := ms (m := "outcome") (by decide)
  rw [e1] at e ⊢
  simp_all only [evB, m_law_outcome, b_law_outcome, ↓at_tryC, tryCR_ex, pk_non, ↓at_methX, ↓ms, e]
end
end Ca
end
section
/-! k11: the fiftieth batch -/
namespace Ca
open PySem XM L2 SX SM Cm
theorem a_lit : ("a" : Str) = S [97] := by decide +kernel
theorem b_lit : ("b" : Str) = S [98] := by decide +kernel
theorem nm_a : Cq.NameL [97] := ⟨by decide, by decide, by decide⟩
theorem nm_b : Cq.NameL [98] := ⟨by decide, by decide, by decide⟩
theorem ned_int (i : Int) : fNeD (.int i) (.int i) = some (.bool false) := neD_self (Lay.int i 64)
theorem eqd_int2 (i : Int) : fEqD (.int i) (.int i) = some (.bool true) := eqD_self (Lay.int i 64)
theorem eqd_bat : fEqD (.list [.str "batches", .bool true]) (.list [.str "batches", .bool true]) = some (.bool true) := eqD_self ⟨by decide +kernel, by decide +kernel⟩
section
variable {cs bs : List D}
def fA : D := .tuple [.str "forget", .str "a"]
def cA : D := .tuple [.str "close", .str "a"]
def fB : D := .tuple [.str "forget", .str "b"]
theorem t_fA (h : cs.length < 20) : m_law_told [Cl cs bs, .dat fA] = some (.ret (.dat (.int (cs.length : Nat))) [Cl (cs ++ [fA]) bs, .dat fA]) := by
  have := told_forget (cs := cs) (bs := bs) nm_a (by omega)
  rw [← a_lit] at this
  rcases this with ⟨_, e⟩ | ⟨h2, _⟩
  · exact e
  · omega
theorem t_cA (h : cs.length < 20) : m_law_told [Cl cs bs, .dat cA] = some (.ret (.dat (.int (cs.length : Nat))) [Cl (cs ++ [cA]) bs, .dat cA]) := by
  have := told_close (cs := cs) (bs := bs) nm_a (by omega)
  rw [← a_lit] at this
  rcases this with ⟨_, e⟩ | ⟨h2, _⟩
  · exact e
  · omega
theorem t_fB (h : cs.length < 20) : m_law_told [Cl cs bs, .dat fB] = some (.ret (.dat (.int (cs.length : Nat))) [Cl (cs ++ [fB]) bs, .dat fB]) := by
  have := told_forget (cs := cs) (bs := bs) nm_b (by omega)
  rw [← b_lit] at this
  rcases this with ⟨_, e⟩ | ⟨h2, _⟩
  · exact e
  · omega
theorem fifty_lt (h : bs.length < 50) : m_law_fifty [Cl cs bs] = some (.ret (.dat (.bool true)) [Cl cs bs]) := by
  have e := handed_ok (cs := cs) (bs := bs) (by omega)
  have z : decide (((bs.length : Nat) : Int) < 50) = true := decide_eq_true (by omega)
  obtain ⟨fs, e1, _⟩ := cl_ins cs bs
  rw [e1] at e ⊢
  simp_all only [evB, m_law_fifty, b_law_fifty, ↓at_prop, propR_yes, e, z]
theorem fifty_50 (h : bs.length = 50) : m_law_fifty [Cl [] bs] = some (.ret (.dat (.bool true)) [Cl [fA, cA, fB] bs]) := by
  have e := handed_ok (cs := []) (bs := bs) (by omega)
  have e' := handed_ok (cs := [fA, cA, fB]) (bs := bs) (by omega)
  have z : decide (((bs.length : Nat) : Int) < 50) = false := decide_eq_false (by omega)
  have z5 : decide (((bs.length : Nat) : Int) = 50) = true := decide_eq_true (by omega)
  have t1 := t_fA (cs := []) (bs := bs) (by decide)
  have t2 := t_cA (cs := [fA]) (bs := bs) (by decide)
  have t3 := t_fB (cs := [fA, cA]) (bs := bs) (by decide)
  have t4 := synced_full (cs := [fA, cA]) (bs := bs) (by omega) (by omega)
  replace t1 : m_law_told [Cl [] bs, .dat fA] = some (.ret (.dat (.int 0)) [Cl [fA] bs, .dat fA]) := t1
  replace t2 : m_law_told [Cl [fA] bs, .dat cA] = some (.ret (.dat (.int 1)) [Cl [fA, cA] bs, .dat cA]) := t2
  replace t3 : m_law_told [Cl [fA, cA] bs, .dat fB] = some (.ret (.dat (.int 2)) [Cl [fA, cA, fB] bs, .dat fB]) := t3
  have n0 := ned_int 0
  have n1 := ned_int 1
  have q2 := eqd_int2 2
  have qb := eqd_bat
  obtain ⟨f0, e0, _⟩ := cl_ins [] bs
  obtain ⟨f1, e1, _⟩ := cl_ins [fA] bs
  obtain ⟨f2, e2, _⟩ := cl_ins [fA, cA] bs
  obtain ⟨f3, e3, _⟩ := cl_ins [fA, cA, fB] bs
  unfold bat11 at t4
  rw [e0] at e t1 ⊢
  rw [e1] at t1 t2
  rw [e2] at t2 t3 t4
  rw [e3] at e' t3 ⊢
  unfold fA cA fB at *
  simp_all only [evB, m_law_fifty, b_law_fifty, ↓at_prop, propR_yes, e, e', z, z5, t1, t2, t3, t4, n0, n1, q2, qb]
end
end Ca
end
section
/-! k11: the first loop, statement by statement -/
namespace Ca
open PySem XM L2 SX SM Cm
def fsC (cs bs : List D) : List (Str × T) := [("_line", line0), ("_number", .dat (.int 0)), ("_commands", .dl cs), ("_batches", .dl bs), ("_outcomes", .dl []), ("_replies", .dl [])]
theorem cl_fs (cs bs : List D) : Cl cs bs = .ins "Client" (fsC cs bs) := rfl
/-- the law's frame -/
def FL (np : Nat) (sc : List Int) (f : List (Str × T)) (w cmds : List D) (c h : Int) (x6 x7 x8 x9 x10 : Sl) (more : List Rt) : Fr :=
  ⟨[.ref 0, .ref 1, .ref 2, .dat (.int c), .dat (.int h), .ref 3, x6, x7, x8, x9, x10], ⟨.frz sc, none⟩ :: ⟨.ins "Client" f, none⟩ :: ⟨.dl w, none⟩ :: ⟨.dl cmds, none⟩ :: more, np⟩
def bA : SM := (mSet 7 (mOp fAdd (mOp fAdd (mCall0 m_law_cell [(mSlot 0), (mC (.int 3))]) (mOp fMulL (mC (.int 7)) (mSlot 3))) (mSlot 4)))
def bB : SM := (mIf (asB (mOp fNeD (mCall0 m_law_told [(mSlot 1), (mItems false fIx (mSlot 2) (mOp fMod (mSlot 7) (mB fLen [(mSlot 2)])))]) (mLst [(mC (.str "invalid")), (mC (.bool true))])))
      (mRet (mC (.bool false))) mNx)
def bC : SM := (mSet 8 (mSlot 3))
def bD : SM := (mIf (asB (mOp fEq (mSlot 3) (mC (.int 20))))
      (mSet 8 (mLst [(mC (.str "full")), (mC (.bool true))])) mNx)
def bE : SM := (mIf (mOrT (asB (mOp fNe (mB (f1 fRepr) [(mCall0 m_law_told [(mSlot 1), (mSlot 6)])]) (mB (f1 fRepr) [(mSlot 8)]))) (mOrT (asB (mOp fNe (mProp "Client" m_Client_phase (mSlot 1)) (mC (.str "closed")))) (asB (mOp fNe (mProp "Client" m_Client_waiting (mSlot 1)) (mC (.int 0))))))
      (mRet (mC (.bool false))) mNx)
def bF : SM := (mSet 3 (mB fMin2 [(mC (.int 20)), (mOp fAdd (mSlot 3) (mC (.int 1)))]))
def bG : SM := (mIf (asB (mOp fEq (mOp fMod (mSlot 7) (mC (.int 23))) (mC (.int 0))))
      (mSeq (mSet 3 (mC (.int 0)))
      (mSeq (mSet 4 (mOp fAdd (mSlot 4) (mC (.int 1))))
      (mIf (asB (mOp fNe (mB (f1 fRepr) [(mCall0 m_law_synced [(mSlot 1)])]) (mB (f1 fRepr) [(mSlot 4)])))
        (mRet (mC (.bool false))) mNx))) mNx)
def body1 : SM := mSeq bA (mSeq bB (mSeq bC (mSeq bD (mSeq bE (mSeq bF bG)))))
/-- what slot 8 may hold -/
def Du (x8 : Sl) (more : List Rt) : Prop := (UDs x8 ∧ more = []) ∨ (x8 = .ref 4 ∧ more = [⟨.dl full11, none⟩])
section
variable {sc : List Int} {f : List (Str × T)} {w cmds : List D} {c h c3 : Int} {d : D} {x6 x7 x8 x9 x10 : Sl} {more : List Rt}
theorem bA_ok (e : m_law_cell [.frz sc, .dat (.int 3)] = some (.ret (.dat (.int c3)) [.frz sc, .dat (.int 3)])) (u7 : UDs x7) (u8 : Du x8 more) :
    bA (FL 4 sc f w cmds c h (.dat d) x7 x8 .un .un more) = some (.nx (FL 4 sc f w cmds c h (.dat d) (.dat (.int (c3 + 7 * c + h))) x8 .un .un more)) := by
  unfold FL
  rcases u7 with rfl | ⟨d7, rfl⟩ <;> rcases u8 with ⟨rfl | ⟨d8, rfl⟩, rfl⟩ | ⟨rfl, rfl⟩ <;> simp_all only [evB, bA, e]
theorem bB_ok {n : Int} {dw : D} (hw : 0 < w.length) (hw2 : w.length ≤ 1000) (hd : w[(n % (w.length : Nat)).toNat]? = some dw) (e : m_law_told [.ins "Client" f, .dat dw] = some (.ret (.dl inv11) [.ins "Client" f, .dat dw])) (u8 : Du x8 more) :
    bB (FL 4 sc f w cmds c h (.dat d) (.dat (.int n)) x8 .un .un more) = some (.nx (FL 4 sc f w cmds c h (.dat d) (.dat (.int n)) x8 .un .un more)) := by
  have sm : ∀ {α : Type} (z : Option α), small w.length 1000000 z = z := fun z => if_pos (by omega)
  have p : (0 : Int) < (w.length : Nat) := by omega
  have q : 0 ≤ n % (w.length : Nat) := Int.emod_nonneg _ (by omega)
  have ne : fNeD (.list [.str "invalid", .bool true]) (.list [.str "invalid", .bool true]) = some (.bool false) := neD_self ⟨by decide +kernel, by decide +kernel⟩
  unfold inv11 at e
  unfold FL
  rcases u8 with ⟨rfl | ⟨d8, rfl⟩, rfl⟩ | ⟨rfl, rfl⟩ <;> simp_all only [evB, bB, sm, p, q, hd, e, ne]
theorem bC_ok {n : Int} (u8 : Du x8 more) : bC (FL 4 sc f w cmds c h (.dat d) (.dat (.int n)) x8 .un .un more) = some (.nx (FL 4 sc f w cmds c h (.dat d) (.dat (.int n)) (.dat (.int c)) .un .un [])) := by
  unfold FL
  rcases u8 with ⟨rfl | ⟨d8, rfl⟩, rfl⟩ | ⟨rfl, rfl⟩ <;> simp_all only [evB, bC]
theorem bD_no {n : Int} (hc : c ≠ 20) : bD (FL 4 sc f w cmds c h (.dat d) (.dat (.int n)) (.dat (.int c)) .un .un []) = some (.nx (FL 4 sc f w cmds c h (.dat d) (.dat (.int n)) (.dat (.int c)) .un .un [])) := by
  have z : decide (c = 20) = false := decide_eq_false hc
  unfold FL
  simp_all only [evB, bD, z]
theorem bD_yes {n : Int} (hc : c = 20) : bD (FL 4 sc f w cmds c h (.dat d) (.dat (.int n)) (.dat (.int c)) .un .un []) = some (.nx (FL 4 sc f w cmds c h (.dat d) (.dat (.int n)) (.ref 4) .un .un [⟨.dl full11, none⟩])) := by
  have z : decide (c = 20) = true := decide_eq_true hc
  unfold FL full11
  simp_all only [evB, bD, z]
end
def chkR (d : D) : Bool := match fRepr d with
  | some (.str _) => true
  | _ => false
theorem chkR_ok {d : D} (h : chkR d = true) : ∃ x, fRepr d = some (.str x) := by
  unfold chkR at h
  split at h
  · exact ⟨_, by assumption⟩
  · cases h
theorem repr_all : ((List.range 100).all fun i => chkR (.int (i : Nat))) = true := by decide +kernel
theorem repr_int {i : Nat} (h : i < 100) : ∃ x, fRepr (.int (i : Nat)) = some (.str x) := chkR_ok (List.all_eq_true.mp repr_all i (List.mem_range.mpr h))
theorem repr_full : ∃ x, fRepr (.list full11) = some (.str x) := chkR_ok (by decide +kernel)
section
variable {sc : List Int} {f f2 : List (Str × T)} {w cmds : List D} {c h : Int} {n : Int} {d : D} {x6 x7 x8 x9 x10 : Sl} {more : List Rt}
theorem bE_lt {i : Nat} (hi : i < 100) (e : m_law_told [.ins "Client" f, .dat d] = some (.ret (.dat (.int (i : Nat))) [.ins "Client" f2, .dat d])) (ep : m_Client_phase [.ins "Client" f2] = some (.ret (.dat (.str "closed")) [.ins "Client" f2])) (ew : m_Client_waiting [.ins "Client" f2] = some (.ret (.dat (.int 0)) [.ins "Client" f2])) :
    bE (FL 4 sc f w cmds (i : Nat) h (.dat d) (.dat (.int n)) (.dat (.int (i : Nat))) .un .un []) = some (.nx (FL 4 sc f2 w cmds (i : Nat) h (.dat d) (.dat (.int n)) (.dat (.int (i : Nat))) .un .un [])) := by
  obtain ⟨x, r⟩ := repr_int hi
  unfold FL
  generalize ((i : Nat) : Int) = j at *
  simp_all only [evB, bE, e, r, ↓at_prop, propR_yes, ep, ew]
theorem bE_ge (e : m_law_told [.ins "Client" f, .dat d] = some (.ret (.dl full11) [.ins "Client" f, .dat d])) (ep : m_Client_phase [.ins "Client" f] = some (.ret (.dat (.str "closed")) [.ins "Client" f])) (ew : m_Client_waiting [.ins "Client" f] = some (.ret (.dat (.int 0)) [.ins "Client" f])) :
    bE (FL 4 sc f w cmds c h (.dat d) (.dat (.int n)) (.ref 4) .un .un [⟨.dl full11, none⟩]) = some (.nx (FL 4 sc f w cmds c h (.dat d) (.dat (.int n)) (.ref 4) .un .un [⟨.dl full11, none⟩])) := by
  obtain ⟨x, r⟩ := repr_full
  unfold FL
  generalize full11 = fu at *
  simp_all only [evB, bE, e, r, ↓at_prop, propR_yes, ep, ew]
theorem bF_ok (u8 : Du x8 more) : bF (FL 4 sc f w cmds c h (.dat d) (.dat (.int n)) x8 .un .un more) = some (.nx (FL 4 sc f w cmds (if c + 1 < 20 then c + 1 else 20) h (.dat d) (.dat (.int n)) x8 .un .un more)) := by
  have e : fMin2 [.dat (.int 20), .dat (.int (c + 1))] = fun ρ => some (.ok (.dat (.int (if c + 1 < 20 then c + 1 else 20))) ρ) := by
    funext ρ; rfl
  unfold FL
  rcases u8 with ⟨rfl | ⟨d8, rfl⟩, rfl⟩ | ⟨rfl, rfl⟩ <;> simp_all only [evB, bF, e]
theorem bG_no (hz : n % 23 ≠ 0) (u8 : Du x8 more) : bG (FL 4 sc f w cmds c h (.dat d) (.dat (.int n)) x8 .un .un more) = some (.nx (FL 4 sc f w cmds c h (.dat d) (.dat (.int n)) x8 .un .un more)) := by
  have z : decide (n % 23 = 0) = false := decide_eq_false hz
  unfold FL
  rcases u8 with ⟨rfl | ⟨d8, rfl⟩, rfl⟩ | ⟨rfl, rfl⟩ <;> simp_all only [evB, bG, z]
theorem bG_yes {k : Nat} (hk : k + 1 < 100) (hz : n % 23 = 0) (e : m_law_synced [.ins "Client" f] = some (.ret (.dat (.int ((k + 1 : Nat) : Int))) [.ins "Client" f2])) (u8 : Du x8 more) :
    bG (FL 4 sc f w cmds c (k : Nat) (.dat d) (.dat (.int n)) x8 .un .un more) = some (.nx (FL 4 sc f2 w cmds 0 ((k + 1 : Nat) : Int) (.dat d) (.dat (.int n)) x8 .un .un more)) := by
  have z : decide (n % 23 = 0) = true := decide_eq_true hz
  obtain ⟨x, r⟩ := repr_int hk
  have e1 : ((k : Nat) : Int) + 1 = ((k + 1 : Nat) : Int) := by omega
  unfold FL
  generalize ((k + 1 : Nat) : Int) = j at *
  rcases u8 with ⟨rfl | ⟨d8, rfl⟩, rfl⟩ | ⟨rfl, rfl⟩ <;> simp_all only [evB, bG, z, e, r, e1]
end
end Ca
end
section
/-! k11: the first loop -/
namespace Ca
open PySem XM L2 SX SM Cm
/-- a command that may be told at any time -/
def Cd (d : D) : Prop := ∃ d', ∀ cs bs : List D, cs.length ≤ 1000 → ToldR (m_law_told [Cl cs bs, .dat d]) cs bs d d'
/-- s commands were told -/
def J1 (c3 : Int) (c h s : Nat) : Prop := 2 * h + c ≤ s + 1 ∧ (c = 0 → 0 < h → (c3 + h) % 23 = 0 → 2 * h ≤ s) ∧ c ≤ 20
theorem J1_no {c3 : Int} {c h s : Nat} (j : J1 c3 c h s) : J1 c3 (if c + 1 < 20 then c + 1 else 20) h (s + 1) := by
  obtain ⟨a, b, k⟩ := j
  refine ⟨by split <;> omega, fun z => ?_, by split <;> omega⟩
  split at z <;> omega
theorem J1_yes {c3 : Int} {c h s : Nat} (j : J1 c3 c h s) (z : (c3 + 7 * (c : Int) + (h : Int)) % 23 = 0) : J1 c3 0 (h + 1) (s + 1) := by
  obtain ⟨a, b, k⟩ := j
  refine ⟨?_, fun _ _ z2 => ?_, by omega⟩
  · by_cases c0 : c = 0
    · subst c0
      by_cases h0 : h = 0
      · omega
      · have := b rfl (by omega) (by omega)
        omega
    · omega
  · have : c = 10 := by omega
    omega
theorem J1_h {c3 : Int} {c h s : Nat} (j : J1 c3 c h s) (hs : s ≤ 70) : h ≤ 40 := by
  obtain ⟨a, b, k⟩ := j
  omega
section
variable {sc : List Int} {w cmds : List D} {c3 : Int}
/-- one turn of the first loop -/
theorem turn1 (e3 : m_law_cell [.frz sc, .dat (.int 3)] = some (.ret (.dat (.int c3)) [.frz sc, .dat (.int 3)])) (hw : 0 < w.length) (hw2 : w.length ≤ 1000) (wr : ∀ d ∈ w, Wr d) {cs bs : List D} {d : D} (hd : Cd d) {s : Nat} (hs : s ≤ 69) (j : J1 c3 cs.length bs.length s) {x7 x8 : Sl} {more : List Rt} (u7 : UDs x7) (u8 : Du x8 more) :
    ∃ cs' bs' x7' x8' more', UDs x7' ∧ Du x8' more' ∧ J1 c3 cs'.length bs'.length (s + 1) ∧
      body1 (FL 4 sc (fsC cs bs) w cmds (cs.length : Nat) (bs.length : Nat) (.dat d) x7 x8 .un .un more) = some (.nx (FL 4 sc (fsC cs' bs') w cmds (cs'.length : Nat) (bs'.length : Nat) (.dat d) x7' x8' .un .un more')) := by
  have hb := J1_h j (by omega)
  have hc := j.2.2
  have a1 := bA_ok (f := fsC cs bs) (w := w) (cmds := cmds) (c := (cs.length : Nat)) (h := (bs.length : Nat)) (d := d) e3 u7 u8
  obtain ⟨dw, ew⟩ : ∃ dw, w[((c3 + 7 * ((cs.length : Nat) : Int) + ((bs.length : Nat) : Int)) % (w.length : Nat)).toNat]? = some dw := by
    have lt : ((c3 + 7 * ((cs.length : Nat) : Int) + ((bs.length : Nat) : Int)) % (w.length : Nat)).toNat < w.length := by
      have q := Int.emod_lt_of_pos (c3 + 7 * ((cs.length : Nat) : Int) + ((bs.length : Nat) : Int)) (show (0 : Int) < (w.length : Nat) by omega)
      have q2 := Int.emod_nonneg (c3 + 7 * ((cs.length : Nat) : Int) + ((bs.length : Nat) : Int)) (show ((w.length : Nat) : Int) ≠ 0 by omega)
      omega
    exact ⟨_, List.getElem?_eq_getElem lt⟩
  have tw := told_wr (cs := cs) (bs := bs) (wr dw (List.mem_of_getElem? ew))
  rw [cl_fs] at tw
  have a2 := bB_ok (sc := sc) (f := fsC cs bs) (cmds := cmds) (c := (cs.length : Nat)) (h := (bs.length : Nat)) (d := d) hw hw2 ew tw u8
  have a3 := bC_ok (sc := sc) (f := fsC cs bs) (w := w) (cmds := cmds) (c := (cs.length : Nat)) (h := (bs.length : Nat)) (d := d) (n := c3 + 7 * ((cs.length : Nat) : Int) + ((bs.length : Nat) : Int)) u8
  obtain ⟨d', tok⟩ := hd
  generalize hn : c3 + 7 * ((cs.length : Nat) : Int) + ((bs.length : Nat) : Int) = n at *
  -- behind the command
  have mid : ∃ cs2 x8' more', Du x8' more' ∧ cs2.length = (if cs.length + 1 < 20 then cs.length + 1 else 20) ∧
      mSeq bD (mSeq bE (mSeq bF bG)) (FL 4 sc (fsC cs bs) w cmds (cs.length : Nat) (bs.length : Nat) (.dat d) (.dat (.int n)) (.dat (.int (cs.length : Nat))) .un .un []) =
        bG (FL 4 sc (fsC cs2 bs) w cmds (cs2.length : Nat) (bs.length : Nat) (.dat d) (.dat (.int n)) x8' .un .un more') := by
    rcases tok cs bs (by omega) with ⟨lt, e⟩ | ⟨ge, e⟩
    · rw [cl_fs, cl_fs] at e
      have ep := phase_ok (cs := cs ++ [d']) (bs := bs)
      have ew := waiting_ok (cs := cs ++ [d']) (bs := bs)
      rw [cl_fs] at ep ew
      have b1 := bD_no (sc := sc) (f := fsC cs bs) (w := w) (cmds := cmds) (c := (cs.length : Nat)) (h := (bs.length : Nat)) (d := d) (n := n) (by omega)
      have b2 := bE_lt (sc := sc) (w := w) (cmds := cmds) (h := (bs.length : Nat)) (n := n) (show cs.length < 100 by omega) e ep ew
      have b3 := bF_ok (sc := sc) (f := fsC (cs ++ [d']) bs) (w := w) (cmds := cmds) (c := (cs.length : Nat)) (h := (bs.length : Nat)) (d := d) (n := n) (x8 := .dat (.int (cs.length : Nat))) (more := []) (.inl ⟨.inr ⟨_, rfl⟩, rfl⟩)
      have ln : (cs ++ [d']).length = if cs.length + 1 < 20 then cs.length + 1 else 20 := by
        rw [List.length_append, List.length_singleton]; split <;> omega
      have li : (if ((cs.length : Nat) : Int) + 1 < 20 then ((cs.length : Nat) : Int) + 1 else 20) = (((cs ++ [d']).length : Nat) : Int) := by
        rw [List.length_append, List.length_singleton]; split <;> omega
      rw [li] at b3
      exact ⟨cs ++ [d'], _, _, .inl ⟨.inr ⟨_, rfl⟩, rfl⟩, ln, by rw [at_seq, b1, andQ_nx, at_seq, b2, andQ_nx, at_seq, b3, andQ_nx]⟩
    · have c20 : cs.length = 20 := by omega
      rw [cl_fs] at e
      have ep := phase_ok (cs := cs) (bs := bs)
      have ew := waiting_ok (cs := cs) (bs := bs)
      rw [cl_fs] at ep ew
      have b1 := bD_yes (sc := sc) (f := fsC cs bs) (w := w) (cmds := cmds) (c := (cs.length : Nat)) (h := (bs.length : Nat)) (d := d) (n := n) (by omega)
      have b2 := bE_ge (sc := sc) (w := w) (cmds := cmds) (c := (cs.length : Nat)) (h := (bs.length : Nat)) (n := n) e ep ew
      have b3 := bF_ok (sc := sc) (f := fsC cs bs) (w := w) (cmds := cmds) (c := (cs.length : Nat)) (h := (bs.length : Nat)) (d := d) (n := n) (x8 := .ref 4) (more := [⟨.dl full11, none⟩]) (.inr ⟨rfl, rfl⟩)
      have li : (if ((cs.length : Nat) : Int) + 1 < 20 then ((cs.length : Nat) : Int) + 1 else 20) = ((cs.length : Nat) : Int) := by split <;> omega
      rw [li] at b3
      exact ⟨cs, _, _, .inr ⟨rfl, rfl⟩, by rw [c20]; rfl, by rw [at_seq, b1, andQ_nx, at_seq, b2, andQ_nx, at_seq, b3, andQ_nx]⟩
  obtain ⟨cs2, x8', more', u8', ln, em⟩ := mid
  have go : body1 (FL 4 sc (fsC cs bs) w cmds (cs.length : Nat) (bs.length : Nat) (.dat d) x7 x8 .un .un more) = bG (FL 4 sc (fsC cs2 bs) w cmds (cs2.length : Nat) (bs.length : Nat) (.dat d) (.dat (.int n)) x8' .un .un more') := by
    unfold body1
    rw [at_seq, a1, andQ_nx, at_seq, a2, andQ_nx, at_seq, a3, andQ_nx]
    exact em
  rw [go]
  by_cases z : n % 23 = 0
  · have se := synced_ok (cs := cs2) (bs := bs) (by omega)
    rw [cl_fs, cl_fs] at se
    have g := bG_yes (sc := sc) (w := w) (cmds := cmds) (c := (cs2.length : Nat)) (d := d) (k := bs.length) (by omega) z se u8'
    have lb : (bs ++ [PyData.list cs2]).length = bs.length + 1 := by rw [List.length_append, List.length_singleton]
    refine ⟨[], bs ++ [.list cs2], .dat (.int n), x8', more', .inr ⟨_, rfl⟩, u8', ?_, ?_⟩
    · rw [lb]
      exact J1_yes j (by rw [hn]; exact z)
    · rw [g, lb]
      rfl
  · refine ⟨cs2, bs, .dat (.int n), x8', more', .inr ⟨_, rfl⟩, u8', ?_, bG_no z u8'⟩
    rw [ln]
    exact J1_no j
end
end Ca
end
section
/-! k11: the first loop, whole; the second -/
namespace Ca
open PySem XM L2 SX SM Cm
section
variable {sc : List Int} {w cmds : List D} {c3 : Int}
theorem bind6 {f : List (Str × T)} {c h : Int} {d : D} {x6 x7 x8 : Sl} {more : List Rt} (u6 : UDs x6) (u7 : UDs x7) (u8 : Du x8 more) : bName 6 d (FL 4 sc f w cmds c h x6 x7 x8 .un .un more) = some (FL 4 sc f w cmds c h (.dat d) x7 x8 .un .un more) := by
  unfold FL
  rcases u6 with rfl | ⟨d6, rfl⟩ <;> rcases u7 with rfl | ⟨d7, rfl⟩ <;> rcases u8 with ⟨rfl | ⟨d8, rfl⟩, rfl⟩ | ⟨rfl, rfl⟩ <;> simp_all only [evB, true_and]
theorem loop1 (e3 : m_law_cell [.frz sc, .dat (.int 3)] = some (.ret (.dat (.int c3)) [.frz sc, .dat (.int 3)])) (hw : 0 < w.length) (hw2 : w.length ≤ 1000) (wr : ∀ d ∈ w, Wr d) (hc : ∀ d ∈ cmds, Cd d) (hl : cmds.length ≤ 70) :
    ∃ ρ', forO (bName 6) body1 3 cmds.length cmds.length (FL 4 sc (fsC [] []) w cmds 0 0 .un .un .un .un .un []) = some (.nx ρ') ∧
      ∃ cs bs x6 x7 x8 more, ρ' = FL 4 sc (fsC cs bs) w cmds (cs.length : Nat) (bs.length : Nat) x6 x7 x8 .un .un more ∧ UDs x6 ∧ UDs x7 ∧ Du x8 more ∧ bs.length ≤ 40 := by
  refine for_toO (fun rest ρ => ∃ (cs bs : List D) (s : Nat) (x6 x7 x8 : Sl) (more : List Rt), ρ = FL 4 sc (fsC cs bs) w cmds (cs.length : Nat) (bs.length : Nat) x6 x7 x8 .un .un more ∧ UDs x6 ∧ UDs x7 ∧ Du x8 more ∧ J1 c3 cs.length bs.length s ∧ s + rest.length ≤ 70 ∧ ∀ d ∈ rest, Cd d) ?_ ?_ ?_ ?_
  · rintro r ρ ⟨cs, bs, s, x6, x7, x8, more, rfl, _⟩
    exact ⟨_, rfl⟩
  · exact ⟨[], [], 0, .un, .un, .un, [], rfl, .inl rfl, .inl rfl, .inl ⟨.inl rfl, rfl⟩, ⟨by simp, by simp, by simp⟩, by omega, hc⟩
  · rintro d r ρ ⟨cs, bs, s, x6, x7, x8, more, rfl, u6, u7, u8, j, hs, hr⟩
    rw [List.length_cons] at hs
    obtain ⟨cs', bs', x7', x8', more', u7', u8', j', e⟩ := turn1 (cmds := cmds) e3 hw hw2 wr (hr d List.mem_cons_self) (by omega) j u7 u8
    exact ⟨_, _, bind6 u6 u7 u8, e, cs', bs', s + 1, _, x7', x8', more', rfl, .inr ⟨_, rfl⟩, u7', u8', j', by omega, fun x hx => hr x (List.mem_cons_of_mem _ hx)⟩
  · rintro ρ' ⟨cs, bs, s, x6, x7, x8, more, rfl, u6, u7, u8, j, hs, hr⟩
    exact ⟨cs, bs, x6, x7, x8, more, rfl, u6, u7, u8, J1_h j (by rw [List.length_nil] at hs; omega)⟩
end
/-- what slot 8 may hold, later -/
def Dv (x8 : Sl) (more : List Rt) : Prop := (UDs x8 ∧ more = []) ∨ ∃ l, x8 = .ref 4 ∧ more = [⟨.dl l, none⟩]
theorem Du.v {x8 : Sl} {more : List Rt} (h : Du x8 more) : Dv x8 more := h.imp id fun ⟨a, b⟩ => ⟨_, a, b⟩
def cA1 : SM := (mSet 8 (mOp fAdd (mSlot 9) (mC (.int 1))))
def cB1 : SM := (mIf (asB (mOp fGe (mSlot 9) (mC (.int 50))))
      (mSet 8 (mLst [(mC (.str "batches")), (mC (.bool true))])) mNx)
def cC1 : SM := (mIf (mOrT (asB (mOp fNeD (mCall0 m_law_synced [(mSlot 1)]) (mSlot 8))) (asB (mOp fNe (mProp "Client" m_Client_handed (mSlot 1)) (mB fMin2 [(mOp fAdd (mSlot 9) (mC (.int 1))), (mC (.int 50))]))))
      (mRet (mC (.bool false))) mNx)
def body2 : SM := mSeq cA1 (mSeq cB1 cC1)
section
variable {sc : List Int} {f f2 : List (Str × T)} {w cmds : List D} {c h k : Int} {d : D} {x6 x7 x8 x9 x10 : Sl} {more : List Rt}
theorem bind9 (u6 : UDs x6) (u7 : UDs x7) (u8 : Dv x8 more) (u9 : UDs x9) : bName 9 d (FL 1 sc f w cmds c h x6 x7 x8 x9 .un more) = some (FL 1 sc f w cmds c h x6 x7 x8 (.dat d) .un more) := by
  unfold FL
  rcases u6 with rfl | ⟨d6, rfl⟩ <;> rcases u7 with rfl | ⟨d7, rfl⟩ <;> rcases u9 with rfl | ⟨d9, rfl⟩ <;> rcases u8 with ⟨rfl | ⟨d8, rfl⟩, rfl⟩ | ⟨l, rfl, rfl⟩ <;> simp_all only [evB, true_and]
theorem cA_ok (u6 : UDs x6) (u7 : UDs x7) (u8 : Dv x8 more) : cA1 (FL 1 sc f w cmds c h x6 x7 x8 (.dat (.int k)) .un more) = some (.nx (FL 1 sc f w cmds c h x6 x7 (.dat (.int (k + 1))) (.dat (.int k)) .un [])) := by
  unfold FL
  rcases u6 with rfl | ⟨d6, rfl⟩ <;> rcases u7 with rfl | ⟨d7, rfl⟩ <;> rcases u8 with ⟨rfl | ⟨d8, rfl⟩, rfl⟩ | ⟨l, rfl, rfl⟩ <;> simp_all only [evB, cA1]
theorem cB_no (hk : k < 50) (u6 : UDs x6) (u7 : UDs x7) : cB1 (FL 1 sc f w cmds c h x6 x7 (.dat (.int (k + 1))) (.dat (.int k)) .un []) = some (.nx (FL 1 sc f w cmds c h x6 x7 (.dat (.int (k + 1))) (.dat (.int k)) .un [])) := by
  have z : decide ((50 : Int) ≤ k) = false := decide_eq_false (by omega)
  have z' : decide (k ≥ 50) = false := decide_eq_false (by omega)
  unfold FL
  rcases u6 with rfl | ⟨d6, rfl⟩ <;> rcases u7 with rfl | ⟨d7, rfl⟩ <;> simp_all only [evB, cB1, z, z']
theorem cB_yes (hk : 50 ≤ k) (u6 : UDs x6) (u7 : UDs x7) : cB1 (FL 1 sc f w cmds c h x6 x7 (.dat (.int (k + 1))) (.dat (.int k)) .un []) = some (.nx (FL 1 sc f w cmds c h x6 x7 (.ref 4) (.dat (.int k)) .un [⟨.dl bat11, none⟩])) := by
  have z : decide ((50 : Int) ≤ k) = true := decide_eq_true (by omega)
  have z' : decide (k ≥ 50) = true := decide_eq_true (by omega)
  unfold FL bat11
  rcases u6 with rfl | ⟨d6, rfl⟩ <;> rcases u7 with rfl | ⟨d7, rfl⟩ <;> simp_all only [evB, cB1, z, z']
theorem min_at (i j : Int) : fMin2 [.dat (.int i), .dat (.int j)] = fun ρ => some (.ok (.dat (.int (if j < i then j else i))) ρ) := by
  funext ρ; rfl
theorem cC_lt (hk : k < 50) (e : m_law_synced [.ins "Client" f] = some (.ret (.dat (.int (k + 1))) [.ins "Client" f2])) (eh : m_Client_handed [.ins "Client" f2] = some (.ret (.dat (.int (k + 1))) [.ins "Client" f2])) (u6 : UDs x6) (u7 : UDs x7) :
    cC1 (FL 1 sc f w cmds c h x6 x7 (.dat (.int (k + 1))) (.dat (.int k)) .un []) = some (.nx (FL 1 sc f2 w cmds c h x6 x7 (.dat (.int (k + 1))) (.dat (.int k)) .un [])) := by
  have n1 := ned_int (k + 1)
  have m := min_at (k + 1) 50
  rw [if_neg (show ¬ (50 : Int) < k + 1 by omega)] at m
  have z : decide (k + 1 = k + 1) = true := decide_eq_true rfl
  unfold FL
  rcases u6 with rfl | ⟨d6, rfl⟩ <;> rcases u7 with rfl | ⟨d7, rfl⟩ <;> simp_all only [evB, cC1, e, eh, ↓at_prop, propR_yes, n1, m]
theorem cC_ge (hk : 50 ≤ k) (e : m_law_synced [.ins "Client" f] = some (.ret (.dl bat11) [.ins "Client" f])) (eh : m_Client_handed [.ins "Client" f] = some (.ret (.dat (.int 50)) [.ins "Client" f])) (u6 : UDs x6) (u7 : UDs x7) :
    cC1 (FL 1 sc f w cmds c h x6 x7 (.ref 4) (.dat (.int k)) .un [⟨.dl bat11, none⟩]) = some (.nx (FL 1 sc f w cmds c h x6 x7 (.ref 4) (.dat (.int k)) .un [⟨.dl bat11, none⟩])) := by
  have n1 : fNeD (.list bat11) (.list bat11) = some (.bool false) := neD_self ⟨by decide +kernel, by decide +kernel⟩
  have m := min_at (k + 1) 50
  rw [if_pos (show (50 : Int) < k + 1 by omega)] at m
  unfold FL
  generalize bat11 = bt at *
  rcases u6 with rfl | ⟨d6, rfl⟩ <;> rcases u7 with rfl | ⟨d7, rfl⟩ <;> simp_all only [evB, cC1, e, eh, ↓at_prop, propR_yes, n1, m]
end
end Ca
end
section
/-! k11: the second loop, whole; outcomes; the end -/
namespace Ca
open PySem XM L2 SX SM Cm
section
variable {sc : List Int} {w cmds : List D}
theorem turn2 {cs bs : List D} {c h : Int} {k : Nat} {x6 x7 x8 : Sl} {more : List Rt} (u6 : UDs x6) (u7 : UDs x7) (u8 : Dv x8 more) (hb : bs.length = if k < 50 then k else 50) (hcs : k < 50 ∨ cs = []) :
    ∃ bs' x8' more', Dv x8' more' ∧ bs'.length = (if k + 1 < 50 then k + 1 else 50) ∧ body2 (FL 1 sc (fsC cs bs) w cmds c h x6 x7 x8 (.dat (.int (k : Nat))) .un more) = some (.nx (FL 1 sc (fsC [] bs') w cmds c h x6 x7 x8' (.dat (.int (k : Nat))) .un more')) := by
  have a := cA_ok (sc := sc) (f := fsC cs bs) (w := w) (cmds := cmds) (c := c) (h := h) (k := (k : Nat)) u6 u7 u8
  by_cases lt : k < 50
  · rw [if_pos lt] at hb
    have b := cB_no (sc := sc) (f := fsC cs bs) (w := w) (cmds := cmds) (c := c) (h := h) (k := (k : Nat)) (by omega) u6 u7
    have e := synced_ok (cs := cs) (bs := bs) (by omega)
    have lb : (bs ++ [PyData.list cs]).length = k + 1 := by rw [List.length_append, List.length_singleton, hb]
    have eh := handed_ok (cs := []) (bs := bs ++ [.list cs]) (by omega)
    rw [cl_fs, cl_fs, hb] at e
    rw [cl_fs, lb] at eh
    have z := cC_lt (sc := sc) (w := w) (cmds := cmds) (c := c) (h := h) (k := (k : Nat)) (by omega) e eh u6 u7
    refine ⟨bs ++ [.list cs], .dat (.int ((k : Nat) + 1)), [], .inl ⟨.inr ⟨_, rfl⟩, rfl⟩, ?_, ?_⟩
    · rw [lb]; split <;> omega
    · unfold body2
      rw [at_seq, a, andQ_nx, at_seq, b, andQ_nx, z]
  · rw [if_neg lt] at hb
    obtain rfl : cs = [] := hcs.resolve_left lt
    have b := cB_yes (sc := sc) (f := fsC [] bs) (w := w) (cmds := cmds) (c := c) (h := h) (k := (k : Nat)) (by omega) u6 u7
    have e := synced_full (cs := []) (bs := bs) (by omega) (by omega)
    have eh := handed_ok (cs := []) (bs := bs) (by omega)
    rw [cl_fs] at e
    rw [cl_fs, hb] at eh
    have z := cC_ge (sc := sc) (w := w) (cmds := cmds) (c := c) (h := h) (k := (k : Nat)) (by omega) e eh u6 u7
    refine ⟨bs, .ref 4, [⟨.dl bat11, none⟩], .inr ⟨bat11, rfl, rfl⟩, ?_, ?_⟩
    · rw [hb, if_neg (by omega)]
    · unfold body2
      rw [at_seq, a, andQ_nx, at_seq, b, andQ_nx, z]
/-- the second loop, from the number handed to m -/
theorem loop2 {c h : Int} {x6 x7 : Sl} (u6 : UDs x6) (u7 : UDs x7) : ∀ (n k : Nat) (cs bs : List D) (x8 x9 : Sl) (more : List Rt), Dv x8 more → UDs x9 → bs.length = (if k < 50 then k else 50) → (k < 50 ∨ cs = []) →
    ∃ cs' bs' x8' x9' more', Dv x8' more' ∧ UDs x9' ∧ bs'.length = (if k + n < 50 then k + n else 50) ∧ (n = 0 ∨ cs' = []) ∧ (n = 0 → cs' = cs) ∧
      forL (bName 9) body2 ((List.range n).map fun i => PyData.int ((k : Nat) + (i : Nat))) (FL 1 sc (fsC cs bs) w cmds c h x6 x7 x8 x9 .un more) = some (.nx (FL 1 sc (fsC cs' bs') w cmds c h x6 x7 x8' x9' .un more'))
  | 0, k, cs, bs, x8, x9, more, u8, u9, hb, hcs => ⟨cs, bs, x8, x9, more, u8, u9, hb, .inl rfl, fun _ => rfl, rfl⟩
  | n + 1, k, cs, bs, x8, x9, more, u8, u9, hb, hcs => by
    obtain ⟨bs1, y8, m1, v8, hb1, e1⟩ := turn2 (sc := sc) (w := w) (cmds := cmds) (c := c) (h := h) u6 u7 u8 hb hcs
    obtain ⟨cs', bs', x8', x9', more', v8', v9', hb', hc', h0', e2⟩ := loop2 u6 u7 n (k + 1) [] bs1 y8 (.dat (.int (k : Nat))) m1 v8 (.inr ⟨_, rfl⟩) hb1 (.inr rfl)
    have hr : (List.range (n + 1)).map (fun i => PyData.int ((k : Nat) + (i : Nat))) = PyData.int (k : Nat) :: (List.range n).map fun i => PyData.int (((k + 1 : Nat) : Int) + (i : Nat)) := by
      rw [List.range_succ_eq_map, List.map_cons, List.map_map]
      refine List.cons_eq_cons.mpr ⟨by simp, List.map_congr_left fun i _ => ?_⟩
      show PyData.int _ = PyData.int _
      congr 1
      omega
    refine ⟨cs', bs', x8', x9', more', v8', v9', by rw [hb', show k + 1 + n = k + (n + 1) by omega], .inr ?_, by omega, ?_⟩
    · rcases hc' with z | z
      · exact h0' z
      · exact z
    · rw [hr, forL_cons, bind9 u6 u7 u8 u9, andO_some, e1, forQ_nx]
      exact e2
end
end Ca
end
section
/-! k11: outcomes that are asked for; the end -/
namespace Ca
open PySem XM L2 SX SM Cm
def dT : SM := (mSet 10 (mProp "Client" m_Client_handed (mSlot 1)))
def dO : SM := (mIf (asB (mOp fNeD (mCall0 m_law_outcome [(mSlot 1), (mSlot 7)]) (mLst [(mC (.str "none")), (mC (.bool true))])))
      (mRet (mC (.bool false))) mNx)
def dL : M R := (mLst [(mC (.int 0)), (mOp fAdd (mSlot 10) (mC (.int 1))), (mV1 fNeg (mC (.int 1))), (mC (.int 51)), (mC (.bool true)), (mC .none), (mC (.str "1"))])
def dF : SM := (mIf (mOrT (mNotT (asB (mCall0 m_law_fifty [(mSlot 1)]))) (mOrT (asB (mOp fNotN (mCall0 m_law_outcome [(mSlot 1), (mC (.int 1))]) (mC .none))) (asB (mOp fNotN (mMethX "Client" "outcome" m_Client_outcome [] (mSlot 1) [(mSlot 10)]) (mC .none)))))
    (mRet (mC (.bool false))) mNx)
def dR : SM := (mRet (mAndV (mOp fEq (mProp "Client" m_Client_received (mSlot 1)) (mC (.int 0))) (mOp fEq (mProp "Client" m_Client_session (mSlot 1)) (mC (.int 0)))))
section
variable {sc : List Int} {f f2 : List (Str × T)} {w cmds : List D} {c h t : Int} {d : D} {x6 x7 x8 x9 x10 : Sl} {more : List Rt}
theorem dT_ok (e : m_Client_handed [.ins "Client" f] = some (.ret (.dat (.int t)) [.ins "Client" f])) (u6 : UDs x6) (u7 : UDs x7) (u8 : Dv x8 more) (u9 : UDs x9) : dT (FL 1 sc f w cmds c h x6 x7 x8 x9 .un more) = some (.nx (FL 1 sc f w cmds c h x6 x7 x8 x9 (.dat (.int t)) more)) := by
  unfold FL
  rcases u6 with rfl | ⟨d6, rfl⟩ <;> rcases u7 with rfl | ⟨d7, rfl⟩ <;> rcases u9 with rfl | ⟨d9, rfl⟩ <;> rcases u8 with ⟨rfl | ⟨d8, rfl⟩, rfl⟩ | ⟨l, rfl, rfl⟩ <;> simp_all only [evB, dT, ↓at_prop, propR_yes, e]
def outs (t : Int) : List D := [.int 0, .int (t + 1), .int (-1), .int 51, .bool true, .none, .str "1"]
theorem dL_ok (u6 : UDs x6) (u7 : UDs x7) (u8 : Dv x8 more) (u9 : UDs x9) : dL (FL 1 sc f w cmds c h x6 x7 x8 x9 (.dat (.int t)) more) = some (.ok (.own (.dl (outs t))) (FL 1 sc f w cmds c h x6 x7 x8 x9 (.dat (.int t)) more)) := by
  unfold FL outs
  rcases u6 with rfl | ⟨d6, rfl⟩ <;> rcases u7 with rfl | ⟨d7, rfl⟩ <;> rcases u9 with rfl | ⟨d9, rfl⟩ <;> rcases u8 with ⟨rfl | ⟨d8, rfl⟩, rfl⟩ | ⟨l, rfl, rfl⟩ <;> simp_all only [evB, dL]
theorem bind7 (u6 : UDs x6) (u7 : UDs x7) (u8 : Dv x8 more) (u9 : UDs x9) : bName 7 d (FL 1 sc f w cmds c h x6 x7 x8 x9 (.dat (.int t)) more) = some (FL 1 sc f w cmds c h x6 (.dat d) x8 x9 (.dat (.int t)) more) := by
  unfold FL
  rcases u6 with rfl | ⟨d6, rfl⟩ <;> rcases u7 with rfl | ⟨d7, rfl⟩ <;> rcases u9 with rfl | ⟨d9, rfl⟩ <;> rcases u8 with ⟨rfl | ⟨d8, rfl⟩, rfl⟩ | ⟨l, rfl, rfl⟩ <;> simp_all only [evB, true_and]
theorem dO_ok (e : m_law_outcome [.ins "Client" f, .dat d] = some (.ret (.dl non11) [.ins "Client" f, .dat d])) (u6 : UDs x6) (u8 : Dv x8 more) (u9 : UDs x9) : dO (FL 1 sc f w cmds c h x6 (.dat d) x8 x9 (.dat (.int t)) more) = some (.nx (FL 1 sc f w cmds c h x6 (.dat d) x8 x9 (.dat (.int t)) more)) := by
  have ne : fNeD (.list [.str "none", .bool true]) (.list [.str "none", .bool true]) = some (.bool false) := neD_self ⟨by decide +kernel, by decide +kernel⟩
  unfold non11 at e
  unfold FL
  rcases u6 with rfl | ⟨d6, rfl⟩ <;> rcases u9 with rfl | ⟨d9, rfl⟩ <;> rcases u8 with ⟨rfl | ⟨d8, rfl⟩, rfl⟩ | ⟨l, rfl, rfl⟩ <;> simp_all only [evB, dO, e, ne]
theorem dO_loop (u6 : UDs x6) (u8 : Dv x8 more) (u9 : UDs x9) : ∀ (xs : List D), (∀ d ∈ xs, m_law_outcome [.ins "Client" f, .dat d] = some (.ret (.dl non11) [.ins "Client" f, .dat d])) → ∀ x7, UDs x7 → ∃ y, UDs y ∧ forL (bName 7) dO xs (FL 1 sc f w cmds c h x6 x7 x8 x9 (.dat (.int t)) more) = some (.nx (FL 1 sc f w cmds c h x6 y x8 x9 (.dat (.int t)) more))
  | [], _, x7, u7 => ⟨x7, u7, rfl⟩
  | d :: xs, hx, x7, u7 => by
    obtain ⟨y, uy, e⟩ := dO_loop u6 u8 u9 xs (fun z hz => hx z (List.mem_cons_of_mem _ hz)) (.dat d) (.inr ⟨_, rfl⟩)
    exact ⟨y, uy, by rw [forL_cons, bind7 u6 u7 u8 u9, andO_some, dO_ok (hx d List.mem_cons_self) u6 u8 u9, forQ_nx]; exact e⟩
theorem dF_ok (e1 : m_law_fifty [.ins "Client" f] = some (.ret (.dat (.bool true)) [.ins "Client" f2])) (e2 : m_law_outcome [.ins "Client" f2, .dat (.int 1)] = some (.ret (.dat .none) [.ins "Client" f2, .dat (.int 1)])) (e3 : m_Client_outcome [.ins "Client" f2, .dat (.int t)] = some (.ret (.dat .none) [.ins "Client" f2, .dat (.int t)]))
    (ms : ∀ (k : Option (Out R)) (n : Nat), methR (some (n, ("Client" : Str), f2)) "Client" "outcome" k = k) (u6 : UDs x6) (u7 : UDs x7) (u8 : Dv x8 more) (u9 : UDs x9) : dF (FL 1 sc f w cmds c h x6 x7 x8 x9 (.dat (.int t)) more) = some (.nx (FL 1 sc f2 w cmds c h x6 x7 x8 x9 (.dat (.int t)) more)) := by
  have nn : fNotN .none .none = some (.bool false) := rfl
  unfold FL
  rcases u6 with rfl | ⟨d6, rfl⟩ <;> rcases u7 with rfl | ⟨d7, rfl⟩ <;> rcases u9 with rfl | ⟨d9, rfl⟩ <;> rcases u8 with ⟨rfl | ⟨d8, rfl⟩, rfl⟩ | ⟨l, rfl, rfl⟩ <;> simp_all only [evB, dF, e1, e2, e3, ↓at_methX, ↓ms, nn]
theorem dR_ok (e1 : m_Client_received [.ins "Client" f] = some (.ret (.dat (.int 0)) [.ins "Client" f])) (e2 : m_Client_session [.ins "Client" f] = some (.ret (.dat (.int 0)) [.ins "Client" f])) (u6 : UDs x6) (u7 : UDs x7) (u8 : Dv x8 more) (u9 : UDs x9) : endD (dR (FL 1 sc f w cmds c h x6 x7 x8 x9 (.dat (.int t)) more)) = some (.ret (.dat (.bool true)) [.frz sc]) := by
  unfold FL
  rcases u6 with rfl | ⟨d6, rfl⟩ <;> rcases u7 with rfl | ⟨d7, rfl⟩ <;> rcases u9 with rfl | ⟨d9, rfl⟩ <;> rcases u8 with ⟨rfl | ⟨d8, rfl⟩, rfl⟩ | ⟨l, rfl, rfl⟩ <;> simp_all only [evB, dR, ↓at_prop, propR_yes, e1, e2]
end
theorem out_all {cs bs : List D} (h : bs.length ≤ 50) : ∀ d ∈ outs (bs.length : Nat), m_law_outcome [.ins "Client" (fsC cs bs), .dat d] = some (.ret (.dl non11) [.ins "Client" (fsC cs bs), .dat d]) := by
  intro d hd
  rw [← cl_fs]
  refine lout_ex ?_
  unfold outs at hd
  simp only [List.mem_cons, List.not_mem_nil, or_false] at hd
  rcases hd with rfl | rfl | rfl | rfl | rfl | rfl | rfl
  · exact out_low (by omega)
  · exact out_high (by omega) (by omega) (by omega)
  · exact out_low (by omega)
  · exact out_high (by omega) (by omega) (by omega)
  · exact out_other (.inl rfl)
  · exact out_other (.inr (.inl rfl))
  · exact out_other (.inr (.inr rfl))
theorem ms_out (cs bs : List D) (k : Option (Out R)) (n : Nat) : methR (some (n, ("Client" : Str), fsC cs bs)) "Client" "outcome" k = k := ms11 (by decide) k n _ _ _ _ _ _
/-- the end of the law, behind the second loop -/
theorem end11 {sc : List Int} {w cmds bs : List D} {c h : Int} {x6 x7 x8 x9 : Sl} {more : List Rt} (h1 : 1 ≤ bs.length) (h50 : bs.length ≤ 50) (u6 : UDs x6) (u7 : UDs x7) (u8 : Dv x8 more) (u9 : UDs x9) :
    endD (mSeq dT (mSeq (mForO dL (bName 7) dO) (mSeq dF dR)) (FL 1 sc (fsC [] bs) w cmds c h x6 x7 x8 x9 .un more)) = some (.ret (.dat (.bool true)) [.frz sc]) := by
  have eh := handed_ok (cs := []) (bs := bs) (by omega)
  rw [cl_fs] at eh
  rw [at_seq, dT_ok eh u6 u7 u8 u9, andQ_nx, at_seq]
  obtain ⟨y, uy, el⟩ := dO_loop (sc := sc) (w := w) (cmds := cmds) (c := c) (h := h) (t := (bs.length : Nat)) u6 u8 u9 (outs (bs.length : Nat)) (out_all (cs := []) h50) x7 u7
  have ef : mForO dL (bName 7) dO (FL 1 sc (fsC [] bs) w cmds c h x6 x7 x8 x9 (.dat (.int (bs.length : Nat))) more) = some (.nx (FL 1 sc (fsC [] bs) w cmds c h x6 y x8 x9 (.dat (.int (bs.length : Nat))) more)) := by
    rw [at_forO, dL_ok u6 u7 u8 u9]
    exact el
  rw [ef, andQ_nx, at_seq]
  by_cases lt : bs.length < 50
  · have e1 := fifty_lt (cs := []) lt
    have e2 := lout_none (cs := []) (bs := bs) (i := 1) (by omega) (by omega) (by omega)
    have e3 := out_none (cs := []) (bs := bs) (i := (bs.length : Nat)) (by omega) (by omega) (by omega)
    rw [cl_fs] at e1 e2 e3
    have z := dF_ok (sc := sc) (w := w) (cmds := cmds) (c := c) (h := h) e1 e2 e3 (ms_out [] bs) u6 uy u8 u9
    rw [z, andQ_nx]
    have r1 := received_ok (cs := []) (bs := bs)
    have r2 := session_ok (cs := []) (bs := bs)
    rw [cl_fs] at r1 r2
    exact dR_ok r1 r2 u6 uy u8 u9
  · have e1 := fifty_50 (bs := bs) (by omega)
    have e2 := lout_none (cs := [fA, cA, fB]) (bs := bs) (i := 1) (by omega) (by omega) (by omega)
    have e3 := out_none (cs := [fA, cA, fB]) (bs := bs) (i := (bs.length : Nat)) (by omega) (by omega) (by omega)
    rw [cl_fs] at e2 e3
    rw [cl_fs, cl_fs] at e1
    have z := dF_ok (sc := sc) (w := w) (cmds := cmds) (c := c) (h := h) e1 e2 e3 (ms_out [fA, cA, fB] bs) u6 uy u8 u9
    rw [z, andQ_nx]
    have r1 := received_ok (cs := [fA, cA, fB]) (bs := bs)
    have r2 := session_ok (cs := [fA, cA, fB]) (bs := bs)
    rw [cl_fs] at r1 r2
    exact dR_ok r1 r2 u6 uy u8 u9
end Ca
end
section
/-! k11: the commands; the law -/
namespace Ca
open PySem XM L2 SX SM Cm
theorem cd_of {d : D} (h : Cq.DCmd d) : Cd d := by
  cases h with
  | close p hp => exact ⟨_, fun cs bs hl => told_close hp hl⟩
  | forget n hn => exact ⟨_, fun cs bs hl => told_forget hn hl⟩
  | prepare n s hn hs => exact ⟨_, fun cs bs hl => told_prep hn hs hl⟩
  | bind p n vs hp hn hv hl4 => exact ⟨_, fun cs bs hl => told_bind hp hn (values_tup hl4 hv) (.inl rfl) hl4 hl⟩
  | run p m hp h0 h1 => exact ⟨_, fun cs bs hl => told_run hp h0 h1 hl⟩
theorem x_lit : ("x" : Str) = S [120] := by decide +kernel
theorem s_lit : ("s" : Str) = S [115] := by decide +kernel
theorem p_lit : ("p" : Str) = S [112] := by decide +kernel
theorem nm_s : Cq.NameL [115] := ⟨by decide, by decide, by decide⟩
theorem nm_p : Cq.NameL [112] := ⟨by decide, by decide, by decide⟩
theorem e_xs (n : Int) : ∃ l, Cq.GoodC 200 l ∧ fMulS (.str "x") (.int (99 + n % 102)) = some (.str (S l)) := by
  have q : (99 + n % 102).toNat ≤ 200 := by omega
  refine ⟨(List.replicate (99 + n % 102).toNat [120]).flatten, ⟨by simp; omega, fun c hc => ?_⟩, ?_⟩
  · obtain ⟨l, h1, h2⟩ := List.mem_flatten.mp hc
    obtain ⟨_, rfl⟩ := List.mem_replicate.mp h1
    have : ([120] : List Nat).all Cq.okc = true := by decide
    exact List.all_eq_true.mp this c h2
  · rw [x_lit, Cq.e_mulS, okIf_yes]
    simp
    omega
def vals4 : List D := [.int 1, .str "b", .int 3, .str "d"]
theorem vals4_ok : ∀ d ∈ vals4, Cq.V40 d := by
  intro d hd
  simp only [vals4, List.mem_cons, List.not_mem_nil, or_false] at hd
  rcases hd with rfl | rfl | rfl | rfl
  · exact .inl ⟨1, rfl, by omega, by omega⟩
  · exact .inr (Cq.gstr_lit "b" 40 (by decide))
  · exact .inl ⟨3, rfl, by omega, by omega⟩
  · exact .inr (Cq.gstr_lit "d" 40 (by decide))
theorem cd_bind : Cd (.tuple [.str "bind", .str "p", .str "s", .list [.int 1, .str "b", .int 3, .str "d"]]) := by
  rw [p_lit, s_lit]
  exact ⟨_, fun cs bs hl => told_bind (vs := vals4) nm_p nm_s (values_lst (by decide) vals4_ok) (.inr rfl) (by decide) hl⟩
theorem cd_prep {l : List Nat} (h : Cq.GoodC 200 l) : Cd (.tuple [.str "prepare", .str "s", .str (S l)]) := by
  rw [s_lit]
  exact ⟨_, fun cs bs hl => told_prep nm_s h hl⟩
def q1 : SM := (mSet 1 (mNew "Client" m_Client___init__ [] []))
def q2 : SM := (mSet 2 (mCall0 m_law_wrong []))
def q3 : SM := (mSet 3 (mC (.int 0)))
def q4 : SM := (mSet 4 (mC (.int 0)))
def q5 : SM := (mSet 5 (mCat (mCat (mCall0 m_law_units [(mCall0 m_law_cell [(mSlot 0), (mC (.int 0))]), (mC (.int 4))]) (mCall0 m_law_units [(mCall0 m_law_cell [(mSlot 0), (mC (.int 1))]), (mC (.int 4))])) (mCall0 m_law_units [(mCall0 m_law_cell [(mSlot 0), (mC (.int 2))]), (mC (.int 4))])))
def q6 : SM := (mSet 5 (mCat (mSlot 5) (mLst [(mTup [(mC (.str "prepare")), (mC (.str "s")), (mOp fMulS (mC (.str "x")) (mOp fAdd (mC (.int 99)) (mOp fMod (mCall0 m_law_cell [(mSlot 0), (mC (.int 0))]) (mC (.int 102)))))]), (mTup [(mC (.str "bind")), (mC (.str "p")), (mC (.str "s")), (mLst [(mC (.int 1)), (mC (.str "b")), (mC (.int 3)), (mC (.str "d"))])])])))
def rng2 : M (List D) := (mRng2 (mSlot 4) (mOp fAdd (mC (.int 47)) (mOp fMod (mCall0 m_law_cell [(mSlot 0), (mC (.int 4))]) (mC (.int 7)))))
def tail11 : SM := mSeq dT (mSeq (mForO dL (bName 7) dO) (mSeq dF dR))
theorem law_split : b_law_k11 = mSeq q1 (mSeq q2 (mSeq q3 (mSeq q4 (mSeq q5 (mSeq q6 (mSeq (mForO (mSlot 5) (bName 6) body1) (mSeq (mFor rng2 (bName 9) body2) tail11))))))) := rfl
def pre11 : SM := mSeq q1 (mSeq q2 (mSeq q3 (mSeq q4 (mSeq q5 q6))))
def PF (ns : List Int) (f : List (Str × T)) (x2 x3 x4 x5 : Sl) (more : List Rt) : Fr := ⟨[.ref 0, .ref 1, x2, x3, x4, x5, .un, .un, .un, .un, .un], ⟨.frz ns, none⟩ :: ⟨.ins "Client" f, none⟩ :: more, 1⟩
section
variable {ns : List Int} {f : List (Str × T)} {w u0 u1 u2 cm : List D} {c0 c1 c2 : Int} {l : List Nat}
theorem q1_ok (e : m_Client___init__ [.ins "Client" []] = some (.ret (.dat .none) [.ins "Client" f])) : q1 (entry 11 [.frz ns]) = some (.nx (PF ns f .un .un .un .un [])) := by
  unfold PF
  simp_all only [evB, q1, e]
theorem q2_ok (e : m_law_wrong [] = some (.ret (.dl w) [])) : q2 (PF ns f .un .un .un .un []) = some (.nx (PF ns f (.ref 2) .un .un .un [⟨.dl w, none⟩])) := by
  unfold PF
  simp_all only [evB, q2, e]
theorem q34_ok : mSeq q3 q4 (PF ns f (.ref 2) .un .un .un [⟨.dl w, none⟩]) = some (.nx (PF ns f (.ref 2) (.dat (.int 0)) (.dat (.int 0)) .un [⟨.dl w, none⟩])) := by
  unfold PF
  simp_all only [evB, q3, q4]
theorem q5_ok (e0 : m_law_cell [.frz ns, .dat (.int 0)] = some (.ret (.dat (.int c0)) [.frz ns, .dat (.int 0)])) (e1 : m_law_cell [.frz ns, .dat (.int 1)] = some (.ret (.dat (.int c1)) [.frz ns, .dat (.int 1)])) (e2 : m_law_cell [.frz ns, .dat (.int 2)] = some (.ret (.dat (.int c2)) [.frz ns, .dat (.int 2)]))
    (eu0 : m_law_units [.dat (.int c0), .dat (.int 4)] = some (.ret (.dl u0) [.dat (.int c0), .dat (.int 4)])) (eu1 : m_law_units [.dat (.int c1), .dat (.int 4)] = some (.ret (.dl u1) [.dat (.int c1), .dat (.int 4)])) (eu2 : m_law_units [.dat (.int c2), .dat (.int 4)] = some (.ret (.dl u2) [.dat (.int c2), .dat (.int 4)]))
    (z1 : u0.length + u1.length ≤ 1000000) (z2 : (u0 ++ u1).length + u2.length ≤ 1000000) : q5 (PF ns f (.ref 2) (.dat (.int 0)) (.dat (.int 0)) .un [⟨.dl w, none⟩]) = some (.nx (PF ns f (.ref 2) (.dat (.int 0)) (.dat (.int 0)) (.ref 3) [⟨.dl w, none⟩, ⟨.dl (u0 ++ u1 ++ u2), none⟩])) := by
  unfold PF
  simp_all only [evB, q5, e0, e1, e2, eu0, eu1, eu2, z1, z2]
theorem q6_ok (e0 : m_law_cell [.frz ns, .dat (.int 0)] = some (.ret (.dat (.int c0)) [.frz ns, .dat (.int 0)])) (el : fMulS (.str "x") (.int (99 + c0 % 102)) = some (.str (S l))) (z : cm.length + 2 ≤ 1000000) :
    q6 (PF ns f (.ref 2) (.dat (.int 0)) (.dat (.int 0)) (.ref 3) [⟨.dl w, none⟩, ⟨.dl cm, none⟩]) = some (.nx (PF ns f (.ref 2) (.dat (.int 0)) (.dat (.int 0)) (.ref 3) [⟨.dl w, none⟩, ⟨.dl (cm ++ [.tuple [.str "prepare", .str "s", .str (S l)], .tuple [.str "bind", .str "p", .str "s", .list [.int 1, .str "b", .int 3, .str "d"]]]), none⟩])) := by
  unfold PF
  simp_all only [evB, q6, e0, el, z]
end
theorem pre_ok (ns : List Int) : ∃ cmds : List D, (∀ d ∈ cmds, Cd d) ∧ cmds.length ≤ 62 ∧ pre11 (entry 11 [.frz ns]) = some (.nx (FL 1 ns (fsC [] []) wrongL cmds 0 0 .un .un .un .un .un [])) := by
  obtain ⟨c0, e0⟩ := Cq.e_law_cell ns 0
  obtain ⟨c1, e1⟩ := Cq.e_law_cell ns 1
  obtain ⟨c2, e2⟩ := Cq.e_law_cell ns 2
  replace e0 : m_law_cell [.frz ns, .dat (.int 0)] = some (.ret (.dat (.int c0)) [.frz ns, .dat (.int 0)]) := e0
  replace e1 : m_law_cell [.frz ns, .dat (.int 1)] = some (.ret (.dat (.int c1)) [.frz ns, .dat (.int 1)]) := e1
  replace e2 : m_law_cell [.frz ns, .dat (.int 2)] = some (.ret (.dat (.int c2)) [.frz ns, .dat (.int 2)]) := e2
  obtain ⟨u0, hu0, hl0, eu0⟩ := Cq.e_law_units c0 4 4 rfl (by omega)
  obtain ⟨u1, hu1, hl1, eu1⟩ := Cq.e_law_units c1 4 4 rfl (by omega)
  obtain ⟨u2, hu2, hl2, eu2⟩ := Cq.e_law_units c2 4 4 rfl (by omega)
  obtain ⟨l, gl, el⟩ := e_xs c0
  have z1 : u0.length + u1.length ≤ 1000000 := by omega
  have z2 : (u0 ++ u1).length + u2.length ≤ 1000000 := by rw [List.length_append]; omega
  have z3 : (u0 ++ u1 ++ u2).length + 2 ≤ 1000000 := by rw [List.length_append, List.length_append]; omega
  refine ⟨u0 ++ u1 ++ u2 ++ [.tuple [.str "prepare", .str "s", .str (S l)], .tuple [.str "bind", .str "p", .str "s", .list [.int 1, .str "b", .int 3, .str "d"]]], fun d hd => ?_, ?_, ?_⟩
  · simp only [List.mem_append, List.mem_cons, List.not_mem_nil, or_false] at hd
    rcases hd with ((hd | hd) | hd) | rfl | rfl
    · exact cd_of (hu0 d hd)
    · exact cd_of (hu1 d hd)
    · exact cd_of (hu2 d hd)
    · exact cd_prep gl
    · exact cd_bind
  · simp only [List.length_append, List.length_cons, List.length_nil]
    omega
  · have ei := ini11
    rw [cl_fs] at ei
    have p34 := q34_ok (ns := ns) (f := fsC [] []) (w := wrongL)
    rw [at_seq] at p34
    unfold pre11
    rw [at_seq, q1_ok ei, andQ_nx, at_seq, q2_ok wrong_ok, andQ_nx, at_seq]
    cases h3 : q3 (PF ns (fsC [] []) (.ref 2) .un .un .un [⟨.dl wrongL, none⟩]) with
    | none => rw [h3] at p34; cases p34
    | some o =>
      rw [h3] at p34
      cases o with
      | nx ρ =>
        rw [andQ_nx] at p34 ⊢
        rw [at_seq, p34, andQ_nx, at_seq, q5_ok e0 e1 e2 eu0 eu1 eu2 z1 z2, andQ_nx, q6_ok e0 el z3]
        rfl
      | _ => cases p34
end Ca
end
section
/-! k11: the law -/
namespace Ca
open PySem XM L2 SX SM Cm
theorem rng_ok {sc : List Int} {f : List (Str × T)} {w cmds : List D} {c c4 : Int} {h : Nat} {x6 x7 x8 : Sl} {more : List Rt} (hh : h ≤ 40) (e : m_law_cell [.frz sc, .dat (.int 4)] = some (.ret (.dat (.int c4)) [.frz sc, .dat (.int 4)])) (u6 : UDs x6) (u7 : UDs x7) (u8 : Dv x8 more) :
    rng2 (FL 1 sc f w cmds c (h : Nat) x6 x7 x8 .un .un more) = some (.ok ((List.range (47 + c4 % 7 - (h : Nat)).toNat).map fun i => PyData.int ((h : Nat) + (i : Nat))) (FL 1 sc f w cmds c (h : Nat) x6 x7 x8 .un .un more)) := by
  have b : ∀ z : Option (Out (List D)), okIf (-1000000 ≤ ((h : Nat) : Int) ∧ ((h : Nat) : Int) ≤ 1000000 ∧ -1000000 ≤ 47 + c4 % 7 ∧ 47 + c4 % 7 ≤ 1000000) z = z := fun z => okIf_yes (by omega)
  have g : ∀ n : Nat, (List.range n).map (fun i => PyData.int ((h : Nat) + (i : Nat))) = rangeD (h : Nat) n := fun n => rfl
  rw [g]
  unfold rng2
  rw [at_rng2]
  generalize hr : rangeD = rd
  unfold FL
  generalize ((h : Nat) : Int) = hi at *
  rcases u6 with rfl | ⟨d6, rfl⟩ <;> rcases u7 with rfl | ⟨d7, rfl⟩ <;> rcases u8 with ⟨rfl | ⟨d8, rfl⟩, rfl⟩ | ⟨l, rfl, rfl⟩ <;> simp_all only [evB, e, b]
theorem e_law11 (ns : List Int) (hn : ns.length ≤ 63) : ∃ ts, m_law_k11 [.frz ns] = some (.ret (.dat (.bool true)) ts) := by
  obtain ⟨cmds, hc, hcl, ep⟩ := pre_ok ns
  obtain ⟨c3, e3⟩ := Cq.e_law_cell ns 3
  obtain ⟨c4, e4⟩ := Cq.e_law_cell ns 4
  replace e3 : m_law_cell [.frz ns, .dat (.int 3)] = some (.ret (.dat (.int c3)) [.frz ns, .dat (.int 3)]) := e3
  replace e4 : m_law_cell [.frz ns, .dat (.int 4)] = some (.ret (.dat (.int c4)) [.frz ns, .dat (.int 4)]) := e4
  obtain ⟨ρ1, el, cs, bs, x6, x7, x8, more, rfl, u6, u7, u8, hb⟩ := loop1 (sc := ns) (w := wrongL) (cmds := cmds) e3 (by rw [wrong_len]; omega) (by rw [wrong_len]; omega) all_wr hc (by omega)
  have ef : mForO (mSlot 5) (bName 6) body1 (FL 1 ns (fsC [] []) wrongL cmds 0 0 .un .un .un .un .un []) = some (.nx (FL 1 ns (fsC cs bs) wrongL cmds (cs.length : Nat) (bs.length : Nat) x6 x7 x8 .un .un more)) := by
    rw [at_forO]
    show walkS (some (3, cmds.length)) (R.ref 3) _ _ _ = _
    rw [walkS_some]
    show (forO (bName 6) body1 3 cmds.length cmds.length (FL 4 ns (fsC [] []) wrongL cmds 0 0 .un .un .un .un .un [])).map _ = _
    rw [el]
    rfl
  obtain ⟨cs', bs', x8', x9', more', v8, v9, hb', hc', h0, e2⟩ := loop2 (sc := ns) (w := wrongL) (cmds := cmds) (c := (cs.length : Nat)) (h := (bs.length : Nat)) u6 u7 (47 + c4 % 7 - (bs.length : Nat)).toNat bs.length cs bs x8 .un more u8.v (.inl rfl) (by rw [if_pos (by omega)]) (.inl (by omega))
  obtain rfl : cs' = [] := by
    rcases hc' with z | z
    · omega
    · exact z
  have ef2 : mFor rng2 (bName 9) body2 (FL 1 ns (fsC cs bs) wrongL cmds (cs.length : Nat) (bs.length : Nat) x6 x7 x8 .un .un more) = some (.nx (FL 1 ns (fsC [] bs') wrongL cmds (cs.length : Nat) (bs.length : Nat) x6 x7 x8' x9' .un more')) := by
    rw [at_for, rng_ok hb e4 u6 u7 u8.v]
    exact e2
  have seqB : ∀ (s1 s2 s3 : SM) (ρ : Fr), mSeq s1 (mSeq s2 s3) ρ = mSeq (mSeq s1 s2) s3 ρ := fun s1 s2 s3 ρ => by
    simp only [at_seq]
    exact andQ_assoc
  have sp : b_law_k11 (entry 11 [.frz ns]) = mSeq pre11 (mSeq (mForO (mSlot 5) (bName 6) body1) (mSeq (mFor rng2 (bName 9) body2) tail11)) (entry 11 [.frz ns]) := by
    rw [law_split]
    unfold pre11
    generalize mSeq (mForO (mSlot 5) (bName 6) body1) (mSeq (mFor rng2 (bName 9) body2) tail11) = rest
    simp only [at_seq, andQ_assoc]
  refine ⟨[.frz ns], ?_⟩
  unfold m_law_k11
  rw [at_def, sp, at_seq, ep, andQ_nx, at_seq, ef, andQ_nx, at_seq, ef2, andQ_nx]
  exact end11 (by rw [hb']; split <;> omega) (by rw [hb']; split <;> omega) u6 u7 v8 v9
end Ca
end
section
namespace P11
open PySem PySem.Spec PyProof.Rows L2 Tl XM
def topS (i : Nat) : Stmt := PySem.Challenge.pw_batchends_k11_commands_of_clients.main.body.getD i (.Pass ⟨0, 0, 0, 0⟩)
abbrev s_is_sign : Stmt := topS 17
theorem sc_is_sign : FnScope ["character", "code"] ["character"] (defScope s_is_sign) := ⟨rfl, rfl, rfl, by decide +kernel, rfl, by decide +kernel, by decide +kernel⟩
abbrev s_has_only_signs : Stmt := topS 18
theorem sc_has_only_signs : FnScope ["string", "character"] ["string"] (defScope s_has_only_signs) := ⟨rfl, rfl, rfl, by decide +kernel, rfl, by decide +kernel, by decide +kernel⟩
abbrev s_may_be_prepared : Stmt := topS 19
theorem sc_may_be_prepared : FnScope ["string"] ["string"] (defScope s_may_be_prepared) := ⟨rfl, rfl, rfl, by decide +kernel, rfl, by decide +kernel, by decide +kernel⟩
abbrev s_is_name : Stmt := topS 20
theorem sc_is_name : FnScope ["string", "letter"] ["string"] (defScope s_is_name) := ⟨rfl, rfl, rfl, by decide +kernel, rfl, by decide +kernel, by decide +kernel⟩
abbrev s_is_text : Stmt := topS 21
theorem sc_is_text : FnScope ["string"] ["string"] (defScope s_is_text) := ⟨rfl, rfl, rfl, by decide +kernel, rfl, by decide +kernel, by decide +kernel⟩
abbrev s_is_number : Stmt := topS 22
theorem sc_is_number : FnScope ["number"] ["number"] (defScope s_is_number) := ⟨rfl, rfl, rfl, by decide +kernel, rfl, by decide +kernel, by decide +kernel⟩
abbrev s_is_integer : Stmt := topS 23
theorem sc_is_integer : FnScope ["thing"] ["thing"] (defScope s_is_integer) := ⟨rfl, rfl, rfl, by decide +kernel, rfl, by decide +kernel, by decide +kernel⟩
abbrev s_is_value : Stmt := topS 24
theorem sc_is_value : FnScope ["thing"] ["thing"] (defScope s_is_value) := ⟨rfl, rfl, rfl, by decide +kernel, rfl, by decide +kernel, by decide +kernel⟩
abbrev s_check_name : Stmt := topS 30
theorem sc_check_name : FnScope ["name"] ["name"] (defScope s_check_name) := ⟨rfl, rfl, rfl, by decide +kernel, rfl, by decide +kernel, by decide +kernel⟩
abbrev s_check_string : Stmt := topS 31
theorem sc_check_string : FnScope ["string"] ["string"] (defScope s_check_string) := ⟨rfl, rfl, rfl, by decide +kernel, rfl, by decide +kernel, by decide +kernel⟩
abbrev s_check_values : Stmt := topS 32
theorem sc_check_values : FnScope ["values", "value"] ["values"] (defScope s_check_values) := ⟨rfl, rfl, rfl, by decide +kernel, rfl, by decide +kernel, by decide +kernel⟩
abbrev s_check_most : Stmt := topS 33
theorem sc_check_most : FnScope ["most"] ["most"] (defScope s_check_most) := ⟨rfl, rfl, rfl, by decide +kernel, rfl, by decide +kernel, by decide +kernel⟩
abbrev s_copy_reply : Stmt := topS 34
theorem sc_copy_reply : FnScope ["reply"] ["reply"] (defScope s_copy_reply) := ⟨rfl, rfl, rfl, by decide +kernel, rfl, by decide +kernel, by decide +kernel⟩
abbrev s_Wire___init__ : Stmt := inClass (topS 81) 0
theorem sc_Wire___init__ : FnScope ["self", "side"] ["self", "side"] (defScope s_Wire___init__) := ⟨rfl, rfl, rfl, by decide +kernel, rfl, by decide +kernel, by decide +kernel⟩
abbrev s_Line___init__ : Stmt := inClass (topS 87) 0
theorem sc_Line___init__ : FnScope ["self", "other_side"] ["self", "other_side"] (defScope s_Line___init__) := ⟨rfl, rfl, rfl, by decide +kernel, rfl, by decide +kernel, by decide +kernel⟩
abbrev s_Line_many_to_send : Stmt := inClass (topS 87) 7
theorem sc_Line_many_to_send : FnScope ["self"] ["self"] (defScope s_Line_many_to_send) := ⟨rfl, rfl, rfl, by decide +kernel, rfl, by decide +kernel, by decide +kernel⟩
abbrev s_Client___init__ : Stmt := inClass (topS 89) 0
theorem sc_Client___init__ : FnScope ["self"] ["self"] (defScope s_Client___init__) := ⟨rfl, rfl, rfl, by decide +kernel, rfl, by decide +kernel, by decide +kernel⟩
abbrev s_Client_phase : Stmt := inClass (topS 89) 1
theorem sc_Client_phase : FnScope ["self"] ["self"] (defScope s_Client_phase) := ⟨rfl, rfl, rfl, by decide +kernel, rfl, by decide +kernel, by decide +kernel⟩
abbrev s_Client_session : Stmt := inClass (topS 89) 3
theorem sc_Client_session : FnScope ["self"] ["self"] (defScope s_Client_session) := ⟨rfl, rfl, rfl, by decide +kernel, rfl, by decide +kernel, by decide +kernel⟩
abbrev s_Client_handed : Stmt := inClass (topS 89) 4
theorem sc_Client_handed : FnScope ["self"] ["self"] (defScope s_Client_handed) := ⟨rfl, rfl, rfl, by decide +kernel, rfl, by decide +kernel, by decide +kernel⟩
abbrev s_Client_received : Stmt := inClass (topS 89) 5
theorem sc_Client_received : FnScope ["self"] ["self"] (defScope s_Client_received) := ⟨rfl, rfl, rfl, by decide +kernel, rfl, by decide +kernel, by decide +kernel⟩
abbrev s_Client_waiting : Stmt := inClass (topS 89) 6
theorem sc_Client_waiting : FnScope ["self"] ["self"] (defScope s_Client_waiting) := ⟨rfl, rfl, rfl, by decide +kernel, rfl, by decide +kernel, by decide +kernel⟩
abbrev s_Client_prepare : Stmt := inClass (topS 89) 7
theorem sc_Client_prepare : FnScope ["self", "name", "string"] ["self", "name", "string"] (defScope s_Client_prepare) := ⟨rfl, rfl, rfl, by decide +kernel, rfl, by decide +kernel, by decide +kernel⟩
abbrev s_Client_bind : Stmt := inClass (topS 89) 8
theorem sc_Client_bind : FnScope ["self", "portal", "name", "values"] ["self", "portal", "name", "values"] (defScope s_Client_bind) := ⟨rfl, rfl, rfl, by decide +kernel, rfl, by decide +kernel, by decide +kernel⟩
abbrev s_Client_run : Stmt := inClass (topS 89) 9
theorem sc_Client_run : FnScope ["self", "portal", "most"] ["self", "portal", "most"] (defScope s_Client_run) := ⟨rfl, rfl, rfl, by decide +kernel, rfl, by decide +kernel, by decide +kernel⟩
abbrev s_Client_forget : Stmt := inClass (topS 89) 10
theorem sc_Client_forget : FnScope ["self", "name"] ["self", "name"] (defScope s_Client_forget) := ⟨rfl, rfl, rfl, by decide +kernel, rfl, by decide +kernel, by decide +kernel⟩
abbrev s_Client_close : Stmt := inClass (topS 89) 11
theorem sc_Client_close : FnScope ["self", "portal"] ["self", "portal"] (defScope s_Client_close) := ⟨rfl, rfl, rfl, by decide +kernel, rfl, by decide +kernel, by decide +kernel⟩
abbrev s_Client_sync : Stmt := inClass (topS 89) 12
theorem sc_Client_sync : FnScope ["self", "batch"] ["self"] (defScope s_Client_sync) := ⟨rfl, rfl, rfl, by decide +kernel, rfl, by decide +kernel, by decide +kernel⟩
abbrev s_Client_outcome : Stmt := inClass (topS 89) 17
theorem sc_Client_outcome : FnScope ["self", "batch", "state", "replies", "reply"] ["self", "batch"] (defScope s_Client_outcome) := ⟨rfl, rfl, rfl, by decide +kernel, rfl, by decide +kernel, by decide +kernel⟩
abbrev s_Client__add : Stmt := inClass (topS 89) 18
theorem sc_Client__add : FnScope ["self", "command"] ["self", "command"] (defScope s_Client__add) := ⟨rfl, rfl, rfl, by decide +kernel, rfl, by decide +kernel, by decide +kernel⟩
abbrev s_law_cell : Stmt := topS 91
theorem sc_law_cell : FnScope ["script", "k"] ["script", "k"] (defScope s_law_cell) := ⟨rfl, rfl, rfl, by decide +kernel, rfl, by decide +kernel, by decide +kernel⟩
abbrev s_law_row : Stmt := topS 92
theorem sc_law_row : FnScope ["cell", "count", "row", "rest", "seed", "k"] ["cell", "count"] (defScope s_law_row) := ⟨rfl, rfl, rfl, by decide +kernel, rfl, by decide +kernel, by decide +kernel⟩
abbrev s_law_name : Stmt := topS 93
theorem sc_law_name : FnScope ["number", "letters", "k"] ["number"] (defScope s_law_name) := ⟨rfl, rfl, rfl, by decide +kernel, rfl, by decide +kernel, by decide +kernel⟩
abbrev s_law_text : Stmt := topS 94
theorem sc_law_text : FnScope ["number", "signs", "texts", "count", "k"] ["number"] (defScope s_law_text) := ⟨rfl, rfl, rfl, by decide +kernel, rfl, by decide +kernel, by decide +kernel⟩
abbrev s_law_value : Stmt := topS 95
theorem sc_law_value : FnScope ["number"] ["number"] (defScope s_law_value) := ⟨rfl, rfl, rfl, by decide +kernel, rfl, by decide +kernel, by decide +kernel⟩
abbrev s_law_term : Stmt := topS 96
theorem sc_law_term : FnScope ["number", "used", "value"] ["number", "used"] (defScope s_law_term) := ⟨rfl, rfl, rfl, by decide +kernel, rfl, by decide +kernel, by decide +kernel⟩
abbrev s_law_used : Stmt := topS 97
theorem sc_law_used : FnScope ["parts", "numbers", "part"] ["parts"] (defScope s_law_used) := ⟨rfl, rfl, rfl, by decide +kernel, rfl, by decide +kernel, by decide +kernel⟩
abbrev s_law_statement : Stmt := topS 98
theorem sc_law_statement : FnScope ["row", "names", "words", "word", "parts", "count", "k"] ["row", "names"] (defScope s_law_statement) := ⟨rfl, rfl, rfl, by decide +kernel, rfl, by decide +kernel, by decide +kernel⟩
abbrev s_law_written : Stmt := topS 99
theorem sc_law_written : FnScope ["parts", "words", "part"] ["parts"] (defScope s_law_written) := ⟨rfl, rfl, rfl, by decide +kernel, rfl, by decide +kernel, by decide +kernel⟩
abbrev s_law_unit : Stmt := topS 100
theorem sc_law_unit : FnScope ["row", "name", "portal", "menu", "parts", "values", "most", "commands", "k"] ["row"] (defScope s_law_unit) := ⟨rfl, rfl, rfl, by decide +kernel, rfl, by decide +kernel, by decide +kernel⟩
abbrev s_law_units : Stmt := topS 101
theorem sc_law_units : FnScope ["cell", "count", "row", "commands", "k"] ["cell", "count"] (defScope s_law_units) := ⟨rfl, rfl, rfl, by decide +kernel, rfl, by decide +kernel, by decide +kernel⟩
abbrev s_law_named : Stmt := topS 102
theorem sc_law_named : FnScope ["client", "command"] ["client", "command"] (defScope s_law_named) := ⟨rfl, rfl, rfl, by decide +kernel, rfl, by decide +kernel, by decide +kernel⟩
abbrev s_law_add : Stmt := topS 103
theorem sc_law_add : FnScope ["client", "command"] ["client", "command"] (defScope s_law_add) := ⟨rfl, rfl, rfl, by decide +kernel, rfl, by decide +kernel, by decide +kernel⟩
abbrev s_law_kinds : Stmt := topS 104
theorem sc_law_kinds : FnScope ["e", "kinds", "names", "k"] ["e"] (defScope s_law_kinds) := ⟨rfl, rfl, rfl, by decide +kernel, rfl, by decide +kernel, by decide +kernel⟩
abbrev s_law_told : Stmt := topS 105
theorem sc_law_told : FnScope ["client", "command", "e"] ["client", "command"] (defScope s_law_told) := ⟨rfl, rfl, rfl, by decide +kernel, rfl, by decide +kernel, by decide +kernel⟩
abbrev s_law_wrong : Stmt := topS 106
theorem sc_law_wrong : FnScope ["names", "rows", "name"] [] (defScope s_law_wrong) := ⟨rfl, rfl, rfl, by decide +kernel, rfl, by decide +kernel, by decide +kernel⟩
abbrev s_law_synced : Stmt := topS 107
theorem sc_law_synced : FnScope ["client", "e"] ["client"] (defScope s_law_synced) := ⟨rfl, rfl, rfl, by decide +kernel, rfl, by decide +kernel, by decide +kernel⟩
abbrev s_law_outcome : Stmt := topS 108
theorem sc_law_outcome : FnScope ["client", "number", "e"] ["client", "number"] (defScope s_law_outcome) := ⟨rfl, rfl, rfl, by decide +kernel, rfl, by decide +kernel, by decide +kernel⟩
abbrev s_law_fifty : Stmt := topS 109
theorem sc_law_fifty : FnScope ["client"] ["client"] (defScope s_law_fifty) := ⟨rfl, rfl, rfl, by decide +kernel, rfl, by decide +kernel, by decide +kernel⟩
abbrev s_law : Stmt := topS 110
theorem sc_law : FnScope ["script", "client", "wrong", "count", "handed", "commands", "command", "number", "due", "k", "total"] ["script"] (defScope s_law) := ⟨rfl, rfl, rfl, by decide +kernel, rfl, by decide +kernel, by decide +kernel⟩
end P11
end
section
namespace P11
open PySem PySem.Spec PyProof.Rows L2 Tl XM Cm
structure Txt (w : World) (K : PySem.W.Frag) (mg : Str → Option Value) : Prop where
  d_is_sign : Dn K mg "is_sign" s_is_sign ["character"]
  d_has_only_signs : Dn K mg "has_only_signs" s_has_only_signs ["string"]
  d_may_be_prepared : Dn K mg "may_be_prepared" s_may_be_prepared ["string"]
  d_is_name : Dn K mg "is_name" s_is_name ["string"]
  d_is_text : Dn K mg "is_text" s_is_text ["string"]
  d_is_number : Dn K mg "is_number" s_is_number ["number"]
  d_is_integer : Dn K mg "is_integer" s_is_integer ["thing"]
  d_is_value : Dn K mg "is_value" s_is_value ["thing"]
  d_check_name : Dn K mg "check_name" s_check_name ["name"]
  d_check_string : Dn K mg "check_string" s_check_string ["string"]
  d_check_values : Dn K mg "check_values" s_check_values ["values"]
  d_check_most : Dn K mg "check_most" s_check_most ["most"]
  d_copy_reply : Dn K mg "copy_reply" s_copy_reply ["reply"]
  i_Wire___init___0 : IniD K mg "Wire" "Wire.__init__" s_Wire___init__ ["self", "side"] []
  i_Line___init___0 : IniD K mg "Line" "Line.__init__" s_Line___init__ ["self", "other_side"] []
  m_Line_many_to_send : MDnG K mg "Line" "many_to_send" "Line.many_to_send" s_Line_many_to_send ["self"] []
  i_Client___init___0 : IniD K mg "Client" "Client.__init__" s_Client___init__ ["self"] []
  p_Client_phase : PDnG K mg "Client" "phase" "Client.phase" s_Client_phase ["self"]
  p_Client_session : PDnG K mg "Client" "session" "Client.session" s_Client_session ["self"]
  p_Client_handed : PDnG K mg "Client" "handed" "Client.handed" s_Client_handed ["self"]
  p_Client_received : PDnG K mg "Client" "received" "Client.received" s_Client_received ["self"]
  p_Client_waiting : PDnG K mg "Client" "waiting" "Client.waiting" s_Client_waiting ["self"]
  m_Client_prepare : MDnG K mg "Client" "prepare" "Client.prepare" s_Client_prepare ["self", "name", "string"] []
  m_Client_bind : MDnG K mg "Client" "bind" "Client.bind" s_Client_bind ["self", "portal", "name", "values"] []
  md_Client_run_0 : MDnE K mg "Client" "run" "Client.run" s_Client_run ["self", "portal", "most"] []
  md_Client_run_1 : MDnE K mg "Client" "run" "Client.run" s_Client_run ["self", "portal", "most"] [(.int 0)]
  m_Client_forget : MDnG K mg "Client" "forget" "Client.forget" s_Client_forget ["self", "name"] []
  m_Client_close : MDnG K mg "Client" "close" "Client.close" s_Client_close ["self", "portal"] []
  m_Client_sync : MDnG K mg "Client" "sync" "Client.sync" s_Client_sync ["self"] []
  m_Client_outcome : MDnG K mg "Client" "outcome" "Client.outcome" s_Client_outcome ["self", "batch"] []
  m_Client__add : MDnG K mg "Client" "_add" "Client._add" s_Client__add ["self", "command"] []
  d_law_cell : Dn K mg "_law_cell" s_law_cell ["script", "k"]
  d_law_row : Dn K mg "_law_row" s_law_row ["cell", "count"]
  d_law_name : Dn K mg "_law_name" s_law_name ["number"]
  d_law_text : Dn K mg "_law_text" s_law_text ["number"]
  d_law_value : Dn K mg "_law_value" s_law_value ["number"]
  d_law_term : Dn K mg "_law_term" s_law_term ["number", "used"]
  d_law_used : Dn K mg "_law_used" s_law_used ["parts"]
  d_law_statement : Dn K mg "_law_statement" s_law_statement ["row", "names"]
  d_law_written : Dn K mg "_law_written" s_law_written ["parts"]
  d_law_unit : Dn K mg "_law_unit" s_law_unit ["row"]
  d_law_units : Dn K mg "_law_units" s_law_units ["cell", "count"]
  d_law_named : Dn K mg "_law_named" s_law_named ["client", "command"]
  d_law_add : Dn K mg "_law_add" s_law_add ["client", "command"]
  d_law_kinds : Dn K mg "_law_kinds" s_law_kinds ["e"]
  d_law_told : Dn K mg "_law_told" s_law_told ["client", "command"]
  d_law_wrong : Dn K mg "_law_wrong" s_law_wrong []
  d_law_synced : Dn K mg "_law_synced" s_law_synced ["client"]
  d_law_outcome : Dn K mg "_law_outcome" s_law_outcome ["client", "number"]
  d_law_fifty : Dn K mg "_law_fifty" s_law_fifty ["client"]
  d_law : Dn K mg "law" s_law ["script"]
  mk_Client_prepare : MDnK K mg "Client" "prepare" "Client.prepare" s_Client_prepare ["self", "name", "string"] ["name", "string"]
  mk_Client_bind : MDnK K mg "Client" "bind" "Client.bind" s_Client_bind ["self", "portal", "name", "values"] ["portal", "name", "values"]
  mk_Client_run : MDnK K mg "Client" "run" "Client.run" s_Client_run ["self", "portal", "most"] ["portal", "most"]
  mk_Client_forget : MDnK K mg "Client" "forget" "Client.forget" s_Client_forget ["self", "name"] ["name"]
  mk_Client_close : MDnK K mg "Client" "close" "Client.close" s_Client_close ["self", "portal"] ["portal"]
  ek_BatchFull : ∃ C, ErrK K mg "BatchFull" 2 C
  ek_InvalidCommand : ∃ C, ErrK K mg "InvalidCommand" 1 C
  ek_NoSuchBatch : ∃ C, ErrK K mg "NoSuchBatch" 5 C
  ek_TooManyBatches : ∃ C, ErrK K mg "TooManyBatches" 3 C
  c_CLIENT_FORMS : CD K mg "CLIENT_FORMS" (.tuple [(.tuple [(.str "hello"), (.str "long"), (.str "long")]), (.tuple [(.str "prepare"), (.str "name"), (.str "statement")]), (.tuple [(.str "bind"), (.str "name"), (.str "name"), (.str "values")]), (.tuple [(.str "run"), (.str "name"), (.str "most")]), (.tuple [(.str "forget"), (.str "name")]), (.tuple [(.str "close"), (.str "name")]), (.tuple [(.str "sync"), (.str "long"), (.str "long")])])
  c_GREATEST_MOST : CD K mg "GREATEST_MOST" (.int 1000)
  c_GREATEST_NUMBER : CD K mg "GREATEST_NUMBER" (.int 2147483647)
  c_LEAST_NUMBER : CD K mg "LEAST_NUMBER" (.int (-2147483648))
  c_LETTERS : CD K mg "LETTERS" (.str "abcdefghijklmnopqrstuvwxyz")
  c_LONGEST_NAME : CD K mg "LONGEST_NAME" (.int 8)
  c_LONGEST_STRING : CD K mg "LONGEST_STRING" (.int 200)
  c_LONGEST_TEXT : CD K mg "LONGEST_TEXT" (.int 40)
  c_MOST_BATCHES : CD K mg "MOST_BATCHES" (.int 50)
  c_MOST_COMMANDS : CD K mg "MOST_COMMANDS" (.int 20)
  c_MOST_VALUES : CD K mg "MOST_VALUES" (.int 4)
  c_PERCENT : CD K mg "PERCENT" (.int 37)
  c_SERVER_FORMS : CD K mg "SERVER_FORMS" (.tuple [(.tuple [(.str "welcome"), (.str "long"), (.str "long")]), (.tuple [(.str "refused"), (.str "name")]), (.tuple [(.str "ready"), (.str "long"), (.str "state")]), (.tuple [(.str "prepared"), (.str "parameters")]), (.tuple [(.str "bound")]), (.tuple [(.str "closed")]), (.tuple [(.str "skipped")]), (.tuple [(.str "rows"), (.str "flag"), (.str "rows")]), (.tuple [(.str "complete"), (.str "count")]), (.tuple [(.str "wrong"), (.str "reason")])])
  er_BatchFull : ErrG K mg "BatchFull"
  er_InvalidCommand : ErrG K mg "InvalidCommand"
  er_NoSuchBatch : ErrG K mg "NoSuchBatch"
  er_TooManyBatches : ErrG K mg "TooManyBatches"
  f__batches_Client : FldK K mg "_batches" "Client"
  f__broken_Wire : FldK K mg "_broken" "Wire"
  f__commands_Client : FldK K mg "_commands" "Client"
  f__data_Line : FldK K mg "_data" "Line"
  f__data_Wire : FldK K mg "_data" "Wire"
  f__forms_Wire : FldK K mg "_forms" "Wire"
  f__line_Client : FldK K mg "_line" "Client"
  f__number_Client : FldK K mg "_number" "Client"
  f__other_side_Line : FldK K mg "_other_side" "Line"
  f__outcomes_Client : FldK K mg "_outcomes" "Client"
  f__replies_Client : FldK K mg "_replies" "Client"
  f__taken_Line : FldK K mg "_taken" "Line"
  f__wire_Line : FldK K mg "_wire" "Line"
  f_stage_Line : FldK K mg "stage" "Line"
  f_why_Line : FldK K mg "why" "Line"
  n_ValueError : mg "ValueError" = none
  n_all : mg "all" = none
  n_bool : mg "bool" = none
  n_int : mg "int" = none
  n_isinstance : mg "isinstance" = none
  n_len : mg "len" = none
  n_list : mg "list" = none
  n_max : mg "max" = none
  n_min : mg "min" = none
  n_ord : mg "ord" = none
  n_range : mg "range" = none
  n_repr : mg "repr" = none
  n_str : mg "str" = none
  n_tuple : mg "tuple" = none
  ca_BatchFull2 : CatG K mg "BatchFull" [("BatchFull", true), ("InvalidCommand", false)]
  ca_InvalidCommand1 : CatG K mg "InvalidCommand" [("InvalidCommand", true)]
  ca_TooManyBatches1 : CatG K mg "TooManyBatches" [("TooManyBatches", true)]
  ca_NoSuchBatch1 : CatG K mg "NoSuchBatch" [("NoSuchBatch", true)]
section
variable {P : Program} {w : World} {K : PySem.W.Frag} {mg : Str → Option Value} {base : Heap}
theorem ok_Wire___init___0 (T : Txt w K mg) : IniG P w K mg base CX0 1 "Wire" 2 [] (sp0 K mg 2 m_Wire___init__) :=
  in0n T.i_Wire___init___0 sc_Wire___init__ (by decide) rfl rfl fun f cdv A outer s H E qt hr =>
  (dss_cons (ds_setFld (fk1 T.f__forms_Wire) (dv 0) (de_ifE (dt_cmp op_eq opa_eq (nomark _) (dv 1) de_str) (de_glob T.c_CLIENT_FORMS (by rfl)) (de_glob T.c_SERVER_FORMS (by rfl))))
  (dss_cons (ds_setFld (fk1 T.f__data_Wire) (dv 0) (de_lst da_nil))
  (dss_one (ds_setFld (fk1 T.f__broken_Wire) (dv 0) de_bl))))
theorem ok_Line___init___0 (T : Txt w K mg) : IniG P w K mg base CX0 3 "Line" 2 [] (sp0 K mg 2 m_Line___init__) :=
  in0n T.i_Line___init___0 sc_Line___init__ (by decide) rfl rfl fun f cdv A outer s H E qt hr =>
  (dss_cons (ds_setFld (fk1 T.f_stage_Line) (dv 0) de_str)
  (dss_cons (ds_setFld (fk1 T.f_why_Line) (dv 0) de_non)
  (dss_cons (ds_setFld (fk1 T.f__other_side_Line) (dv 0) (de_share (dv 1)))
  (dss_cons (ds_setFld (fk1 T.f__wire_Line) (dv 0) (de_new (ok_Wire___init___0 T) qt hr (by decide) (by rfl) rfl (da_cons (dv 1) da_nil)))
  (dss_cons (ds_setFld (fk1 T.f__data_Line) (dv 0) (de_lst da_nil))
  (dss_one (ds_setFld (fk1 T.f__taken_Line) (dv 0) de_int)))))))
theorem ok_Client___init___0 (T : Txt w K mg) : IniG P w K mg base CX0 5 "Client" 1 [] (sp0 K mg 1 m_Client___init__) :=
  in0n T.i_Client___init___0 sc_Client___init__ (by decide) rfl rfl fun f cdv A outer s H E qt hr =>
  (dss_cons (ds_setFld (fk1 T.f__line_Client) (dv 0) (de_new (ok_Line___init___0 T) qt hr (by decide) (by rfl) rfl (da_cons de_str da_nil)))
  (dss_cons (ds_setFld (fk1 T.f__number_Client) (dv 0) de_int)
  (dss_cons (ds_setFld (fk1 T.f__commands_Client) (dv 0) (de_lst da_nil))
  (dss_cons (ds_setFld (fk1 T.f__batches_Client) (dv 0) (de_lst da_nil))
  (dss_cons (ds_setFld (fk1 T.f__outcomes_Client) (dv 0) (de_lst da_nil))
  (dss_one (ds_setFld (fk1 T.f__replies_Client) (dv 0) (de_lst da_nil))))))))
theorem ok_Client_phase (T : Txt w K mg) : PrpG P w K mg base 1 "Client" "phase" (sp0 K mg 1 m_Client_phase) :=
  pp0n T.p_Client_phase sc_Client_phase (by decide) rfl rfl fun f cdv A outer s H E qt hr =>
  (dss_one (ds_ret (de_fld (fk1 T.f_stage_Line) (de_fld (fk1 T.f__line_Client) (dv 0)))))
theorem ok_Client_session (T : Txt w K mg) : PrpG P w K mg base 1 "Client" "session" (sp0 K mg 1 m_Client_session) :=
  pp0n T.p_Client_session sc_Client_session (by decide) rfl rfl fun f cdv A outer s H E qt hr =>
  (dss_one (ds_ret (de_fld (fk1 T.f__number_Client) (dv 0))))
theorem ok_Client_handed (T : Txt w K mg) : PrpG P w K mg base 1 "Client" "handed" (sp0 K mg 1 m_Client_handed) :=
  pp0n T.p_Client_handed sc_Client_handed (by decide) rfl rfl fun f cdv A outer s H E qt hr =>
  (dss_one (ds_ret (de_callB call_lenA leaf_len (by rfl) T.n_len PySem.boot_len (da_cons (de_fld (fk1 T.f__batches_Client) (dv 0)) da_nil))))
theorem ok_Client_received (T : Txt w K mg) : PrpG P w K mg base 1 "Client" "received" (sp0 K mg 1 m_Client_received) :=
  pp0n T.p_Client_received sc_Client_received (by decide) rfl rfl fun f cdv A outer s H E qt hr =>
  (dss_one (ds_ret (de_callB call_lenA leaf_len (by rfl) T.n_len PySem.boot_len (da_cons (de_fld (fk1 T.f__outcomes_Client) (dv 0)) da_nil))))
theorem ok_Line_many_to_send (T : Txt w K mg) : MetG P w K mg base CX0 1 "Line" "many_to_send" 1 [] (sp0 K mg 1 m_Line_many_to_send) :=
  mt0n T.m_Line_many_to_send sc_Line_many_to_send (by decide) rfl rfl fun f cdv A outer s H E qt hr =>
  (dss_one (ds_ret (de_op op_sub opa_sub (de_callB call_lenA leaf_len (by rfl) T.n_len PySem.boot_len (da_cons (de_fld (fk1 T.f__data_Line) (dv 0)) da_nil)) (de_fld (fk1 T.f__taken_Line) (dv 0)))))
theorem ok_Client_waiting (T : Txt w K mg) : PrpG P w K mg base 2 "Client" "waiting" (sp0 K mg 1 m_Client_waiting) :=
  pp0n T.p_Client_waiting sc_Client_waiting (by decide) rfl rfl fun f cdv A outer s H E qt hr =>
  (dss_one (ds_ret (de_meth0 (ok_Line_many_to_send T) qt hr (by decide) rfl (de_fld (fk1 T.f__line_Client) (dv 0)))))
theorem ok_is_integer (T : Txt w K mg) : PrG P w K mg base CX0 1 "is_integer" ["thing"] (sp0 K mg 1 m_is_integer) :=
  fn0n T.d_is_integer sc_is_integer (by decide) rfl rfl fun f cdv A outer s H E qt hr =>
  (dss_one (ds_ret (de_and (de_isi (ty := .int) (by rfl) T.n_isinstance (pe_bltn (v := .ty "int") (by rfl) T.n_int boot_int rfl) (by decide) (dv 0)) (de_one (de_not (de_isi (ty := .bool) (by rfl) T.n_isinstance (pe_bltn (v := .ty "bool") (by rfl) T.n_bool boot_bool rfl) (by decide) (dv 0)))))))
theorem ok_copy_reply (T : Txt w K mg) : PrG P w K mg base CX0 1 "copy_reply" ["reply"] (sp0 K mg 1 m_copy_reply) :=
  fn0n T.d_copy_reply sc_copy_reply (by decide) rfl rfl fun f cdv A outer s H E qt hr =>
  (dss_cons (ds_if (dt_cmp op_eq opa_eq (nomark _) (de_ix (dv 0) de_int (fun _ _ => rfl)) de_str)
    (dss_one (ds_ret (de_tup (da_cons de_str (da_cons (de_callTy call_list_of leaf_list (by rfl) T.n_list boot_list (da_cons (de_ix (dv 0) de_int (fun _ _ => rfl)) da_nil)) (da_cons (de_ix (dv 0) de_int (fun _ _ => rfl)) da_nil)))))) dss_nil)
  (dss_one (ds_ret (dv 0))))
theorem ok_Client_outcome (T : Txt w K mg) : MetG P w K mg base (L2N.CX P w) 2 "Client" "outcome" 2 [] (spM K mg 2 m_Client_outcome) :=
  mtXn T.m_Client_outcome sc_Client_outcome (by decide) rfl rfl fun f cdv A outer s H E qt hr =>
  (dss_cons (ds_if (DW.dt (dw_or (dt_not (dt_val (de_call (ok_is_integer T) qt hr (by decide) (by rfl) rfl (da_cons (dv 1) da_nil)))) (dw_or1 (dt_not (dt_chain op_le op_le opa_cmp opa_cmp de_int (dv 1) (de_callB call_lenA leaf_len (by rfl) T.n_len PySem.boot_len (da_cons (de_fld (fk1 T.f__batches_Client) (dv 0)) da_nil)))))))
    (dss_one (ds_raise T.er_NoSuchBatch rfl hears_fn (by rfl) de_str)) dss_nil)
  (dss_cons (ds_if (dt_cmp op_gt opa_cmp (nomark _) (dv 1) (de_callB call_lenA leaf_len (by rfl) T.n_len PySem.boot_len (da_cons (de_fld (fk1 T.f__outcomes_Client) (dv 0)) da_nil)))
    (dss_one (ds_ret de_non)) dss_nil)
  (dss_cons (ds_unpG (dg_seq rfl (dgs_cons (dg_name (i := 2) sc_Client_outcome.nd rfl (by first | exact .inl rfl | exact .inr rfl)) (dgs_cons (dg_name (i := 3) sc_Client_outcome.nd rfl (by first | exact .inl rfl | exact .inr rfl)) dgs_nil))) (de_ix (de_fld (fk1 T.f__outcomes_Client) (dv 0)) (de_op op_sub opa_sub (dv 1) de_int) (fun _ _ => rfl)))
  (dss_one (ds_ret (de_tup (da_cons (dv 2) (da_cons (de_lcO (own := [("reply", 4)]) rfl sc_Client_outcome.nd (dv 3) (blkOk_by (N := ["self", "batch", "state", "replies", "reply"]) (sc := defScope s_Client_outcome) (by decide +kernel))
        (fun _ _ _ _ _ => dg_name (i := 4) sc_Client_outcome.nd rfl (by first | exact .inl rfl | exact .inr rfl)) (fun _ _ _ _ _ => dts_nil)
        (fun _ _ _ _ _ => (de_call (ok_copy_reply T) qt hr (by decide) (by rfl) rfl (da_cons (dv 4) da_nil)))) da_nil))))))))
theorem ok_law_cell (T : Txt w K mg) : PrG P w K mg base CX0 1 "_law_cell" ["script", "k"] (sp0 K mg 2 m_law_cell) :=
  fn0n T.d_law_cell sc_law_cell (by decide) rfl rfl fun f cdv A outer s H E qt hr =>
  (dss_cons (ds_if (dt_cmp op_lt opa_cmp (nomark _) (dv 1) (de_callB call_lenA leaf_len (by rfl) T.n_len PySem.boot_len (da_cons (dv 0) da_nil)))
    (dss_one (ds_ret (de_ix (dv 0) (dv 1) (fun _ _ => rfl)))) dss_nil)
  (dss_one (ds_ret de_int)))
theorem ok_law_row (T : Txt w K mg) : PrG P w K mg base CX0 1 "_law_row" ["cell", "count"] (sp0 K mg 2 m_law_row) :=
  fn0n T.d_law_row sc_law_row (by decide) rfl rfl fun f cdv A outer s H E qt hr =>
  (dss_cons (ds_set (i := 2) sc_law_row.nd rfl (.inl rfl) (de_lst da_nil))
  (dss_cons (ds_set (i := 3) sc_law_row.nd rfl (.inl rfl) (dv 0))
  (dss_cons (ds_set (i := 4) sc_law_row.nd rfl (.inl rfl) (de_op op_addA opa_add (de_op op_mod opa_mod (de_callTy call_int1 leaf_int (by rfl) T.n_int boot_int (da_cons (dv 0) da_nil)) de_int) de_int))
  (dss_cons (ds_for PassesOwn.never rfl (di_rng1 (by rfl) T.n_range (dv 1)) (dg_name (i := 5) sc_law_row.nd rfl (by first | exact .inl rfl | exact .inr rfl))
    (dss_one (ds_if (dt_cmp op_ge opa_cmp (nomark _) (dv 0) (de_op op_pow opa_pow de_int de_int))
      (dss_cons (ds_expr (de_append (dv 2) (de_op op_mod opa_mod (de_callTy call_int1 leaf_int (by rfl) T.n_int boot_int (da_cons (dv 3) da_nil)) de_int)))
      (dss_one (ds_set (i := 3) sc_law_row.nd rfl (.inl rfl) (de_op op_fdiv opa_div (dv 3) de_int))))
      (dss_cons (ds_set (i := 4) sc_law_row.nd rfl (.inl rfl) (de_op op_mod opa_mod (de_callTy call_int1 leaf_int (by rfl) T.n_int boot_int (da_cons (de_op op_addA opa_add (de_op op_mul opa_mul (dv 4) de_int) (dv 5)) da_nil)) de_int))
      (dss_one (ds_expr (de_append (dv 2) (de_op op_mod opa_mod (de_op op_fdiv opa_div (de_op op_mod opa_mod (de_callTy call_int1 leaf_int (by rfl) T.n_int boot_int (da_cons (de_op op_mul opa_mul (dv 4) de_int) da_nil)) de_int) de_int) de_int))))))))
  (dss_one (ds_ret (dv 2)))))))
theorem ok_law_name (T : Txt w K mg) : PrG P w K mg base CX0 1 "_law_name" ["number"] (sp0 K mg 1 m_law_name) :=
  fn0n T.d_law_name sc_law_name (by decide) rfl rfl fun f cdv A outer s H E qt hr =>
  (dss_cons (ds_set (i := 1) sc_law_name.nd rfl (.inr rfl) de_str)
  (dss_one (ds_ret (de_join de_str (de_lc (own := [("k", 2)]) rfl sc_law_name.nd (di_rng1 (by rfl) T.n_range (de_op op_addA opa_add de_int (de_op op_mod opa_mod (dv 0) de_int))) (blkOk_by (N := ["number", "letters", "k"]) (sc := defScope s_law_name) (by decide +kernel))
        (fun _ _ _ _ _ => dg_name (i := 2) sc_law_name.nd rfl (by first | exact .inl rfl | exact .inr rfl)) (fun _ _ _ _ _ => dts_nil)
        (fun _ _ _ _ _ => (de_ixA (dv 1) (de_op op_mod opa_mod (de_op op_fdiv opa_div (dv 0) (de_op op_addA opa_add de_int (de_op op_mul opa_mulL de_int (dv 2)))) de_int) (fun _ _ => rfl))))))))
theorem ok_law_text (T : Txt w K mg) : PrG P w K mg base CX0 2 "_law_text" ["number"] (sp0 K mg 1 m_law_text) :=
  fn0n T.d_law_text sc_law_text (by decide) rfl rfl fun f cdv A outer s H E qt hr =>
  (dss_cons (ds_set (i := 1) sc_law_text.nd rfl (.inr rfl) (de_op op_addA opa_add de_str de_str))
  (dss_cons (ds_set (i := 2) sc_law_text.nd rfl (.inl rfl) (de_lst (da_cons de_str (da_cons de_str (da_cons de_str (da_cons de_str (da_cons de_str (da_cons de_str (da_cons de_str (da_cons (de_op op_mulS opa_mulS de_str de_int) (da_cons de_str (da_cons de_str (da_cons de_str (da_cons de_str da_nil))))))))))))))
  (dss_cons (ds_if (dt_cmp op_eq opa_eq (nomark _) (de_op op_mod opa_mod (dv 0) de_int) de_int)
    (dss_cons (ds_set (i := 3) sc_law_text.nd rfl (.inl rfl) (de_op op_addA opa_add de_int (de_op op_mod opa_mod (de_op op_fdiv opa_div (dv 0) de_int) de_int)))
    (dss_one (ds_ret (de_join de_str (de_lc (own := [("k", 4)]) rfl sc_law_text.nd (di_rng1 (by rfl) T.n_range (dv 3)) (blkOk_by (N := ["number", "signs", "texts", "count", "k"]) (sc := defScope s_law_text) (by decide +kernel))
        (fun _ _ _ _ _ => dg_name (i := 4) sc_law_text.nd rfl (by first | exact .inl rfl | exact .inr rfl)) (fun _ _ _ _ _ => dts_nil)
        (fun _ _ _ _ _ => (de_ixA (dv 1) (de_op op_mod opa_mod (de_op op_addA opa_add (de_op op_mul opa_mulL de_int (de_op op_fdiv opa_div (dv 0) de_int)) (de_op op_mul opa_mul (dv 4) (de_op op_addA opa_add de_int (de_op op_mod opa_mod (dv 0) de_int)))) de_int) (fun _ _ => rfl)))))))) dss_nil)
  (dss_cons (ds_if (dt_cmp op_eq opa_eq (nomark _) (de_op op_mod opa_mod (dv 0) de_int) de_int)
    (dss_one (ds_ret (de_call (ok_law_name T) qt hr (by decide) (by rfl) rfl (da_cons (de_op op_fdiv opa_div (dv 0) de_int) da_nil)))) dss_nil)
  (dss_one (ds_ret (de_ix (dv 2) (de_op op_mod opa_mod (de_op op_mod opa_mod (dv 0) de_int) de_int) (fun _ _ => rfl))))))))
theorem ok_law_value (T : Txt w K mg) : PrG P w K mg base CX0 3 "_law_value" ["number"] (sp0 K mg 1 m_law_value) :=
  fn0n T.d_law_value sc_law_value (by decide) rfl rfl fun f cdv A outer s H E qt hr =>
  (dss_cons (ds_if (dt_cmp op_lt opa_cmp (nomark _) (de_op op_mod opa_mod (dv 0) de_int) de_int)
    (dss_one (ds_ret (de_op op_sub opa_sub (de_op op_mod opa_mod (de_op op_fdiv opa_div (dv 0) de_int) de_int) de_int))) dss_nil)
  (dss_cons (ds_if (dt_cmp op_eq opa_eq (nomark _) (de_op op_mod opa_mod (dv 0) de_int) de_int)
    (dss_one (ds_ret (de_op op_sub opa_sub (de_op op_mod opa_mod (de_op op_addA opa_add (de_op op_mul opa_mul (de_op op_mul opa_mul (dv 0) de_int) de_int) de_int) de_int) de_int))) dss_nil)
  (dss_cons (ds_if (dt_cmp op_eq opa_eq (nomark _) (de_op op_mod opa_mod (dv 0) de_int) de_int)
    (dss_one (ds_ret (de_ix (de_lst (da_cons de_int (da_cons (de_neg de_int) (da_cons de_int (da_cons de_int (da_cons de_int (da_cons de_int (da_cons (de_neg de_int) da_nil)))))))) (de_op op_mod opa_mod (de_op op_fdiv opa_div (dv 0) de_int) de_int) (fun _ _ => rfl)))) dss_nil)
  (dss_one (ds_ret (de_call (ok_law_text T) qt hr (by decide) (by rfl) rfl (da_cons (de_op op_fdiv opa_div (dv 0) de_int) da_nil)))))))
theorem ok_law_used (T : Txt w K mg) : PrG P w K mg base CX0 1 "_law_used" ["parts"] (sp0 K mg 1 m_law_used) :=
  fn0n T.d_law_used sc_law_used (by decide) rfl rfl fun f cdv A outer s H E qt hr =>
  (dss_cons (ds_setLcO (i := 1) (own := [("part", 2)]) rfl sc_law_used.nd rfl rfl (sw_true rfl rfl rfl (by decide +kernel)) (dv 0) (blkOk_by (N := ["parts", "numbers", "part"]) (sc := defScope s_law_used) (by decide +kernel))
        (fun _ _ _ _ _ => dg_name (i := 2) sc_law_used.nd rfl (by first | exact .inl rfl | exact .inr rfl)) (fun _ _ _ _ _ => dts_one (DW.dt (dw_and (dt_val (de_isi (ty := .tuple) (by rfl) T.n_isinstance (pe_bltn (v := .ty "tuple") (by rfl) T.n_tuple boot_tuple rfl) (by decide) (dv 2))) (dw_and1 (dt_cmp op_eq opa_eq (nomark _) (de_ix (dv 2) de_int (fun _ _ => rfl)) de_str)))))
        (fun _ _ _ _ _ => (de_ix (dv 2) de_int (fun _ _ => rfl))))
  (dss_one (ds_ret (de_callB (cr_max rfl) leaf_max (by rfl) T.n_max boot_max (da_cons (de_cat (de_lst (da_cons de_int da_nil)) (dv 1)) da_nil)))))
theorem ok_law_term (T : Txt w K mg) : PrG P w K mg base CX0 4 "_law_term" ["number", "used"] (sp0 K mg 2 m_law_term) :=
  fn0n T.d_law_term sc_law_term (by decide) rfl rfl fun f cdv A outer s H E qt hr =>
  (dss_cons (ds_if (DW.dt (dw_and (dt_cmp op_eq opa_eq (nomark _) (de_op op_mod opa_mod (dv 0) de_int) de_int) (dw_and1 (dt_cmp op_lt opa_cmp (nomark _) (dv 1) de_int))))
    (dss_one (ds_ret (de_tup (da_cons de_str (da_cons (de_op op_addA opa_add (dv 1) de_int) da_nil))))) dss_nil)
  (dss_cons (ds_if (DW.dt (dw_and (dt_cmp op_eq opa_eq (nomark _) (de_op op_mod opa_mod (dv 0) de_int) de_int) (dw_and1 (dt_cmp op_gt opa_cmp (nomark _) (dv 1) de_int))))
    (dss_one (ds_ret (de_tup (da_cons de_str (da_cons (de_op op_addA opa_add de_int (de_op op_mod opa_mod (de_op op_fdiv opa_div (dv 0) de_int) (dv 1))) da_nil))))) dss_nil)
  (dss_cons (ds_set (i := 2) sc_law_term.nd rfl (.inl rfl) (de_call (ok_law_value T) qt hr (by decide) (by rfl) rfl (da_cons (de_op op_fdiv opa_div (dv 0) de_int) da_nil)))
  (dss_cons (ds_if (dt_val (de_isi (ty := .str) (by rfl) T.n_isinstance (pe_bltn (v := .ty "str") (by rfl) T.n_str boot_str rfl) (by decide) (dv 2)))
    (dss_one (ds_ret (de_tup (da_cons de_str (da_cons (dv 2) da_nil))))) dss_nil)
  (dss_one (ds_ret (dv 2)))))))
theorem ok_law_statement (T : Txt w K mg) : PrG P w K mg base CX0 5 "_law_statement" ["row", "names"] (sp0 K mg 2 m_law_statement) :=
  fn0n T.d_law_statement sc_law_statement (by decide) rfl rfl fun f cdv A outer s H E qt hr =>
  (dss_cons (ds_set (i := 2) sc_law_statement.nd rfl (.inl rfl) (de_lst (da_cons de_str (da_cons de_str (da_cons de_str (da_cons de_str (da_cons de_str (da_cons de_str (da_cons de_str (da_cons de_str (da_cons de_str (da_cons de_str (da_cons de_str (da_cons de_str (da_cons de_str da_nil)))))))))))))))
  (dss_cons (ds_set (i := 2) sc_law_statement.nd rfl (.inl rfl) (de_cat (dv 2) (de_lst (da_cons de_str (da_cons de_str (da_cons de_str (da_cons de_str (da_cons de_str (da_cons de_str (da_cons de_str (da_cons de_str da_nil)))))))))))
  (dss_cons (ds_set (i := 3) sc_law_statement.nd rfl (.inl rfl) (de_ix (dv 2) (de_op op_mod opa_mod (de_ix (dv 0) de_int (fun _ _ => rfl)) (de_callB call_lenA leaf_len (by rfl) T.n_len PySem.boot_len (da_cons (dv 2) da_nil))) (fun _ _ => rfl)))
  (dss_cons (ds_if (dt_cmp op_in_seq opa_in (by rfl) (dv 3) (de_lst (da_cons de_str (da_cons de_str (da_cons de_str da_nil)))))
    (dss_one (ds_ret (de_tup (da_cons (dv 3) da_nil)))) dss_nil)
  (dss_cons (ds_set (i := 4) sc_law_statement.nd rfl (.inl rfl) (de_lst (da_cons (dv 3) (da_cons (de_ix (dv 1) (de_op op_mod opa_mod (de_ix (dv 0) de_int (fun _ _ => rfl)) (de_callB call_lenA leaf_len (by rfl) T.n_len PySem.boot_len (da_cons (dv 1) da_nil))) (fun _ _ => rfl)) da_nil))))
  (dss_cons (ds_set (i := 5) sc_law_statement.nd rfl (.inl rfl) (de_dget2 (hu1 hr) (dps_cons de_int (dps_cons de_int (dps_cons de_int (dps_cons (de_op op_mul opa_mulL de_int (de_op op_mod opa_mod (de_ix (dv 0) de_int (fun _ _ => rfl)) de_int)) dps_nil)))) rfl rfl (by simp) (by decide) (by decide) (by decide) (dv 3) de_int ⟨rfl, rfl, rfl, rfl⟩))
  (dss_cons (ds_if (DW.dt (dw_and (dt_cmp op_eq opa_eq (nomark _) (dv 5) de_int) (dw_and1 (dt_cmp op_eq opa_eq (nomark _) (de_op op_mod opa_mod (de_ix (dv 0) de_int (fun _ _ => rfl)) de_int) de_int))))
    (dss_one (ds_ret (de_tup (da_cons (dv 3) (da_cons (de_ix (dv 4) de_int (fun _ _ => rfl)) (da_cons (de_tup (da_cons de_str (da_cons de_int da_nil))) (da_cons (de_tup (da_cons de_str (da_cons de_int da_nil))) da_nil))))))) dss_nil)
  (dss_cons (ds_for PassesOwn.never rfl (di_rng1 (by rfl) T.n_range (dv 5)) (dg_name (i := 6) sc_law_statement.nd rfl (by first | exact .inl rfl | exact .inr rfl))
    (dss_one (ds_expr (de_append (dv 4) (de_call (ok_law_term T) qt hr (by decide) (by rfl) rfl (da_cons (de_op op_addA opa_add (de_ix (dv 0) (de_op op_addA opa_add de_int (dv 6)) (fun _ _ => rfl)) (de_op op_mul opa_mulL de_int (de_ix (dv 0) (de_op op_sub opa_sub de_int (de_op op_mul opa_mulL de_int (dv 6))) (fun _ _ => rfl)))) (da_cons (de_call (ok_law_used T) qt hr (by decide) (by rfl) rfl (da_cons (dv 4) da_nil)) da_nil)))))))
  (dss_one (ds_ret (de_callTy call_tuple_of leaf_tup (by rfl) T.n_tuple boot_tuple (da_cons (dv 4) da_nil))))))))))))
theorem ok_law_written (T : Txt w K mg) : PrG P w K mg base CX0 1 "_law_written" ["parts"] (sp0 K mg 1 m_law_written) :=
  fn0n T.d_law_written sc_law_written (by decide) rfl rfl fun f cdv A outer s H E qt hr =>
  (dss_cons (ds_set (i := 1) sc_law_written.nd rfl (.inl rfl) (de_lst da_nil))
  (dss_cons (ds_forO PassesOwn.never rfl (dv 0) (dg_name (i := 2) sc_law_written.nd rfl (by first | exact .inl rfl | exact .inr rfl))
    (dss_one (ds_if (dt_val (de_isi (ty := .str) (by rfl) T.n_isinstance (pe_bltn (v := .ty "str") (by rfl) T.n_str boot_str rfl) (by decide) (dv 2)))
      (dss_one (ds_expr (de_append (dv 1) (dv 2))))
      (dss_one (ds_if (dt_val (de_isi (ty := .int) (by rfl) T.n_isinstance (pe_bltn (v := .ty "int") (by rfl) T.n_int boot_int rfl) (by decide) (dv 2)))
        (dss_one (ds_expr (de_append (dv 1) (de_callTy call_str_int leaf_strI (by rfl) T.n_str boot_str (da_cons (dv 2) da_nil)))))
        (dss_one (ds_if (dt_cmp op_eq opa_eq (nomark _) (de_ix (dv 2) de_int (fun _ _ => rfl)) de_str)
          (dss_one (ds_expr (de_append (dv 1) (de_op op_addA opa_add (de_op op_addA opa_add de_str (de_ix (dv 2) de_int (fun _ _ => rfl))) de_str))))
          (dss_one (ds_expr (de_append (dv 1) (de_op op_addA opa_add de_str (de_callTy call_str_int leaf_strI (by rfl) T.n_str boot_str (da_cons (de_ix (dv 2) de_int (fun _ _ => rfl)) da_nil)))))))))))))
  (dss_one (ds_ret (de_join de_str (dv 1))))))
theorem ok_law_unit (T : Txt w K mg) : PrG P w K mg base CX0 6 "_law_unit" ["row"] (sp0 K mg 1 m_law_unit) :=
  fn0n T.d_law_unit sc_law_unit (by decide) rfl rfl fun f cdv A outer s H E qt hr =>
  (dss_cons (ds_set (i := 1) sc_law_unit.nd rfl (.inl rfl) (de_ix (de_lst (da_cons de_str (da_cons de_str (da_cons de_str (da_cons de_str (da_cons de_str (da_cons de_str da_nil))))))) (de_op op_mod opa_mod (de_ix (dv 0) de_int (fun _ _ => rfl)) de_int) (fun _ _ => rfl)))
  (dss_cons (ds_set (i := 2) sc_law_unit.nd rfl (.inl rfl) (de_ix (de_lst (da_cons de_str (da_cons de_str (da_cons de_str (da_cons de_str (da_cons (dv 1) (da_cons (dv 1) da_nil))))))) (de_op op_mod opa_mod (de_ix (dv 0) de_int (fun _ _ => rfl)) de_int) (fun _ _ => rfl)))
  (dss_cons (ds_set (i := 3) sc_law_unit.nd rfl (.inl rfl) (de_ix (de_lst (da_cons (de_lst (da_cons de_str (da_cons de_str (da_cons de_str da_nil)))) (da_cons (de_lst (da_cons de_str (da_cons de_str (da_cons de_str da_nil)))) (da_cons (de_lst (da_cons de_str (da_cons de_str (da_cons de_str da_nil)))) da_nil)))) (de_ix (de_lst (da_cons de_int (da_cons de_int (da_cons de_int (da_cons de_int da_nil))))) (de_op op_mod opa_mod (de_op op_fdiv opa_div (de_ix (dv 0) de_int (fun _ _ => rfl)) de_int) de_int) (fun _ _ => rfl)) (fun _ _ => rfl)))
  (dss_cons (ds_set (i := 4) sc_law_unit.nd rfl (.inl rfl) (de_call (ok_law_statement T) qt hr (by decide) (by rfl) rfl (da_cons (de_slice (dv 0) (do_some de_int) (do_some de_int)) (da_cons (dv 3) da_nil))))
  (dss_cons (ds_setLc (i := 5) (own := [("k", 8)]) rfl sc_law_unit.nd rfl rfl (sw_true rfl rfl rfl (by decide +kernel)) (di_rng1 (by rfl) T.n_range (de_call (ok_law_used T) qt hr (by decide) (by rfl) rfl (da_cons (dv 4) da_nil))) (blkOk_by (N := ["row", "name", "portal", "menu", "parts", "values", "most", "commands", "k"]) (sc := defScope s_law_unit) (by decide +kernel))
        (fun _ _ _ _ _ => dg_name (i := 8) sc_law_unit.nd rfl (by first | exact .inl rfl | exact .inr rfl)) (fun _ _ _ _ _ => dts_nil)
        (fun _ _ _ _ _ => (de_call (ok_law_value T) qt hr (by decide) (by rfl) rfl (da_cons (de_ix (dv 0) (de_op op_addA opa_add de_int (dv 8)) (fun _ _ => rfl)) da_nil))))
  (dss_cons (ds_if (dt_cmp op_eq opa_eq (nomark _) (de_op op_mod opa_mod (de_ix (dv 0) de_int (fun _ _ => rfl)) de_int) de_int)
    (dss_one (ds_set (i := 5) sc_law_unit.nd rfl (.inl rfl) (de_slice (de_cat (de_slice (dv 5) (do_some de_int) do_none) (de_rep (de_lst (da_cons de_int (da_cons de_str da_nil))) (de_op op_mod opa_mod (de_op op_fdiv opa_div (de_ix (dv 0) de_int (fun _ _ => rfl)) de_int) de_int))) do_none (do_some de_int)))) dss_nil)
  (dss_cons (ds_set (i := 6) sc_law_unit.nd rfl (.inl rfl) (de_ix (de_lst (da_cons de_int (da_cons (de_op op_mod opa_mod (de_op op_fdiv opa_div (de_ix (dv 0) de_int (fun _ _ => rfl)) de_int) de_int) (da_cons de_int (da_cons de_int da_nil))))) (de_op op_mod opa_mod (de_ix (dv 0) de_int (fun _ _ => rfl)) de_int) (fun _ _ => rfl)))
  (dss_cons (ds_set (i := 7) sc_law_unit.nd rfl (.inl rfl) (de_lst (da_cons (de_tup (da_cons de_str (da_cons (dv 2) da_nil))) (da_cons (de_tup (da_cons de_str (da_cons (dv 1) da_nil))) (da_cons (de_tup (da_cons de_str (da_cons (dv 1) (da_cons (de_call (ok_law_written T) qt hr (by decide) (by rfl) rfl (da_cons (dv 4) da_nil)) da_nil)))) da_nil)))))
  (dss_cons (ds_set (i := 7) sc_law_unit.nd rfl (.inl rfl) (de_cat (dv 7) (de_lst (da_cons (de_tup (da_cons de_str (da_cons (dv 2) (da_cons (dv 1) (da_cons (de_callTy call_tuple_of leaf_tup (by rfl) T.n_tuple boot_tuple (da_cons (dv 5) da_nil)) da_nil))))) (da_cons (de_tup (da_cons de_str (da_cons (dv 2) (da_cons (dv 6) da_nil)))) da_nil)))))
  (dss_cons (ds_if (dt_cmp op_eq opa_eq (nomark _) (de_op op_mod opa_mod (de_ix (dv 0) de_int (fun _ _ => rfl)) de_int) de_int)
    (dss_one (ds_expr (de_append (dv 7) (de_tup (da_cons de_str (da_cons (dv 2) (da_cons (de_op op_mod opa_mod (de_ix (dv 0) de_int (fun _ _ => rfl)) de_int) da_nil))))))) dss_nil)
  (dss_cons (ds_if (dt_cmp op_eq opa_eq (nomark _) (de_op op_mod opa_mod (de_ix (dv 0) de_int (fun _ _ => rfl)) de_int) de_int)
    (dss_one (ds_set (i := 7) sc_law_unit.nd rfl (.inl rfl) (de_slice (dv 7) (do_some (de_op op_mod opa_mod (de_ix (dv 0) de_int (fun _ _ => rfl)) de_int)) do_none))) dss_nil)
  (dss_cons (ds_if (dt_cmp op_eq opa_eq (nomark _) (de_op op_mod opa_mod (de_ix (dv 0) de_int (fun _ _ => rfl)) de_int) de_int)
    (dss_one (ds_setIx (de_tup (da_cons de_str (da_cons (dv 1) (da_cons (de_ix (de_lst (da_cons de_str (da_cons de_str (da_cons de_str (da_cons de_str (da_cons (de_op op_mulS opa_mulS de_str (de_op op_addA opa_add de_int (de_op op_mod opa_mod (de_ix (dv 0) de_int (fun _ _ => rfl)) de_int))) da_nil)))))) (de_op op_mod opa_mod (de_ix (dv 0) de_int (fun _ _ => rfl)) de_int) (fun _ _ => rfl)) da_nil)))) (dv 7) de_int (fun _ => rfl))) dss_nil)
  (dss_one (ds_ret (dv 7)))))))))))))))
theorem ok_law_units (T : Txt w K mg) : PrG P w K mg base CX0 7 "_law_units" ["cell", "count"] (sp0 K mg 2 m_law_units) :=
  fn0n T.d_law_units sc_law_units (by decide) rfl rfl fun f cdv A outer s H E qt hr =>
  (dss_cons (ds_set (i := 2) sc_law_units.nd rfl (.inl rfl) (de_call (ok_law_row T) qt hr (by decide) (by rfl) rfl (da_cons (dv 0) (da_cons (de_op op_mul opa_mulL de_int (dv 1)) da_nil))))
  (dss_cons (ds_set (i := 3) sc_law_units.nd rfl (.inl rfl) (de_lst da_nil))
  (dss_cons (ds_for PassesOwn.never rfl (di_rng1 (by rfl) T.n_range (dv 1)) (dg_name (i := 4) sc_law_units.nd rfl (by first | exact .inl rfl | exact .inr rfl))
    (dss_one (ds_set (i := 3) sc_law_units.nd rfl (.inl rfl) (de_cat (dv 3) (de_call (ok_law_unit T) qt hr (by decide) (by rfl) rfl (da_cons (de_slice (dv 2) (do_some (de_op op_mul opa_mulL de_int (dv 4))) (do_some (de_op op_addA opa_add (de_op op_mul opa_mulL de_int (dv 4)) de_int))) da_nil))))))
  (dss_one (ds_ret (de_slice (dv 3) do_none (do_some de_int)))))))
theorem ok_is_name (T : Txt w K mg) : PrG P w K mg base CX0 1 "is_name" ["string"] (sp0 K mg 1 m_is_name) :=
  fn0n T.d_is_name sc_is_name (by decide) rfl rfl fun f cdv A outer s H E qt hr =>
  (dss_one (ds_ret (de_and (de_chain op_le op_le opa_cmp opa_cmp de_int (de_callB call_lenA leaf_len (by rfl) T.n_len PySem.boot_len (da_cons (dv 0) da_nil)) (de_glob T.c_LONGEST_NAME (by rfl))) (de_one (de_callB (cr_all rfl) leaf_all (by rfl) T.n_all boot_all (da_cons (de_lc (own := [("letter", 1)]) rfl sc_is_name.nd (di_str (dv 0)) (blkOk_by (N := ["string", "letter"]) (sc := defScope s_is_name) (by decide +kernel))
        (fun _ _ _ _ _ => dg_name (i := 1) sc_is_name.nd rfl (by first | exact .inl rfl | exact .inr rfl)) (fun _ _ _ _ _ => dts_nil)
        (fun _ _ _ _ _ => (de_cmp op_in_sign opa_inC (by rfl) (dv 1) (de_glob T.c_LETTERS (by rfl))))) da_nil))))))
theorem ok_check_name (T : Txt w K mg) : PrG P w K mg base (L2N.CX P w) 2 "check_name" ["name"] (spM K mg 1 m_check_name) :=
  fnXn T.d_check_name sc_check_name (by decide) rfl rfl fun f cdv A outer s H E qt hr =>
  (dss_one (ds_if (DW.dt (dw_or (dt_not (dt_val (de_isi (ty := .str) (by rfl) T.n_isinstance (pe_bltn (v := .ty "str") (by rfl) T.n_str boot_str rfl) (by decide) (dv 0)))) (dw_or1 (dt_not (dt_val (de_call (ok_is_name T) qt hr (by decide) (by rfl) rfl (da_cons (dv 0) da_nil)))))))
    (dss_one (ds_raise T.er_InvalidCommand rfl hears_fn (by rfl) de_str)) dss_nil))
theorem ok_is_sign (T : Txt w K mg) : PrG P w K mg base CX0 1 "is_sign" ["character"] (sp0 K mg 1 m_is_sign) :=
  fn0n T.d_is_sign sc_is_sign (by decide) rfl rfl fun f cdv A outer s H E qt hr =>
  (dss_cons (ds_set (i := 1) sc_is_sign.nd rfl (.inl rfl) (de_callB call_ord leaf_ord (by rfl) T.n_ord boot_ord (da_cons (dv 0) da_nil)))
  (dss_one (ds_ret (de_and (de_chain op_le op_le opa_cmp opa_cmp de_int (dv 1) de_int) (de_one (de_cmp op_ne opa_ne (nomark _) (dv 1) (de_glob T.c_PERCENT (by rfl))))))))
theorem ok_has_only_signs (T : Txt w K mg) : PrG P w K mg base CX0 2 "has_only_signs" ["string"] (sp0 K mg 1 m_has_only_signs) :=
  fn0n T.d_has_only_signs sc_has_only_signs (by decide) rfl rfl fun f cdv A outer s H E qt hr =>
  (dss_one (ds_ret (de_callB (cr_all rfl) leaf_all (by rfl) T.n_all boot_all (da_cons (de_lc (own := [("character", 1)]) rfl sc_has_only_signs.nd (di_str (dv 0)) (blkOk_by (N := ["string", "character"]) (sc := defScope s_has_only_signs) (by decide +kernel))
        (fun _ _ _ _ _ => dg_name (i := 1) sc_has_only_signs.nd rfl (by first | exact .inl rfl | exact .inr rfl)) (fun _ _ _ _ _ => dts_nil)
        (fun _ _ _ _ _ => (de_call (ok_is_sign T) qt hr (by decide) (by rfl) rfl (da_cons (dv 1) da_nil)))) da_nil))))
theorem ok_may_be_prepared (T : Txt w K mg) : PrG P w K mg base CX0 3 "may_be_prepared" ["string"] (sp0 K mg 1 m_may_be_prepared) :=
  fn0n T.d_may_be_prepared sc_may_be_prepared (by decide) rfl rfl fun f cdv A outer s H E qt hr =>
  (dss_one (ds_ret (de_and (de_cmp op_le opa_cmp (nomark _) (de_callB call_lenA leaf_len (by rfl) T.n_len PySem.boot_len (da_cons (dv 0) da_nil)) (de_glob T.c_LONGEST_STRING (by rfl))) (de_one (de_call (ok_has_only_signs T) qt hr (by decide) (by rfl) rfl (da_cons (dv 0) da_nil))))))
theorem ok_check_string (T : Txt w K mg) : PrG P w K mg base (L2N.CX P w) 4 "check_string" ["string"] (spM K mg 1 m_check_string) :=
  fnXn T.d_check_string sc_check_string (by decide) rfl rfl fun f cdv A outer s H E qt hr =>
  (dss_one (ds_if (DW.dt (dw_or (dt_not (dt_val (de_isi (ty := .str) (by rfl) T.n_isinstance (pe_bltn (v := .ty "str") (by rfl) T.n_str boot_str rfl) (by decide) (dv 0)))) (dw_or1 (dt_not (dt_val (de_call (ok_may_be_prepared T) qt hr (by decide) (by rfl) rfl (da_cons (dv 0) da_nil)))))))
    (dss_one (ds_raise T.er_InvalidCommand rfl hears_fn (by rfl) de_str)) dss_nil))
theorem ok_Client__add (T : Txt w K mg) : MetG P w K mg base (L2N.CX P w) 1 "Client" "_add" 2 [] (spM K mg 2 m_Client__add) :=
  mtXn T.m_Client__add sc_Client__add (by decide) rfl rfl fun f cdv A outer s H E qt hr =>
  (dss_cons (ds_if (dt_cmp op_ge opa_cmp (nomark _) (de_callB call_lenA leaf_len (by rfl) T.n_len PySem.boot_len (da_cons (de_fld (fk1 T.f__commands_Client) (dv 0)) da_nil)) (de_glob T.c_MOST_COMMANDS (by rfl)))
    (dss_one (ds_raise T.er_BatchFull rfl hears_fn (by rfl) de_str)) dss_nil)
  (dss_cons (ds_expr (de_append (de_fld (fk1 T.f__commands_Client) (dv 0)) (dv 1)))
  (dss_one (ds_ret (de_op op_sub opa_sub (de_callB call_lenA leaf_len (by rfl) T.n_len PySem.boot_len (da_cons (de_fld (fk1 T.f__commands_Client) (dv 0)) da_nil)) de_int)))))
theorem ok_Client_prepare_kw (T : Txt w K mg) : MetK P w K mg base (L2N.CX P w) 5 "Client" "prepare" ["name", "string"] (spM K mg 3 m_Client_prepare) :=
  mtXk T.mk_Client_prepare sc_Client_prepare (by decide) rfl rfl fun f cdv A outer s H E qt hr =>
  (dss_cons (ds_expr (de_callX (ok_check_name T) qt hr (by decide) hears_fn.pass (by rfl) rfl (da_cons (dv 1) da_nil)))
  (dss_cons (ds_expr (de_callX (ok_check_string T) qt hr (by decide) hears_fn.pass (by rfl) rfl (da_cons (dv 2) da_nil)))
  (dss_one (ds_ret (de_methX (ok_Client__add T) hears_fn.pass qt hr (by decide) rfl (dv 0) (da_cons (de_tup (da_cons de_str (da_cons (dv 1) (da_cons (dv 2) da_nil)))) da_nil))))))
theorem ok_Client_prepare (T : Txt w K mg) : MetG P w K mg base (L2N.CX P w) 5 "Client" "prepare" 3 [] (spM K mg 3 m_Client_prepare) :=
  mtXn T.m_Client_prepare sc_Client_prepare (by decide) rfl rfl fun f cdv A outer s H E qt hr =>
  (dss_cons (ds_expr (de_callX (ok_check_name T) qt hr (by decide) hears_fn.pass (by rfl) rfl (da_cons (dv 1) da_nil)))
  (dss_cons (ds_expr (de_callX (ok_check_string T) qt hr (by decide) hears_fn.pass (by rfl) rfl (da_cons (dv 2) da_nil)))
  (dss_one (ds_ret (de_methX (ok_Client__add T) hears_fn.pass qt hr (by decide) rfl (dv 0) (da_cons (de_tup (da_cons de_str (da_cons (dv 1) (da_cons (dv 2) da_nil)))) da_nil))))))
theorem ok_is_text (T : Txt w K mg) : PrG P w K mg base CX0 3 "is_text" ["string"] (sp0 K mg 1 m_is_text) :=
  fn0n T.d_is_text sc_is_text (by decide) rfl rfl fun f cdv A outer s H E qt hr =>
  (dss_one (ds_ret (de_and (de_cmp op_le opa_cmp (nomark _) (de_callB call_lenA leaf_len (by rfl) T.n_len PySem.boot_len (da_cons (dv 0) da_nil)) (de_glob T.c_LONGEST_TEXT (by rfl))) (de_and (de_cmp op_notIn_sign opa_notInC (by rfl) de_str (dv 0)) (de_one (de_call (ok_has_only_signs T) qt hr (by decide) (by rfl) rfl (da_cons (dv 0) da_nil)))))))
theorem ok_is_number (T : Txt w K mg) : PrG P w K mg base CX0 1 "is_number" ["number"] (sp0 K mg 1 m_is_number) :=
  fn0n T.d_is_number sc_is_number (by decide) rfl rfl fun f cdv A outer s H E qt hr =>
  (dss_one (ds_ret (de_chain op_le op_le opa_cmp opa_cmp (de_glob T.c_LEAST_NUMBER (by rfl)) (dv 0) (de_glob T.c_GREATEST_NUMBER (by rfl)))))
theorem ok_is_value (T : Txt w K mg) : PrG P w K mg base CX0 4 "is_value" ["thing"] (sp0 K mg 1 m_is_value) :=
  fn0n T.d_is_value sc_is_value (by decide) rfl rfl fun f cdv A outer s H E qt hr =>
  (dss_cons (ds_if (dt_val (de_isi (ty := .str) (by rfl) T.n_isinstance (pe_bltn (v := .ty "str") (by rfl) T.n_str boot_str rfl) (by decide) (dv 0)))
    (dss_one (ds_ret (de_call (ok_is_text T) qt hr (by decide) (by rfl) rfl (da_cons (dv 0) da_nil)))) dss_nil)
  (dss_one (ds_ret (de_and (de_call (ok_is_integer T) qt hr (by decide) (by rfl) rfl (da_cons (dv 0) da_nil)) (de_one (de_call (ok_is_number T) qt hr (by decide) (by rfl) rfl (da_cons (dv 0) da_nil)))))))
theorem ok_check_values (T : Txt w K mg) : PrG P w K mg base (L2N.CX P w) 5 "check_values" ["values"] (spM K mg 1 m_check_values) :=
  fnXn T.d_check_values sc_check_values (by decide) rfl rfl fun f cdv A outer s H E qt hr =>
  (dss_cons (ds_if (DW.dt (dw_or (dt_not (dt_val (de_isTL (by rfl) T.n_isinstance (pe_bltn (v := .ty "tuple") (by rfl) T.n_tuple boot_tuple rfl) (pe_bltn (v := .ty "list") (by rfl) T.n_list boot_list rfl) (dv 0)))) (dw_or1 (dt_cmp op_gt opa_cmp (nomark _) (de_callB call_lenA leaf_len (by rfl) T.n_len PySem.boot_len (da_cons (dv 0) da_nil)) (de_glob T.c_MOST_VALUES (by rfl))))))
    (dss_one (ds_raise T.er_InvalidCommand rfl hears_fn (by rfl) de_str)) dss_nil)
  (dss_one (ds_if (dt_not (dt_val (de_callB (cr_all rfl) leaf_all (by rfl) T.n_all boot_all (da_cons (de_lcO (own := [("value", 1)]) rfl sc_check_values.nd (dv 0) (blkOk_by (N := ["values", "value"]) (sc := defScope s_check_values) (by decide +kernel))
        (fun _ _ _ _ _ => dg_name (i := 1) sc_check_values.nd rfl (by first | exact .inl rfl | exact .inr rfl)) (fun _ _ _ _ _ => dts_nil)
        (fun _ _ _ _ _ => (de_call (ok_is_value T) qt hr (by decide) (by rfl) rfl (da_cons (dv 1) da_nil)))) da_nil))))
    (dss_one (ds_raise T.er_InvalidCommand rfl hears_fn (by rfl) de_str)) dss_nil)))
theorem ok_Client_bind_kw (T : Txt w K mg) : MetK P w K mg base (L2N.CX P w) 6 "Client" "bind" ["portal", "name", "values"] (spM K mg 4 m_Client_bind) :=
  mtXk T.mk_Client_bind sc_Client_bind (by decide) rfl rfl fun f cdv A outer s H E qt hr =>
  (dss_cons (ds_expr (de_callX (ok_check_name T) qt hr (by decide) hears_fn.pass (by rfl) rfl (da_cons (dv 1) da_nil)))
  (dss_cons (ds_expr (de_callX (ok_check_name T) qt hr (by decide) hears_fn.pass (by rfl) rfl (da_cons (dv 2) da_nil)))
  (dss_cons (ds_expr (de_callX (ok_check_values T) qt hr (by decide) hears_fn.pass (by rfl) rfl (da_cons (dv 3) da_nil)))
  (dss_one (ds_ret (de_methX (ok_Client__add T) hears_fn.pass qt hr (by decide) rfl (dv 0) (da_cons (de_tup (da_cons de_str (da_cons (dv 1) (da_cons (dv 2) (da_cons (de_callTy call_tuple_of leaf_tup (by rfl) T.n_tuple boot_tuple (da_cons (dv 3) da_nil)) da_nil))))) da_nil)))))))
theorem ok_Client_bind (T : Txt w K mg) : MetG P w K mg base (L2N.CX P w) 6 "Client" "bind" 4 [] (spM K mg 4 m_Client_bind) :=
  mtXn T.m_Client_bind sc_Client_bind (by decide) rfl rfl fun f cdv A outer s H E qt hr =>
  (dss_cons (ds_expr (de_callX (ok_check_name T) qt hr (by decide) hears_fn.pass (by rfl) rfl (da_cons (dv 1) da_nil)))
  (dss_cons (ds_expr (de_callX (ok_check_name T) qt hr (by decide) hears_fn.pass (by rfl) rfl (da_cons (dv 2) da_nil)))
  (dss_cons (ds_expr (de_callX (ok_check_values T) qt hr (by decide) hears_fn.pass (by rfl) rfl (da_cons (dv 3) da_nil)))
  (dss_one (ds_ret (de_methX (ok_Client__add T) hears_fn.pass qt hr (by decide) rfl (dv 0) (da_cons (de_tup (da_cons de_str (da_cons (dv 1) (da_cons (dv 2) (da_cons (de_callTy call_tuple_of leaf_tup (by rfl) T.n_tuple boot_tuple (da_cons (dv 3) da_nil)) da_nil))))) da_nil)))))))
theorem ok_check_most (T : Txt w K mg) : PrG P w K mg base (L2N.CX P w) 2 "check_most" ["most"] (spM K mg 1 m_check_most) :=
  fnXn T.d_check_most sc_check_most (by decide) rfl rfl fun f cdv A outer s H E qt hr =>
  (dss_one (ds_if (DW.dt (dw_or (dt_not (dt_val (de_call (ok_is_integer T) qt hr (by decide) (by rfl) rfl (da_cons (dv 0) da_nil)))) (dw_or1 (dt_not (dt_chain op_le op_le opa_cmp opa_cmp de_int (dv 0) (de_glob T.c_GREATEST_MOST (by rfl)))))))
    (dss_one (ds_raise T.er_InvalidCommand rfl hears_fn (by rfl) de_str)) dss_nil))
theorem ok_Client_run_kw (T : Txt w K mg) : MetK P w K mg base (L2N.CX P w) 3 "Client" "run" ["portal", "most"] (spM K mg 3 m_Client_run) :=
  mtXk T.mk_Client_run sc_Client_run (by decide) rfl rfl fun f cdv A outer s H E qt hr =>
  (dss_cons (ds_expr (de_callX (ok_check_name T) qt hr (by decide) hears_fn.pass (by rfl) rfl (da_cons (dv 1) da_nil)))
  (dss_cons (ds_expr (de_callX (ok_check_most T) qt hr (by decide) hears_fn.pass (by rfl) rfl (da_cons (dv 2) da_nil)))
  (dss_one (ds_ret (de_methX (ok_Client__add T) hears_fn.pass qt hr (by decide) rfl (dv 0) (da_cons (de_tup (da_cons de_str (da_cons (dv 1) (da_cons (dv 2) da_nil)))) da_nil))))))
theorem ok_Client_run_0 (T : Txt w K mg) : MetG P w K mg base (L2N.CX P w) 3 "Client" "run" 3 [] (spM K mg 3 m_Client_run) :=
  mtXe T.md_Client_run_0 sc_Client_run (by decide) rfl rfl fun f cdv A outer s H E qt hr =>
  (dss_cons (ds_expr (de_callX (ok_check_name T) qt hr (by decide) hears_fn.pass (by rfl) rfl (da_cons (dv 1) da_nil)))
  (dss_cons (ds_expr (de_callX (ok_check_most T) qt hr (by decide) hears_fn.pass (by rfl) rfl (da_cons (dv 2) da_nil)))
  (dss_one (ds_ret (de_methX (ok_Client__add T) hears_fn.pass qt hr (by decide) rfl (dv 0) (da_cons (de_tup (da_cons de_str (da_cons (dv 1) (da_cons (dv 2) da_nil)))) da_nil))))))
theorem ok_Client_run_1 (T : Txt w K mg) : MetG P w K mg base (L2N.CX P w) 3 "Client" "run" 3 [(.int 0)] (spM K mg 3 m_Client_run) :=
  mtXe T.md_Client_run_1 sc_Client_run (by decide) rfl rfl fun f cdv A outer s H E qt hr =>
  (dss_cons (ds_expr (de_callX (ok_check_name T) qt hr (by decide) hears_fn.pass (by rfl) rfl (da_cons (dv 1) da_nil)))
  (dss_cons (ds_expr (de_callX (ok_check_most T) qt hr (by decide) hears_fn.pass (by rfl) rfl (da_cons (dv 2) da_nil)))
  (dss_one (ds_ret (de_methX (ok_Client__add T) hears_fn.pass qt hr (by decide) rfl (dv 0) (da_cons (de_tup (da_cons de_str (da_cons (dv 1) (da_cons (dv 2) da_nil)))) da_nil))))))
theorem ok_Client_forget_kw (T : Txt w K mg) : MetK P w K mg base (L2N.CX P w) 3 "Client" "forget" ["name"] (spM K mg 2 m_Client_forget) :=
  mtXk T.mk_Client_forget sc_Client_forget (by decide) rfl rfl fun f cdv A outer s H E qt hr =>
  (dss_cons (ds_expr (de_callX (ok_check_name T) qt hr (by decide) hears_fn.pass (by rfl) rfl (da_cons (dv 1) da_nil)))
  (dss_one (ds_ret (de_methX (ok_Client__add T) hears_fn.pass qt hr (by decide) rfl (dv 0) (da_cons (de_tup (da_cons de_str (da_cons (dv 1) da_nil))) da_nil)))))
theorem ok_Client_forget (T : Txt w K mg) : MetG P w K mg base (L2N.CX P w) 3 "Client" "forget" 2 [] (spM K mg 2 m_Client_forget) :=
  mtXn T.m_Client_forget sc_Client_forget (by decide) rfl rfl fun f cdv A outer s H E qt hr =>
  (dss_cons (ds_expr (de_callX (ok_check_name T) qt hr (by decide) hears_fn.pass (by rfl) rfl (da_cons (dv 1) da_nil)))
  (dss_one (ds_ret (de_methX (ok_Client__add T) hears_fn.pass qt hr (by decide) rfl (dv 0) (da_cons (de_tup (da_cons de_str (da_cons (dv 1) da_nil))) da_nil)))))
theorem ok_Client_close_kw (T : Txt w K mg) : MetK P w K mg base (L2N.CX P w) 3 "Client" "close" ["portal"] (spM K mg 2 m_Client_close) :=
  mtXk T.mk_Client_close sc_Client_close (by decide) rfl rfl fun f cdv A outer s H E qt hr =>
  (dss_cons (ds_expr (de_callX (ok_check_name T) qt hr (by decide) hears_fn.pass (by rfl) rfl (da_cons (dv 1) da_nil)))
  (dss_one (ds_ret (de_methX (ok_Client__add T) hears_fn.pass qt hr (by decide) rfl (dv 0) (da_cons (de_tup (da_cons de_str (da_cons (dv 1) da_nil))) da_nil)))))
theorem ok_Client_close (T : Txt w K mg) : MetG P w K mg base (L2N.CX P w) 3 "Client" "close" 2 [] (spM K mg 2 m_Client_close) :=
  mtXn T.m_Client_close sc_Client_close (by decide) rfl rfl fun f cdv A outer s H E qt hr =>
  (dss_cons (ds_expr (de_callX (ok_check_name T) qt hr (by decide) hears_fn.pass (by rfl) rfl (da_cons (dv 1) da_nil)))
  (dss_one (ds_ret (de_methX (ok_Client__add T) hears_fn.pass qt hr (by decide) rfl (dv 0) (da_cons (de_tup (da_cons de_str (da_cons (dv 1) da_nil))) da_nil)))))
theorem ok_law_named (T : Txt w K mg) : PrG P w K mg base (L2N.CX P w) 7 "_law_named" ["client", "command"] (spM K mg 2 m_law_named) :=
  fnXn T.d_law_named sc_law_named (by decide) rfl rfl fun f cdv A outer s H E qt hr =>
  (dss_cons (ds_if (dt_cmp op_eq opa_eq (nomark _) (de_ix (dv 1) de_int (fun _ _ => rfl)) de_str)
    (dss_one (ds_ret (de_methK (ok_Client_prepare_kw T) hears_fn.pass qt hr (by decide) rfl rfl (dv 0) (dk_cons (de_ix (dv 1) de_int (fun _ _ => rfl)) (dk_cons (de_ix (dv 1) de_int (fun _ _ => rfl)) dk_nil))))) dss_nil)
  (dss_cons (ds_if (dt_cmp op_eq opa_eq (nomark _) (de_ix (dv 1) de_int (fun _ _ => rfl)) de_str)
    (dss_one (ds_ret (de_methK (ok_Client_bind_kw T) hears_fn.pass qt hr (by decide) rfl rfl (dv 0) (dk_cons (de_ix (dv 1) de_int (fun _ _ => rfl)) (dk_cons (de_ix (dv 1) de_int (fun _ _ => rfl)) (dk_cons (de_ix (dv 1) de_int (fun _ _ => rfl)) dk_nil)))))) dss_nil)
  (dss_cons (ds_if (dt_cmp op_eq opa_eq (nomark _) (de_ix (dv 1) de_int (fun _ _ => rfl)) de_str)
    (dss_one (ds_ret (de_methK (ok_Client_run_kw T) hears_fn.pass qt hr (by decide) rfl rfl (dv 0) (dk_cons (de_ix (dv 1) de_int (fun _ _ => rfl)) (dk_cons (de_ix (dv 1) de_int (fun _ _ => rfl)) dk_nil))))) dss_nil)
  (dss_cons (ds_if (dt_cmp op_eq opa_eq (nomark _) (de_ix (dv 1) de_int (fun _ _ => rfl)) de_str)
    (dss_one (ds_ret (de_methK (ok_Client_forget_kw T) hears_fn.pass qt hr (by decide) rfl rfl (dv 0) (dk_cons (de_ix (dv 1) de_int (fun _ _ => rfl)) dk_nil)))) dss_nil)
  (dss_one (ds_ret (de_methK (ok_Client_close_kw T) hears_fn.pass qt hr (by decide) rfl rfl (dv 0) (dk_cons (de_ix (dv 1) de_int (fun _ _ => rfl)) dk_nil))))))))
theorem ok_law_add (T : Txt w K mg) : PrG P w K mg base (L2N.CX P w) 8 "_law_add" ["client", "command"] (spM K mg 2 m_law_add) :=
  fnXn T.d_law_add sc_law_add (by decide) rfl rfl fun f cdv A outer s H E qt hr =>
  (dss_cons (ds_if (DW.dt (dw_and (dt_val (de_isi (ty := .str) (by rfl) T.n_isinstance (pe_bltn (v := .ty "str") (by rfl) T.n_str boot_str rfl) (by decide) (de_ix (dv 1) de_int (fun _ _ => rfl)))) (dw_and1 (dt_cmp op_eq opa_eq (nomark _) (de_callB call_lenA leaf_len (by rfl) T.n_len PySem.boot_len (da_cons (de_ix (dv 1) de_int (fun _ _ => rfl)) da_nil)) de_int))))
    (dss_one (ds_ret (de_callX (ok_law_named T) qt hr (by decide) hears_fn.pass (by rfl) rfl (da_cons (dv 0) (da_cons (dv 1) da_nil))))) dss_nil)
  (dss_cons (ds_if (dt_cmp op_eq opa_eq (nomark _) (de_ix (dv 1) de_int (fun _ _ => rfl)) de_str)
    (dss_one (ds_ret (de_methX (ok_Client_prepare T) hears_fn.pass qt hr (by decide) rfl (dv 0) (da_cons (de_ix (dv 1) de_int (fun _ _ => rfl)) (da_cons (de_ix (dv 1) de_int (fun _ _ => rfl)) da_nil))))) dss_nil)
  (dss_cons (ds_if (dt_cmp op_eq opa_eq (nomark _) (de_ix (dv 1) de_int (fun _ _ => rfl)) de_str)
    (dss_one (ds_ret (de_methX (ok_Client_bind T) hears_fn.pass qt hr (by decide) rfl (dv 0) (da_cons (de_ix (dv 1) de_int (fun _ _ => rfl)) (da_cons (de_ix (dv 1) de_int (fun _ _ => rfl)) (da_cons (de_ix (dv 1) de_int (fun _ _ => rfl)) da_nil)))))) dss_nil)
  (dss_cons (ds_if (DW.dt (dw_and (dt_cmp op_eq opa_eq (nomark _) (de_ix (dv 1) de_int (fun _ _ => rfl)) de_str) (dw_and (dt_cmp (op_eqD (hu64 hr)) opa_eqD (nomark _) (de_ix (dv 1) de_int (fun _ _ => rfl)) de_int) (dw_and1 (dt_cmp op_eq opa_eq (nomark _) (de_callB call_lenA leaf_len (by rfl) T.n_len PySem.boot_len (da_cons (de_ix (dv 1) de_int (fun _ _ => rfl)) da_nil)) de_int)))))
    (dss_one (ds_ret (de_methX (ok_Client_run_1 T) hears_fn.pass qt hr (by decide) rfl (dv 0) (da_cons (de_ix (dv 1) de_int (fun _ _ => rfl)) da_nil)))) dss_nil)
  (dss_cons (ds_if (dt_cmp op_eq opa_eq (nomark _) (de_ix (dv 1) de_int (fun _ _ => rfl)) de_str)
    (dss_one (ds_ret (de_methX (ok_Client_run_0 T) hears_fn.pass qt hr (by decide) rfl (dv 0) (da_cons (de_ix (dv 1) de_int (fun _ _ => rfl)) (da_cons (de_ix (dv 1) de_int (fun _ _ => rfl)) da_nil))))) dss_nil)
  (dss_cons (ds_if (dt_cmp op_eq opa_eq (nomark _) (de_ix (dv 1) de_int (fun _ _ => rfl)) de_str)
    (dss_one (ds_ret (de_methX (ok_Client_forget T) hears_fn.pass qt hr (by decide) rfl (dv 0) (da_cons (de_ix (dv 1) de_int (fun _ _ => rfl)) da_nil)))) dss_nil)
  (dss_one (ds_ret (de_methX (ok_Client_close T) hears_fn.pass qt hr (by decide) rfl (dv 0) (da_cons (de_ix (dv 1) de_int (fun _ _ => rfl)) da_nil))))))))))
theorem ref_only {D : Addr} : ∀ u, RelV (.ref D) u → u = .ref D := fun u h => h
theorem ok_law_kinds {m : Nat} {C : Addr} {c : Str} (T : Txt w K mg) (R : ErrK K mg c m C) (hm : m < 6) : Hq.PrK P w K mg base 1 "_law_kinds" ["e"] (spK C m) := by
  refine Hq.prK T.d_law_kinds sc_law_kinds (fun p vs H Q E h => ?_) (fun f cdv A outer s H vs Q p hot pin hr h => ?_)
  · obtain ⟨rfl, _⟩ := h; rfl
  · obtain ⟨rfl, hz, q⟩ := h
    have hh := Hq.held_def (CX := CX0) (P := P) (w := w) (K := K) (mg := mg) (base := base) (N := ["e", "kinds", "names", "k"]) (qual := "_law_kinds") (scope := defScope s_law_kinds) (f := f) (cd := cdv) (E := E0) hot pin
    obtain ⟨D0, g0, k0⟩ := R.c0
    obtain ⟨D1, g1, k1⟩ := R.c1
    obtain ⟨D2, g2, k2⟩ := R.c2
    obtain ⟨D3, g3, k3⟩ := R.c3
    obtain ⟨D4, g4, k4⟩ := R.c4
    obtain ⟨D5, g5, k5⟩ := R.c5
    obtain ⟨B, gB, kB⟩ := R.b
    refine ⟨_, pss_cons (ps_set (i := 1) sc_law_kinds.nd rfl (.inr rfl) (pe_lst (pa_cons (pe_callB (Hq.call_isH hh R.ex hz) (by rfl) T.n_isinstance boot_isinstance (pa_cons (pv 0) (pa_cons (pe_gref (by rfl) g0) pa_nil))) (pa_cons (pe_callB (Hq.call_isH hh R.ex hz) (by rfl) T.n_isinstance boot_isinstance (pa_cons (pv 0) (pa_cons (pe_gref (by rfl) g1) pa_nil))) (pa_cons (pe_callB (Hq.call_isH hh R.ex hz) (by rfl) T.n_isinstance boot_isinstance (pa_cons (pv 0) (pa_cons (pe_gref (by rfl) g2) pa_nil))) pa_nil)))))
      (pss_cons (ps_set (i := 1) sc_law_kinds.nd rfl (.inr rfl) (pe_op op_cat (pv 1) (pe_lst (pa_cons (pe_callB (Hq.call_isH hh R.ex hz) (by rfl) T.n_isinstance boot_isinstance (pa_cons (pv 0) (pa_cons (pe_gref (by rfl) g3) pa_nil))) (pa_cons (pe_callB (Hq.call_isH hh R.ex hz) (by rfl) T.n_isinstance boot_isinstance (pa_cons (pv 0) (pa_cons (pe_gref (by rfl) g4) pa_nil))) (pa_cons (pe_callB (Hq.call_isH hh R.ex hz) (by rfl) T.n_isinstance boot_isinstance (pa_cons (pv 0) (pa_cons (pe_gref (by rfl) g5) pa_nil))) pa_nil))))))
      (pss_cons (ps_set (i := 2) sc_law_kinds.nd rfl (.inr rfl) (pe_lst (pa_cons pe_str (pa_cons pe_str (pa_cons pe_str (pa_cons pe_str (pa_cons pe_str (pa_cons pe_str pa_nil))))))))
      (pss_one (ps_ret (Hq.pe_lcH (own := [("k", 3)]) (g := gName 3) (tt := tAnd (tB (tOp (rIxL K) (tVar 1) (tVar 3))) (tB (tCB (rIsE K C p.1) (tCons (tVar 0) (tCons (tC (.ref B)) tNil))))) (te := tOp (rIxL K) (tVar 2) (tVar 3)) hh (List.mem_singleton.mpr rfl) sc_law_kinds.nd (Hq.piH_range1 (by rfl) T.n_range (pa_cons pe_int pa_nil)) (blkOk_by (N := ["e", "kinds", "names", "k"]) (sc := defScope s_law_kinds) (by decide +kernel))
        (fun _ _ _ _ _ => pg_name (i := 3) sc_law_kinds.nd rfl (.inl rfl)) (fun _ _ _ _ _ hb => pts_one (PW.pt (pw_and (pt_val (pe_ix ix_list (pv 1) (pv 3) (fun _ _ => rfl))) (pw_and1 (pt_val (pe_callB (Hq.call_isH hb R.ex hz) (by rfl) T.n_isinstance boot_isinstance (pa_cons (pv 0) (pa_cons (pe_gref (by rfl) gB) pa_nil))))))))
        (fun _ _ _ _ _ _ => pe_ix ix_list (pv 2) (pv 3) (fun _ _ => rfl))))))), ?_⟩
    refine ⟨_, rfl, _, _, _, rfl, ref_only, k0, _, rfl, _, _, _, rfl, ref_only, k1, _, rfl, _, _, _, rfl, ref_only, k2, (by show 3 ≤ sizeLine; decide), fun p1 n1 => ?_⟩
    have s1 := same_upd (o := HO.lst [.bl (decide (m = 0)), .bl (decide (m = 1)), .bl (decide (m = 2))]) n1
    refine ⟨_, rfl, _, rfl, _, _, _, rfl, ref_only, k3, _, rfl, _, _, _, rfl, ref_only, k4, _, rfl, _, _, _, rfl, ref_only, k5, (by show 3 ≤ sizeLine; decide), fun p2 n2 => ?_⟩
    have s2 := same_upd (o := HO.lst [.bl (decide (m = 3)), .bl (decide (m = 4)), .bl (decide (m = 5))]) n2
    refine ⟨p1, p2, _, _, rfl, rfl, s2 _ _ upd_same, upd_same, (by show 6 ≤ sizeLine; decide), fun p3 n3 => ?_⟩
    have s3 := same_upd (o := HO.lst [.bl (decide (m = 0)), .bl (decide (m = 1)), .bl (decide (m = 2)), .bl (decide (m = 3)), .bl (decide (m = 4)), .bl (decide (m = 5))]) n3
    refine ⟨(by show 6 ≤ sizeLine; decide), fun p4 n4 => ?_⟩
    have s4 := same_upd (o := HO.lst [.str "unreadable", .str "invalid", .str "full", .str "batches", .str "closed", .str "none"]) n4
    have at3 := s4 _ _ (upd_same (a := p3))
    have at4 := upd_same (a := p4) (o := HO.lst [.str "unreadable", .str "invalid", .str "full", .str "batches", .str "closed", .str "none"]) (H := upd (upd (upd H p1 (.lst [.bl (decide (m = 0)), .bl (decide (m = 1)), .bl (decide (m = 2))])) p2 (.lst [.bl (decide (m = 3)), .bl (decide (m = 4)), .bl (decide (m = 5))])) p3 (.lst ([.bl (decide (m = 0)), .bl (decide (m = 1)), .bl (decide (m = 2))] ++ [.bl (decide (m = 3)), .bl (decide (m = 4)), .bl (decide (m = 5))])))
    have s04 := s1.trans (s2.trans (s3.trans s4))
    change gName 2 _ _ (upd (upd (upd (upd H p1 (.lst [.bl (decide (m = 0)), .bl (decide (m = 1)), .bl (decide (m = 2))])) p2 (.lst [.bl (decide (m = 3)), .bl (decide (m = 4)), .bl (decide (m = 5))])) p3 (.lst ([.bl (decide (m = 0)), .bl (decide (m = 1)), .bl (decide (m = 2))] ++ [.bl (decide (m = 3)), .bl (decide (m = 4)), .bl (decide (m = 5))]))) p4 (.lst [.str "unreadable", .str "invalid", .str "full", .str "batches", .str "closed", .str "none"])) _
    generalize (upd (upd (upd (upd H p1 (.lst [.bl (decide (m = 0)), .bl (decide (m = 1)), .bl (decide (m = 2))])) p2 (.lst [.bl (decide (m = 3)), .bl (decide (m = 4)), .bl (decide (m = 5))])) p3 (.lst ([.bl (decide (m = 0)), .bl (decide (m = 1)), .bl (decide (m = 2))] ++ [.bl (decide (m = 3)), .bl (decide (m = 4)), .bl (decide (m = 5))]))) p4 (.lst [.str "unreadable", .str "invalid", .str "full", .str "batches", .str "closed", .str "none"])) = H4 at at3 at4 s04 ⊢
    refine ⟨6, rfl, by decide, by decide, lc_acc (n := 6) walk_range (fun i => if i ≤ m then [] else [V.str (kname m)]) (if_pos (Nat.zero_le m)) (fun i hi => ?_) (fun _ _ => trivial) ?_ ?_⟩
    · split <;> (rw [sizeLine_eq]; simp)
    · rintro i x H1 H' Rr Nn hi sm ⟨rfl, rfl⟩ kR kN
      have a3 := sm _ _ at3
      have a4 := sm _ _ at4
      have no : ∀ j, m ≠ j → (if j + 1 ≤ m then ([] : List V) else [V.str (kname m)]) = (if j ≤ m then [] else [V.str (kname m)]) := fun j ne => by
        by_cases z : j ≤ m
        · rw [if_pos z, if_pos (by omega)]
        · rw [if_neg z, if_neg (by omega)]
      have yes : (if m + 1 ≤ m then ([] : List V) else [V.str (kname m)]) = (if m ≤ m then [] else [V.str (kname m)]) ++ [V.str (kname m)] := by
        rw [if_neg (by omega), if_pos (Nat.le_refl m)]; rfl
      have : i = 0 ∨ i = 1 ∨ i = 2 ∨ i = 3 ∨ i = 4 ∨ i = 5 := by omega
      rcases this with rfl | rfl | rfl | rfl | rfl | rfl
      · by_cases e : m = 0
        · subst e
          exact ⟨rfl, _, rfl, _, rfl, p3, _, _, .bl true, rfl, rfl, SqL.of a3, rfl, _, rfl, iteT ⟨_, rfl, _, _, _, rfl, ref_only, kB, _, rfl, iteT ⟨_, rfl, _, rfl, p4, _, _, .str "unreadable", rfl, rfl, SqL.of a4, rfl, kR _ _ (Same.refl _) yes⟩⟩⟩
        · rw [decide_eq_false e] at a3
          exact ⟨rfl, _, rfl, _, rfl, p3, _, _, .bl false, rfl, rfl, SqL.of a3, rfl, _, rfl, iteF (kN _ (Same.refl _) (no 0 e))⟩
      · by_cases e : m = 1
        · subst e
          exact ⟨rfl, _, rfl, _, rfl, p3, _, _, .bl true, rfl, rfl, SqL.of a3, rfl, _, rfl, iteT ⟨_, rfl, _, _, _, rfl, ref_only, kB, _, rfl, iteT ⟨_, rfl, _, rfl, p4, _, _, .str "invalid", rfl, rfl, SqL.of a4, rfl, kR _ _ (Same.refl _) yes⟩⟩⟩
        · rw [decide_eq_false e] at a3
          exact ⟨rfl, _, rfl, _, rfl, p3, _, _, .bl false, rfl, rfl, SqL.of a3, rfl, _, rfl, iteF (kN _ (Same.refl _) (no 1 e))⟩
      · by_cases e : m = 2
        · subst e
          exact ⟨rfl, _, rfl, _, rfl, p3, _, _, .bl true, rfl, rfl, SqL.of a3, rfl, _, rfl, iteT ⟨_, rfl, _, _, _, rfl, ref_only, kB, _, rfl, iteT ⟨_, rfl, _, rfl, p4, _, _, .str "full", rfl, rfl, SqL.of a4, rfl, kR _ _ (Same.refl _) yes⟩⟩⟩
        · rw [decide_eq_false e] at a3
          exact ⟨rfl, _, rfl, _, rfl, p3, _, _, .bl false, rfl, rfl, SqL.of a3, rfl, _, rfl, iteF (kN _ (Same.refl _) (no 2 e))⟩
      · by_cases e : m = 3
        · subst e
          exact ⟨rfl, _, rfl, _, rfl, p3, _, _, .bl true, rfl, rfl, SqL.of a3, rfl, _, rfl, iteT ⟨_, rfl, _, _, _, rfl, ref_only, kB, _, rfl, iteT ⟨_, rfl, _, rfl, p4, _, _, .str "batches", rfl, rfl, SqL.of a4, rfl, kR _ _ (Same.refl _) yes⟩⟩⟩
        · rw [decide_eq_false e] at a3
          exact ⟨rfl, _, rfl, _, rfl, p3, _, _, .bl false, rfl, rfl, SqL.of a3, rfl, _, rfl, iteF (kN _ (Same.refl _) (no 3 e))⟩
      · by_cases e : m = 4
        · subst e
          exact ⟨rfl, _, rfl, _, rfl, p3, _, _, .bl true, rfl, rfl, SqL.of a3, rfl, _, rfl, iteT ⟨_, rfl, _, _, _, rfl, ref_only, kB, _, rfl, iteT ⟨_, rfl, _, rfl, p4, _, _, .str "closed", rfl, rfl, SqL.of a4, rfl, kR _ _ (Same.refl _) yes⟩⟩⟩
        · rw [decide_eq_false e] at a3
          exact ⟨rfl, _, rfl, _, rfl, p3, _, _, .bl false, rfl, rfl, SqL.of a3, rfl, _, rfl, iteF (kN _ (Same.refl _) (no 4 e))⟩
      · by_cases e : m = 5
        · subst e
          exact ⟨rfl, _, rfl, _, rfl, p3, _, _, .bl true, rfl, rfl, SqL.of a3, rfl, _, rfl, iteT ⟨_, rfl, _, _, _, rfl, ref_only, kB, _, rfl, iteT ⟨_, rfl, _, rfl, p4, _, _, .str "none", rfl, rfl, SqL.of a4, rfl, kR _ _ (Same.refl _) yes⟩⟩⟩
        · rw [decide_eq_false e] at a3
          exact ⟨rfl, _, rfl, _, rfl, p3, _, _, .bl false, rfl, rfl, SqL.of a3, rfl, _, rfl, iteF (kN _ (Same.refl _) (no 5 e))⟩
    · intro H1 D sm nD eD
      rw [if_neg (by omega)] at eD
      exact q _ D (s04.trans sm) (s04.free nD) eD
theorem ok_law_told (T : Txt w K mg) : PrG P w K mg base CX0 9 "_law_told" ["client", "command"] (sp0 K mg 2 m_law_told) := by
  obtain ⟨_, R0⟩ := T.ek_BatchFull
  obtain ⟨_, g0, k0⟩ := T.ca_BatchFull2.ex
  have G0 := ok_law_kinds (P := P) (w := w) (base := base) T R0 (by decide)
  obtain ⟨_, R1⟩ := T.ek_InvalidCommand
  obtain ⟨_, g1, k1⟩ := T.ca_InvalidCommand1.ex
  have G1 := ok_law_kinds (P := P) (w := w) (base := base) T R1 (by decide)
  exact fn0n T.d_law_told sc_law_told (by decide) rfl rfl fun f cdv A outer s H E qt hr =>
  (dss_one (ds_tryC (i := 2) rfl rfl sc_law_told.nd rfl rfl hears_no (fun _ pn xe tk po => (dss_one (ds_ret (de_callX (ok_law_add T) qt hr (by decide) tk.pass (by rfl) rfl (da_cons (dv 0) (da_cons (dv 1) da_nil))))))
    (Cls3.cons ⟨by rfl, by decide, .inl g0⟩ k0 (fun _ => .cons (.str _) (.cons (.bl _) .nil))
    (fun z zo zc zd zs hz hf =>
      have u64 : (A.deeper (envOfC "_law_told" (defScope s_law_told) s.heap.objs.size f cdv)).units + 64 < cLine := by have := hu65 hr; exact Nat.lt_of_succ_lt this
      have rk : L2H.RoomH 1 ((A.deeper (envOfC "_law_told" (defScope s_law_told) s.heap.objs.size f cdv)).mark (some (.ref z))) := ⟨(hr.mono (show 1 ≤ _ by decide)).dp, (hr.mono (show 1 ≤ _ by decide)).un⟩
      have hk : L2H.Hot1 ((A.deeper (envOfC "_law_told" (defScope s_law_told) s.heap.objs.size f cdv)).mark (some (.ref z))) (z, zo) := ⟨rfl, hf.elim fun vs e => ⟨vs, e, hz.2.2 vs e⟩⟩
      pss_imp (pss_one (ps_ret (pe_lst (pa_cons pe_str (pa_cons (pe_and (pe_callB (call_isS hz hf) (by rfl) T.n_isinstance boot_isinstance (pa_cons (pv 2) (pa_cons (pe_bltn (v := .ty "ValueError") (by rfl) T.n_ValueError (by decide +kernel) rfl) pa_nil))) (pe_one (pe_cmpR (show OpR _ _ (rEqD K) from op_eqD u64) (Hq.pe_kZ hz G0 rk hk (List.mem_cons_self ..) (by rfl) (pa_cons (pv 2) pa_nil)) (pe_lst (pa_cons pe_str pa_nil)) (nomark _)))) pa_nil))))) fun D σ H q => handsA R0 (one_true (by decide +kernel)) rfl (by decide +kernel) q)
    (Cls3.cons ⟨by rfl, by decide, .inl g1⟩ k1 (fun _ => .cons (.str _) (.cons (.bl _) .nil))
    (fun z zo zc zd zs hz hf =>
      have u64 : (A.deeper (envOfC "_law_told" (defScope s_law_told) s.heap.objs.size f cdv)).units + 64 < cLine := by have := hu65 hr; exact Nat.lt_of_succ_lt this
      have rk : L2H.RoomH 1 ((A.deeper (envOfC "_law_told" (defScope s_law_told) s.heap.objs.size f cdv)).mark (some (.ref z))) := ⟨(hr.mono (show 1 ≤ _ by decide)).dp, (hr.mono (show 1 ≤ _ by decide)).un⟩
      have hk : L2H.Hot1 ((A.deeper (envOfC "_law_told" (defScope s_law_told) s.heap.objs.size f cdv)).mark (some (.ref z))) (z, zo) := ⟨rfl, hf.elim fun vs e => ⟨vs, e, hz.2.2 vs e⟩⟩
      pss_imp (pss_one (ps_ret (pe_lst (pa_cons pe_str (pa_cons (pe_and (pe_callB (call_isS hz hf) (by rfl) T.n_isinstance boot_isinstance (pa_cons (pv 2) (pa_cons (pe_bltn (v := .ty "ValueError") (by rfl) T.n_ValueError (by decide +kernel) rfl) pa_nil))) (pe_one (pe_cmpR (show OpR _ _ (rEqD K) from op_eqD u64) (Hq.pe_kZ hz G1 rk hk (List.mem_cons_self ..) (by rfl) (pa_cons (pv 2) pa_nil)) (pe_lst (pa_cons pe_str pa_nil)) (nomark _)))) pa_nil))))) fun D σ H q => handsA R1 (one_true (by decide +kernel)) rfl (by decide +kernel) q)
    .nil))))
theorem ok_law_wrong (T : Txt w K mg) : PrG P w K mg base CX0 1 "_law_wrong" [] (sp0 K mg 0 m_law_wrong) :=
  fn0n T.d_law_wrong sc_law_wrong (by decide) rfl rfl fun f cdv A outer s H E qt hr =>
  (dss_cons (ds_set (i := 0) sc_law_wrong.nd rfl (.inl rfl) (de_lst (da_cons de_str (da_cons de_str (da_cons de_str (da_cons de_str (da_cons de_str (da_cons de_str (da_cons de_non (da_cons de_int da_nil))))))))))
  (dss_cons (ds_set (i := 1) sc_law_wrong.nd rfl (.inl rfl) (de_cat (de_lcO (own := [("name", 2)]) rfl sc_law_wrong.nd (dv 0) (blkOk_by (N := ["names", "rows", "name"]) (sc := defScope s_law_wrong) (by decide +kernel))
        (fun _ _ _ _ _ => dg_name (i := 2) sc_law_wrong.nd rfl (by first | exact .inl rfl | exact .inr rfl)) (fun _ _ _ _ _ => dts_nil)
        (fun _ _ _ _ _ => (de_tup (da_cons de_str (da_cons (dv 2) (da_cons de_str da_nil)))))) (de_lcO (own := [("name", 2)]) rfl sc_law_wrong.nd (dv 0) (blkOk_by (N := ["names", "rows", "name"]) (sc := defScope s_law_wrong) (by decide +kernel))
        (fun _ _ _ _ _ => dg_name (i := 2) sc_law_wrong.nd rfl (by first | exact .inl rfl | exact .inr rfl)) (fun _ _ _ _ _ => dts_nil)
        (fun _ _ _ _ _ => (de_tup (da_cons de_str (da_cons (dv 2) (da_cons de_str (da_cons (de_tup da_nil) da_nil)))))))))
  (dss_cons (ds_set (i := 1) sc_law_wrong.nd rfl (.inl rfl) (de_cat (de_cat (dv 1) (de_lcO (own := [("name", 2)]) rfl sc_law_wrong.nd (dv 0) (blkOk_by (N := ["names", "rows", "name"]) (sc := defScope s_law_wrong) (by decide +kernel))
        (fun _ _ _ _ _ => dg_name (i := 2) sc_law_wrong.nd rfl (by first | exact .inl rfl | exact .inr rfl)) (fun _ _ _ _ _ => dts_nil)
        (fun _ _ _ _ _ => (de_tup (da_cons de_str (da_cons de_str (da_cons (dv 2) (da_cons (de_tup da_nil) da_nil)))))))) (de_lcO (own := [("name", 2)]) rfl sc_law_wrong.nd (dv 0) (blkOk_by (N := ["names", "rows", "name"]) (sc := defScope s_law_wrong) (by decide +kernel))
        (fun _ _ _ _ _ => dg_name (i := 2) sc_law_wrong.nd rfl (by first | exact .inl rfl | exact .inr rfl)) (fun _ _ _ _ _ => dts_nil)
        (fun _ _ _ _ _ => (de_tup (da_cons de_str (da_cons (dv 2) (da_cons de_int da_nil))))))))
  (dss_cons (ds_set (i := 1) sc_law_wrong.nd rfl (.inl rfl) (de_cat (de_cat (dv 1) (de_lcO (own := [("name", 2)]) rfl sc_law_wrong.nd (dv 0) (blkOk_by (N := ["names", "rows", "name"]) (sc := defScope s_law_wrong) (by decide +kernel))
        (fun _ _ _ _ _ => dg_name (i := 2) sc_law_wrong.nd rfl (by first | exact .inl rfl | exact .inr rfl)) (fun _ _ _ _ _ => dts_nil)
        (fun _ _ _ _ _ => (de_tup (da_cons de_str (da_cons (dv 2) da_nil)))))) (de_lcO (own := [("name", 2)]) rfl sc_law_wrong.nd (dv 0) (blkOk_by (N := ["names", "rows", "name"]) (sc := defScope s_law_wrong) (by decide +kernel))
        (fun _ _ _ _ _ => dg_name (i := 2) sc_law_wrong.nd rfl (by first | exact .inl rfl | exact .inr rfl)) (fun _ _ _ _ _ => dts_nil)
        (fun _ _ _ _ _ => (de_tup (da_cons de_str (da_cons (dv 2) da_nil)))))))
  (dss_cons (ds_set (i := 1) sc_law_wrong.nd rfl (.inl rfl) (de_cat (dv 1) (de_lst (da_cons (de_tup (da_cons de_str (da_cons de_str (da_cons (de_op op_mulS opa_mulS de_str de_int) da_nil)))) (da_cons (de_tup (da_cons de_str (da_cons de_str (da_cons de_str da_nil)))) (da_cons (de_tup (da_cons de_str (da_cons de_str (da_cons de_str da_nil)))) (da_cons (de_tup (da_cons de_str (da_cons de_str (da_cons de_non da_nil)))) da_nil)))))))
  (dss_cons (ds_set (i := 1) sc_law_wrong.nd rfl (.inl rfl) (de_cat (dv 1) (de_lst (da_cons (de_tup (da_cons de_str (da_cons de_str (da_cons de_str (da_cons (de_tup (da_cons de_int (da_cons de_int (da_cons de_int (da_cons de_int (da_cons de_int da_nil)))))) da_nil))))) (da_cons (de_tup (da_cons de_str (da_cons de_str (da_cons de_str (da_cons (de_tup (da_cons de_int da_nil)) da_nil))))) (da_cons (de_tup (da_cons de_str (da_cons de_str (da_cons de_str (da_cons (de_tup (da_cons de_str da_nil)) da_nil))))) da_nil))))))
  (dss_cons (ds_set (i := 1) sc_law_wrong.nd rfl (.inl rfl) (de_cat (dv 1) (de_lst (da_cons (de_tup (da_cons de_str (da_cons de_str (da_cons de_str (da_cons (de_tup (da_cons (de_op op_mulS opa_mulS de_str de_int) da_nil)) da_nil))))) (da_cons (de_tup (da_cons de_str (da_cons de_str (da_cons de_str (da_cons (de_tup (da_cons de_non da_nil)) da_nil))))) (da_cons (de_tup (da_cons de_str (da_cons de_str (da_cons de_str (da_cons (de_tup (da_cons de_bl da_nil)) da_nil))))) (da_cons (de_tup (da_cons de_str (da_cons de_str (da_cons de_str (da_cons de_int da_nil))))) da_nil)))))))
  (dss_cons (ds_set (i := 1) sc_law_wrong.nd rfl (.inl rfl) (de_cat (dv 1) (de_lst (da_cons (de_tup (da_cons de_str (da_cons de_str (da_cons de_str (da_cons (de_tup (da_cons de_str da_nil)) da_nil))))) (da_cons (de_tup (da_cons de_str (da_cons de_str (da_cons de_str (da_cons (de_tup (da_cons de_int (da_cons de_str da_nil))) da_nil))))) (da_cons (de_tup (da_cons de_str (da_cons de_str (da_cons de_str (da_cons (de_tup (da_cons (de_neg de_int) da_nil)) da_nil))))) da_nil))))))
  (dss_cons (ds_set (i := 1) sc_law_wrong.nd rfl (.inl rfl) (de_cat (dv 1) (de_lst (da_cons (de_tup (da_cons de_str (da_cons de_str (da_cons de_str (da_cons de_str da_nil))))) (da_cons (de_tup (da_cons de_str (da_cons de_str (da_cons de_str (da_cons de_str da_nil))))) (da_cons (de_tup (da_cons de_str (da_cons (de_lst (da_cons de_str da_nil)) (da_cons de_str da_nil)))) (da_cons (de_tup (da_cons de_str (da_cons de_str (da_cons (de_lst (da_cons de_str da_nil)) da_nil)))) da_nil)))))))
  (dss_cons (ds_set (i := 1) sc_law_wrong.nd rfl (.inl rfl) (de_cat (dv 1) (de_lst (da_cons (de_tup (da_cons de_str (da_cons de_str (da_cons de_str (da_cons de_dnew da_nil))))) (da_cons (de_tup (da_cons de_str (da_cons (de_lst (da_cons de_str da_nil)) (da_cons de_str (da_cons (de_tup da_nil) da_nil))))) (da_cons (de_tup (da_cons de_str (da_cons de_str (da_cons (de_lst (da_cons de_str da_nil)) (da_cons (de_tup da_nil) da_nil))))) (da_cons (de_tup (da_cons de_str (da_cons (de_lst (da_cons de_str da_nil)) da_nil))) (da_cons (de_tup (da_cons de_str (da_cons (de_tup (da_cons de_str da_nil)) da_nil))) da_nil))))))))
  (dss_one (ds_ret (de_cat (dv 1) (de_lst (da_cons (de_tup (da_cons de_str (da_cons de_str (da_cons (de_neg de_int) da_nil)))) (da_cons (de_tup (da_cons de_str (da_cons de_str (da_cons de_int da_nil)))) (da_cons (de_tup (da_cons de_str (da_cons de_str (da_cons de_bl da_nil)))) (da_cons (de_tup (da_cons de_str (da_cons de_str (da_cons de_str da_nil)))) (da_cons (de_tup (da_cons de_str (da_cons de_str (da_cons de_str (da_cons (de_tup (da_cons (de_tup (da_cons de_int da_nil)) da_nil)) da_nil))))) da_nil)))))))))))))))))))
theorem ok_Client_sync (T : Txt w K mg) : MetG P w K mg base (L2N.CX P w) 1 "Client" "sync" 1 [] (spM K mg 1 m_Client_sync) :=
  mtXn T.m_Client_sync sc_Client_sync (by decide) rfl rfl fun f cdv A outer s H E qt hr =>
  (dss_cons (ds_if (dt_cmp op_ge opa_cmp (nomark _) (de_callB call_lenA leaf_len (by rfl) T.n_len PySem.boot_len (da_cons (de_fld (fk1 T.f__batches_Client) (dv 0)) da_nil)) (de_glob T.c_MOST_BATCHES (by rfl)))
    (dss_one (ds_raise T.er_TooManyBatches rfl hears_fn (by rfl) de_str)) dss_nil)
  (dss_cons (ds_expr (de_append (de_fld (fk1 T.f__batches_Client) (dv 0)) (de_fld (fk1 T.f__commands_Client) (dv 0))))
  (dss_cons (ds_setFld (fk1 T.f__commands_Client) (dv 0) (de_lst da_nil))
  (dss_cons (ds_set (i := 1) sc_Client_sync.nd rfl (.inl rfl) (de_callB call_lenA leaf_len (by rfl) T.n_len PySem.boot_len (da_cons (de_fld (fk1 T.f__batches_Client) (dv 0)) da_nil)))
  (dss_cons (ds_if (dt_cmp op_eq opa_eq (nomark _) (de_fld (fk1 T.f_stage_Line) (de_fld (fk1 T.f__line_Client) (dv 0))) de_str)
    (dss_one ds_dead) dss_nil)
  (dss_one (ds_ret (dv 1))))))))
theorem ok_law_synced (T : Txt w K mg) : PrG P w K mg base CX0 2 "_law_synced" ["client"] (sp0 K mg 1 m_law_synced) := by
  obtain ⟨_, R0⟩ := T.ek_TooManyBatches
  obtain ⟨_, g0, k0⟩ := T.ca_TooManyBatches1.ex
  have G0 := ok_law_kinds (P := P) (w := w) (base := base) T R0 (by decide)
  exact fn0n T.d_law_synced sc_law_synced (by decide) rfl rfl fun f cdv A outer s H E qt hr =>
  (dss_one (ds_tryC (i := 1) rfl rfl sc_law_synced.nd rfl rfl hears_no (fun _ pn xe tk po => (dss_one (ds_ret (de_methX0 (ok_Client_sync T) tk.pass qt hr (by decide) rfl (dv 0)))))
    (Cls3.cons ⟨by rfl, by decide, .inl g0⟩ k0 (fun _ => .cons (.str _) (.cons (.bl _) .nil))
    (fun z zo zc zd zs hz hf =>
      have u64 : (A.deeper (envOfC "_law_synced" (defScope s_law_synced) s.heap.objs.size f cdv)).units + 64 < cLine := by have := hu65 hr; exact Nat.lt_of_succ_lt this
      have rk : L2H.RoomH 1 ((A.deeper (envOfC "_law_synced" (defScope s_law_synced) s.heap.objs.size f cdv)).mark (some (.ref z))) := ⟨(hr.mono (show 1 ≤ _ by decide)).dp, (hr.mono (show 1 ≤ _ by decide)).un⟩
      have hk : L2H.Hot1 ((A.deeper (envOfC "_law_synced" (defScope s_law_synced) s.heap.objs.size f cdv)).mark (some (.ref z))) (z, zo) := ⟨rfl, hf.elim fun vs e => ⟨vs, e, hz.2.2 vs e⟩⟩
      pss_imp (pss_one (ps_ret (pe_lst (pa_cons pe_str (pa_cons (pe_cmpR (show OpR _ _ (rEqD K) from op_eqD u64) (Hq.pe_kZ hz G0 rk hk (List.mem_cons_self ..) (by rfl) (pa_cons (pv 1) pa_nil)) (pe_lst (pa_cons pe_str pa_nil)) (nomark _)) pa_nil))))) fun D σ H q => handsB R0 (one_true (by decide +kernel)) rfl (by decide +kernel) q)
    .nil)))
theorem ok_law_outcome (T : Txt w K mg) : PrG P w K mg base CX0 3 "_law_outcome" ["client", "number"] (sp0 K mg 2 m_law_outcome) := by
  obtain ⟨_, R0⟩ := T.ek_NoSuchBatch
  obtain ⟨_, g0, k0⟩ := T.ca_NoSuchBatch1.ex
  have G0 := ok_law_kinds (P := P) (w := w) (base := base) T R0 (by decide)
  exact fn0n T.d_law_outcome sc_law_outcome (by decide) rfl rfl fun f cdv A outer s H E qt hr =>
  (dss_one (ds_tryC (i := 2) rfl rfl sc_law_outcome.nd rfl rfl hears_no (fun _ pn xe tk po => (dss_one (ds_ret (de_methX (ok_Client_outcome T) tk.pass qt hr (by decide) rfl (dv 0) (da_cons (dv 1) da_nil)))))
    (Cls3.cons ⟨by rfl, by decide, .inl g0⟩ k0 (fun _ => .cons (.str _) (.cons (.bl _) .nil))
    (fun z zo zc zd zs hz hf =>
      have u64 : (A.deeper (envOfC "_law_outcome" (defScope s_law_outcome) s.heap.objs.size f cdv)).units + 64 < cLine := by have := hu65 hr; exact Nat.lt_of_succ_lt this
      have rk : L2H.RoomH 1 ((A.deeper (envOfC "_law_outcome" (defScope s_law_outcome) s.heap.objs.size f cdv)).mark (some (.ref z))) := ⟨(hr.mono (show 1 ≤ _ by decide)).dp, (hr.mono (show 1 ≤ _ by decide)).un⟩
      have hk : L2H.Hot1 ((A.deeper (envOfC "_law_outcome" (defScope s_law_outcome) s.heap.objs.size f cdv)).mark (some (.ref z))) (z, zo) := ⟨rfl, hf.elim fun vs e => ⟨vs, e, hz.2.2 vs e⟩⟩
      pss_imp (pss_one (ps_ret (pe_lst (pa_cons pe_str (pa_cons (pe_cmpR (show OpR _ _ (rEqD K) from op_eqD u64) (Hq.pe_kZ hz G0 rk hk (List.mem_cons_self ..) (by rfl) (pa_cons (pv 2) pa_nil)) (pe_lst (pa_cons pe_str pa_nil)) (nomark _)) pa_nil))))) fun D σ H q => handsB R0 (one_true (by decide +kernel)) rfl (by decide +kernel) q)
    .nil)))
theorem ok_law_fifty (T : Txt w K mg) : PrG P w K mg base CX0 10 "_law_fifty" ["client"] (sp0 K mg 1 m_law_fifty) :=
  fn0n T.d_law_fifty sc_law_fifty (by decide) rfl rfl fun f cdv A outer s H E qt hr =>
  (dss_cons (ds_if (dt_cmp op_lt opa_cmp (nomark _) (de_prop (ok_Client_handed T) qt hr (by decide) (dv 0)) de_int)
    (dss_one (ds_ret de_bl)) dss_nil)
  (dss_cons (ds_if (DW.dt (dw_or (dt_cmp (op_neD (hu64 hr)) opa_neD (nomark _) (de_call (ok_law_told T) qt hr (by decide) (by rfl) rfl (da_cons (dv 0) (da_cons (de_tup (da_cons de_str (da_cons de_str da_nil))) da_nil))) de_int) (dw_or1 (dt_cmp (op_neD (hu64 hr)) opa_neD (nomark _) (de_call (ok_law_told T) qt hr (by decide) (by rfl) rfl (da_cons (dv 0) (da_cons (de_tup (da_cons de_str (da_cons de_str da_nil))) da_nil))) de_int))))
    (dss_one (ds_ret de_bl)) dss_nil)
  (dss_one (ds_ret (de_and (de_cmp (op_eqD (hu64 hr)) opa_eqD (nomark _) (de_call (ok_law_synced T) qt hr (by decide) (by rfl) rfl (da_cons (dv 0) da_nil)) (de_lst (da_cons de_str (da_cons de_bl da_nil)))) (de_and (de_cmp (op_eqD (hu64 hr)) opa_eqD (nomark _) (de_call (ok_law_told T) qt hr (by decide) (by rfl) rfl (da_cons (dv 0) (da_cons (de_tup (da_cons de_str (da_cons de_str da_nil))) da_nil))) de_int) (de_one (de_cmp op_eq opa_eq (nomark _) (de_prop (ok_Client_handed T) qt hr (by decide) (dv 0)) de_int))))))))
theorem ok_law (T : Txt w K mg) : PrG P w K mg base (L2N.CX P w) 11 "law" ["script"] (spM K mg 1 m_law_k11) :=
  fnXn T.d_law sc_law (by decide) rfl rfl fun f cdv A outer s H E qt hr =>
  (dss_cons (ds_set (i := 1) sc_law.nd rfl (.inl rfl) (de_new0 (ok_Client___init___0 T) qt hr (by decide) (by rfl) rfl))
  (dss_cons (ds_set (i := 2) sc_law.nd rfl (.inl rfl) (de_call0 (ok_law_wrong T) qt hr (by decide) (by rfl)))
  (dss_cons (ds_set (i := 3) sc_law.nd rfl (.inl rfl) de_int)
  (dss_cons (ds_set (i := 4) sc_law.nd rfl (.inl rfl) de_int)
  (dss_cons (ds_set (i := 5) sc_law.nd rfl (.inl rfl) (de_cat (de_cat (de_call (ok_law_units T) qt hr (by decide) (by rfl) rfl (da_cons (de_call (ok_law_cell T) qt hr (by decide) (by rfl) rfl (da_cons (dv 0) (da_cons de_int da_nil))) (da_cons de_int da_nil))) (de_call (ok_law_units T) qt hr (by decide) (by rfl) rfl (da_cons (de_call (ok_law_cell T) qt hr (by decide) (by rfl) rfl (da_cons (dv 0) (da_cons de_int da_nil))) (da_cons de_int da_nil)))) (de_call (ok_law_units T) qt hr (by decide) (by rfl) rfl (da_cons (de_call (ok_law_cell T) qt hr (by decide) (by rfl) rfl (da_cons (dv 0) (da_cons de_int da_nil))) (da_cons de_int da_nil)))))
  (dss_cons (ds_set (i := 5) sc_law.nd rfl (.inl rfl) (de_cat (dv 5) (de_lst (da_cons (de_tup (da_cons de_str (da_cons de_str (da_cons (de_op op_mulS opa_mulS de_str (de_op op_addA opa_add de_int (de_op op_mod opa_mod (de_call (ok_law_cell T) qt hr (by decide) (by rfl) rfl (da_cons (dv 0) (da_cons de_int da_nil))) de_int))) da_nil)))) (da_cons (de_tup (da_cons de_str (da_cons de_str (da_cons de_str (da_cons (de_lst (da_cons de_int (da_cons de_str (da_cons de_int (da_cons de_str da_nil))))) da_nil))))) da_nil)))))
  (dss_cons (ds_forO (passes_of rfl) rfl (dv 5) (dg_name (i := 6) sc_law.nd rfl (by first | exact .inl rfl | exact .inr rfl))
    (dss_cons (ds_set (i := 7) sc_law.nd rfl (.inl rfl) (de_op op_addA opa_add (de_op op_addA opa_add (de_call (ok_law_cell T) qt hr (by decide) (by rfl) rfl (da_cons (dv 0) (da_cons de_int da_nil))) (de_op op_mul opa_mulL de_int (dv 3))) (dv 4)))
    (dss_cons (ds_if (dt_cmp (op_neD (hu64 hr)) opa_neD (nomark _) (de_call (ok_law_told T) qt hr (by decide) (by rfl) rfl (da_cons (dv 1) (da_cons (de_ix (dv 2) (de_op op_mod opa_mod (dv 7) (de_callB call_lenA leaf_len (by rfl) T.n_len PySem.boot_len (da_cons (dv 2) da_nil))) (fun _ _ => rfl)) da_nil))) (de_lst (da_cons de_str (da_cons de_bl da_nil))))
      (dss_one (ds_ret de_bl)) dss_nil)
    (dss_cons (ds_set (i := 8) sc_law.nd rfl (.inl rfl) (dv 3))
    (dss_cons (ds_if (dt_cmp op_eq opa_eq (nomark _) (dv 3) de_int)
      (dss_one (ds_set (i := 8) sc_law.nd rfl (.inl rfl) (de_lst (da_cons de_str (da_cons de_bl da_nil))))) dss_nil)
    (dss_cons (ds_if (DW.dt (dw_or (dt_cmp op_ne opa_ne (nomark _) (de_callB (call_reprD qt (hu64 hr)) leaf_repr (by rfl) T.n_repr boot_repr (da_cons (de_call (ok_law_told T) qt hr (by decide) (by rfl) rfl (da_cons (dv 1) (da_cons (dv 6) da_nil))) da_nil)) (de_callB (call_reprD qt (hu64 hr)) leaf_repr (by rfl) T.n_repr boot_repr (da_cons (dv 8) da_nil))) (dw_or (dt_cmp op_ne opa_ne (nomark _) (de_prop (ok_Client_phase T) qt hr (by decide) (dv 1)) de_str) (dw_or1 (dt_cmp op_ne opa_ne (nomark _) (de_prop (ok_Client_waiting T) qt hr (by decide) (dv 1)) de_int)))))
      (dss_one (ds_ret de_bl)) dss_nil)
    (dss_cons (ds_set (i := 3) sc_law.nd rfl (.inl rfl) (de_callB (call_min2 rfl) leaf_min2 (by rfl) T.n_min boot_min (da_cons de_int (da_cons (de_op op_addA opa_add (dv 3) de_int) da_nil))))
    (dss_one (ds_if (dt_cmp op_eq opa_eq (nomark _) (de_op op_mod opa_mod (dv 7) de_int) de_int)
      (dss_cons (ds_set (i := 3) sc_law.nd rfl (.inl rfl) de_int)
      (dss_cons (ds_set (i := 4) sc_law.nd rfl (.inl rfl) (de_op op_addA opa_add (dv 4) de_int))
      (dss_one (ds_if (dt_cmp op_ne opa_ne (nomark _) (de_callB (call_reprD qt (hu64 hr)) leaf_repr (by rfl) T.n_repr boot_repr (da_cons (de_call (ok_law_synced T) qt hr (by decide) (by rfl) rfl (da_cons (dv 1) da_nil)) da_nil)) (de_callB (call_reprD qt (hu64 hr)) leaf_repr (by rfl) T.n_repr boot_repr (da_cons (dv 4) da_nil)))
        (dss_one (ds_ret de_bl)) dss_nil)))) dss_nil)))))))))
  (dss_cons (ds_for (passes_of rfl) rfl (di_rng2 (by rfl) T.n_range (dv 4) (de_op op_addA opa_add de_int (de_op op_mod opa_mod (de_call (ok_law_cell T) qt hr (by decide) (by rfl) rfl (da_cons (dv 0) (da_cons de_int da_nil))) de_int))) (dg_name (i := 9) sc_law.nd rfl (by first | exact .inl rfl | exact .inr rfl))
    (dss_cons (ds_set (i := 8) sc_law.nd rfl (.inl rfl) (de_op op_addA opa_add (dv 9) de_int))
    (dss_cons (ds_if (dt_cmp op_ge opa_cmp (nomark _) (dv 9) de_int)
      (dss_one (ds_set (i := 8) sc_law.nd rfl (.inl rfl) (de_lst (da_cons de_str (da_cons de_bl da_nil))))) dss_nil)
    (dss_one (ds_if (DW.dt (dw_or (dt_cmp (op_neD (hu64 hr)) opa_neD (nomark _) (de_call (ok_law_synced T) qt hr (by decide) (by rfl) rfl (da_cons (dv 1) da_nil)) (dv 8)) (dw_or1 (dt_cmp op_ne opa_ne (nomark _) (de_prop (ok_Client_handed T) qt hr (by decide) (dv 1)) (de_callB (call_min2 rfl) leaf_min2 (by rfl) T.n_min boot_min (da_cons (de_op op_addA opa_add (dv 9) de_int) (da_cons de_int da_nil)))))))
      (dss_one (ds_ret de_bl)) dss_nil)))))
  (dss_cons (ds_set (i := 10) sc_law.nd rfl (.inl rfl) (de_prop (ok_Client_handed T) qt hr (by decide) (dv 1)))
  (dss_cons (ds_forO (passes_of rfl) rfl (de_lst (da_cons de_int (da_cons (de_op op_addA opa_add (dv 10) de_int) (da_cons (de_neg de_int) (da_cons de_int (da_cons de_bl (da_cons de_non (da_cons de_str da_nil)))))))) (dg_name (i := 7) sc_law.nd rfl (by first | exact .inl rfl | exact .inr rfl))
    (dss_one (ds_if (dt_cmp (op_neD (hu64 hr)) opa_neD (nomark _) (de_call (ok_law_outcome T) qt hr (by decide) (by rfl) rfl (da_cons (dv 1) (da_cons (dv 7) da_nil))) (de_lst (da_cons de_str (da_cons de_bl da_nil))))
      (dss_one (ds_ret de_bl)) dss_nil)))
  (dss_cons (ds_if (DW.dt (dw_or (dt_not (dt_val (de_call (ok_law_fifty T) qt hr (by decide) (by rfl) rfl (da_cons (dv 1) da_nil)))) (dw_or (dt_cmp op_notN opa_notN (nomark _) (de_call (ok_law_outcome T) qt hr (by decide) (by rfl) rfl (da_cons (dv 1) (da_cons de_int da_nil))) de_non) (dw_or1 (dt_cmp op_notN opa_notN (nomark _) (de_methX (ok_Client_outcome T) hears_fn.pass qt hr (by decide) rfl (dv 1) (da_cons (dv 10) da_nil)) de_non)))))
    (dss_one (ds_ret de_bl)) dss_nil)
  (dss_one (ds_ret (de_and (de_cmp op_eq opa_eq (nomark _) (de_prop (ok_Client_received T) qt hr (by decide) (dv 1)) de_int) (de_one (de_cmp op_eq opa_eq (nomark _) (de_prop (ok_Client_session T) qt hr (by decide) (dv 1)) de_int))))))))))))))))
end
end P11
end
section
/-! a law's end over a promise for quiet callers -/
namespace XM
open PySem PySem.Spec PyProof.Rows L2 Tl
section
variable {P : Program} {w : World} {K : PySem.W.Frag} {mg : Str → Option Value} {k : Nat} {fa a : Addr} {d x : Str} {sp : Sp} {s1 : Shared}
/-- H tracks nothing but the script -/
structure OnlyA (a : Addr) (o : Obj) (xs : List V) (H : Hp) : Prop where
  at_ : ∀ b u, H b = some u → b = a ∧ u = .frz o (.lst xs)
theorem OnlyA.no {o : Obj} {xs : List V} {H : Hp} (h : OnlyA a o xs H) {b : Addr} (n : b ≠ a) : H b = none := by
  cases e : H b with
  | none => rfl
  | some u => exact absurd (h.at_ b u e).1 n
/-- a namespace is not the script -/
theorem ns_hid {o : Obj} {xs : List V} {H : Hp} {h : Heap} (hO : OnlyA a o xs H) (ha : h.get? a = some o) (hd : ∀ es ep, o.data ≠ .dict es ep) {b : Addr} {m : Str → Option Value} (n : h.Ns b m) : (hidT h H).Ns b m := by
  obtain ⟨ob, es, ep, e, d, r⟩ := n
  refine ⟨ob, es, ep, hidT_get e (hO.no fun z => ?_), d, r⟩
  subst z
  rw [ha] at e
  cases e
  exact hd _ _ d
theorem runG_core {mb : Str → Option Value} {H : Hp} {o : Obj} {xs : List V}
    (KX : K.In s1.heap) (hns : s1.heap.Ns mainGlobals mg)
    (hb : s1.heap.Ns builtinsNs mb ∧ ∀ x : Str, x ≠ "__name__" → mb x = bootBuiltins x)
    (hlim : s1.heap.NoLimit) (hg : s1.gens = #[])
    (ha : s1.heap.get? a = some o) (hd : ∀ es ep, o.data ≠ .dict es ep)
    (hO : OnlyA a o xs H) (hok : HOk P w H s1.heap) (hK : H a ≠ none → K.lookup a = none)
    (hr : Room k callerA)
    (hfa : mg d = some (.ref fa))
    (F : ∀ base : Heap, K.In base → base.Ns mainGlobals mg → PrG P w K mg base CX0 k d [x] sp)
    (hsp : sp [.ref a] H (fun v _ => v = .bl true) fun _ _ _ => False) :
    codeAny (model P w) callerA (.call (.ref fa) ⟨[.ref a], []⟩)
      (fun r s' => r = .ok (.ret (.bool true)) ∧ OldK s1.heap s'.heap ∧ s'.os = s1.os ∧ AllBare s'.gens) s1 := by
  have inb : K.In (hidT s1.heap H) := fun b ob e => hidT_get (KX b ob e) (by
    cases q : H b with
    | none => rfl
    | some u =>
      obtain ⟨rfl, _⟩ := hO.at_ b u q
      rw [hK (by rw [q]; exact fun z => by cases z)] at e
      cases e)
  have gl := ns_hid hO ha hd hns
  obtain ⟨mc, l1, l2⟩ := hlim
  have md : Mod K mg (hidT s1.heap H) := ⟨inb, gl, ⟨mb, ns_hid hO ha hd hb.1, hb.2⟩, mc, ns_hid hO ha hd l1, l2⟩
  have env : Env0 P w K mg (hidT s1.heap H) callerA [] s1 H :=
    ⟨rfl, md, fun _ _ z => of_hidT z, Nat.le_of_eq (hidT_size _ _), trivial, fun b z => absurd (show b ∈ ([] : List Addr) from z) (by simp), hok, .of_eq hg⟩
  obtain ⟨f, fd, hm, _, hbind, ok⟩ := (F _ inb gl).ex
  have e : f = fa := by have z := hm.symm.trans hfa; cases z; rfl
  subst e
  have run := ok.run callerA [] s1 H ⟨[.ref a], []⟩ [.ref a] [.ref a] _ _ rfl hr env (hbind s1 [.ref a] KX rfl) (.cons rfl .nil) hsp
  refine codeAny_mono run fun r s' q => ?_
  match r, q with
  | .error e, q => exact q.elim
  | .ok .next, q => exact q.elim
  | .ok .brk, q => exact q.elim
  | .ok .cont, q => exact q.elim
  | .ok (.ret u), q =>
    obtain ⟨v, H', os, bare, un, hok', ru, qv⟩ := q
    have qv : v = .bl true := qv
    subst qv
    obtain rfl : u = Value.bool true := ru
    refine ⟨rfl, OldK.of_keep fun b ob e => ?_, os, bare⟩
    cases z : H b with
    | none => exact un.keep b ob e z (fun h => absurd (show b ∈ ([] : List Addr) from h) (by simp)) (by simp)
    | some u =>
      obtain ⟨rfl, rfl⟩ := hO.at_ b u z
      have z2 := un.frzs b o _ z
      rw [ha] at e
      cases e
      exact (hok' b _ z2).1
end
/-- the goal that the head leaves, from the promise of the law's def -/
theorem walkG {l : PySem.W.OpenLaw} {n k : Nat} {q : Program} {loose : List Str} {XP : (Str → Option Value) → Heap → Prop} {YP : World → Heap → Prop} {d : DefRec} {K : Params → PySem.W.Frag}
    {m : FM} {x : Str}
    (hn : l.most = some n) (hn2 : n ≤ sizeLine) (hdf : d.params.defaults = []) (hr : Room k callerA)
    (hY : ∀ (w : World) (h : Heap), YP w h → (K w.params).In h)
    (hm : ∀ ns : List Int, ns.length ≤ n → ∃ ts, m [.frz ns] = some (.ret (.dat (.bool true)) ts))
    (F : ∀ (w : World) (mg : Str → Option Value) (h : Heap), (K w.params).In h → h.Ns mainGlobals mg →
      ∀ base : Heap, (K w.params).In base → base.Ns mainGlobals mg → PrG l.prog w (K w.params) mg base CX0 k d.name [x] (sp0 (K w.params) mg 1 m)) :
    PySem.W.WalkO q loose XP YP l.row.toRowW d [] (fun f vs => PySem.call f vs) := by
  refine Att.attach_call hn hdf fun w s₀ s1 mg mb fa o pm cd doc a vs ns G Y ho hd hcd hmg hobj hints hlen hg => ?_
  have KX := hY w _ Y
  have hF := F w mg _ KX G.T.g
  obtain ⟨ts, hts⟩ := hm ns hlen
  have rv := vals_ints hints
  have lenV := hints.length
  have lim : ns.length ≤ sizeLine := Nat.le_trans hlen hn2
  have want : ∀ H : Hp, SqL (K w.params) H a (ns.map V.int) → sp0 (K w.params) mg 1 m [.ref a] H (fun v _ => v = .bl true) fun _ _ _ => False := fun H hS => by
    have h0 : Same H (hid (add zer zer) H) := fun b u e => hid_at rfl e
    have tr : TRs (K w.params) ⟨mg, fun _ => .non⟩ (hid (add zer zer) H) H [.frz ns] [.ref a] zer := by
      have := TRs.cons (.frz (h0.seq hS)) (.nil (K := K w.params) (mg := ⟨mg, fun _ => .non⟩) (G := hid (add zer zer) H) (H := H))
      rw [add_zer] at this
      exact this
    refine ⟨fun _ => .non, zer, zer, [.frz ns], _, rfl, tr, fun _ => Nat.zero_le _, fun _ z => absurd rfl z, hts, fun v H' F' Ft got => ?_⟩
    obtain ⟨_, t, _⟩ := got
    cases t with
    | dat h => cases h; rfl
  have nd : ∀ es ep, ({ cls := .type "list", data := .seq vs.toArray } : Obj).data ≠ .dict es ep := fun _ _ z => by cases z
  cases hk : (K w.params).lookup a with
  | some ob =>
    have e := KX a ob hk
    rw [hobj] at e
    cases e
    exact runG_core (H := fun _ => none) (xs := ns.map V.int) KX G.T.g ⟨G.T.b, G.T.builtins⟩ G.T.nolimit hg hobj nd ⟨fun _ _ z => by cases z⟩ (fun _ _ z => by cases z) (fun z => absurd rfl z) hr hmg hF
      (want _ (.inr ⟨_, vs.toArray, _, hk, rfl, rfl, rfl, by rw [List.size_toArray, lenV]; exact lim, by simpa using rv⟩))
  | none =>
    have only : OnlyA a { cls := .type "list", data := .seq vs.toArray } (ns.map V.int) fun b => if b = a then some (.frz { cls := .type "list", data := .seq vs.toArray } (.lst (ns.map V.int))) else none := ⟨fun b u z => by
      by_cases c : b = a
      · rw [if_pos c] at z; cases z; exact ⟨c, rfl⟩
      · rw [if_neg c] at z; cases z⟩
    refine runG_core KX G.T.g ⟨G.T.b, G.T.builtins⟩ G.T.nolimit hg hobj nd only (fun b u z => ?_) (fun _ => hk) hr hmg hF
      (want _ (.inl (.inr ⟨{ cls := .type "list", data := .seq vs.toArray }, if_pos rfl⟩)))
    obtain ⟨rfl, rfl⟩ := only.at_ b u z
    exact ⟨hobj, by rw [List.length_map]; exact lim, vs, _, rv, hobj⟩
end XM
end
section
/-! facts of the top -/
namespace XM
open PySem PySem.Spec PyProof.Rows L2 Tl
section
variable {K : PySem.W.Frag} {mg : Str → Option Value} {w : World} {h : Heap}
theorem tupD {a : Addr} {od : Option Addr} {its : Array Value} {n : Nat} {sl : Array (Option Value)} {xs : List V} {ds : List D}
    (l : K.lookup a = some ⟨.type "tuple", od, .seq its n, sl⟩) (hv : Vals xs its.toList) (hz : its.size ≤ sizeLine) (hd : ∀ G, DqAll K G xs ds) : ∀ G, Dq K G (.ref a) (.tuple ds) :=
  fun G => .tup (.inr ⟨_, its, n, l, rfl, rfl, hz, hv⟩) (hd G)
theorem cd_mk {x : Str} {u : Value} {v : V} {d : D} (X : K.In h) (G : h.Ns mainGlobals mg) (g : PySem.W.nsIn K mainGlobals x = some (some u)) (r : RelV v u) (hd : ∀ G, Dq K G v d) : CD K mg x d :=
  ⟨_, _, PySem.W.mg_of X G g, r, hd⟩
end
end XM
end
section
namespace XM
open PySem PySem.Spec PyProof.Rows L2 Tl
end XM
end
section
/-! errors that are raised and caught: how their facts are closed -/
namespace XM
open PySem PySem.Spec PyProof.Rows L2 Tl
variable {K : PySem.W.Frag} {h : Heap} {mg : Str → Option Value} {x : Str} {C : Addr} {bs newId initId : String} {bm : List Value}
theorem errg_mk (X : K.In h) (G : h.Ns mainGlobals mg) (F : PySem.ExcBaseFacts bs newId initId bm) (g : PySem.W.nsIn K mainGlobals x = some (some (.ref C))) (ex : PySem.W.excIn K C bm newId = true) (kp : PySem.W.keepIn K (.ref C) = true) (sb : PySem.W.subIn K (.ref C) (.type "BaseException") = some true) (ty : PySem.W.typeIn K (.ref C) = some (.type "type")) : ErrG K mg x :=
  ⟨_, _, _, _, _, PySem.W.mg_of X G g, F, ex, kp, sb, ty⟩
theorem catg_self (X : K.In h) (G : h.Ns mainGlobals mg) (g : PySem.W.nsIn K mainGlobals x = some (some (.ref C))) (sb : PySem.W.subIn K (.ref C) (.type "BaseException") = some true) (d : PySem.W.hasDictIn K C = true) (ty : PySem.W.typeIn K (.ref C) = some (.type "type")) (s : PySem.W.subIn K (.ref C) (.ref C) = some true) : CatG K mg x [(x, true)] :=
  ⟨C, PySem.W.mg_of X G g, fun z b D h1 h2 => by
    rw [List.lookup_cons] at h1
    split at h1
    · rename_i e
      rw [beq_iff_eq] at e
      subst e
      cases h1
      have := (PySem.W.mg_of X G g).symm.trans h2
      cases this
      exact PySem.W.exm_ref sb d ty s
    · cases h1⟩
end XM
end
section
/-! facts of the top: properties, methods with defaults or keywords, kinds of errors -/
namespace XM
open PySem PySem.Spec PyProof.Rows L2 Tl
section
variable {K : PySem.W.Frag} {h : Heap} {mg : Str → Option Value} {c m qual x : Str} {C D f p : Addr} {oc : Value} {od an : Option Addr} {osl : Array (Option Value)} {kV doc pm cdv ct : Value} {st : Stmt} {ps ks : List Str} {fd : FuncData} {advs : List V} {dts : List XM.D}
theorem propof_mk {rest : List Value} (a : PySem.W.findIn K (.ref C) m = some (some (.ref p))) (e : PySem.W.specialIn K (.ref p) "__get__" = some (some (.builtin "property.__get__"))) (t : PySem.W.takesIn K (.ref p) = some true) (r : PySem.W.recIn K p "property" = some (.ref f :: rest)) : PropOf K C m p f := ⟨a, e, t, rest, r⟩
theorem pdn_mk (X : K.In h) (G : h.Ns mainGlobals mg) (g : PySem.W.nsIn K mainGlobals c = some (some (.ref C))) (cl : Cls K C) (pr : PropOf K C m p f) (kp : PySem.W.keepIn K (.ref f) = true)
    (l : K.lookup f = some ⟨oc, od, .func (PySem.W.fnOf m qual (defArgs st) (defBody st) (defScope st) .none kV doc pm an cdv ct), osl⟩) (cd : PySem.W.codeIn K cdv qual = true)
    (b : ∀ (kV doc pm : Value) (an : Option Addr) (cdv ct : Value) (us : List Value), us.length = ps.length → bindArgs (PySem.W.fnOf m qual (defArgs st) (defBody st) (defScope st) .none kV doc pm an cdv ct) ⟨us, []⟩ = pure (ps.zip us)) : PDnG K mg c m qual st ps := by
  have F := fun_mk l cd kp
  exact ⟨C, p, f, _, PySem.W.mg_of X G g, cl, pr, F, F.binds b⟩
theorem mdne_mk (n j : Nat) (X : K.In h) (G : h.Ns mainGlobals mg) (g : PySem.W.nsIn K mainGlobals c = some (some (.ref C))) (cl : Cls K C) (me : Meth K C m f) (F : FunD K m qual (defArgs st) (defBody st) (defScope st) advs [] f fd) (ne : advs ≠ []) (hn : n + (advs.length - j) = ps.length)
    (b : ∀ (T : Addr) (kV doc pm : Value) (an : Option Addr) (cdv ct : Value) (us its : List Value), us.length = n → its.length = advs.length →
      ∃ k, bindArgs (PySem.W.fnOf m qual (defArgs st) (defBody st) (defScope st) (.ref T) kV doc pm an cdv ct) ⟨us, []⟩ = seqItems? (.ref T) >>= k ∧ k (some its.toArray) = pure (ps.zip (us ++ its.drop j)))
    (dq : ∀ G, DqAll K G (advs.drop j) dts) : MDnE K mg c m qual st ps dts := by
  obtain ⟨ds, vd, bi⟩ := F.binds1 n j ne hn b
  exact ⟨C, f, fd, ds, _, advs, PySem.W.mg_of X G g, cl, me, F, bi, vd, dq⟩
theorem mdnk_mk (X : K.In h) (G : h.Ns mainGlobals mg) (g : PySem.W.nsIn K mainGlobals c = some (some (.ref C))) (cl : Cls K C) (me : Meth K C m f)
    (l : K.lookup f = some ⟨oc, od, .func (PySem.W.fnOf m qual (defArgs st) (defBody st) (defScope st) .none kV doc pm an cdv ct), osl⟩) (cd : PySem.W.codeIn K cdv qual = true)
    (b : ∀ us ws : List Value, us.length = 1 → ws.length = ks.length → bindArgs (PySem.W.fnOf m qual (defArgs st) (defBody st) (defScope st) .none kV doc pm an cdv ct) ⟨us, ks.zip ws⟩ = pure (ps.zip (us ++ ws))) : MDnK K mg c m qual st ps ks :=
  ⟨C, f, _, [], PySem.W.mg_of X G g, cl, me, ⟨⟨oc, od, _, kV, doc, pm, an, cdv, ct, osl, rfl, l, cd, .inl ⟨rfl, rfl⟩, .inl rfl⟩, me.kp⟩,
    ⟨fun s us ws _ l1 l2 => BindsTo.of_looks fun M => by rw [b us ws l1 l2]; exact PySem.W.Looks.of_pure rfl, fun r1 r2 => r1.append r2⟩⟩
theorem mdnkd_mk (X : K.In h) (G : h.Ns mainGlobals mg) (g : PySem.W.nsIn K mainGlobals c = some (some (.ref C))) (cl : Cls K C) (me : Meth K C m f) (F : FunD K m qual (defArgs st) (defBody st) (defScope st) advs [] f fd) (ne : advs ≠ [])
    (b : ∀ (T : Addr) (kV doc pm : Value) (an : Option Addr) (cdv ct : Value) (us its ws : List Value), us.length = 1 → its.length = advs.length → ws.length = ks.length →
      ∃ k, bindArgs (PySem.W.fnOf m qual (defArgs st) (defBody st) (defScope st) (.ref T) kV doc pm an cdv ct) ⟨us, ks.zip ws⟩ = seqItems? (.ref T) >>= k ∧ k (some its.toArray) = pure (ps.zip (us ++ ws))) : MDnK K mg c m qual st ps ks := by
  obtain ⟨its, kb⟩ := F.kbindsD (ps := ps) 1 ks (fun us _ ws => us ++ ws) ne (fun r1 _ r3 => r1.append r3) b
  exact ⟨C, f, fd, advs, PySem.W.mg_of X G g, cl, me, F, kb⟩
theorem dfl_int {T : Addr} {n : Nat} {sl : Array (Option Value)} {i : Int} {k : Tok} (l : K.lookup T = some ⟨.type "tuple", od, .seq #[.int i k] n, sl⟩) : DflV K (.ref T) [.int i] :=
  .inr ⟨List.cons_ne_nil _ _, T, _, [.int i k], n, rfl, l, rfl, .cons ⟨_, rfl⟩ .nil⟩
end
section
variable {K : PySem.W.Frag} {h : Heap} {mg : Str → Option Value} {x y : Str} {C D : Addr} {b : Bool}
theorem kit_selfX : PySem.W.kitOne K (.ref C) (.ref C) = some true := by
  unfold PySem.W.kitOne
  rw [if_pos (by simp)]
theorem kit_ownX (hd : PySem.W.hasDictIn K D = true) (ht : PySem.W.typeIn K (.ref D) = some (.type "type")) (hs : PySem.W.subIn K (.ref C) (.ref D) = some b) (hn : (Value.ref C == Value.ref D) = false) : PySem.W.kitOne K (.ref C) (.ref D) = some b := by
  obtain ⟨cd, hc, _⟩ := PySem.W.any_some hd
  unfold PySem.W.kitOne PySem.W.kitCls
  rw [if_neg (by rw [hn]; decide)]
  dsimp only
  rw [hc, ht]
  exact hs
theorem kc_own (X : K.In h) (G : h.Ns mainGlobals mg) (g : PySem.W.nsIn K mainGlobals x = some (some (.ref D))) (hd : PySem.W.hasDictIn K D = true) (ht : PySem.W.typeIn K (.ref D) = some (.type "type")) (hs : PySem.W.subIn K (.ref C) (.ref D) = some b) (hn : (Value.ref C == Value.ref D) = false) : ∃ D, mg x = some (.ref D) ∧ PySem.W.kitOne K (.ref C) (.ref D) = some b := ⟨D, PySem.W.mg_of X G g, kit_ownX hd ht hs hn⟩
theorem kc_ve (sv : PySem.W.subIn K (.ref C) (.type "ValueError") = some true) : PySem.W.kitOne K (.ref C) (.type "ValueError") = some true := by
  unfold PySem.W.kitOne
  rw [if_neg (by simp)]
  unfold PySem.W.kitCls
  dsimp only
  rw [if_pos (by decide +kernel)]
  exact sv
/-- x catches its own, and does not catch y -/
theorem catg_two (X : K.In h) (G : h.Ns mainGlobals mg) (g : PySem.W.nsIn K mainGlobals x = some (some (.ref C))) (sb : PySem.W.subIn K (.ref C) (.type "BaseException") = some true) (d : PySem.W.hasDictIn K C = true) (ty : PySem.W.typeIn K (.ref C) = some (.type "type")) (s : PySem.W.subIn K (.ref C) (.ref C) = some true)
    (gy : PySem.W.nsIn K mainGlobals y = some (some (.ref D))) (sy : PySem.W.subIn K (.ref D) (.ref C) = some false) : CatG K mg x [(x, true), (y, false)] :=
  ⟨C, PySem.W.mg_of X G g, fun z b E h1 h2 => by
    rw [List.lookup_cons] at h1
    split at h1
    · rename_i e
      rw [beq_iff_eq] at e
      subst e
      cases h1
      have := (PySem.W.mg_of X G g).symm.trans h2
      cases this
      exact PySem.W.exm_ref sb d ty s
    · rw [List.lookup_cons] at h1
      split at h1
      · rename_i e
        rw [beq_iff_eq] at e
        subst e
        cases h1
        have := (PySem.W.mg_of X G gy).symm.trans h2
        cases this
        exact PySem.W.exm_ref sb d ty sy
      · cases h1⟩
theorem kc_self (X : K.In h) (G : h.Ns mainGlobals mg) (g : PySem.W.nsIn K mainGlobals x = some (some (.ref C))) : ∃ D, mg x = some (.ref D) ∧ PySem.W.kitOne K (.ref C) (.ref D) = some true := ⟨C, PySem.W.mg_of X G g, kit_selfX⟩
end
/-- a def that may raise, for a caller that hears nothing of it -/
theorem PrG.quietX {P : Program} {w : World} {K : PySem.W.Frag} {mg : Str → Option Value} {base : Heap} {k n : Nat} {x : Str} {ps : List Str} {m : FM} (h : PrG P w K mg base (L2N.CX P w) k x ps (spM K mg n m)) : PrG P w K mg base CX0 k x ps (sp0 K mg n m) := by
  obtain ⟨f, fd, a, b, c, F⟩ := h.ex
  refine ⟨f, fd, a, b, c, ⟨fun vs H Q E h => F.len vs H Q _ h, fun A outer s H args us vs Q E q r env bt vv sp => codeAny_mono (F.run A outer s H args us vs Q _ q r env bt vv sp) fun r s' z => ?_⟩⟩
  match r, z with
  | .ok (.ret u), z => exact z
  | .ok .next, z => exact z.elim
  | .ok .brk, z => exact z.elim
  | .ok .cont, z => exact z.elim
  | .error e, z =>
    obtain ⟨_, _, _, _, _, _, _, _, _, _, _, _, h⟩ := z
    exact h.elim
end XM
end
section
open PySem PySem.W PyProof.Rows
local macro_rules | `(tactic| o_head $H:term) => `(tactic| assumption)
set_option maxHeartbeats 0 in
theorem PySem.Challenge.hd0 (z : OpenRow.Holds (OpenLaw.row PySem.Challenge.rw_batchends_k11_commands_of_clients)) : OpenRow.Holds (OpenLaw.row PySem.Challenge.rw_batchends_k11_commands_of_clients) := by k_head
end
noncomputable section
namespace Hd
open PySem PySem.W PyProof.Rows
abbrev R : OpenRow := OpenLaw.row PySem.Challenge.rw_batchends_k11_commands_of_clients
abbrev qv : Program := view R.prog [110]
def as0 : List PySem.Addr := [2, 3, 15, 17, 18, 20, 21, 22, 29, 30, 31, 32, 35, 42, 43, 44, 47, 54, 55, 56, 59, 66, 67, 68, 71, 78, 79, 80, 83, 90, 91, 92, 95, 102, 103, 104, 107, 109, 110, 112]
def as1 : List PySem.Addr := [113, 114, 117, 118, 119, 121, 122, 124, 125, 126, 129, 130, 131, 133, 134, 136, 137, 138, 140, 141, 143, 144, 145, 147, 148, 150, 151, 152, 154, 155, 157, 158, 159, 161, 162, 164, 165, 166, 168, 169]
def as2 : List PySem.Addr := [171, 172, 173, 176, 177, 178, 180, 181, 183, 184, 185, 187, 188, 190, 191, 192, 199, 200, 201, 211, 213, 214, 216, 217, 218, 220, 221, 223, 224, 225, 228, 229, 230, 232, 233, 235, 236, 237, 238, 239]
def as3 : List PySem.Addr := [240, 241, 244, 246, 247, 249, 250, 251, 252, 255, 256, 257, 259, 260, 262, 263, 264, 266, 267, 269, 270, 271, 273, 274, 276, 277, 278, 280, 281, 283, 284, 285, 287, 288, 290, 291, 292, 295, 296, 297]
def as4 : List PySem.Addr := [299, 300, 302, 303, 304, 306, 307, 309, 310, 311, 313, 314, 316, 317, 318, 320, 321, 323, 324, 325, 327, 328, 330, 331, 332, 334, 335, 337, 338, 339, 341, 342, 344, 345, 346, 348, 349, 351, 352, 353]
def as5 : List PySem.Addr := [355, 356, 358, 359, 360, 362, 363, 365, 366, 367, 369, 370, 372, 373, 374, 377, 378, 379, 381, 382, 384, 385, 386, 388, 389, 391, 392, 393, 395, 396, 398, 399, 400, 403, 404, 405, 407, 408, 410, 411]
def as6 : List PySem.Addr := [412, 415, 416, 417, 418, 419, 420, 421, 422, 423, 424, 425, 426, 427, 428, 429, 430, 431, 432, 433, 434, 435, 436, 437, 438, 440, 441, 443, 444, 452, 454, 455, 457, 458, 459, 461, 462, 464, 465, 466]
def as7 : List PySem.Addr := [467, 468, 469, 470, 473, 476, 477, 478, 480, 481, 483, 484, 485, 487, 488, 490, 491, 492, 494, 495, 497, 498, 506, 508, 509, 511, 512, 513, 515, 516, 518, 519, 520, 522, 523, 525, 526, 527, 529, 530]
def as8 : List PySem.Addr := [532, 533, 534, 536, 537, 539, 540, 541, 543, 544, 546, 547, 548, 550, 551, 553, 554, 555, 557, 558, 560, 561, 562, 564, 565, 567, 568, 569, 571, 572, 574, 575, 576, 577, 578, 579, 580, 590, 592, 593]
def as9 : List PySem.Addr := [595, 596, 597, 599, 600, 602, 603, 604, 605, 607, 608, 610, 611, 612, 613, 615, 616, 618, 619, 620, 621, 623, 624, 626, 627, 628, 629, 631, 632, 634, 635, 636, 637, 639, 640, 642, 643, 644, 645, 647]
def as10 : List PySem.Addr := [648, 650, 651, 652, 654, 655, 657, 658, 659, 660, 662, 663, 665, 666, 667, 669, 670, 672, 673, 674, 676, 677, 679, 680, 681, 683, 684, 686, 687, 688, 690, 691, 693, 694, 695, 697, 698, 700, 701, 702]
def as11 : List PySem.Addr := [704, 705, 707, 708, 709, 711, 712, 714, 715, 716, 719, 720, 721, 723, 724, 726, 727, 728, 730, 731, 733, 734, 735, 737, 738, 740, 741, 742, 744, 745, 747, 748, 749, 751, 752, 754, 755, 756, 758, 759]
def as12 : List PySem.Addr := [761, 762, 763, 765, 766, 768, 769, 770, 772, 773, 775, 776, 777, 778, 779, 780, 781, 784, 786, 787, 789, 790, 791, 793, 794, 796, 797, 798, 801, 802, 803, 806, 807, 808, 810, 811, 813, 814, 815, 817]
def as13 : List PySem.Addr := [818, 820, 821, 822, 825, 826, 827, 829, 830, 832, 833, 834, 836, 837, 839, 840, 841, 844, 845, 846, 848, 849, 851, 852, 853, 855, 856, 858, 859, 860, 862, 863, 865, 866, 867, 870, 871, 872, 874, 875]
def as14 : List PySem.Addr := [877, 878, 879, 882, 883, 884, 886, 887, 889, 890, 891, 893, 894, 896, 897, 898, 900, 901, 903, 904, 905, 907, 908, 910, 911]
def as : List PySem.Addr := as0 ++ as1 ++ as2 ++ as3 ++ as4 ++ as5 ++ as6 ++ as7 ++ as8 ++ as9 ++ as10 ++ as11 ++ as12 ++ as13 ++ as14
def nm0 : List PySem.Str := ["_wall", "EndError", "Unreadable", "InvalidCommand", "BatchFull", "TooManyBatches", "NotClosed", "NoSuchBatch", "LETTERS", "LONGEST_NAME", "LONGEST_TEXT", "LONGEST_STRING", "LEAST_NUMBER", "GREATEST_NUMBER", "PERCENT"]
def nm1 : List PySem.Str := ["is_sign", "has_only_signs", "may_be_prepared", "is_name", "is_text", "is_number", "is_integer", "is_value", "MOST_COMMANDS", "MOST_BATCHES", "MOST_VALUES", "GREATEST_MOST", "check_name", "check_string", "check_values"]
def nm2 : List PySem.Str := ["check_most", "copy_reply", "FIRST_CODE", "LAST_CODE", "SIGNS", "NoMessage", "Body", "sign_of", "MOST_ROWS", "STATES", "GREATEST_LONG", "LONG_RANGE", "LONGEST_REASON", "number_bytes", "write_byte"]
def nm3 : List PySem.Str := ["write_short", "write_long", "write_flag", "write_state", "write_string", "write_value", "write_values", "write_rows", "read_long", "read_most", "read_parameters", "read_count", "read_flag", "read_state", "read_name"]
def nm4 : List PySem.Str := ["read_statement", "read_reason", "read_text", "read_number", "read_value", "read_values", "read_row", "read_rows", "WRITERS", "READERS", "LONGEST_BODY", "HEAD", "CLIENT_FORMS", "SERVER_FORMS", "client_bytes"]
def nm5 : List PySem.Str := ["Wire", "message_bytes", "message_end", "read_message", "swap_rows", "Line", "Client", "_law_cell", "_law_row", "_law_name", "_law_text", "_law_value", "_law_term", "_law_used", "_law_statement"]
def nm6 : List PySem.Str := ["_law_written", "_law_unit", "_law_units", "_law_named", "_law_add", "_law_kinds", "_law_told", "_law_wrong", "_law_synced", "_law_outcome", "_law_fifty"]
def names : List PySem.Str := nm0 ++ nm1 ++ nm2 ++ nm3 ++ nm4 ++ nm5 ++ nm6
theorem as_eq : ∀ P, as = (PySem.Challenge.hd0.heap_1 P).map (·.1) := fun _ => by kernel_rfl
noncomputable abbrev hk : Hook := kHook PySem.Challenge.hd0.heap_1 as as_eq
noncomputable def ob (s : PySem.W.SharedT) : List (Option Obj) := as.map (HandSHeadRun.getT s)
theorem ob_eq (s : PySem.W.SharedT) : ob s = hk.obs s.abs := List.map_congr_left fun a _ => HandSHeadRun.getT_eq s a
theorem run_f (w : World) : HandSHeadRun.RunEq R qv hk ob 7000 names (w.withFollow "special-get-raises" false) := by
  intro os
  kernel_rfl
theorem run_t (w : World) : HandSHeadRun.RunEq R qv hk ob 7000 names (w.withFollow "special-get-raises" true) := by
  intro os
  kernel_rfl
end Hd
end
open PySem PySem.W PyProof.Rows
set_option maxHeartbeats 0 in
theorem PySem.Challenge.cw_batchends_k11_commands_of_clients_holds : PySem.Challenge.rw_batchends_k11_commands_of_clients.Holds := by
  w_on; o_law
  refine HandSHeadRun.head_any (r := Hd.R) (q := Hd.qv) (H := Hd.hk) (ob := Hd.ob) (M := 7000) (loose := Hd.names) (d := HandSHeadRun.topDef Hd.R.prog 110) (kwd := []) Hd.ob_eq (by kernel_rfl) (fun s => by kernel_rfl) (fun w => byRow2 "special-get-raises" Hd.run_f Hd.run_t w) (by kernel_rfl) (by kernel_rfl) (by kernel_rfl) (by rfl) (by first | assumption | decide +kernel) (by decide +kernel) ⟨rfl, rfl, rfl, rfl, rfl, by decide +kernel⟩ ?hw ?hc
  case hw => w_witness2
  refine XM.walkG (l := PySem.Challenge.rw_batchends_k11_commands_of_clients) (n := 63) (k := 11) (m := Cm.m_law_k11) (x := "script") rfl (by decide) (by kernel_rfl) ⟨rfl, by decide, by decide⟩ (fun w h Y => PySem.W.kIn_of Y) ?RUN ?PROM
  case RUN => exact fun ns hn => Ca.e_law11 ns hn
  case PROM =>
    intro w mg h KX G base _ _
    obtain ⟨i_Wire___init___0, f__broken_Wire, f__data_Wire, f__forms_Wire⟩ : (XM.IniD (PySem.Challenge.hd0.heap_1 w.params) mg "Wire" "Wire.__init__" P11.s_Wire___init__ ["self", "side"] []) ∧ (XM.FldK (PySem.Challenge.hd0.heap_1 w.params) mg "_broken" "Wire") ∧ (XM.FldK (PySem.Challenge.hd0.heap_1 w.params) mg "_data" "Wire") ∧ (XM.FldK (PySem.Challenge.hd0.heap_1 w.params) mg "_forms" "Wire") := by
      refine' ⟨(XM.ini_mk KX G ?g_cWire ⟨?mk_cWire, ?mi_cWire, ?mf_cWire, ?mp_cWire⟩ ?kf_1 ?l_1 ?c_1 ?b_1), (XM.fldk_mk KX G ?g_cWire ⟨?pg_cWire, ?hd_cWire, ?po_cWire, ?sa_cWire⟩ ?n_2), (XM.fldk_mk KX G ?g_cWire ⟨?pg_cWire, ?hd_cWire, ?po_cWire, ?sa_cWire⟩ ?n_3), (XM.fldk_mk KX G ?g_cWire ⟨?pg_cWire, ?hd_cWire, ?po_cWire, ?sa_cWire⟩ ?n_4)⟩
      (case g_cWire => k_is)
      (case pg_cWire => k_is)
      (case hd_cWire => k_is)
      (case po_cWire => k_is)
      (case sa_cWire => k_is)
      (case mk_cWire => k_is)
      (case mi_cWire => k_is)
      (case mf_cWire => k_is)
      (case mp_cWire => k_is)
      (case kf_1 => k_is)
      (case l_1 => k_is)
      (case c_1 => k_is)
      (case b_1 => intro _ _ _ _ _ _ us hl; exact match us, hl with | [_, _], _ => rfl)
      (case n_2 => unfold L2.NoAttr; k_is)
      (case n_3 => unfold L2.NoAttr; k_is)
      (case n_4 => unfold L2.NoAttr; k_is)
    obtain ⟨i_Line___init___0, m_Line_many_to_send, f__data_Line, f__other_side_Line, f__taken_Line, f__wire_Line, f_stage_Line, f_why_Line⟩ : (XM.IniD (PySem.Challenge.hd0.heap_1 w.params) mg "Line" "Line.__init__" P11.s_Line___init__ ["self", "other_side"] []) ∧ (XM.MDnG (PySem.Challenge.hd0.heap_1 w.params) mg "Line" "many_to_send" "Line.many_to_send" P11.s_Line_many_to_send ["self"] []) ∧ (XM.FldK (PySem.Challenge.hd0.heap_1 w.params) mg "_data" "Line") ∧ (XM.FldK (PySem.Challenge.hd0.heap_1 w.params) mg "_other_side" "Line") ∧ (XM.FldK (PySem.Challenge.hd0.heap_1 w.params) mg "_taken" "Line") ∧ (XM.FldK (PySem.Challenge.hd0.heap_1 w.params) mg "_wire" "Line") ∧ (XM.FldK (PySem.Challenge.hd0.heap_1 w.params) mg "stage" "Line") ∧ (XM.FldK (PySem.Challenge.hd0.heap_1 w.params) mg "why" "Line") := by
      refine' ⟨(XM.ini_mk KX G ?g_cLine ⟨?mk_cLine, ?mi_cLine, ?mf_cLine, ?mp_cLine⟩ ?kf_5 ?l_5 ?c_5 ?b_5), (XM.mdn_mk KX G ?g_cLine ⟨?pg_cLine, ?hd_cLine, ?po_cLine, ?sa_cLine⟩ ⟨?a_6, ?f_6, ?k_6⟩ ?l_6 ?c_6 ?b_6), (XM.fldk_mk KX G ?g_cLine ⟨?pg_cLine, ?hd_cLine, ?po_cLine, ?sa_cLine⟩ ?n_7), (XM.fldk_mk KX G ?g_cLine ⟨?pg_cLine, ?hd_cLine, ?po_cLine, ?sa_cLine⟩ ?n_8), (XM.fldk_mk KX G ?g_cLine ⟨?pg_cLine, ?hd_cLine, ?po_cLine, ?sa_cLine⟩ ?n_9), (XM.fldk_mk KX G ?g_cLine ⟨?pg_cLine, ?hd_cLine, ?po_cLine, ?sa_cLine⟩ ?n_10), (XM.fldk_mk KX G ?g_cLine ⟨?pg_cLine, ?hd_cLine, ?po_cLine, ?sa_cLine⟩ ?n_11), (XM.fldk_mk KX G ?g_cLine ⟨?pg_cLine, ?hd_cLine, ?po_cLine, ?sa_cLine⟩ ?n_12)⟩
      (case g_cLine => k_is)
      (case pg_cLine => k_is)
      (case hd_cLine => k_is)
      (case po_cLine => k_is)
      (case sa_cLine => k_is)
      (case mk_cLine => k_is)
      (case mi_cLine => k_is)
      (case mf_cLine => k_is)
      (case mp_cLine => k_is)
      (case kf_5 => k_is)
      (case l_5 => k_is)
      (case c_5 => k_is)
      (case b_5 => intro _ _ _ _ _ _ us hl; exact match us, hl with | [_, _], _ => rfl)
      (case a_6 => k_is)
      (case f_6 => k_is)
      (case k_6 => k_is)
      (case l_6 => k_is)
      (case c_6 => k_is)
      (case b_6 => intro _ _ _ _ _ _ us hl; exact match us, hl with | [_], _ => rfl)
      (case n_7 => unfold L2.NoAttr; k_is)
      (case n_8 => unfold L2.NoAttr; k_is)
      (case n_9 => unfold L2.NoAttr; k_is)
      (case n_10 => unfold L2.NoAttr; k_is)
      (case n_11 => unfold L2.NoAttr; k_is)
      (case n_12 => unfold L2.NoAttr; k_is)
    obtain ⟨i_Client___init___0, p_Client_phase, p_Client_session, p_Client_handed, p_Client_received, p_Client_waiting, m_Client_prepare, m_Client_bind, md_Client_run_0, md_Client_run_1, m_Client_forget, m_Client_close, m_Client_sync, m_Client_outcome, m_Client__add, mk_Client_prepare, mk_Client_bind, mk_Client_run, mk_Client_forget, mk_Client_close, f__batches_Client, f__commands_Client, f__line_Client, f__number_Client, f__outcomes_Client, f__replies_Client⟩ : (XM.IniD (PySem.Challenge.hd0.heap_1 w.params) mg "Client" "Client.__init__" P11.s_Client___init__ ["self"] []) ∧ (XM.PDnG (PySem.Challenge.hd0.heap_1 w.params) mg "Client" "phase" "Client.phase" P11.s_Client_phase ["self"]) ∧ (XM.PDnG (PySem.Challenge.hd0.heap_1 w.params) mg "Client" "session" "Client.session" P11.s_Client_session ["self"]) ∧ (XM.PDnG (PySem.Challenge.hd0.heap_1 w.params) mg "Client" "handed" "Client.handed" P11.s_Client_handed ["self"]) ∧ (XM.PDnG (PySem.Challenge.hd0.heap_1 w.params) mg "Client" "received" "Client.received" P11.s_Client_received ["self"]) ∧ (XM.PDnG (PySem.Challenge.hd0.heap_1 w.params) mg "Client" "waiting" "Client.waiting" P11.s_Client_waiting ["self"]) ∧ (XM.MDnG (PySem.Challenge.hd0.heap_1 w.params) mg "Client" "prepare" "Client.prepare" P11.s_Client_prepare ["self", "name", "string"] []) ∧ (XM.MDnG (PySem.Challenge.hd0.heap_1 w.params) mg "Client" "bind" "Client.bind" P11.s_Client_bind ["self", "portal", "name", "values"] []) ∧ (XM.MDnE (PySem.Challenge.hd0.heap_1 w.params) mg "Client" "run" "Client.run" P11.s_Client_run ["self", "portal", "most"] []) ∧ (XM.MDnE (PySem.Challenge.hd0.heap_1 w.params) mg "Client" "run" "Client.run" P11.s_Client_run ["self", "portal", "most"] [(.int 0)]) ∧ (XM.MDnG (PySem.Challenge.hd0.heap_1 w.params) mg "Client" "forget" "Client.forget" P11.s_Client_forget ["self", "name"] []) ∧ (XM.MDnG (PySem.Challenge.hd0.heap_1 w.params) mg "Client" "close" "Client.close" P11.s_Client_close ["self", "portal"] []) ∧ (XM.MDnG (PySem.Challenge.hd0.heap_1 w.params) mg "Client" "sync" "Client.sync" P11.s_Client_sync ["self"] []) ∧ (XM.MDnG (PySem.Challenge.hd0.heap_1 w.params) mg "Client" "outcome" "Client.outcome" P11.s_Client_outcome ["self", "batch"] []) ∧ (XM.MDnG (PySem.Challenge.hd0.heap_1 w.params) mg "Client" "_add" "Client._add" P11.s_Client__add ["self", "command"] []) ∧ (XM.MDnK (PySem.Challenge.hd0.heap_1 w.params) mg "Client" "prepare" "Client.prepare" P11.s_Client_prepare ["self", "name", "string"] ["name", "string"]) ∧ (XM.MDnK (PySem.Challenge.hd0.heap_1 w.params) mg "Client" "bind" "Client.bind" P11.s_Client_bind ["self", "portal", "name", "values"] ["portal", "name", "values"]) ∧ (XM.MDnK (PySem.Challenge.hd0.heap_1 w.params) mg "Client" "run" "Client.run" P11.s_Client_run ["self", "portal", "most"] ["portal", "most"]) ∧ (XM.MDnK (PySem.Challenge.hd0.heap_1 w.params) mg "Client" "forget" "Client.forget" P11.s_Client_forget ["self", "name"] ["name"]) ∧ (XM.MDnK (PySem.Challenge.hd0.heap_1 w.params) mg "Client" "close" "Client.close" P11.s_Client_close ["self", "portal"] ["portal"]) ∧ (XM.FldK (PySem.Challenge.hd0.heap_1 w.params) mg "_batches" "Client") ∧ (XM.FldK (PySem.Challenge.hd0.heap_1 w.params) mg "_commands" "Client") ∧ (XM.FldK (PySem.Challenge.hd0.heap_1 w.params) mg "_line" "Client") ∧ (XM.FldK (PySem.Challenge.hd0.heap_1 w.params) mg "_number" "Client") ∧ (XM.FldK (PySem.Challenge.hd0.heap_1 w.params) mg "_outcomes" "Client") ∧ (XM.FldK (PySem.Challenge.hd0.heap_1 w.params) mg "_replies" "Client") := by
      refine' ⟨(XM.ini_mk KX G ?g_cClient ⟨?mk_cClient, ?mi_cClient, ?mf_cClient, ?mp_cClient⟩ ?kf_13 ?l_13 ?c_13 ?b_13), (XM.pdn_mk KX G ?g_cClient ⟨?pg_cClient, ?hd_cClient, ?po_cClient, ?sa_cClient⟩ (XM.propof_mk ?a_14 ?e_14 ?t_14 ?r_14) ?k_14 ?l_14 ?c_14 ?b_14), (XM.pdn_mk KX G ?g_cClient ⟨?pg_cClient, ?hd_cClient, ?po_cClient, ?sa_cClient⟩ (XM.propof_mk ?a_15 ?e_15 ?t_15 ?r_15) ?k_15 ?l_15 ?c_15 ?b_15), (XM.pdn_mk KX G ?g_cClient ⟨?pg_cClient, ?hd_cClient, ?po_cClient, ?sa_cClient⟩ (XM.propof_mk ?a_16 ?e_16 ?t_16 ?r_16) ?k_16 ?l_16 ?c_16 ?b_16), (XM.pdn_mk KX G ?g_cClient ⟨?pg_cClient, ?hd_cClient, ?po_cClient, ?sa_cClient⟩ (XM.propof_mk ?a_17 ?e_17 ?t_17 ?r_17) ?k_17 ?l_17 ?c_17 ?b_17), (XM.pdn_mk KX G ?g_cClient ⟨?pg_cClient, ?hd_cClient, ?po_cClient, ?sa_cClient⟩ (XM.propof_mk ?a_18 ?e_18 ?t_18 ?r_18) ?k_18 ?l_18 ?c_18 ?b_18), (XM.mdn_mk KX G ?g_cClient ⟨?pg_cClient, ?hd_cClient, ?po_cClient, ?sa_cClient⟩ ⟨?a_19, ?f_19, ?k_19⟩ ?l_19 ?c_19 ?b_19), (XM.mdn_mk KX G ?g_cClient ⟨?pg_cClient, ?hd_cClient, ?po_cClient, ?sa_cClient⟩ ⟨?a_20, ?f_20, ?k_20⟩ ?l_20 ?c_20 ?b_20), (XM.mdne_mk 3 1 KX G ?g_cClient ⟨?pg_cClient, ?hd_cClient, ?po_cClient, ?sa_cClient⟩ ⟨?a_21, ?f_21, ?k_21⟩ (XM.fund_mk ?l_21 ?c_21 (XM.dfl_int ?t_21) ?h_21) (List.cons_ne_nil _ _) rfl ?b_21 ?d_21), (XM.mdne_mk 2 0 KX G ?g_cClient ⟨?pg_cClient, ?hd_cClient, ?po_cClient, ?sa_cClient⟩ ⟨?a_22, ?f_22, ?k_22⟩ (XM.fund_mk ?l_22 ?c_22 (XM.dfl_int ?t_22) ?h_22) (List.cons_ne_nil _ _) rfl ?b_22 ?d_22), (XM.mdn_mk KX G ?g_cClient ⟨?pg_cClient, ?hd_cClient, ?po_cClient, ?sa_cClient⟩ ⟨?a_23, ?f_23, ?k_23⟩ ?l_23 ?c_23 ?b_23), (XM.mdn_mk KX G ?g_cClient ⟨?pg_cClient, ?hd_cClient, ?po_cClient, ?sa_cClient⟩ ⟨?a_24, ?f_24, ?k_24⟩ ?l_24 ?c_24 ?b_24), (XM.mdn_mk KX G ?g_cClient ⟨?pg_cClient, ?hd_cClient, ?po_cClient, ?sa_cClient⟩ ⟨?a_25, ?f_25, ?k_25⟩ ?l_25 ?c_25 ?b_25), (XM.mdn_mk KX G ?g_cClient ⟨?pg_cClient, ?hd_cClient, ?po_cClient, ?sa_cClient⟩ ⟨?a_26, ?f_26, ?k_26⟩ ?l_26 ?c_26 ?b_26), (XM.mdn_mk KX G ?g_cClient ⟨?pg_cClient, ?hd_cClient, ?po_cClient, ?sa_cClient⟩ ⟨?a_27, ?f_27, ?k_27⟩ ?l_27 ?c_27 ?b_27), (XM.mdnk_mk KX G ?g_cClient ⟨?pg_cClient, ?hd_cClient, ?po_cClient, ?sa_cClient⟩ ⟨?a_28, ?f_28, ?k_28⟩ ?l_28 ?c_28 ?b_28), (XM.mdnk_mk KX G ?g_cClient ⟨?pg_cClient, ?hd_cClient, ?po_cClient, ?sa_cClient⟩ ⟨?a_29, ?f_29, ?k_29⟩ ?l_29 ?c_29 ?b_29), (XM.mdnkd_mk KX G ?g_cClient ⟨?pg_cClient, ?hd_cClient, ?po_cClient, ?sa_cClient⟩ ⟨?a_30, ?f_30, ?k_30⟩ (XM.fund_mk ?l_30 ?c_30 (XM.dfl_int ?t_30) ?h_30) (List.cons_ne_nil _ _) ?b_30), (XM.mdnk_mk KX G ?g_cClient ⟨?pg_cClient, ?hd_cClient, ?po_cClient, ?sa_cClient⟩ ⟨?a_31, ?f_31, ?k_31⟩ ?l_31 ?c_31 ?b_31), (XM.mdnk_mk KX G ?g_cClient ⟨?pg_cClient, ?hd_cClient, ?po_cClient, ?sa_cClient⟩ ⟨?a_32, ?f_32, ?k_32⟩ ?l_32 ?c_32 ?b_32), (XM.fldk_mk KX G ?g_cClient ⟨?pg_cClient, ?hd_cClient, ?po_cClient, ?sa_cClient⟩ ?n_33), (XM.fldk_mk KX G ?g_cClient ⟨?pg_cClient, ?hd_cClient, ?po_cClient, ?sa_cClient⟩ ?n_34), (XM.fldk_mk KX G ?g_cClient ⟨?pg_cClient, ?hd_cClient, ?po_cClient, ?sa_cClient⟩ ?n_35), (XM.fldk_mk KX G ?g_cClient ⟨?pg_cClient, ?hd_cClient, ?po_cClient, ?sa_cClient⟩ ?n_36), (XM.fldk_mk KX G ?g_cClient ⟨?pg_cClient, ?hd_cClient, ?po_cClient, ?sa_cClient⟩ ?n_37), (XM.fldk_mk KX G ?g_cClient ⟨?pg_cClient, ?hd_cClient, ?po_cClient, ?sa_cClient⟩ ?n_38)⟩
      (case g_cClient => k_is)
      (case pg_cClient => k_is)
      (case hd_cClient => k_is)
      (case po_cClient => k_is)
      (case sa_cClient => k_is)
      (case mk_cClient => k_is)
      (case mi_cClient => k_is)
      (case mf_cClient => k_is)
      (case mp_cClient => k_is)
      (case kf_13 => k_is)
      (case l_13 => k_is)
      (case c_13 => k_is)
      (case b_13 => intro _ _ _ _ _ _ us hl; exact match us, hl with | [_], _ => rfl)
      (case a_14 => k_is)
      (case e_14 => k_is)
      (case t_14 => k_is)
      (case r_14 => k_is)
      (case k_14 => k_is)
      (case l_14 => k_is)
      (case c_14 => k_is)
      (case b_14 => intro _ _ _ _ _ _ us hl; exact match us, hl with | [_], _ => rfl)
      (case a_15 => k_is)
      (case e_15 => k_is)
      (case t_15 => k_is)
      (case r_15 => k_is)
      (case k_15 => k_is)
      (case l_15 => k_is)
      (case c_15 => k_is)
      (case b_15 => intro _ _ _ _ _ _ us hl; exact match us, hl with | [_], _ => rfl)
      (case a_16 => k_is)
      (case e_16 => k_is)
      (case t_16 => k_is)
      (case r_16 => k_is)
      (case k_16 => k_is)
      (case l_16 => k_is)
      (case c_16 => k_is)
      (case b_16 => intro _ _ _ _ _ _ us hl; exact match us, hl with | [_], _ => rfl)
      (case a_17 => k_is)
      (case e_17 => k_is)
      (case t_17 => k_is)
      (case r_17 => k_is)
      (case k_17 => k_is)
      (case l_17 => k_is)
      (case c_17 => k_is)
      (case b_17 => intro _ _ _ _ _ _ us hl; exact match us, hl with | [_], _ => rfl)
      (case a_18 => k_is)
      (case e_18 => k_is)
      (case t_18 => k_is)
      (case r_18 => k_is)
      (case k_18 => k_is)
      (case l_18 => k_is)
      (case c_18 => k_is)
      (case b_18 => intro _ _ _ _ _ _ us hl; exact match us, hl with | [_], _ => rfl)
      (case a_19 => k_is)
      (case f_19 => k_is)
      (case k_19 => k_is)
      (case l_19 => k_is)
      (case c_19 => k_is)
      (case b_19 => intro _ _ _ _ _ _ us hl; exact match us, hl with | [_, _, _], _ => rfl)
      (case a_20 => k_is)
      (case f_20 => k_is)
      (case k_20 => k_is)
      (case l_20 => k_is)
      (case c_20 => k_is)
      (case b_20 => intro _ _ _ _ _ _ us hl; exact match us, hl with | [_, _, _, _], _ => rfl)
      (case a_21 => k_is)
      (case f_21 => k_is)
      (case k_21 => k_is)
      (case l_21 => k_is)
      (case c_21 => k_is)
      (case t_21 => k_is)
      (case h_21 => k_is)
      (case b_21 => intro _ _ _ _ _ _ _ us its h1 h2; exact match us, h1, its, h2 with | [_, _, _], _, [_], _ => ⟨_, rfl, rfl⟩)
      (case d_21 => exact fun _ => .nil)
      (case a_22 => k_is)
      (case f_22 => k_is)
      (case k_22 => k_is)
      (case l_22 => k_is)
      (case c_22 => k_is)
      (case t_22 => k_is)
      (case h_22 => k_is)
      (case b_22 => intro _ _ _ _ _ _ _ us its h1 h2; exact match us, h1, its, h2 with | [_, _], _, [_], _ => ⟨_, rfl, rfl⟩)
      (case d_22 => exact fun _ => .cons (.int _) .nil)
      (case a_23 => k_is)
      (case f_23 => k_is)
      (case k_23 => k_is)
      (case l_23 => k_is)
      (case c_23 => k_is)
      (case b_23 => intro _ _ _ _ _ _ us hl; exact match us, hl with | [_, _], _ => rfl)
      (case a_24 => k_is)
      (case f_24 => k_is)
      (case k_24 => k_is)
      (case l_24 => k_is)
      (case c_24 => k_is)
      (case b_24 => intro _ _ _ _ _ _ us hl; exact match us, hl with | [_, _], _ => rfl)
      (case a_25 => k_is)
      (case f_25 => k_is)
      (case k_25 => k_is)
      (case l_25 => k_is)
      (case c_25 => k_is)
      (case b_25 => intro _ _ _ _ _ _ us hl; exact match us, hl with | [_], _ => rfl)
      (case a_26 => k_is)
      (case f_26 => k_is)
      (case k_26 => k_is)
      (case l_26 => k_is)
      (case c_26 => k_is)
      (case b_26 => intro _ _ _ _ _ _ us hl; exact match us, hl with | [_, _], _ => rfl)
      (case a_27 => k_is)
      (case f_27 => k_is)
      (case k_27 => k_is)
      (case l_27 => k_is)
      (case c_27 => k_is)
      (case b_27 => intro _ _ _ _ _ _ us hl; exact match us, hl with | [_, _], _ => rfl)
      (case a_28 => k_is)
      (case f_28 => k_is)
      (case k_28 => k_is)
      (case l_28 => k_is)
      (case c_28 => k_is)
      (case b_28 => intro us ws h1 h3; exact match us, h1, ws, h3 with | [_], _, [_, _], _ => rfl)
      (case a_29 => k_is)
      (case f_29 => k_is)
      (case k_29 => k_is)
      (case l_29 => k_is)
      (case c_29 => k_is)
      (case b_29 => intro us ws h1 h3; exact match us, h1, ws, h3 with | [_], _, [_, _, _], _ => rfl)
      (case a_30 => k_is)
      (case f_30 => k_is)
      (case k_30 => k_is)
      (case l_30 => k_is)
      (case c_30 => k_is)
      (case t_30 => k_is)
      (case h_30 => k_is)
      (case b_30 => intro _ _ _ _ _ _ _ us its ws h1 h2 h3; exact match us, h1, its, h2, ws, h3 with | [_], _, [_], _, [_, _], _ => ⟨_, rfl, rfl⟩)
      (case a_31 => k_is)
      (case f_31 => k_is)
      (case k_31 => k_is)
      (case l_31 => k_is)
      (case c_31 => k_is)
      (case b_31 => intro us ws h1 h3; exact match us, h1, ws, h3 with | [_], _, [_], _ => rfl)
      (case a_32 => k_is)
      (case f_32 => k_is)
      (case k_32 => k_is)
      (case l_32 => k_is)
      (case c_32 => k_is)
      (case b_32 => intro us ws h1 h3; exact match us, h1, ws, h3 with | [_], _, [_], _ => rfl)
      (case n_33 => unfold L2.NoAttr; k_is)
      (case n_34 => unfold L2.NoAttr; k_is)
      (case n_35 => unfold L2.NoAttr; k_is)
      (case n_36 => unfold L2.NoAttr; k_is)
      (case n_37 => unfold L2.NoAttr; k_is)
      (case n_38 => unfold L2.NoAttr; k_is)
    have d_is_sign : Tl.Dn (PySem.Challenge.hd0.heap_1 w.params) mg "is_sign" P11.s_is_sign ["character"] := by
      refine' Tl.dn_mk KX G ?a ?l ?c ?k ?b; (case a => k_is); (case l => k_is); (case c => k_is); (case k => k_is)
      case b => intro _ _ _ _ _ _ us hl; exact match us, hl with | [_], _ => rfl
    have d_has_only_signs : Tl.Dn (PySem.Challenge.hd0.heap_1 w.params) mg "has_only_signs" P11.s_has_only_signs ["string"] := by
      refine' Tl.dn_mk KX G ?a ?l ?c ?k ?b; (case a => k_is); (case l => k_is); (case c => k_is); (case k => k_is)
      case b => intro _ _ _ _ _ _ us hl; exact match us, hl with | [_], _ => rfl
    have d_may_be_prepared : Tl.Dn (PySem.Challenge.hd0.heap_1 w.params) mg "may_be_prepared" P11.s_may_be_prepared ["string"] := by
      refine' Tl.dn_mk KX G ?a ?l ?c ?k ?b; (case a => k_is); (case l => k_is); (case c => k_is); (case k => k_is)
      case b => intro _ _ _ _ _ _ us hl; exact match us, hl with | [_], _ => rfl
    have d_is_name : Tl.Dn (PySem.Challenge.hd0.heap_1 w.params) mg "is_name" P11.s_is_name ["string"] := by
      refine' Tl.dn_mk KX G ?a ?l ?c ?k ?b; (case a => k_is); (case l => k_is); (case c => k_is); (case k => k_is)
      case b => intro _ _ _ _ _ _ us hl; exact match us, hl with | [_], _ => rfl
    have d_is_text : Tl.Dn (PySem.Challenge.hd0.heap_1 w.params) mg "is_text" P11.s_is_text ["string"] := by
      refine' Tl.dn_mk KX G ?a ?l ?c ?k ?b; (case a => k_is); (case l => k_is); (case c => k_is); (case k => k_is)
      case b => intro _ _ _ _ _ _ us hl; exact match us, hl with | [_], _ => rfl
    have d_is_number : Tl.Dn (PySem.Challenge.hd0.heap_1 w.params) mg "is_number" P11.s_is_number ["number"] := by
      refine' Tl.dn_mk KX G ?a ?l ?c ?k ?b; (case a => k_is); (case l => k_is); (case c => k_is); (case k => k_is)
      case b => intro _ _ _ _ _ _ us hl; exact match us, hl with | [_], _ => rfl
    have d_is_integer : Tl.Dn (PySem.Challenge.hd0.heap_1 w.params) mg "is_integer" P11.s_is_integer ["thing"] := by
      refine' Tl.dn_mk KX G ?a ?l ?c ?k ?b; (case a => k_is); (case l => k_is); (case c => k_is); (case k => k_is)
      case b => intro _ _ _ _ _ _ us hl; exact match us, hl with | [_], _ => rfl
    have d_is_value : Tl.Dn (PySem.Challenge.hd0.heap_1 w.params) mg "is_value" P11.s_is_value ["thing"] := by
      refine' Tl.dn_mk KX G ?a ?l ?c ?k ?b; (case a => k_is); (case l => k_is); (case c => k_is); (case k => k_is)
      case b => intro _ _ _ _ _ _ us hl; exact match us, hl with | [_], _ => rfl
    have d_check_name : Tl.Dn (PySem.Challenge.hd0.heap_1 w.params) mg "check_name" P11.s_check_name ["name"] := by
      refine' Tl.dn_mk KX G ?a ?l ?c ?k ?b; (case a => k_is); (case l => k_is); (case c => k_is); (case k => k_is)
      case b => intro _ _ _ _ _ _ us hl; exact match us, hl with | [_], _ => rfl
    have d_check_string : Tl.Dn (PySem.Challenge.hd0.heap_1 w.params) mg "check_string" P11.s_check_string ["string"] := by
      refine' Tl.dn_mk KX G ?a ?l ?c ?k ?b; (case a => k_is); (case l => k_is); (case c => k_is); (case k => k_is)
      case b => intro _ _ _ _ _ _ us hl; exact match us, hl with | [_], _ => rfl
    have d_check_values : Tl.Dn (PySem.Challenge.hd0.heap_1 w.params) mg "check_values" P11.s_check_values ["values"] := by
      refine' Tl.dn_mk KX G ?a ?l ?c ?k ?b; (case a => k_is); (case l => k_is); (case c => k_is); (case k => k_is)
      case b => intro _ _ _ _ _ _ us hl; exact match us, hl with | [_], _ => rfl
    have d_check_most : Tl.Dn (PySem.Challenge.hd0.heap_1 w.params) mg "check_most" P11.s_check_most ["most"] := by
      refine' Tl.dn_mk KX G ?a ?l ?c ?k ?b; (case a => k_is); (case l => k_is); (case c => k_is); (case k => k_is)
      case b => intro _ _ _ _ _ _ us hl; exact match us, hl with | [_], _ => rfl
    have d_copy_reply : Tl.Dn (PySem.Challenge.hd0.heap_1 w.params) mg "copy_reply" P11.s_copy_reply ["reply"] := by
      refine' Tl.dn_mk KX G ?a ?l ?c ?k ?b; (case a => k_is); (case l => k_is); (case c => k_is); (case k => k_is)
      case b => intro _ _ _ _ _ _ us hl; exact match us, hl with | [_], _ => rfl
    have d_law_cell : Tl.Dn (PySem.Challenge.hd0.heap_1 w.params) mg "_law_cell" P11.s_law_cell ["script", "k"] := by
      refine' Tl.dn_mk KX G ?a ?l ?c ?k ?b; (case a => k_is); (case l => k_is); (case c => k_is); (case k => k_is)
      case b => intro _ _ _ _ _ _ us hl; exact match us, hl with | [_, _], _ => rfl
    have d_law_row : Tl.Dn (PySem.Challenge.hd0.heap_1 w.params) mg "_law_row" P11.s_law_row ["cell", "count"] := by
      refine' Tl.dn_mk KX G ?a ?l ?c ?k ?b; (case a => k_is); (case l => k_is); (case c => k_is); (case k => k_is)
      case b => intro _ _ _ _ _ _ us hl; exact match us, hl with | [_, _], _ => rfl
    have d_law_name : Tl.Dn (PySem.Challenge.hd0.heap_1 w.params) mg "_law_name" P11.s_law_name ["number"] := by
      refine' Tl.dn_mk KX G ?a ?l ?c ?k ?b; (case a => k_is); (case l => k_is); (case c => k_is); (case k => k_is)
      case b => intro _ _ _ _ _ _ us hl; exact match us, hl with | [_], _ => rfl
    have d_law_text : Tl.Dn (PySem.Challenge.hd0.heap_1 w.params) mg "_law_text" P11.s_law_text ["number"] := by
      refine' Tl.dn_mk KX G ?a ?l ?c ?k ?b; (case a => k_is); (case l => k_is); (case c => k_is); (case k => k_is)
      case b => intro _ _ _ _ _ _ us hl; exact match us, hl with | [_], _ => rfl
    have d_law_value : Tl.Dn (PySem.Challenge.hd0.heap_1 w.params) mg "_law_value" P11.s_law_value ["number"] := by
      refine' Tl.dn_mk KX G ?a ?l ?c ?k ?b; (case a => k_is); (case l => k_is); (case c => k_is); (case k => k_is)
      case b => intro _ _ _ _ _ _ us hl; exact match us, hl with | [_], _ => rfl
    have d_law_term : Tl.Dn (PySem.Challenge.hd0.heap_1 w.params) mg "_law_term" P11.s_law_term ["number", "used"] := by
      refine' Tl.dn_mk KX G ?a ?l ?c ?k ?b; (case a => k_is); (case l => k_is); (case c => k_is); (case k => k_is)
      case b => intro _ _ _ _ _ _ us hl; exact match us, hl with | [_, _], _ => rfl
    have d_law_used : Tl.Dn (PySem.Challenge.hd0.heap_1 w.params) mg "_law_used" P11.s_law_used ["parts"] := by
      refine' Tl.dn_mk KX G ?a ?l ?c ?k ?b; (case a => k_is); (case l => k_is); (case c => k_is); (case k => k_is)
      case b => intro _ _ _ _ _ _ us hl; exact match us, hl with | [_], _ => rfl
    have d_law_statement : Tl.Dn (PySem.Challenge.hd0.heap_1 w.params) mg "_law_statement" P11.s_law_statement ["row", "names"] := by
      refine' Tl.dn_mk KX G ?a ?l ?c ?k ?b; (case a => k_is); (case l => k_is); (case c => k_is); (case k => k_is)
      case b => intro _ _ _ _ _ _ us hl; exact match us, hl with | [_, _], _ => rfl
    have d_law_written : Tl.Dn (PySem.Challenge.hd0.heap_1 w.params) mg "_law_written" P11.s_law_written ["parts"] := by
      refine' Tl.dn_mk KX G ?a ?l ?c ?k ?b; (case a => k_is); (case l => k_is); (case c => k_is); (case k => k_is)
      case b => intro _ _ _ _ _ _ us hl; exact match us, hl with | [_], _ => rfl
    have d_law_unit : Tl.Dn (PySem.Challenge.hd0.heap_1 w.params) mg "_law_unit" P11.s_law_unit ["row"] := by
      refine' Tl.dn_mk KX G ?a ?l ?c ?k ?b; (case a => k_is); (case l => k_is); (case c => k_is); (case k => k_is)
      case b => intro _ _ _ _ _ _ us hl; exact match us, hl with | [_], _ => rfl
    have d_law_units : Tl.Dn (PySem.Challenge.hd0.heap_1 w.params) mg "_law_units" P11.s_law_units ["cell", "count"] := by
      refine' Tl.dn_mk KX G ?a ?l ?c ?k ?b; (case a => k_is); (case l => k_is); (case c => k_is); (case k => k_is)
      case b => intro _ _ _ _ _ _ us hl; exact match us, hl with | [_, _], _ => rfl
    have d_law_named : Tl.Dn (PySem.Challenge.hd0.heap_1 w.params) mg "_law_named" P11.s_law_named ["client", "command"] := by
      refine' Tl.dn_mk KX G ?a ?l ?c ?k ?b; (case a => k_is); (case l => k_is); (case c => k_is); (case k => k_is)
      case b => intro _ _ _ _ _ _ us hl; exact match us, hl with | [_, _], _ => rfl
    have d_law_add : Tl.Dn (PySem.Challenge.hd0.heap_1 w.params) mg "_law_add" P11.s_law_add ["client", "command"] := by
      refine' Tl.dn_mk KX G ?a ?l ?c ?k ?b; (case a => k_is); (case l => k_is); (case c => k_is); (case k => k_is)
      case b => intro _ _ _ _ _ _ us hl; exact match us, hl with | [_, _], _ => rfl
    have d_law_kinds : Tl.Dn (PySem.Challenge.hd0.heap_1 w.params) mg "_law_kinds" P11.s_law_kinds ["e"] := by
      refine' Tl.dn_mk KX G ?a ?l ?c ?k ?b; (case a => k_is); (case l => k_is); (case c => k_is); (case k => k_is)
      case b => intro _ _ _ _ _ _ us hl; exact match us, hl with | [_], _ => rfl
    have d_law_told : Tl.Dn (PySem.Challenge.hd0.heap_1 w.params) mg "_law_told" P11.s_law_told ["client", "command"] := by
      refine' Tl.dn_mk KX G ?a ?l ?c ?k ?b; (case a => k_is); (case l => k_is); (case c => k_is); (case k => k_is)
      case b => intro _ _ _ _ _ _ us hl; exact match us, hl with | [_, _], _ => rfl
    have d_law_wrong : Tl.Dn (PySem.Challenge.hd0.heap_1 w.params) mg "_law_wrong" P11.s_law_wrong [] := by
      refine' Tl.dn_mk KX G ?a ?l ?c ?k ?b; (case a => k_is); (case l => k_is); (case c => k_is); (case k => k_is)
      case b => intro _ _ _ _ _ _ us hl; exact match us, hl with | [], _ => rfl
    have d_law_synced : Tl.Dn (PySem.Challenge.hd0.heap_1 w.params) mg "_law_synced" P11.s_law_synced ["client"] := by
      refine' Tl.dn_mk KX G ?a ?l ?c ?k ?b; (case a => k_is); (case l => k_is); (case c => k_is); (case k => k_is)
      case b => intro _ _ _ _ _ _ us hl; exact match us, hl with | [_], _ => rfl
    have d_law_outcome : Tl.Dn (PySem.Challenge.hd0.heap_1 w.params) mg "_law_outcome" P11.s_law_outcome ["client", "number"] := by
      refine' Tl.dn_mk KX G ?a ?l ?c ?k ?b; (case a => k_is); (case l => k_is); (case c => k_is); (case k => k_is)
      case b => intro _ _ _ _ _ _ us hl; exact match us, hl with | [_, _], _ => rfl
    have d_law_fifty : Tl.Dn (PySem.Challenge.hd0.heap_1 w.params) mg "_law_fifty" P11.s_law_fifty ["client"] := by
      refine' Tl.dn_mk KX G ?a ?l ?c ?k ?b; (case a => k_is); (case l => k_is); (case c => k_is); (case k => k_is)
      case b => intro _ _ _ _ _ _ us hl; exact match us, hl with | [_], _ => rfl
    have d_law : Tl.Dn (PySem.Challenge.hd0.heap_1 w.params) mg "law" P11.s_law ["script"] := by
      refine' Tl.dn_mk KX G ?a ?l ?c ?k ?b; (case a => k_is); (case l => k_is); (case c => k_is); (case k => k_is)
      case b => intro _ _ _ _ _ _ us hl; exact match us, hl with | [_], _ => rfl
    have ek_BatchFull : ∃ C, XM.ErrK (PySem.Challenge.hd0.heap_1 w.params) mg "BatchFull" 2 C := by
      refine' ⟨_, XM.ErrK.mk (PySem.W.mg_of KX G ?gm_95) ⟨?x0_95, ?x1_95, ?x2_95, ?x3_95, ?x4_95, ?x5_95, ?x6_95, ?x7_95⟩ (XM.kc_own KX G ?g0_95 ?d0_95 ?t0_95 ?s0_95 ?n0_95) (XM.kc_own KX G ?g1_95 ?d1_95 ?t1_95 ?s1_95 ?n1_95) (XM.kc_self KX G ?g2_95) (XM.kc_own KX G ?g3_95 ?d3_95 ?t3_95 ?s3_95 ?n3_95) (XM.kc_own KX G ?g4_95 ?d4_95 ?t4_95 ?s4_95 ?n4_95) (XM.kc_own KX G ?g5_95 ?d5_95 ?t5_95 ?s5_95 ?n5_95) (XM.kc_own KX G ?gb_95 ?db_95 ?tb_95 ?sb_95 ?nb_95) (XM.kc_ve ?ve_95)⟩
      (case gm_95 => k_is); (case x0_95 => k_is); (case x1_95 => k_is); (case x2_95 => k_is); (case x3_95 => k_is); (case x4_95 => k_is); (case x5_95 => k_is); (case x6_95 => k_is); (case x7_95 => k_is)
      (case g0_95 => k_is)
      (case d0_95 => k_is)
      (case t0_95 => k_is)
      (case s0_95 => k_is)
      (case n0_95 => rfl)
      (case g1_95 => k_is)
      (case d1_95 => k_is)
      (case t1_95 => k_is)
      (case s1_95 => k_is)
      (case n1_95 => rfl)
      (case g2_95 => k_is)
      (case g3_95 => k_is)
      (case d3_95 => k_is)
      (case t3_95 => k_is)
      (case s3_95 => k_is)
      (case n3_95 => rfl)
      (case g4_95 => k_is)
      (case d4_95 => k_is)
      (case t4_95 => k_is)
      (case s4_95 => k_is)
      (case n4_95 => rfl)
      (case g5_95 => k_is)
      (case d5_95 => k_is)
      (case t5_95 => k_is)
      (case s5_95 => k_is)
      (case n5_95 => rfl)
      (case gb_95 => k_is)
      (case db_95 => k_is)
      (case tb_95 => k_is)
      (case sb_95 => k_is)
      (case nb_95 => rfl)
      (case ve_95 => k_is)
    have ek_InvalidCommand : ∃ C, XM.ErrK (PySem.Challenge.hd0.heap_1 w.params) mg "InvalidCommand" 1 C := by
      refine' ⟨_, XM.ErrK.mk (PySem.W.mg_of KX G ?gm_96) ⟨?x0_96, ?x1_96, ?x2_96, ?x3_96, ?x4_96, ?x5_96, ?x6_96, ?x7_96⟩ (XM.kc_own KX G ?g0_96 ?d0_96 ?t0_96 ?s0_96 ?n0_96) (XM.kc_self KX G ?g1_96) (XM.kc_own KX G ?g2_96 ?d2_96 ?t2_96 ?s2_96 ?n2_96) (XM.kc_own KX G ?g3_96 ?d3_96 ?t3_96 ?s3_96 ?n3_96) (XM.kc_own KX G ?g4_96 ?d4_96 ?t4_96 ?s4_96 ?n4_96) (XM.kc_own KX G ?g5_96 ?d5_96 ?t5_96 ?s5_96 ?n5_96) (XM.kc_own KX G ?gb_96 ?db_96 ?tb_96 ?sb_96 ?nb_96) (XM.kc_ve ?ve_96)⟩
      (case gm_96 => k_is); (case x0_96 => k_is); (case x1_96 => k_is); (case x2_96 => k_is); (case x3_96 => k_is); (case x4_96 => k_is); (case x5_96 => k_is); (case x6_96 => k_is); (case x7_96 => k_is)
      (case g0_96 => k_is)
      (case d0_96 => k_is)
      (case t0_96 => k_is)
      (case s0_96 => k_is)
      (case n0_96 => rfl)
      (case g1_96 => k_is)
      (case g2_96 => k_is)
      (case d2_96 => k_is)
      (case t2_96 => k_is)
      (case s2_96 => k_is)
      (case n2_96 => rfl)
      (case g3_96 => k_is)
      (case d3_96 => k_is)
      (case t3_96 => k_is)
      (case s3_96 => k_is)
      (case n3_96 => rfl)
      (case g4_96 => k_is)
      (case d4_96 => k_is)
      (case t4_96 => k_is)
      (case s4_96 => k_is)
      (case n4_96 => rfl)
      (case g5_96 => k_is)
      (case d5_96 => k_is)
      (case t5_96 => k_is)
      (case s5_96 => k_is)
      (case n5_96 => rfl)
      (case gb_96 => k_is)
      (case db_96 => k_is)
      (case tb_96 => k_is)
      (case sb_96 => k_is)
      (case nb_96 => rfl)
      (case ve_96 => k_is)
    have ek_NoSuchBatch : ∃ C, XM.ErrK (PySem.Challenge.hd0.heap_1 w.params) mg "NoSuchBatch" 5 C := by
      refine' ⟨_, XM.ErrK.mk (PySem.W.mg_of KX G ?gm_97) ⟨?x0_97, ?x1_97, ?x2_97, ?x3_97, ?x4_97, ?x5_97, ?x6_97, ?x7_97⟩ (XM.kc_own KX G ?g0_97 ?d0_97 ?t0_97 ?s0_97 ?n0_97) (XM.kc_own KX G ?g1_97 ?d1_97 ?t1_97 ?s1_97 ?n1_97) (XM.kc_own KX G ?g2_97 ?d2_97 ?t2_97 ?s2_97 ?n2_97) (XM.kc_own KX G ?g3_97 ?d3_97 ?t3_97 ?s3_97 ?n3_97) (XM.kc_own KX G ?g4_97 ?d4_97 ?t4_97 ?s4_97 ?n4_97) (XM.kc_self KX G ?g5_97) (XM.kc_own KX G ?gb_97 ?db_97 ?tb_97 ?sb_97 ?nb_97) (XM.kc_ve ?ve_97)⟩
      (case gm_97 => k_is); (case x0_97 => k_is); (case x1_97 => k_is); (case x2_97 => k_is); (case x3_97 => k_is); (case x4_97 => k_is); (case x5_97 => k_is); (case x6_97 => k_is); (case x7_97 => k_is)
      (case g0_97 => k_is)
      (case d0_97 => k_is)
      (case t0_97 => k_is)
      (case s0_97 => k_is)
      (case n0_97 => rfl)
      (case g1_97 => k_is)
      (case d1_97 => k_is)
      (case t1_97 => k_is)
      (case s1_97 => k_is)
      (case n1_97 => rfl)
      (case g2_97 => k_is)
      (case d2_97 => k_is)
      (case t2_97 => k_is)
      (case s2_97 => k_is)
      (case n2_97 => rfl)
      (case g3_97 => k_is)
      (case d3_97 => k_is)
      (case t3_97 => k_is)
      (case s3_97 => k_is)
      (case n3_97 => rfl)
      (case g4_97 => k_is)
      (case d4_97 => k_is)
      (case t4_97 => k_is)
      (case s4_97 => k_is)
      (case n4_97 => rfl)
      (case g5_97 => k_is)
      (case gb_97 => k_is)
      (case db_97 => k_is)
      (case tb_97 => k_is)
      (case sb_97 => k_is)
      (case nb_97 => rfl)
      (case ve_97 => k_is)
    have ek_TooManyBatches : ∃ C, XM.ErrK (PySem.Challenge.hd0.heap_1 w.params) mg "TooManyBatches" 3 C := by
      refine' ⟨_, XM.ErrK.mk (PySem.W.mg_of KX G ?gm_98) ⟨?x0_98, ?x1_98, ?x2_98, ?x3_98, ?x4_98, ?x5_98, ?x6_98, ?x7_98⟩ (XM.kc_own KX G ?g0_98 ?d0_98 ?t0_98 ?s0_98 ?n0_98) (XM.kc_own KX G ?g1_98 ?d1_98 ?t1_98 ?s1_98 ?n1_98) (XM.kc_own KX G ?g2_98 ?d2_98 ?t2_98 ?s2_98 ?n2_98) (XM.kc_self KX G ?g3_98) (XM.kc_own KX G ?g4_98 ?d4_98 ?t4_98 ?s4_98 ?n4_98) (XM.kc_own KX G ?g5_98 ?d5_98 ?t5_98 ?s5_98 ?n5_98) (XM.kc_own KX G ?gb_98 ?db_98 ?tb_98 ?sb_98 ?nb_98) (XM.kc_ve ?ve_98)⟩
      (case gm_98 => k_is); (case x0_98 => k_is); (case x1_98 => k_is); (case x2_98 => k_is); (case x3_98 => k_is); (case x4_98 => k_is); (case x5_98 => k_is); (case x6_98 => k_is); (case x7_98 => k_is)
      (case g0_98 => k_is)
      (case d0_98 => k_is)
      (case t0_98 => k_is)
      (case s0_98 => k_is)
      (case n0_98 => rfl)
      (case g1_98 => k_is)
      (case d1_98 => k_is)
      (case t1_98 => k_is)
      (case s1_98 => k_is)
      (case n1_98 => rfl)
      (case g2_98 => k_is)
      (case d2_98 => k_is)
      (case t2_98 => k_is)
      (case s2_98 => k_is)
      (case n2_98 => rfl)
      (case g3_98 => k_is)
      (case g4_98 => k_is)
      (case d4_98 => k_is)
      (case t4_98 => k_is)
      (case s4_98 => k_is)
      (case n4_98 => rfl)
      (case g5_98 => k_is)
      (case d5_98 => k_is)
      (case t5_98 => k_is)
      (case s5_98 => k_is)
      (case n5_98 => rfl)
      (case gb_98 => k_is)
      (case db_98 => k_is)
      (case tb_98 => k_is)
      (case sb_98 => k_is)
      (case nb_98 => rfl)
      (case ve_98 => k_is)
    have c_CLIENT_FORMS : XM.CD (PySem.Challenge.hd0.heap_1 w.params) mg "CLIENT_FORMS" (.tuple [(.tuple [(.str "hello"), (.str "long"), (.str "long")]), (.tuple [(.str "prepare"), (.str "name"), (.str "statement")]), (.tuple [(.str "bind"), (.str "name"), (.str "name"), (.str "values")]), (.tuple [(.str "run"), (.str "name"), (.str "most")]), (.tuple [(.str "forget"), (.str "name")]), (.tuple [(.str "close"), (.str "name")]), (.tuple [(.str "sync"), (.str "long"), (.str "long")])]) := by
      refine' XM.cd_mk KX G ?g_99 (v := .ref _) rfl (XM.tupD (xs := [.ref _, .ref _, .ref _, .ref _, .ref _, .ref _, .ref _]) ?l_99_0 ?v_99_0 ?z_99_0 (fun G => (.cons ((XM.tupD (xs := [.str "hello", .str "long", .str "long"]) ?l_99_1 ?v_99_1 ?z_99_1 (fun G => (.cons (.str _) (.cons (.str _) (.cons (.str _) .nil))))) G) (.cons ((XM.tupD (xs := [.str "prepare", .str "name", .str "statement"]) ?l_99_2 ?v_99_2 ?z_99_2 (fun G => (.cons (.str _) (.cons (.str _) (.cons (.str _) .nil))))) G) (.cons ((XM.tupD (xs := [.str "bind", .str "name", .str "name", .str "values"]) ?l_99_3 ?v_99_3 ?z_99_3 (fun G => (.cons (.str _) (.cons (.str _) (.cons (.str _) (.cons (.str _) .nil)))))) G) (.cons ((XM.tupD (xs := [.str "run", .str "name", .str "most"]) ?l_99_4 ?v_99_4 ?z_99_4 (fun G => (.cons (.str _) (.cons (.str _) (.cons (.str _) .nil))))) G) (.cons ((XM.tupD (xs := [.str "forget", .str "name"]) ?l_99_5 ?v_99_5 ?z_99_5 (fun G => (.cons (.str _) (.cons (.str _) .nil)))) G) (.cons ((XM.tupD (xs := [.str "close", .str "name"]) ?l_99_6 ?v_99_6 ?z_99_6 (fun G => (.cons (.str _) (.cons (.str _) .nil)))) G) (.cons ((XM.tupD (xs := [.str "sync", .str "long", .str "long"]) ?l_99_7 ?v_99_7 ?z_99_7 (fun G => (.cons (.str _) (.cons (.str _) (.cons (.str _) .nil))))) G) .nil)))))))))
      (case g_99 => k_is); (case l_99_0 => k_is); (case v_99_0 => exact .cons rfl (.cons rfl (.cons rfl (.cons rfl (.cons rfl (.cons rfl (.cons rfl (.nil)))))))); (case z_99_0 => rw [sizeLine_eq]; simp); (case l_99_1 => k_is); (case v_99_1 => exact .cons ⟨_, rfl⟩ (.cons ⟨_, rfl⟩ (.cons ⟨_, rfl⟩ (.nil)))); (case z_99_1 => rw [sizeLine_eq]; simp); (case l_99_2 => k_is); (case v_99_2 => exact .cons ⟨_, rfl⟩ (.cons ⟨_, rfl⟩ (.cons ⟨_, rfl⟩ (.nil)))); (case z_99_2 => rw [sizeLine_eq]; simp); (case l_99_3 => k_is); (case v_99_3 => exact .cons ⟨_, rfl⟩ (.cons ⟨_, rfl⟩ (.cons ⟨_, rfl⟩ (.cons ⟨_, rfl⟩ (.nil))))); (case z_99_3 => rw [sizeLine_eq]; simp); (case l_99_4 => k_is); (case v_99_4 => exact .cons ⟨_, rfl⟩ (.cons ⟨_, rfl⟩ (.cons ⟨_, rfl⟩ (.nil)))); (case z_99_4 => rw [sizeLine_eq]; simp); (case l_99_5 => k_is); (case v_99_5 => exact .cons ⟨_, rfl⟩ (.cons ⟨_, rfl⟩ (.nil))); (case z_99_5 => rw [sizeLine_eq]; simp); (case l_99_6 => k_is); (case v_99_6 => exact .cons ⟨_, rfl⟩ (.cons ⟨_, rfl⟩ (.nil))); (case z_99_6 => rw [sizeLine_eq]; simp); (case l_99_7 => k_is); (case v_99_7 => exact .cons ⟨_, rfl⟩ (.cons ⟨_, rfl⟩ (.cons ⟨_, rfl⟩ (.nil)))); (case z_99_7 => rw [sizeLine_eq]; simp)
    have c_GREATEST_MOST : XM.CD (PySem.Challenge.hd0.heap_1 w.params) mg "GREATEST_MOST" (.int 1000) := by
      refine' XM.cd_mk KX G ?g_100 (v := .int (1000)) ?r_100 (fun _ => .int _); (case g_100 => k_is); (case r_100 => first | exact ⟨_, rfl⟩ | rfl)
    have c_GREATEST_NUMBER : XM.CD (PySem.Challenge.hd0.heap_1 w.params) mg "GREATEST_NUMBER" (.int 2147483647) := by
      refine' XM.cd_mk KX G ?g_101 (v := .int (2147483647)) ?r_101 (fun _ => .int _); (case g_101 => k_is); (case r_101 => first | exact ⟨_, rfl⟩ | rfl)
    have c_LEAST_NUMBER : XM.CD (PySem.Challenge.hd0.heap_1 w.params) mg "LEAST_NUMBER" (.int (-2147483648)) := by
      refine' XM.cd_mk KX G ?g_102 (v := .int (-2147483648)) ?r_102 (fun _ => .int _); (case g_102 => k_is); (case r_102 => first | exact ⟨_, rfl⟩ | rfl)
    have c_LETTERS : XM.CD (PySem.Challenge.hd0.heap_1 w.params) mg "LETTERS" (.str "abcdefghijklmnopqrstuvwxyz") := by
      refine' XM.cd_mk KX G ?g_103 (v := .str "abcdefghijklmnopqrstuvwxyz") ?r_103 (fun _ => .str _); (case g_103 => k_is); (case r_103 => first | exact ⟨_, rfl⟩ | rfl)
    have c_LONGEST_NAME : XM.CD (PySem.Challenge.hd0.heap_1 w.params) mg "LONGEST_NAME" (.int 8) := by
      refine' XM.cd_mk KX G ?g_104 (v := .int (8)) ?r_104 (fun _ => .int _); (case g_104 => k_is); (case r_104 => first | exact ⟨_, rfl⟩ | rfl)
    have c_LONGEST_STRING : XM.CD (PySem.Challenge.hd0.heap_1 w.params) mg "LONGEST_STRING" (.int 200) := by
      refine' XM.cd_mk KX G ?g_105 (v := .int (200)) ?r_105 (fun _ => .int _); (case g_105 => k_is); (case r_105 => first | exact ⟨_, rfl⟩ | rfl)
    have c_LONGEST_TEXT : XM.CD (PySem.Challenge.hd0.heap_1 w.params) mg "LONGEST_TEXT" (.int 40) := by
      refine' XM.cd_mk KX G ?g_106 (v := .int (40)) ?r_106 (fun _ => .int _); (case g_106 => k_is); (case r_106 => first | exact ⟨_, rfl⟩ | rfl)
    have c_MOST_BATCHES : XM.CD (PySem.Challenge.hd0.heap_1 w.params) mg "MOST_BATCHES" (.int 50) := by
      refine' XM.cd_mk KX G ?g_107 (v := .int (50)) ?r_107 (fun _ => .int _); (case g_107 => k_is); (case r_107 => first | exact ⟨_, rfl⟩ | rfl)
    have c_MOST_COMMANDS : XM.CD (PySem.Challenge.hd0.heap_1 w.params) mg "MOST_COMMANDS" (.int 20) := by
      refine' XM.cd_mk KX G ?g_108 (v := .int (20)) ?r_108 (fun _ => .int _); (case g_108 => k_is); (case r_108 => first | exact ⟨_, rfl⟩ | rfl)
    have c_MOST_VALUES : XM.CD (PySem.Challenge.hd0.heap_1 w.params) mg "MOST_VALUES" (.int 4) := by
      refine' XM.cd_mk KX G ?g_109 (v := .int (4)) ?r_109 (fun _ => .int _); (case g_109 => k_is); (case r_109 => first | exact ⟨_, rfl⟩ | rfl)
    have c_PERCENT : XM.CD (PySem.Challenge.hd0.heap_1 w.params) mg "PERCENT" (.int 37) := by
      refine' XM.cd_mk KX G ?g_110 (v := .int (37)) ?r_110 (fun _ => .int _); (case g_110 => k_is); (case r_110 => first | exact ⟨_, rfl⟩ | rfl)
    have c_SERVER_FORMS : XM.CD (PySem.Challenge.hd0.heap_1 w.params) mg "SERVER_FORMS" (.tuple [(.tuple [(.str "welcome"), (.str "long"), (.str "long")]), (.tuple [(.str "refused"), (.str "name")]), (.tuple [(.str "ready"), (.str "long"), (.str "state")]), (.tuple [(.str "prepared"), (.str "parameters")]), (.tuple [(.str "bound")]), (.tuple [(.str "closed")]), (.tuple [(.str "skipped")]), (.tuple [(.str "rows"), (.str "flag"), (.str "rows")]), (.tuple [(.str "complete"), (.str "count")]), (.tuple [(.str "wrong"), (.str "reason")])]) := by
      refine' XM.cd_mk KX G ?g_111 (v := .ref _) rfl (XM.tupD (xs := [.ref _, .ref _, .ref _, .ref _, .ref _, .ref _, .ref _, .ref _, .ref _, .ref _]) ?l_111_0 ?v_111_0 ?z_111_0 (fun G => (.cons ((XM.tupD (xs := [.str "welcome", .str "long", .str "long"]) ?l_111_1 ?v_111_1 ?z_111_1 (fun G => (.cons (.str _) (.cons (.str _) (.cons (.str _) .nil))))) G) (.cons ((XM.tupD (xs := [.str "refused", .str "name"]) ?l_111_2 ?v_111_2 ?z_111_2 (fun G => (.cons (.str _) (.cons (.str _) .nil)))) G) (.cons ((XM.tupD (xs := [.str "ready", .str "long", .str "state"]) ?l_111_3 ?v_111_3 ?z_111_3 (fun G => (.cons (.str _) (.cons (.str _) (.cons (.str _) .nil))))) G) (.cons ((XM.tupD (xs := [.str "prepared", .str "parameters"]) ?l_111_4 ?v_111_4 ?z_111_4 (fun G => (.cons (.str _) (.cons (.str _) .nil)))) G) (.cons ((XM.tupD (xs := [.str "bound"]) ?l_111_5 ?v_111_5 ?z_111_5 (fun G => (.cons (.str _) .nil))) G) (.cons ((XM.tupD (xs := [.str "closed"]) ?l_111_6 ?v_111_6 ?z_111_6 (fun G => (.cons (.str _) .nil))) G) (.cons ((XM.tupD (xs := [.str "skipped"]) ?l_111_7 ?v_111_7 ?z_111_7 (fun G => (.cons (.str _) .nil))) G) (.cons ((XM.tupD (xs := [.str "rows", .str "flag", .str "rows"]) ?l_111_8 ?v_111_8 ?z_111_8 (fun G => (.cons (.str _) (.cons (.str _) (.cons (.str _) .nil))))) G) (.cons ((XM.tupD (xs := [.str "complete", .str "count"]) ?l_111_9 ?v_111_9 ?z_111_9 (fun G => (.cons (.str _) (.cons (.str _) .nil)))) G) (.cons ((XM.tupD (xs := [.str "wrong", .str "reason"]) ?l_111_10 ?v_111_10 ?z_111_10 (fun G => (.cons (.str _) (.cons (.str _) .nil)))) G) .nil))))))))))))
      (case g_111 => k_is); (case l_111_0 => k_is); (case v_111_0 => exact .cons rfl (.cons rfl (.cons rfl (.cons rfl (.cons rfl (.cons rfl (.cons rfl (.cons rfl (.cons rfl (.cons rfl (.nil))))))))))); (case z_111_0 => rw [sizeLine_eq]; simp); (case l_111_1 => k_is); (case v_111_1 => exact .cons ⟨_, rfl⟩ (.cons ⟨_, rfl⟩ (.cons ⟨_, rfl⟩ (.nil)))); (case z_111_1 => rw [sizeLine_eq]; simp); (case l_111_2 => k_is); (case v_111_2 => exact .cons ⟨_, rfl⟩ (.cons ⟨_, rfl⟩ (.nil))); (case z_111_2 => rw [sizeLine_eq]; simp); (case l_111_3 => k_is); (case v_111_3 => exact .cons ⟨_, rfl⟩ (.cons ⟨_, rfl⟩ (.cons ⟨_, rfl⟩ (.nil)))); (case z_111_3 => rw [sizeLine_eq]; simp); (case l_111_4 => k_is); (case v_111_4 => exact .cons ⟨_, rfl⟩ (.cons ⟨_, rfl⟩ (.nil))); (case z_111_4 => rw [sizeLine_eq]; simp); (case l_111_5 => k_is); (case v_111_5 => exact .cons ⟨_, rfl⟩ (.nil)); (case z_111_5 => rw [sizeLine_eq]; simp); (case l_111_6 => k_is); (case v_111_6 => exact .cons ⟨_, rfl⟩ (.nil)); (case z_111_6 => rw [sizeLine_eq]; simp); (case l_111_7 => k_is); (case v_111_7 => exact .cons ⟨_, rfl⟩ (.nil)); (case z_111_7 => rw [sizeLine_eq]; simp); (case l_111_8 => k_is); (case v_111_8 => exact .cons ⟨_, rfl⟩ (.cons ⟨_, rfl⟩ (.cons ⟨_, rfl⟩ (.nil)))); (case z_111_8 => rw [sizeLine_eq]; simp); (case l_111_9 => k_is); (case v_111_9 => exact .cons ⟨_, rfl⟩ (.cons ⟨_, rfl⟩ (.nil))); (case z_111_9 => rw [sizeLine_eq]; simp); (case l_111_10 => k_is); (case v_111_10 => exact .cons ⟨_, rfl⟩ (.cons ⟨_, rfl⟩ (.nil))); (case z_111_10 => rw [sizeLine_eq]; simp)
    have er_BatchFull : XM.ErrG (PySem.Challenge.hd0.heap_1 w.params) mg "BatchFull" := by
      refine' XM.errg_mk KX G PySem.F.excBase_ValueError ?g_112 ?x_112 ?k_112 ?s_112 ?t_112; (case g_112 => k_is); (case x_112 => k_exc); (case k_112 => k_is); (case s_112 => k_is); (case t_112 => k_is)
    have er_InvalidCommand : XM.ErrG (PySem.Challenge.hd0.heap_1 w.params) mg "InvalidCommand" := by
      refine' XM.errg_mk KX G PySem.F.excBase_ValueError ?g_113 ?x_113 ?k_113 ?s_113 ?t_113; (case g_113 => k_is); (case x_113 => k_exc); (case k_113 => k_is); (case s_113 => k_is); (case t_113 => k_is)
    have er_NoSuchBatch : XM.ErrG (PySem.Challenge.hd0.heap_1 w.params) mg "NoSuchBatch" := by
      refine' XM.errg_mk KX G PySem.F.excBase_ValueError ?g_114 ?x_114 ?k_114 ?s_114 ?t_114; (case g_114 => k_is); (case x_114 => k_exc); (case k_114 => k_is); (case s_114 => k_is); (case t_114 => k_is)
    have er_TooManyBatches : XM.ErrG (PySem.Challenge.hd0.heap_1 w.params) mg "TooManyBatches" := by
      refine' XM.errg_mk KX G PySem.F.excBase_ValueError ?g_115 ?x_115 ?k_115 ?s_115 ?t_115; (case g_115 => k_is); (case x_115 => k_exc); (case k_115 => k_is); (case s_115 => k_is); (case t_115 => k_is)
    have n_ValueError : mg "ValueError" = none := by
      refine' PySem.W.mg_none_of KX G ?z; (case z => k_is)
    have n_all : mg "all" = none := by
      refine' PySem.W.mg_none_of KX G ?z; (case z => k_is)
    have n_bool : mg "bool" = none := by
      refine' PySem.W.mg_none_of KX G ?z; (case z => k_is)
    have n_int : mg "int" = none := by
      refine' PySem.W.mg_none_of KX G ?z; (case z => k_is)
    have n_isinstance : mg "isinstance" = none := by
      refine' PySem.W.mg_none_of KX G ?z; (case z => k_is)
    have n_len : mg "len" = none := by
      refine' PySem.W.mg_none_of KX G ?z; (case z => k_is)
    have n_list : mg "list" = none := by
      refine' PySem.W.mg_none_of KX G ?z; (case z => k_is)
    have n_max : mg "max" = none := by
      refine' PySem.W.mg_none_of KX G ?z; (case z => k_is)
    have n_min : mg "min" = none := by
      refine' PySem.W.mg_none_of KX G ?z; (case z => k_is)
    have n_ord : mg "ord" = none := by
      refine' PySem.W.mg_none_of KX G ?z; (case z => k_is)
    have n_range : mg "range" = none := by
      refine' PySem.W.mg_none_of KX G ?z; (case z => k_is)
    have n_repr : mg "repr" = none := by
      refine' PySem.W.mg_none_of KX G ?z; (case z => k_is)
    have n_str : mg "str" = none := by
      refine' PySem.W.mg_none_of KX G ?z; (case z => k_is)
    have n_tuple : mg "tuple" = none := by
      refine' PySem.W.mg_none_of KX G ?z; (case z => k_is)
    have ca_BatchFull2 : XM.CatG (PySem.Challenge.hd0.heap_1 w.params) mg "BatchFull" [("BatchFull", true), ("InvalidCommand", false)] := by
      refine' XM.catg_two KX G ?g_145 ?s_145 ?d_145 ?t_145 ?u_145 ?y_145 ?z_145; (case g_145 => k_is); (case s_145 => k_is); (case d_145 => k_is); (case t_145 => k_is); (case u_145 => k_is); (case y_145 => k_is); (case z_145 => k_is)
    have ca_InvalidCommand1 : XM.CatG (PySem.Challenge.hd0.heap_1 w.params) mg "InvalidCommand" [("InvalidCommand", true)] := by
      refine' XM.catg_self KX G ?g_146 ?s_146 ?d_146 ?t_146 ?u_146; (case g_146 => k_is); (case s_146 => k_is); (case d_146 => k_is); (case t_146 => k_is); (case u_146 => k_is)
    have ca_TooManyBatches1 : XM.CatG (PySem.Challenge.hd0.heap_1 w.params) mg "TooManyBatches" [("TooManyBatches", true)] := by
      refine' XM.catg_self KX G ?g_147 ?s_147 ?d_147 ?t_147 ?u_147; (case g_147 => k_is); (case s_147 => k_is); (case d_147 => k_is); (case t_147 => k_is); (case u_147 => k_is)
    have ca_NoSuchBatch1 : XM.CatG (PySem.Challenge.hd0.heap_1 w.params) mg "NoSuchBatch" [("NoSuchBatch", true)] := by
      refine' XM.catg_self KX G ?g_148 ?s_148 ?d_148 ?t_148 ?u_148; (case g_148 => k_is); (case s_148 => k_is); (case d_148 => k_is); (case t_148 => k_is); (case u_148 => k_is)
    have T := P11.Txt.mk (w := w) d_is_sign d_has_only_signs d_may_be_prepared d_is_name d_is_text d_is_number d_is_integer d_is_value d_check_name d_check_string d_check_values d_check_most d_copy_reply i_Wire___init___0 i_Line___init___0 m_Line_many_to_send i_Client___init___0 p_Client_phase p_Client_session p_Client_handed p_Client_received p_Client_waiting m_Client_prepare m_Client_bind md_Client_run_0 md_Client_run_1 m_Client_forget m_Client_close m_Client_sync m_Client_outcome m_Client__add d_law_cell d_law_row d_law_name d_law_text d_law_value d_law_term d_law_used d_law_statement d_law_written d_law_unit d_law_units d_law_named d_law_add d_law_kinds d_law_told d_law_wrong d_law_synced d_law_outcome d_law_fifty d_law mk_Client_prepare mk_Client_bind mk_Client_run mk_Client_forget mk_Client_close ek_BatchFull ek_InvalidCommand ek_NoSuchBatch ek_TooManyBatches c_CLIENT_FORMS c_GREATEST_MOST c_GREATEST_NUMBER c_LEAST_NUMBER c_LETTERS c_LONGEST_NAME c_LONGEST_STRING c_LONGEST_TEXT c_MOST_BATCHES c_MOST_COMMANDS c_MOST_VALUES c_PERCENT c_SERVER_FORMS er_BatchFull er_InvalidCommand er_NoSuchBatch er_TooManyBatches f__batches_Client f__broken_Wire f__commands_Client f__data_Line f__data_Wire f__forms_Wire f__line_Client f__number_Client f__other_side_Line f__outcomes_Client f__replies_Client f__taken_Line f__wire_Line f_stage_Line f_why_Line n_ValueError n_all n_bool n_int n_isinstance n_len n_list n_max n_min n_ord n_range n_repr n_str n_tuple ca_BatchFull2 ca_InvalidCommand1 ca_TooManyBatches1 ca_NoSuchBatch1
    exact (P11.ok_law T).quietX
