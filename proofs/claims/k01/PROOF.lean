import PyProof.Rows.All
import Wide.All
import OpenK.AllK
import Wide.FinOn
import KE.DataMinMax
import HandS.Base
import HandS.Call
import HandS.List
import HandS.Comp
import HandS.Dict
import HandS.Iter
import HandS.Ends
import HandS.Words
import HandS.WordsList
import HandS.Walk
import HandS.IsInst
import HandS.Style
import HandS.Lambda
import HandS.EndTab
import HandS.More
import HandS.Small
import HandS.WordsDict
import HandS.Finally
import KE.KMinKey
import HandS.SetKeys
import KE.KSortKeySt
import KE.SortData
import KE.DataMinKey
import HandS.DictComp
import HandS.ListItems
import KE.KDictList
import HandS.Exc
import HandS.ExcOwn
import HandS.ExcCtx
import HandS.Hot
import HandS.HotCalls
import HandS.ExcIs
import HandS.FStr
import HandS.WordsExc
import PyProof.StrLawsRepr
import PySem.Challenge.RW_likeshelf_k01_pictures_refused
set_option Elab.async false
set_option linter.all false
set_option maxRecDepth 100000
set_option maxHeartbeats 1000000

namespace LK
open PySem PySem.Spec PyProof.Rows L2

/-- the tables of code objects that stand at the law's entry, each with the name that its code objects bear -/
class Tbs where
  tabs : List (Addr × Str)
/-! ### heaps -/
theorem isTbl (o : HO) : (∃ ps, o = .tbl ps) ∨ ∀ ps, o ≠ .tbl ps := by
  cases o <;> first | exact .inl ⟨_, rfl⟩ | exact .inr fun ps h => by cases h
/-- nothing but a table stands there -/
def Nt (H : Hp) (p : Addr) : Prop := ∀ o, H p = some o → ∃ ps, o = .tbl ps
theorem Nt.of {H : Hp} {p : Addr} (h : H p = none) : Nt H p := fun o e => by
  rw [h] at e
  cases e
theorem Nt.lst {H : Hp} {p : Addr} {xs : List V} {C : Prop} (h : Nt H p) (e : H p = some (.lst xs)) : C := by
  obtain ⟨ps, z⟩ := h _ e
  cases z
variable [Tbs]
/-- all that is tracked stays, but that tables may grow -/
structure Ext (H H' : Hp) : Prop where
  keep : ∀ b o, H b = some o → (∀ ps, o ≠ .tbl ps) → H' b = some o
  tabs : LamX.Tabs Tbs.tabs H → LamX.Tabs Tbs.tabs H'
theorem Ext.refl (H : Hp) : Ext H H := ⟨fun _ _ h _ => h, fun h => h⟩
theorem Ext.trans {H H1 H2 : Hp} (a : Ext H H1) (b : Ext H1 H2) : Ext H H2 := ⟨fun x o h n => b.keep x o (a.keep x o h n) n, fun t => b.tabs (a.tabs t)⟩
theorem Ext.of {H H' : Hp} (e : ∀ b o, H b = some o → H' b = some o) : Ext H H' := ⟨fun b o h _ => e b o h, fun t => t.ext e⟩
theorem Ext.nt {H H' : Hp} (e : Ext H H') {l : Addr} (h : Nt H' l) : Nt H l := fun o q => by
  rcases isTbl o with z | n
  · exact z
  · exact h o (e.keep l o q n)
theorem Ext.lst {H H' : Hp} (e : Ext H H') {a : Addr} {xs : List V} (h : H a = some (.lst xs)) : H' a = some (.lst xs) := e.keep a _ h fun _ z => nomatch z
theorem Ext.tup {H H' : Hp} (e : Ext H H') {a : Addr} {xs : List V} (h : H a = some (.tup xs)) : H' a = some (.tup xs) := e.keep a _ h fun _ z => nomatch z
theorem Ext.rdL {H H' : Hp} (e : Ext H H') {a : Addr} {xs : List V} (h : Rd H a (.lst xs)) : Rd H' a (.lst xs) := by
  rcases h with h | ⟨o, h⟩
  · exact .inl (e.lst h)
  · exact .inr ⟨o, e.keep a _ h fun _ z => nomatch z⟩
theorem Ext.rdT {H H' : Hp} (e : Ext H H') {a : Addr} {xs : List V} (h : Rd H a (.tup xs)) : Rd H' a (.tup xs) := by
  rcases h with h | ⟨o, h⟩
  · exact .inl (e.tup h)
  · exact .inr ⟨o, e.keep a _ h fun _ z => nomatch z⟩
theorem Ext.seq {K : PySem.W.Frag} {H H' : Hp} {a : Addr} {xs : List V} (e : Ext H H') (h : SqL K H a xs) : SqL K H' a xs := h.imp e.rdL id
theorem same_new {H : Hp} {p : Addr} {o : HO} (hp : H p = none) : Ext H (upd H p o) := .of fun a x h => by
  rw [upd_ne (ne_of_none h hp)]
  exact h
/-- a list is changed: the tables stay -/
theorem tabs_upd {H : Hp} {p : Addr} {xs ys : List V} (hp : H p = some (.lst xs)) {P : Addr} {q : Str} (t : LamX.TabS H P q) : LamX.TabS (upd H p (.lst ys)) P q := by
  obtain ⟨ps, h1, h2, h3⟩ := t
  refine ⟨ps, by rw [upd_ne (ne_of h1 hp fun z => nomatch z)]; exact h1, h2, fun pos cv hc => ?_⟩
  obtain ⟨c, e1, e2⟩ := h3 pos cv hc
  exact ⟨c, e1, by rw [upd_ne (ne_of e2 hp fun z => by unfold LamX.CodeO at z; cases z)]; exact e2⟩
/-- a list that H does not know may change -/
theorem same_mut {H H' : Hp} {p : Addr} {xs ys : List V} (e : Ext H H') (h : Nt H p) (hp : H' p = some (.lst xs)) : Ext H (upd H' p (.lst ys)) := ⟨fun a u ha n => by
  have ne : a ≠ p := fun z => by
    subst z
    obtain ⟨ps, z⟩ := h u ha
    exact n ps z
  rw [upd_ne ne]
  exact e.keep a u ha n, fun t q hq => tabs_upd hp (e.tabs t q hq)⟩
/-- what stands at addresses in S, and every tuple, is kept -/
structure Keep (S : Addr → Prop) (H H' : Hp) : Prop where
  obj : ∀ a u, S a → Rd H a u → (∀ ps, u ≠ .tbl ps) → Rd H' a u
  ins : ∀ a C dx fs, S a → H a = some (.ins C dx fs) → H' a = some (.ins C dx fs)
  tup : ∀ a xs, Rd H a (.tup xs) → Rd H' a (.tup xs)
theorem Keep.lst {S : Addr → Prop} {H H' : Hp} (k : Keep S H H') (a : Addr) (xs : List V) (s : S a) (h : Rd H a (.lst xs)) : Rd H' a (.lst xs) := k.obj a _ s h fun _ z => nomatch z
theorem Keep.refl {S : Addr → Prop} {H : Hp} : Keep S H H := ⟨fun _ _ _ h _ => h, fun _ _ _ _ _ h => h, fun _ _ h => h⟩
theorem Keep.trans {S : Addr → Prop} {H H1 H2 : Hp} (a : Keep S H H1) (b : Keep S H1 H2) : Keep S H H2 := ⟨fun x o s h n => b.obj x o s (a.obj x o s h n) n, fun x C d f s h => b.ins x C d f s (a.ins x C d f s h), fun x o h => b.tup x o (a.tup x o h)⟩
theorem Keep.of {S : Addr → Prop} {H H' : Hp} (e : Ext H H') : Keep S H H' := ⟨fun a u _ h n => by
  rcases h with h | ⟨o, h⟩
  · exact .inl (e.keep a _ h n)
  · exact .inr ⟨o, e.keep a _ h (fun _ z => nomatch z)⟩, fun a C d f _ h => e.keep a _ h (fun _ z => nomatch z), fun _ _ h => e.rdT h⟩
/-- all but what U holds stays, but that tables may grow; what U holds may change -/
structure Chg (U : Addr → Prop) (H H' : Hp) : Prop where
  keep : ∀ b o, ¬ U b → H b = some o → (∀ ps, o ≠ .tbl ps) → H' b = some o
  tabs : LamX.Tabs Tbs.tabs H → LamX.Tabs Tbs.tabs H'
theorem Chg.keepS {U S : Addr → Prop} {H H' : Hp} (c : Chg U H H') (hs : ∀ a, S a → ¬ U a) (ht : ∀ a xs, U a → ¬ Rd H a (.tup xs)) : Keep S H H' := ⟨fun a u s h n => by
  rcases h with h | ⟨o, h⟩
  · exact .inl (c.keep a _ (hs a s) h n)
  · exact .inr ⟨o, c.keep a _ (hs a s) h (fun _ z => nomatch z)⟩, fun a C d f s h => c.keep a _ (hs a s) h (fun _ z => nomatch z), fun a xs h => by
  have nu : ¬ U a := fun z => ht a xs z h
  rcases h with h | ⟨o, h⟩
  · exact .inl (c.keep a _ nu h fun _ z => nomatch z)
  · exact .inr ⟨o, c.keep a _ nu h fun _ z => nomatch z⟩⟩
/-- one object that is no table and no tuple is changed -/
def Plain : HO → Prop
  | .lst _ | .dK _ | .dT _ | .ins _ _ _ => True
  | _ => False
theorem Plain.ntup {o : HO} (h : Plain o) : (∀ xs, o ≠ .tup xs) ∧ (∀ u v, o ≠ .frz u v) ∧ (∀ ps, o ≠ .tbl ps) ∧ ∀ x, o ≠ .own x := by
  cases o <;> first | exact h.elim | exact ⟨fun _ z => (nomatch z), fun _ _ z => (nomatch z), fun _ z => (nomatch z), fun _ z => (nomatch z)⟩
theorem tabs_pl {H : Hp} {p : Addr} {o u : HO} (hp : H p = some o) (ho : Plain o) {P : Addr} {q : Str} (t : LamX.TabS H P q) : LamX.TabS (upd H p u) P q := by
  obtain ⟨ps, h1, h2, h3⟩ := t
  refine ⟨ps, by rw [upd_ne (ne_of h1 hp fun z => ho.ntup.2.2.1 _ z.symm)]; exact h1, h2, fun pos cv hc => ?_⟩
  obtain ⟨c, e1, e2⟩ := h3 pos cv hc
  exact ⟨c, e1, by rw [upd_ne (ne_of e2 hp fun z => by unfold LamX.CodeO at z; rw [← z] at ho; exact ho)]; exact e2⟩
theorem Chg.upd {H : Hp} {p : Addr} {o u : HO} (hp : H p = some o) (ho : Plain o) : Chg (fun a => a = p) H (upd H p u) := ⟨fun b x n h _ => by
  rw [upd_ne n]
  exact h, fun t q hq => tabs_pl hp ho (t q hq)⟩
theorem ntup_of {H : Hp} {p : Addr} {o : HO} (hp : H p = some o) (ho : Plain o) (a : Addr) (xs : List V) (e : a = p) : ¬ Rd H a (.tup xs) := fun r => by
  subst e
  rcases r with r | ⟨z, r⟩ <;> rw [hp] at r <;> injection r with r
  · exact ho.ntup.1 _ r
  · exact ho.ntup.2.1 _ _ r
theorem Keep.updP {S : Addr → Prop} {H : Hp} {p : Addr} {o u : HO} (hp : H p = some o) (ho : Plain o) (hs : ¬ S p) : Keep S H (upd H p u) := (Chg.upd hp ho).keepS (fun a s z => hs (z ▸ s)) (ntup_of hp ho)
theorem Keep.upd {S : Addr → Prop} {H : Hp} {p : Addr} {xs ys : List V} (hp : H p = some (.lst xs)) (hs : ¬ S p) : Keep S H (upd H p (.lst ys)) := Keep.updP hp trivial hs
/-- fresh addresses lie in S; the tables are well -/
structure Frs (S : Addr → Prop) (H : Hp) : Prop where
  new : ∀ p, Nt H p → S p
  tabs : LamX.Tabs Tbs.tabs H
theorem Frs.fresh {S : Addr → Prop} {H : Hp} (f : Frs S H) (p : Addr) (h : H p = none) : S p := f.new p (.of h)
theorem Frs.same {S : Addr → Prop} {H H' : Hp} (f : Frs S H) (e : Ext H H') : Frs S H' := ⟨fun p h => f.new p (e.nt h), e.tabs f.tabs⟩
theorem sz_of {n : Nat} (h : n ≤ 1000000) : n ≤ sizeLine := Nat.le_trans h (by decide)
theorem sz_lt {n : Nat} (h : n < 1000000) : n < sizeLine := Nat.lt_of_lt_of_le h (by decide)
theorem sqT_keep {K : PySem.W.Frag} {S : Addr → Prop} {H H' : Hp} {a : Addr} {xs : List V} (e : Keep S H H') (h : SqT K H a xs) : SqT K H' a xs := h.imp (e.tup _ _) id

/-! ### data in a heap, its lists at addresses in S -/
theorem rd_keep {S : Addr → Prop} {H H' : Hp} {a : Addr} {xs : List V} (e : Keep S H H') (s : S a) (h : Rd H a (.lst xs)) : Rd H' a (.lst xs) := e.lst a xs s h
theorem rd_nt {H : Hp} {a : Addr} {u : HO} (h : Rd H a u) (n : ∀ ps, u ≠ .tbl ps) : ¬ Nt H a := fun z => by
  rcases h with h | ⟨o, h⟩
  · obtain ⟨ps, e⟩ := z _ h
    exact n ps e
  · obtain ⟨ps, e⟩ := z _ h
    cases e
theorem rd_ntL {H : Hp} {a : Addr} {xs : List V} (h : Rd H a (.lst xs)) : ¬ Nt H a := rd_nt h fun _ z => nomatch z
/-- a key as data -/
def kD : Key → PyData
  | .inl i => .int i
  | .inr x => .str x
/-- the name of what stands at a -/
def rf (a : Addr) : PyData := .dict [(.bool true, .int (a : Int))]
/-- an instance of the class at C with these attributes -/
def insD (C : Addr) (es : List (PyData × PyData)) : PyData := .dict ((.none, .int (C : Int)) :: es)
mutual
inductive Ds (K : PySem.W.Frag) (S : Addr → Prop) (H : Hp) : V → PyData → Prop
  | non : Ds K S H .non .none
  | bl (b : Bool) : Ds K S H (.bl b) (.bool b)
  | int (i : Int) : Ds K S H (.int i) (.int i)
  | str (x : Str) : Ds K S H (.str x) (.str x)
  | lst {a : Addr} {xs : List V} {ds : List PyData} : S a → Rd H a (.lst xs) → DsAll K S H xs ds → Ds K S H (.ref a) (.list ds)
  | tup {a : Addr} {xs : List V} {ds : List PyData} : SqT K H a xs → DsAll K S H xs ds → Ds K S H (.ref a) (.tuple ds)
  | dct {a : Addr} {kvs : List (Key × V)} {es : List (PyData × PyData)} : S a → Rd H a (.dK kvs) → DsP K S H (kvs.map fun p => (kD p.1, p.2)) es → Ds K S H (.ref a) (.dict es)
  | ins {a C dx : Addr} {fs : List (Str × V)} {es : List (PyData × PyData)} : S a → H a = some (.ins C dx fs) → DsP K S H (fs.map fun p => (.str p.1, p.2)) es → Ds K S H (.ref a) (.dict ((.none, .int (C : Int)) :: es))
  | rf (a : Addr) : Ds K S H (.ref a) (.dict [(.bool true, .int (a : Int))])
inductive DsAll (K : PySem.W.Frag) (S : Addr → Prop) (H : Hp) : List V → List PyData → Prop
  | nil : DsAll K S H [] []
  | cons {v : V} {vs : List V} {d : PyData} {ds : List PyData} : Ds K S H v d → DsAll K S H vs ds → DsAll K S H (v :: vs) (d :: ds)
inductive DsP (K : PySem.W.Frag) (S : Addr → Prop) (H : Hp) : List (PyData × V) → List (PyData × PyData) → Prop
  | nil : DsP K S H [] []
  | cons {k d : PyData} {v : V} {vs : List (PyData × V)} {es : List (PyData × PyData)} : Ds K S H v d → DsP K S H vs es → DsP K S H ((k, v) :: vs) ((k, d) :: es)
end
section
variable {K : PySem.W.Frag} {S S' : Addr → Prop} {H H' H1 H2 : Hp} {a : Addr} {xs : List V}
/-- what is read stays, in another region, in another heap -/
structure Mv (S S' : Addr → Prop) (K : PySem.W.Frag) (H H' : Hp) : Prop where
  reg : ∀ a u, S a → Rd H a u → (∀ ps, u ≠ .tbl ps) → S' a ∧ Rd H' a u
  ins : ∀ a C dx fs, S a → H a = some (.ins C dx fs) → S' a ∧ H' a = some (.ins C dx fs)
  tup : ∀ a xs, SqT K H a xs → SqT K H' a xs
mutual
theorem Ds.move (m : Mv S S' K H H') : ∀ {v : V} {d : PyData}, Ds K S H v d → Ds K S' H' v d
  | _, _, .non => .non
  | _, _, .bl b => .bl b
  | _, _, .int i => .int i
  | _, _, .str x => .str x
  | _, _, .lst s h r => .lst (m.reg _ _ s h fun _ z => nomatch z).1 (m.reg _ _ s h fun _ z => nomatch z).2 (DsAll.move m r)
  | _, _, .tup h r => .tup (m.tup _ _ h) (DsAll.move m r)
  | _, _, .dct s h r => .dct (m.reg _ _ s h fun _ z => nomatch z).1 (m.reg _ _ s h fun _ z => nomatch z).2 (DsP.move m r)
  | _, _, .ins s h r => .ins (m.ins _ _ _ _ s h).1 (m.ins _ _ _ _ s h).2 (DsP.move m r)
  | _, _, .rf a => .rf a
theorem DsAll.move (m : Mv S S' K H H') : ∀ {vs : List V} {ds : List PyData}, DsAll K S H vs ds → DsAll K S' H' vs ds
  | _, _, .nil => .nil
  | _, _, .cons h r => .cons (Ds.move m h) (DsAll.move m r)
theorem DsP.move (m : Mv S S' K H H') : ∀ {vs : List (PyData × V)} {ds : List (PyData × PyData)}, DsP K S H vs ds → DsP K S' H' vs ds
  | _, _, .nil => .nil
  | _, _, .cons h r => .cons (Ds.move m h) (DsP.move m r)
end
theorem Mv.keep (e : Keep S H H') : Mv S S K H H' := ⟨fun a u s q n => ⟨s, e.obj a u s q n⟩, fun a C d f s q => ⟨s, e.ins a C d f s q⟩, fun _ _ q => sqT_keep e q⟩
theorem Ds.keep (e : Keep S H H') {v : V} {d : PyData} (h : Ds K S H v d) : Ds K S H' v d := h.move (.keep e)
theorem DsAll.keep (e : Keep S H H') {v : List V} {d : List PyData} (h : DsAll K S H v d) : DsAll K S H' v d := h.move (.keep e)
theorem DsP.keep (e : Keep S H H') {v : List (PyData × V)} {d : List (PyData × PyData)} (h : DsP K S H v d) : DsP K S H' v d := h.move (.keep e)
theorem Ds.same (e : Ext H H') {v : V} {d : PyData} (h : Ds K S H v d) : Ds K S H' v d := h.keep (.of e)
theorem DsAll.same (e : Ext H H') {v : List V} {d : List PyData} (h : DsAll K S H v d) : DsAll K S H' v d := h.keep (.of e)
/-- S' holds all that S holds of what is there -/
def Res (H : Hp) (S S' : Addr → Prop) : Prop := ∀ a, S a → ¬ Nt H a → S' a
theorem Mv.res (w : Res H S S') : Mv S S' K H H := ⟨fun a u s q n => ⟨w a s (rd_nt q n), q⟩, fun a C d f s q => ⟨w a s (rd_nt (.inl q) fun _ z => nomatch z), q⟩, fun _ _ q => q⟩
theorem Ds.res (w : Res H S S') {v : V} {d : PyData} (h : Ds K S H v d) : Ds K S' H v d := h.move (.res w)
theorem DsAll.res (w : Res H S S') {v : List V} {d : List PyData} (h : DsAll K S H v d) : DsAll K S' H v d := h.move (.res w)
theorem DsP.res (w : Res H S S') {v : List (PyData × V)} {d : List (PyData × PyData)} (h : DsP K S H v d) : DsP K S' H v d := h.move (.res w)
theorem Res.of (w : ∀ a, S a → S' a) : Res H S S' := fun a s _ => w a s
theorem Res.ne {D : Addr} (h : H D = none) : Res H S (fun a => S a ∧ a ≠ D) := fun a s q => ⟨s, fun e => q (by
  subst e
  exact .of h)⟩
mutual
theorem Ds.dp : ∀ {v : V} {d : PyData}, Ds K S H v d → d.canLay0 = true → Dp K H v d
  | _, _, .non, _ => .non
  | _, _, .bl b, _ => .bl b
  | _, _, .int i, _ => .int i
  | _, _, .str x, _ => .str x
  | _, _, .lst s h r, c => .lst (.inl h) (DsAll.dp r c)
  | _, _, .tup h r, c => .tup h (DsAll.dp r c)
  | _, _, .dct _ _ _, c => nomatch c
  | _, _, .ins _ _ _, c => nomatch c
  | _, _, .rf _, c => nomatch c
theorem DsAll.dp : ∀ {vs : List V} {ds : List PyData}, DsAll K S H vs ds → PyData.canLayAll0 ds = true → DpAll K H vs ds
  | _, _, .nil, _ => .nil
  | _, _, .cons h r, c => .cons (Ds.dp h (Bool.and_eq_true_iff.mp c).1) (DsAll.dp r (Bool.and_eq_true_iff.mp c).2)
end
theorem sh_lay {d : PyData} (h : SeqAt.shaped d = true) : d.canLay0 = true := (Bool.and_eq_true_iff.mp h).1
theorem DsAll.len : ∀ {vs : List V} {ds : List PyData}, DsAll K S H vs ds → vs.length = ds.length
  | _, _, .nil => rfl
  | _, _, .cons _ r => by rw [List.length_cons, List.length_cons, r.len]
theorem DsAll.at : ∀ {vs : List V} {ds : List PyData} {i : Nat} {d : PyData}, DsAll K S H vs ds → ds[i]? = some d → ∃ v, vs[i]? = some v ∧ Ds K S H v d
  | _, _, _, _, .nil, e => by simp at e
  | _, _, 0, _, .cons h _, e => by
    simp at e
    subst e
    exact ⟨_, rfl, h⟩
  | _, _, i + 1, d, .cons _ t, e => by
    obtain ⟨u, h1, h2⟩ := DsAll.at (i := i) (d := d) t (by simpa using e)
    exact ⟨u, by simpa using h1, h2⟩
theorem DsAll.at' : ∀ {vs : List V} {ds : List PyData} {i : Nat} {v : V}, DsAll K S H vs ds → vs[i]? = some v → ∃ d, ds[i]? = some d ∧ Ds K S H v d
  | _, _, _, _, .nil, e => by simp at e
  | _, _, 0, _, .cons h _, e => by
    simp at e
    subst e
    exact ⟨_, rfl, h⟩
  | _, _, i + 1, d, .cons _ t, e => by
    obtain ⟨u, h1, h2⟩ := DsAll.at' (i := i) (v := d) t (by simpa using e)
    exact ⟨u, by simpa using h1, h2⟩
theorem DsAll.app : ∀ {vs ws : List V} {ds es : List PyData}, DsAll K S H vs ds → DsAll K S H ws es → DsAll K S H (vs ++ ws) (ds ++ es)
  | _, _, _, _, .nil, h => h
  | _, _, _, _, .cons a r, h => .cons a (r.app h)
theorem DsAll.one {v : V} {d : PyData} (h : Ds K S H v d) : DsAll K S H [v] [d] := .cons h .nil
theorem DsAll.take : ∀ (n : Nat) {vs : List V} {ds : List PyData}, DsAll K S H vs ds → DsAll K S H (vs.take n) (ds.take n)
  | 0, _, _, _ => .nil
  | _ + 1, _, _, .nil => .nil
  | n + 1, _, _, .cons h r => .cons h (r.take n)
theorem DsAll.drop : ∀ (n : Nat) {vs : List V} {ds : List PyData}, DsAll K S H vs ds → DsAll K S H (vs.drop n) (ds.drop n)
  | 0, _, _, h => h
  | _ + 1, _, _, .nil => .nil
  | n + 1, _, _, .cons _ r => r.drop n
theorem DsAll.rev : ∀ {vs : List V} {ds : List PyData}, DsAll K S H vs ds → DsAll K S H vs.reverse ds.reverse
  | _, _, .nil => .nil
  | _, _, .cons h r => by
    rw [List.reverse_cons, List.reverse_cons]
    exact (r.rev).app (.one h)
theorem DsAll.ints : ∀ (ns : List Int), DsAll K S H (ns.map V.int) (ns.map PyData.int)
  | [] => .nil
  | n :: r => .cons (.int n) (DsAll.ints r)
theorem DsAll.ofInts : ∀ {ns : List Int} {vs : List V}, DsAll K S H vs (ns.map PyData.int) → vs = ns.map V.int
  | [], _, h => by
    cases h
    rfl
  | n :: r, _, h => by
    cases h with
    | cons h1 h2 =>
      cases h1
      rw [DsAll.ofInts h2]
      rfl
theorem DsAll.ofBools : ∀ {ns : List Bool} {vs : List V}, DsAll K S H vs (ns.map PyData.bool) → vs = ns.map V.bl
  | [], _, h => by
    cases h
    rfl
  | n :: r, _, h => by
    cases h with
    | cons h1 h2 =>
      cases h1
      rw [DsAll.ofBools h2]
      rfl
theorem DsAll.nil_inv {vs : List V} (h : DsAll K S H vs []) : vs = [] := by
  cases h
  rfl
theorem DsAll.one_inv {vs : List V} {d : PyData} (h : DsAll K S H vs [d]) : ∃ v, vs = [v] ∧ Ds K S H v d := by
  cases h with
  | cons h1 h2 =>
    cases h2
    exact ⟨_, rfl, h1⟩
theorem DsAll.two {vs : List V} {d e : PyData} (h : DsAll K S H vs [d, e]) : ∃ v w, vs = [v, w] ∧ Ds K S H v d ∧ Ds K S H w e := by
  cases h with
  | cons h1 h2 =>
    obtain ⟨w, rfl, h3⟩ := h2.one_inv
    exact ⟨_, _, rfl, h1, h3⟩
theorem DsAll.three {vs : List V} {d e f : PyData} (h : DsAll K S H vs [d, e, f]) : ∃ v w u, vs = [v, w, u] ∧ Ds K S H v d ∧ Ds K S H w e ∧ Ds K S H u f := by
  cases h with
  | cons h1 h2 =>
    obtain ⟨w, u, rfl, h3, h4⟩ := h2.two
    exact ⟨_, _, _, rfl, h1, h3, h4⟩
theorem DsAll.cons_inv {vs : List V} {d : PyData} {ds : List PyData} (h : DsAll K S H vs (d :: ds)) : ∃ v ws, vs = v :: ws ∧ Ds K S H v d ∧ DsAll K S H ws ds := by
  cases h with
  | cons h1 h2 => exact ⟨_, _, rfl, h1, h2⟩
/-- an index of any sign -/
theorem DsAll.atI {vs : List V} {ds : List PyData} {i : Int} {d : PyData} (h : DsAll K S H vs ds) (e : L2.atI ds i = some d) : ∃ v, L2.atI vs i = some v ∧ Ds K S H v d := by
  unfold L2.atI at e ⊢
  rw [h.len]
  cases q : ixN ds.length i with
  | none =>
    rw [q] at e
    cases e
  | some j =>
    rw [q] at e
    exact h.at e
/-- what a slice holds -/
def cutD (xs : List PyData) (lo hi : Option Int) : List PyData := (xs.drop (HT.sIx xs.length 0 lo)).take (HT.sIx xs.length xs.length hi - HT.sIx xs.length 0 lo)
theorem DsAll.cut {vs : List V} {ds : List PyData} (h : DsAll K S H vs ds) (lo hi : Option Int) : DsAll K S H (cutV vs lo hi) (cutD ds lo hi) := by
  unfold cutV cutD
  rw [h.len]
  exact (h.drop _).take _
theorem Ds.int_inv {v : V} {i : Int} (h : Ds K S H v (.int i)) : v = .int i := by
  cases h
  rfl
theorem Ds.bl_inv {v : V} {i : Bool} (h : Ds K S H v (.bool i)) : v = .bl i := by
  cases h
  rfl
theorem Ds.str_inv {v : V} {i : Str} (h : Ds K S H v (.str i)) : v = .str i := by
  cases h
  rfl
theorem Ds.lst_inv {v : V} {ds : List PyData} (h : Ds K S H v (.list ds)) : ∃ a xs, v = .ref a ∧ S a ∧ Rd H a (.lst xs) ∧ DsAll K S H xs ds := by
  cases h with
  | lst s h r => exact ⟨_, _, rfl, s, h, r⟩
theorem Ds.tup_inv {v : V} {ds : List PyData} (h : Ds K S H v (.tuple ds)) : ∃ a xs, v = .ref a ∧ SqT K H a xs ∧ DsAll K S H xs ds := by
  cases h with
  | tup h r => exact ⟨_, _, rfl, h, r⟩
end

/-! ### pictures as data -/
def il (ns : List Int) : PyData := .list (ns.map .int)
def pic (rows : List (List Int)) : PyData := .list (rows.map il)

/-! ### slots that hold data -/
abbrev Gm := List (Option PyData)
structure Fits (K : PySem.W.Frag) (S : Addr → Prop) (γ : Gm) (σ : L2.St) (H : Hp) : Prop where
  len : σ.length = γ.length
  get : ∀ (i : Nat) (d : PyData), γ[i]? = some (some d) → ∃ v, σ[i]? = some (some v) ∧ Ds K S H v d
def wipeG (γ : Gm) : List Nat → Gm
  | [] => γ
  | v :: vs => (wipeG γ vs).set v none
section
variable {K : PySem.W.Frag} {S S' : Addr → Prop} {γ : Gm} {σ : L2.St} {H H' : Hp}
theorem Fits.keep (e : Keep S H H') (h : Fits K S γ σ H) : Fits K S γ σ H' := ⟨h.len, fun i d q => let ⟨v, a, b⟩ := h.get i d q; ⟨v, a, b.keep e⟩⟩
theorem Fits.same (e : Ext H H') (h : Fits K S γ σ H) : Fits K S γ σ H' := h.keep (.of e)
theorem Fits.res (w : Res H S S') (h : Fits K S γ σ H) : Fits K S' γ σ H := ⟨h.len, fun i d q => let ⟨v, a, b⟩ := h.get i d q; ⟨v, a, b.res w⟩⟩
theorem Fits.set (h : Fits K S γ σ H) (i : Nat) {v : V} {d : PyData} (hv : Ds K S H v d) : Fits K S (γ.set i (some d)) (σ.set i (some v)) H := ⟨by rw [List.length_set, List.length_set, h.len], fun j e q => by
  by_cases hj : i = j
  · subst hj
    by_cases hi : i < γ.length
    · rw [List.getElem?_set_self hi] at q
      cases q
      exact ⟨v, List.getElem?_set_self (by rw [h.len]; exact hi), hv⟩
    · rw [List.getElem?_eq_none (by rw [List.length_set]; omega)] at q
      cases q
  · rw [List.getElem?_set_ne hj] at q ⊢
    exact h.get j e q⟩
theorem Fits.forget (h : Fits K S γ σ H) (i : Nat) (v : Option V) : Fits K S (γ.set i none) (σ.set i v) H := ⟨by rw [List.length_set, List.length_set, h.len], fun j e q => by
  by_cases hj : i = j
  · subst hj
    by_cases hi : i < γ.length
    · rw [List.getElem?_set_self hi] at q
      cases q
    · rw [List.getElem?_eq_none (by rw [List.length_set]; omega)] at q
      cases q
  · rw [List.getElem?_set_ne hj] at q ⊢
    exact h.get j e q⟩
theorem Fits.wipe (h : Fits K S γ σ H) : ∀ vs : List Nat, Fits K S (wipeG γ vs) (L2.wipe σ vs) H
  | [] => h
  | v :: vs => (Fits.wipe h vs).forget v none
theorem set_comm' {α : Type} (l : List α) (i j : Nat) (x : α) : (l.set i x).set j x = (l.set j x).set i x := by
  by_cases h : i = j
  · rw [h]
  · exact List.set_comm _ _ h
theorem wipe_set (j : Nat) (x : Option V) : ∀ (vs : List Nat) (σ : L2.St), L2.wipe (σ.set j x) (vs) = if j ∈ vs then L2.wipe σ vs else (L2.wipe σ vs).set j x
  | [], σ => by
    simp
    rfl
  | v :: vs, σ => by
    show (L2.wipe (σ.set j x) vs).set v none = _
    rw [wipe_set j x vs σ]
    by_cases h1 : j ∈ vs
    · rw [if_pos h1, if_pos (List.mem_cons_of_mem _ h1)]
      rfl
    · rw [if_neg h1]
      by_cases h2 : j = v
      · subst h2
        rw [if_pos List.mem_cons_self, List.set_set]
        rfl
      · rw [if_neg (by simp [h1, h2]), List.set_comm _ _ h2]
        rfl
theorem wipe_none (vs : List Nat) (σ : L2.St) (v : Nat) : L2.wipe (σ.set v none) vs = (L2.wipe σ vs).set v none := by
  rw [wipe_set]
  split
  · rename_i h
    induction vs with
    | nil => cases h
    | cons w ws ih =>
      show (L2.wipe σ ws).set w none = ((L2.wipe σ ws).set w none).set v none
      by_cases hw : v = w
      · rw [hw, List.set_set]
      · rw [set_comm', ← ih (by simpa [hw] using h)]
  · rfl
theorem wipe_wipe (σ : L2.St) : ∀ (ws vs : List Nat), L2.wipe (L2.wipe σ ws) vs = L2.wipe (L2.wipe σ vs) ws
  | [], _ => rfl
  | w :: ws, vs => by
    show L2.wipe ((L2.wipe σ ws).set w none) vs = (L2.wipe (L2.wipe σ vs) ws).set w none
    rw [wipe_none, wipe_wipe σ ws vs]
theorem wipe_idem (σ : L2.St) : ∀ (vs : List Nat), L2.wipe (L2.wipe σ vs) vs = L2.wipe σ vs
  | [] => rfl
  | v :: vs => by
    show (L2.wipe ((L2.wipe σ vs).set v none) vs).set v none = (L2.wipe σ vs).set v none
    rw [wipe_none, List.set_set, wipe_idem σ vs]
theorem wipe_in {σ : L2.St} {vs : List Nat} {j : Nat} (h : j ∈ vs) (x : Option V) : L2.wipe ((L2.wipe σ vs).set j x) vs = L2.wipe σ vs := by
  rw [wipe_set, if_pos h, wipe_idem]
theorem wipe_in2 {σ : L2.St} {vs : List Nat} {j k : Nat} (h : j ∈ vs) (h2 : k ∈ vs) (x y : Option V) : L2.wipe (((L2.wipe σ vs).set j x).set k y) vs = L2.wipe σ vs := by
  rw [wipe_set, if_pos h2, wipe_in h]
end

/-! ### what an expression evaluates to -/
def Ev (K : PySem.W.Frag) (γ : Gm) (te : TE) (d : PyData) : Prop :=
  ∀ (S : Addr → Prop) (σ : L2.St) (H : Hp), Fits K S γ σ H → Frs S H → ∀ Q : VK, (∀ v H2, Ext H H2 → Ds K S H2 v d → Q v H2) → te σ H Q
def EvB (K : PySem.W.Frag) (γ : Gm) (tt : TT) (b : Bool) : Prop :=
  ∀ (S : Addr → Prop) (σ : L2.St) (H : Hp), Fits K S γ σ H → Frs S H → ∀ Q : Bool → Hp → Prop, (∀ H2, Ext H H2 → Q b H2) → tt σ H Q
def EvA (K : PySem.W.Frag) (γ : Gm) (ta : TA) (ds : List PyData) : Prop :=
  ∀ (S : Addr → Prop) (σ : L2.St) (H : Hp), Fits K S γ σ H → Frs S H → ∀ Q : List V → Hp → Prop, (∀ vs H2, Ext H H2 → DsAll K S H2 vs ds → Q vs H2) → ta σ H Q
def EvP (K : PySem.W.Frag) (γ : Gm) (tp : TO) (o : Option Int) : Prop :=
  ∀ (S : Addr → Prop) (σ : L2.St) (H : Hp), Fits K S γ σ H → Frs S H → ∀ Q : Option Int → Hp → Prop, (∀ H2, Ext H H2 → Q o H2) → tp σ H Q
/-- what is walked: n turns, the i-th item is y i -/
def EvW (K : PySem.W.Frag) (γ : Gm) (ti : TI) (n : Nat) (y : Nat → PyData) : Prop :=
  ∀ (S : Addr → Prop) (σ : L2.St) (H : Hp), Fits K S γ σ H → Frs S H → ∀ R : It → Hp → Prop,
    (∀ (J : It) (H2 : Hp), Ext H H2 → (∀ S', Res H2 S S' → ∃ G : Hp → Prop, Walk J n G (fun i H x H' => Ext H H' ∧ Ds K S' H' x (y i)) ∧ G H2 ∧ ∀ H3 H4, Keep S' H3 H4 → G H3 → G H4) → R J H2) → ti σ H R
/-- an operation on values, a call on values -/
def EvO (K : PySem.W.Frag) (r : R2) (x y z : PyData) : Prop :=
  ∀ (S : Addr → Prop) (v w : V) (H : Hp), Frs S H → Ds K S H v x → Ds K S H w y → ∀ Q : VK, (∀ u H2, Ext H H2 → Ds K S H2 u z → Q u H2) → r v w H Q
def EvC (K : PySem.W.Frag) (r : List V → Hp → VK → Prop) (xs : List PyData) (z : PyData) : Prop :=
  ∀ (S : Addr → Prop) (vs : List V) (H : Hp), Frs S H → DsAll K S H vs xs → ∀ Q : VK, (∀ u H2, Ext H H2 → Ds K S H2 u z → Q u H2) → r vs H Q
/-- a target's store: the slots' data behind it -/
def EvG (K : PySem.W.Frag) (g : TG) (γ : Gm) (d : PyData) (γ' : Gm) : Prop :=
  ∀ (S : Addr → Prop) (σ : L2.St) (v : V) (H : Hp), Fits K S γ σ H → Ds K S H v d → ∀ Q : L2.St → Hp → Prop, (∀ σ', Fits K S γ' σ' H → Q σ' H) → g v σ H Q

section
variable {K : PySem.W.Frag} {S : Addr → Prop} {γ γ' : Gm} {σ : L2.St} {H H' : Hp} {ta tb tc te : TE} {t u : TT} {x y z d : PyData} {r : R2} {v : V}
theorem Ev.is {d' : PyData} (h : Ev K γ te d) (e : d = d') : Ev K γ te d' := e ▸ h
theorem EvB.is {b b' : Bool} (h : EvB K γ t b) (e : b = b') : EvB K γ t b' := e ▸ h
theorem ev_var {i : Nat} (h : γ[i]? = some (some d)) : Ev K γ (tVar i) d := fun S σ H f _ Q q =>
  let ⟨v, a, b⟩ := f.get i d h
  ⟨v, a, q v H (Ext.refl H) b⟩
theorem ev_c (hd : ∀ S H, Ds K S H v d) : Ev K γ (tC v) d := fun S σ H _ _ _ q => q v H (Ext.refl H) (hd _ _)
theorem ev_int {i : Int} : Ev K γ (tC (.int i)) (.int i) := ev_c fun _ _ => .int i
theorem ev_bl {i : Bool} : Ev K γ (tC (.bl i)) (.bool i) := ev_c fun _ _ => .bl i
theorem ev_non : Ev K γ (tC .non) .none := ev_c fun _ _ => .non
theorem ev_str {i : Str} : Ev K γ (tC (.str i)) (.str i) := ev_c fun _ _ => .str i
theorem ev_op (ha : Ev K γ ta x) (hb : Ev K γ tb y) (hr : EvO K r x y z) : Ev K γ (tOp r ta tb) z := fun S σ H f fr Q q =>
  ha S σ H f fr _ fun v H2 e2 hv => hb S σ H2 (f.same e2) (fr.same e2) _ fun w H3 e3 hw => hr S v w H3 ((fr.same e2).same e3) (hv.same e3) hw Q fun u H4 e4 hu => q u H4 ((e2.trans e3).trans e4) hu
theorem ea_nil : EvA K γ tNil [] := fun _ _ H _ _ _ q => q [] H (Ext.refl H) .nil
theorem ea_cons {tr : TA} {ds : List PyData} (ha : Ev K γ ta x) (hr : EvA K γ tr ds) : EvA K γ (tCons ta tr) (x :: ds) := fun S σ H f fr Q q =>
  ha S σ H f fr _ fun v H2 e2 hv => hr S σ H2 (f.same e2) (fr.same e2) _ fun vs H3 e3 hvs => q (v :: vs) H3 (e2.trans e3) (.cons (hv.same e3) hvs)
theorem ev_cb {r : List V → Hp → VK → Prop} {ta : TA} {xs : List PyData} (ha : EvA K γ ta xs) (hr : EvC K r xs z) : Ev K γ (tCB r ta) z := fun S σ H f fr Q q =>
  ha S σ H f fr _ fun vs H2 e2 hv => hr S vs H2 (fr.same e2) hv Q fun u H3 e3 hu => q u H3 (e2.trans e3) hu
theorem ev_tup {ta : TA} {xs : List PyData} (ha : EvA K γ ta xs) (hz : xs.length ≤ 1000000 := by exact Nat.le_of_ble_eq_true rfl) : Ev K γ (tTup ta) (.tuple xs) := fun S σ H f fr Q q =>
  ha S σ H f fr _ fun vs H2 e2 hv => ⟨sz_of (by rw [hv.len]; exact hz), fun p hp => q (.ref p) _ (e2.trans (same_new hp)) (.tup (SqT.of upd_same) (hv.same (same_new hp)))⟩
theorem ev_lst {ta : TA} {xs : List PyData} (ha : EvA K γ ta xs) (hz : xs.length ≤ 1000000 := by exact Nat.le_of_ble_eq_true rfl) : Ev K γ (tLst ta) (.list xs) := fun S σ H f fr Q q =>
  ha S σ H f fr _ fun vs H2 e2 hv => ⟨sz_of (by rw [hv.len]; exact hz), fun p hp => q (.ref p) _ (e2.trans (same_new hp)) (.lst ((fr.same e2).fresh p hp) (.inl upd_same) (hv.same (same_new hp)))⟩
theorem ev_ifE {b : Bool} (h : EvB K γ t b) (h1 : b = true → Ev K γ ta d) (h2 : b = false → Ev K γ tb d) : Ev K γ (tIf t ta tb) d := fun S σ H f fr Q q => h S σ H f fr _ fun H2 e2 => by
  cases b with
  | true =>
    show ta σ H2 Q
    exact h1 rfl S σ H2 (f.same e2) (fr.same e2) Q fun v H3 e3 hv => q v H3 (e2.trans e3) hv
  | false =>
    show tb σ H2 Q
    exact h2 rfl S σ H2 (f.same e2) (fr.same e2) Q fun v H3 e3 hv => q v H3 (e2.trans e3) hv
theorem eb_test {b : Bool} (h : Ev K γ te (.bool b)) : EvB K γ (tTest te) b := fun S σ H f fr Q q => h S σ H f fr _ fun v H2 e2 hv => ⟨b, hv.bl_inv, q H2 e2⟩
theorem eb_B {b : Bool} (h : Ev K γ te (.bool b)) : EvB K γ (tB te) b := fun S σ H f fr Q q => h S σ H f fr _ fun v H2 e2 hv => ⟨b, hv.bl_inv, q H2 e2⟩
theorem eb_and {a b : Bool} (h1 : EvB K γ t a) (h2 : a = true → EvB K γ u b) : EvB K γ (tAnd t u) (a && b) := fun S σ H f fr Q q => h1 S σ H f fr _ fun H2 e2 => by
  cases a with
  | true =>
    show u σ H2 Q
    exact h2 rfl S σ H2 (f.same e2) (fr.same e2) Q fun H3 e3 => q H3 (e2.trans e3)
  | false =>
    show Q false H2
    exact q H2 e2
theorem eb_or {a b : Bool} (h1 : EvB K γ t a) (h2 : a = false → EvB K γ u b) : EvB K γ (tOr t u) (a || b) := fun S σ H f fr Q q => h1 S σ H f fr _ fun H2 e2 => by
  cases a with
  | true =>
    show Q true H2
    exact q H2 e2
  | false =>
    show u σ H2 Q
    exact h2 rfl S σ H2 (f.same e2) (fr.same e2) Q fun H3 e3 => q H3 (e2.trans e3)
theorem eb_not {a : Bool} (h1 : EvB K γ t a) : EvB K γ (tNot t) (!a) := fun S σ H f fr _ q => h1 S σ H f fr _ fun H2 e2 => q H2 e2
theorem eb_yes : EvB K γ tYes true := fun _ _ H _ _ _ q => q H (Ext.refl H)
theorem ev_andV {a b : Bool} (h1 : Ev K γ ta (.bool a)) (h2 : a = true → Ev K γ tb (.bool b)) : Ev K γ (tAndV ta tb) (.bool (a && b)) := fun S σ H f fr Q q => h1 S σ H f fr _ fun v H2 e2 hv => ⟨a, hv.bl_inv, by
  cases a with
  | true =>
    show tb σ H2 Q
    exact h2 rfl S σ H2 (f.same e2) (fr.same e2) Q fun w H3 e3 hw => q w H3 (e2.trans e3) hw
  | false =>
    show Q (.bl false) H2
    exact q _ H2 e2 (.bl _)⟩
theorem ev_orV {a b : Bool} (h1 : Ev K γ ta (.bool a)) (h2 : a = false → Ev K γ tb (.bool b)) : Ev K γ (tOrV ta tb) (.bool (a || b)) := fun S σ H f fr Q q => h1 S σ H f fr _ fun v H2 e2 hv => ⟨a, hv.bl_inv, by
  cases a with
  | true =>
    show Q (.bl true) H2
    exact q _ H2 e2 (.bl _)
  | false =>
    show tb σ H2 Q
    exact h2 rfl S σ H2 (f.same e2) (fr.same e2) Q fun w H3 e3 hw => q w H3 (e2.trans e3) hw⟩
theorem ev_notV {a : Bool} (h1 : Ev K γ ta (.bool a)) : Ev K γ (tNotV ta) (.bool (!a)) := fun S σ H f fr _ q => h1 S σ H f fr _ fun v H2 e2 hv => ⟨a, hv.bl_inv, q _ H2 e2 (.bl _)⟩
theorem ev_un {g : Int → V} {i : Int} (h : Ev K γ ta (.int i)) (hz : ∀ S H, Ds K S H (g i) z) : Ev K γ (tUn (rU g) ta) z := fun S σ H f fr _ q => h S σ H f fr _ fun v H2 e2 hv => ⟨i, hv.int_inv, q _ H2 e2 (hz _ _)⟩

/-! operations -/
theorem eo_I0 {g : Int → Int → V} {i j : Int} (hz : ∀ S H, Ds K S H (g i j) z) : EvO K (rI0 g) (.int i) (.int j) z := fun S v w H _ hv hw Q q => ⟨i, j, hv.int_inv, hw.int_inv, q _ H (Ext.refl _) (hz _ _)⟩
theorem eo_I {C : Int → Int → Prop} {g : Int → Int → V} {i j : Int} (hc : C i j) (hz : ∀ S H, Ds K S H (g i j) z) : EvO K (rI C g) (.int i) (.int j) z := fun S v w H _ hv hw Q q => ⟨i, j, hv.int_inv, hw.int_inv, hc, q _ H (Ext.refl _) (hz _ _)⟩
theorem eo_eqD (h1 : SeqAt.shaped x = true) (h2 : SeqAt.shaped y = true) : EvO K (rEqD K) x y (.bool (PyData.eqv x y)) := fun S v w H _ hv hw Q q => ⟨x, y, hv.dp (sh_lay h1), hw.dp (sh_lay h2), h1, h2, q _ H (Ext.refl _) (.bl _)⟩
theorem eo_neD (h1 : SeqAt.shaped x = true) (h2 : SeqAt.shaped y = true) : EvO K (rNeD K) x y (.bool (!PyData.eqv x y)) := fun S v w H _ hv hw Q q => ⟨x, y, hv.dp (sh_lay h1), hw.dp (sh_lay h2), h1, h2, q _ H (Ext.refl _) (.bl _)⟩
theorem eo_ixL {ds : List PyData} {i : Int} (h : L2.atI ds i = some z) : EvO K (rIxL K) (.list ds) (.int i) z := fun S v w H _ hv hw Q q => by
  obtain ⟨a, xs, rfl, s, hq, hall⟩ := hv.lst_inv
  obtain ⟨u, hu, hd⟩ := hall.atI h
  exact ⟨a, xs, i, u, rfl, hw.int_inv, .inl hq, hu, q u H (Ext.refl _) hd⟩
theorem eo_ixT {ds : List PyData} {i : Int} (h : L2.atI ds i = some z) : EvO K (rIxT K) (.tuple ds) (.int i) z := fun S v w H _ hv hw Q q => by
  obtain ⟨a, xs, rfl, hq, hall⟩ := hv.tup_inv
  obtain ⟨u, hu, hd⟩ := hall.atI h
  exact ⟨a, xs, i, u, rfl, hw.int_inv, hq, hu, q u H (Ext.refl _) hd⟩
/-- xs[i], t[i] -/
def rIxU (K : PySem.W.Frag) : R2 := fun x y H Q => rIxL K x y H Q ∨ rIxT K x y H Q
theorem ix_U {X : Cx} : IxR X (rIxU X.K) := ix_list.or ix_tup
theorem eo_ixUL {ds : List PyData} {i : Int} (h : L2.atI ds i = some z) : EvO K (rIxU K) (.list ds) (.int i) z := fun S v w H f hv hw Q q => .inl (eo_ixL h S v w H f hv hw Q q)
theorem eo_ixUT {ds : List PyData} {i : Int} (h : L2.atI ds i = some z) : EvO K (rIxU K) (.tuple ds) (.int i) z := fun S v w H f hv hw Q q => .inr (eo_ixT h S v w H f hv hw Q q)
/-! slices -/
theorem ep_none : EvP K γ tNoPart none := fun _ _ H _ _ _ q => q H (Ext.refl H)
theorem ep_some {i : Int} (h : Ev K γ te (.int i)) : EvP K γ (tPart te) (some i) := fun S σ H f fr Q q => h S σ H f fr _ fun v H2 e2 hv => ⟨i, hv.int_inv, q H2 e2⟩
theorem ev_slL {ds : List PyData} {tl th : TO} {lo hi : Option Int} (h : Ev K γ te (.list ds)) (hl : EvP K γ tl lo) (hh : EvP K γ th hi) : Ev K γ (tSl (rSlL K) te tl th) (.list (cutD ds lo hi)) := fun S σ H f fr Q q =>
  h S σ H f fr _ fun v H2 e2 hv => hl S σ H2 (f.same e2) (fr.same e2) _ fun H3 e3 => hh S σ H3 ((f.same e2).same e3) ((fr.same e2).same e3) _ fun H4 e4 => by
    obtain ⟨a, xs, rfl, s, hq, hall⟩ := (hv.same (e3.trans e4)).lst_inv
    exact ⟨a, xs, rfl, .inl hq, fun p hp => q _ _ (((e2.trans e3).trans e4).trans (same_new hp)) (.lst ((((fr.same e2).same e3).same e4).fresh p hp) (.inl upd_same) ((hall.cut lo hi).same (same_new hp)))⟩

/-! built-in calls -/
def rLenU (K : PySem.W.Frag) : List V → Hp → VK → Prop := fun xs H Q => ∃ p ys, xs = [.ref p] ∧ (SqL K H p ys ∨ SqT K H p ys) ∧ Q (.int ys.length) H
theorem cr_lenU {X : Cx} : CallR X (.builtin "len") (rLenU X.K) := call_len_seq
theorem ec_lenL {ds : List PyData} : EvC K (rLenU K) [.list ds] (.int ds.length) := fun S vs H _ hv Q q => by
  obtain ⟨v, rfl, h1⟩ := hv.one_inv
  obtain ⟨a, xs, rfl, s, hq, hall⟩ := h1.lst_inv
  refine ⟨a, xs, rfl, .inl (.inl hq), q _ H (Ext.refl _) ?_⟩
  rw [hall.len]
  exact .int _
theorem ec_lenT {ds : List PyData} : EvC K (rLenU K) [.tuple ds] (.int ds.length) := fun S vs H _ hv Q q => by
  obtain ⟨v, rfl, h1⟩ := hv.one_inv
  obtain ⟨a, xs, rfl, hq, hall⟩ := h1.tup_inv
  refine ⟨a, xs, rfl, .inr hq, q _ H (Ext.refl _) ?_⟩
  rw [hall.len]
  exact .int _
def rListU (K : PySem.W.Frag) : List V → Hp → VK → Prop := fun xs H Q => ∃ p ys, xs = [.ref p] ∧ (SqL K H p ys ∨ SqT K H p ys) ∧ ∀ l, H l = none → Q (.ref l) (upd H l (.lst ys))
theorem cr_listU {X : Cx} : CallR X (.type "list") (rListU X.K) := call_list_of
theorem ec_listL {ds : List PyData} : EvC K (rListU K) [.list ds] (.list ds) := fun S vs H f hv Q q => by
  obtain ⟨v, rfl, h1⟩ := hv.one_inv
  obtain ⟨a, xs, rfl, s, hq, hall⟩ := h1.lst_inv
  exact ⟨a, xs, rfl, .inl (.inl hq), fun l hl => q _ _ (same_new hl) (.lst (f.fresh l hl) (.inl upd_same) (hall.same (same_new hl)))⟩
def rAbs : List V → Hp → VK → Prop := fun xs H Q => ∃ i, xs = [.int i] ∧ Q (.int (if i < 0 then -i else i)) H
theorem cr_abs {X : Cx} : CallR X (.builtin "abs") rAbs := call_abs
theorem ec_abs {i : Int} : EvC K rAbs [.int i] (.int (if i < 0 then -i else i)) := fun S vs H f hv Q q => by
  obtain ⟨v, rfl, h1⟩ := hv.one_inv
  exact ⟨i, by rw [h1.int_inv], q _ H (Ext.refl _) (.int _)⟩
theorem ec_sum {ns : List Int} : EvC K (rSum K) [.list (ns.map .int)] (.int ns.sum) := fun S vs H f hv Q q => by
  obtain ⟨v, rfl, h1⟩ := hv.one_inv
  obtain ⟨a, xs, rfl, s, hq, hall⟩ := h1.lst_inv
  rw [hall.ofInts] at hq
  exact ⟨a, ns, rfl, .inl hq, q _ H (Ext.refl _) (.int _)⟩
theorem ec_all {bs : List Bool} : EvC K (rAll K) [.list (bs.map .bool)] (.bool (bs.all id)) := fun S vs H f hv Q q => by
  obtain ⟨v, rfl, h1⟩ := hv.one_inv
  obtain ⟨a, xs, rfl, s, hq, hall⟩ := h1.lst_inv
  rw [hall.ofBools] at hq
  exact ⟨a, bs, rfl, .inl hq, q _ H (Ext.refl _) (.bl _)⟩
theorem ev_revL {ds : List PyData} (h : Ev K γ te (.list ds)) : Ev K γ (tRevL K te) (.list ds.reverse) := fun S σ H f fr Q q => h S σ H f fr _ fun v H2 e2 hv => by
  obtain ⟨a, xs, rfl, s, hq, hall⟩ := hv.lst_inv
  exact ⟨a, xs, rfl, .inl hq, fun p hp => q _ _ (e2.trans (same_new hp)) (.lst ((fr.same e2).fresh p hp) (.inl upd_same) (hall.rev.same (same_new hp)))⟩

/-! walks -/
theorem ew_list {ds : List PyData} (h : Ev K γ te (.list ds)) : EvW K γ (iList K te) ds.length (fun i => ds.getD i .none) := fun S σ H f fr R q => h S σ H f fr _ fun v H2 e2 hv => by
  obtain ⟨a, xs, rfl, s, hq, hall⟩ := hv.lst_inv
  refine ⟨a, rfl, ⟨xs, .inl hq⟩, q (Itl K a) H2 e2 fun S' w => ⟨fun H => Rd H a (.lst xs) ∧ DsAll K S' H xs ds, ?_, ⟨hq, hall.res w⟩, fun H3 H4 k g => ⟨rd_keep k (w a s (rd_ntL hq)) g.1, g.2.keep k⟩⟩⟩
  rw [← hall.len]
  refine Walk.mono (walk_list (K := K) (a := a) (xs := xs)) (fun _ g => .inl g.1) fun i H x H' hi g y => ?_
  obtain ⟨e1, e2⟩ := y
  subst e1
  obtain ⟨d, hd, hx⟩ := g.2.at' e2
  refine ⟨Ext.refl _, ?_⟩
  show Ds K S' H' x (ds.getD i .none)
  rw [List.getD_eq_getElem?_getD, hd]
  exact hx
theorem ew_tup {ds : List PyData} (h : Ev K γ te (.tuple ds)) : EvW K γ (iTup K te) ds.length (fun i => ds.getD i .none) := fun S σ H f fr R q => h S σ H f fr _ fun v H2 e2 hv => by
  obtain ⟨a, xs, rfl, hq, hall⟩ := hv.tup_inv
  refine ⟨a, rfl, ⟨xs, hq⟩, q (Itt K a) H2 e2 fun S' w => ⟨fun H => SqT K H a xs ∧ DsAll K S' H xs ds, ?_, ⟨hq, hall.res w⟩, fun H3 H4 k g => ⟨sqT_keep k g.1, g.2.keep k⟩⟩⟩
  rw [← hall.len]
  refine Walk.mono (walk_tup (K := K) (a := a) (xs := xs)) (fun _ g => g.1) fun i H x H' hi g y => ?_
  obtain ⟨e1, e2⟩ := y
  subst e1
  obtain ⟨d, hd, hx⟩ := g.2.at' e2
  refine ⟨Ext.refl _, ?_⟩
  show Ds K S' H' x (ds.getD i .none)
  rw [List.getD_eq_getElem?_getD, hd]
  exact hx
theorem ew_r1 {ta : TA} {n : Int} (h : EvA K γ ta [.int n]) (h1 : -(2 ^ 62) ≤ n ∧ n < 2 ^ 62) : EvW K γ (iRng1 ta) n.toNat (fun i => .int i) := fun S σ H f fr R q => h S σ H f fr _ fun vs H2 e2 hv => by
  refine ⟨n, DsAll.ofInts (ns := [n]) hv, h1.1, h1.2, q _ H2 e2 fun S' w => ⟨fun _ => True, Walk.mono (walk_range (lo := 0) (n := n.toNat)) (fun _ _ => trivial) fun i H x H' hi _ y => ?_, trivial, fun _ _ _ _ => trivial⟩⟩
  obtain ⟨e1, e2⟩ := y
  subst e1 e2
  refine ⟨Ext.refl _, ?_⟩
  show Ds K S' H' (.int (0 + (i : Int))) (.int i)
  rw [Int.zero_add]
  exact .int _
theorem ew_r2 {ta : TA} {m n : Int} (h : EvA K γ ta [.int m, .int n]) (h1 : -(2 ^ 62) ≤ m ∧ m < 2 ^ 62 ∧ -(2 ^ 62) ≤ n ∧ n < 2 ^ 62) : EvW K γ (iRng2 ta) (n - m).toNat (fun i => .int (m + i)) := fun S σ H f fr R q => h S σ H f fr _ fun vs H2 e2 hv => by
  refine ⟨m, n, DsAll.ofInts (ns := [m, n]) hv, h1, q _ H2 e2 fun S' w => ⟨fun _ => True, Walk.mono (walk_range (lo := m) (n := (n - m).toNat)) (fun _ _ => trivial) fun i H x H' hi _ y => ?_, trivial, fun _ _ _ _ => trivial⟩⟩
  obtain ⟨e1, e2⟩ := y
  subst e1 e2
  exact ⟨Ext.refl _, .int _⟩
theorem ew_r3 {ta : TA} {m n c : Int} {k : Nat} (h : EvA K γ ta [.int m, .int n, .int c]) (h1 : RgC m n c k) : EvW K γ (iRng3 ta) k (fun i => .int (m + i * c)) := fun S σ H f fr R q => h S σ H f fr _ fun vs H2 e2 hv => by
  refine ⟨m, n, c, k, DsAll.ofInts (ns := [m, n, c]) hv, h1, q _ H2 e2 fun S' w => ⟨fun _ => True, Walk.mono (walk_rangeC (lo := m) (c := c) (n := k)) (fun _ _ => trivial) fun i H x H' hi _ y => ?_, trivial, fun _ _ _ _ => trivial⟩⟩
  obtain ⟨e1, e2⟩ := y
  subst e1 e2
  exact ⟨Ext.refl _, .int _⟩
theorem ew_zip {ta : TA} {ds es : List PyData} (h : EvA K γ ta [.list ds, .list es]) (hl : ds.length = es.length) : EvW K γ (iZip K ta) ds.length (fun i => .tuple [ds.getD i .none, es.getD i .none]) := fun S σ H f fr R q => h S σ H f fr _ fun vs H2 e2 hv => by
  obtain ⟨v, w, rfl, h1, h2⟩ := hv.two
  obtain ⟨a, xs, rfl, s, hq, hall⟩ := h1.lst_inv
  obtain ⟨b, ys, rfl, s', hq', hall'⟩ := h2.lst_inv
  refine ⟨a, b, xs, ys, rfl, .inl hq, .inl hq', q (Itz K a b) H2 e2 fun S' w => ⟨fun H => (Rd H a (.lst xs) ∧ Rd H b (.lst ys)) ∧ DsAll K S' H xs ds ∧ DsAll K S' H ys es, ?_, ⟨⟨hq, hq'⟩, hall.res w, hall'.res w⟩, fun H3 H4 k g => ⟨⟨rd_keep k (w a s (rd_ntL hq)) g.1.1, rd_keep k (w b s' (rd_ntL hq')) g.1.2⟩, g.2.1.keep k, g.2.2.keep k⟩⟩⟩
  refine Walk.mono (walk_zip (K := K) (a := a) (b := b) (xs := xs) (ys := ys) (n := ds.length) (by rw [hall.len, hall'.len, hl, Nat.min_self])) (fun _ g => ⟨.inl g.1.1, .inl g.1.2⟩) fun i H x H' hi g y => ?_
  obtain ⟨T, p, r, rfl, hT, rfl, e1, e2⟩ := y
  obtain ⟨d, hd, hx⟩ := g.2.1.at' e1
  obtain ⟨d', hd', hx'⟩ := g.2.2.at' e2
  refine ⟨same_new hT, ?_⟩
  show Ds K S' _ _ (.tuple [ds.getD i .none, es.getD i .none])
  rw [List.getD_eq_getElem?_getD, hd, List.getD_eq_getElem?_getD, hd']
  exact .tup (SqT.of upd_same) (.cons (hx.same (same_new hT)) (.one (hx'.same (same_new hT))))

/-! targets -/
theorem eg_name {j : Nat} : EvG K (gName j) γ d (γ.set j (some d)) := fun S σ v H f hv Q q => q _ (f.set j hv)
theorem eg_tup2 {j k : Nat} {x y : PyData} : EvG K (gTup K 2 (gCons (gName j) (gCons (gName k) gNil))) γ (.tuple [x, y]) ((γ.set j (some x)).set k (some y)) := fun S σ v H f hv Q q => by
  obtain ⟨a, xs, rfl, hq, hall⟩ := hv.tup_inv
  obtain ⟨v, w, rfl, h1, h2⟩ := hall.two
  exact ⟨a, [v, w], rfl, hq, rfl, v, [w], rfl, w, [], rfl, rfl, q _ ((f.set j h1).set k h2)⟩
theorem eg_tup3 {j k l : Nat} {x y z : PyData} : EvG K (gTup K 3 (gCons (gName j) (gCons (gName k) (gCons (gName l) gNil)))) γ (.tuple [x, y, z]) (((γ.set j (some x)).set k (some y)).set l (some z)) := fun S σ v H f hv Q q => by
  obtain ⟨a, xs, rfl, hq, hall⟩ := hv.tup_inv
  obtain ⟨v, w, u, rfl, h1, h2, h3⟩ := hall.three
  exact ⟨a, [v, w, u], rfl, hq, rfl, v, [w, u], rfl, w, [u], rfl, u, [], rfl, rfl, q _ (((f.set j h1).set k h2).set l h3)⟩
/-- a target whose names are among vs: what it stores is forgotten by wipe -/
def GIn (g : TG) (vs : List Nat) : Prop := ∀ v σ H Q, g v (L2.wipe σ vs) H Q → g v (L2.wipe σ vs) H fun σ2 H2 => L2.wipe σ2 vs = L2.wipe σ vs ∧ Q σ2 H2
theorem gin_name {j : Nat} {vs : List Nat} (h : j ∈ vs) : GIn (gName j) vs := fun v σ H Q q => ⟨wipe_in h _, q⟩
theorem gin_tup2 {j k : Nat} {vs : List Nat} (h : j ∈ vs) (h2 : k ∈ vs) : GIn (gTup K 2 (gCons (gName j) (gCons (gName k) gNil))) vs := fun v σ H Q q => by
  obtain ⟨a, xs, rfl, hq, hn, v, r, rfl, w, r', rfl, rfl, q⟩ := q
  exact ⟨a, _, rfl, hq, hn, v, _, rfl, w, _, rfl, rfl, wipe_in2 h h2 _ _, q⟩

/-! comprehensions -/
/-- what is kept of n turns: f i where b i -/
def given (n : Nat) (b : Nat → Bool) (f : Nat → PyData) : List PyData := ((List.range n).filter b).map f
theorem given_succ (n : Nat) (b : Nat → Bool) (f : Nat → PyData) : given (n + 1) b f = given n b f ++ (if b n = true then [f n] else []) := by
  unfold given
  rw [List.range_succ, List.filter_append, List.map_append, List.filter_cons]
  split <;> rfl
theorem given_len (n : Nat) (b : Nat → Bool) (f : Nat → PyData) : (given n b f).length ≤ n := by
  unfold given
  rw [List.length_map]
  exact Nat.le_trans (List.length_filter_le b (List.range n)) (by rw [List.length_range]; exact Nat.le_refl _)
theorem given_all (n : Nat) (f : Nat → PyData) : given n (fun _ => true) f = (List.range n).map f := by
  unfold given
  rw [List.filter_eq_self.mpr (fun _ _ => rfl)]
theorem ev_lcG {ti : TI} {g : TG} {vs : List Nat} {n : Nat} {y : Nat → PyData} {b : Nat → Bool} {f : Nat → PyData} {γ' : Nat → Gm}
    (h : EvW K γ ti n y) (hz : n ≤ 1000000) (hv : GIn g vs) (hg : ∀ i, i < n → EvG K g (wipeG γ vs) (y i) (γ' i))
    (ht : ∀ i, i < n → EvB K (γ' i) t (b i)) (he : ∀ i, i < n → b i = true → Ev K (γ' i) te (f i)) : Ev K γ (tLc ti g t te vs) (.list (given n b f)) := fun S σ H fi fr Q q =>
  h S σ H fi fr _ fun J H2 e2 W D hD => by
    have fr2 := fr.same e2
    have res : Res H2 S (fun a => S a ∧ a ≠ D) := Res.ne hD
    obtain ⟨G, wk, g0, gk⟩ := W _ res
    have fi2 : Fits K (fun a => S a ∧ a ≠ D) (wipeG γ vs) (L2.wipe σ vs) H2 := ((fi.same e2).res res).wipe vs
    refine lc_it wk (fun i H' => ∃ acc, Ext H2 H' ∧ H' D = some (.lst acc) ∧ DsAll K (fun a => S a ∧ a ≠ D) H' acc (given i b f)) ⟨[], same_new hD, upd_same, .nil⟩ (fun i H' hi p => ?_) (fun i x H3 H4 hi p yy => ?_) (fun H' p => ?_)
    · obtain ⟨acc, p1, p2, p3⟩ := p
      exact gk H2 H' (.of p1) g0
    · obtain ⟨acc, p1, p2, p3⟩ := p
      obtain ⟨y1, y2⟩ := yy
      have k24 : Ext H2 H4 := p1.trans y1
      refine hv x σ H4 _ (hg i hi _ _ x H4 (fi2.same k24) y2 _ fun σ' fi' => ?_)
      have dis : ∀ {H' : Hp}, Ext H4 H' → Frs (fun a => S a ∧ a ≠ D) H' := fun e => ⟨fun p hp => ⟨fr2.new p ((k24.trans e).nt hp), fun z => by
        subst z
        exact hp.lst (e.lst (y1.lst p2))⟩, (fr2.same (k24.trans e)).tabs⟩
      refine ht i hi _ σ' H4 fi' (dis (Ext.refl _)) _ fun H6 e6 => ?_
      have k26 : Ext H2 H6 := k24.trans e6
      have accs : DsAll K (fun a => S a ∧ a ≠ D) H6 acc (given i b f) := p3.same (y1.trans e6)
      have atD : H6 D = some (.lst acc) := e6.lst (y1.lst p2)
      cases hb : b i with
      | true =>
        show te _ H6 _
        refine he i hi hb _ σ' H6 (fi'.same e6) (dis e6) _ fun v H7 e7 hv => ⟨acc, e7.lst atD, sz_lt ?_, acc ++ [v], ?_, upd_same, ?_⟩
        · rw [accs.len]
          exact Nat.lt_of_le_of_lt (given_len i b f) (by omega)
        · exact same_mut (k26.trans e7) (.of hD) (e7.lst atD)
        · rw [given_succ, if_pos hb]
          have kk : Keep (fun a => S a ∧ a ≠ D) H7 (upd H7 D (.lst (acc ++ [v]))) := Keep.upd (e7.lst atD) (fun z => z.2 rfl)
          exact ((accs.same e7).app (.one hv)).keep kk
      | false =>
        refine ⟨acc, k26, atD, ?_⟩
        rw [given_succ, if_neg (by rw [hb]; exact Bool.false_ne_true), List.append_nil]
        exact accs
    · obtain ⟨acc, p1, p2, p3⟩ := p
      exact q (.ref D) H' (e2.trans p1) (.lst (fr2.fresh D hD) (.inl p2) (p3.res fun a s _ => s.1))
end
end LK
namespace LK
open PySem PySem.Spec PyProof.Rows L2
variable [Tbs]
/-! ### bodies -/
inductive Oc where
  | nx (γ : Gm) | rt (x : PyData)
def okE (D : Ends) (K : PySem.W.Frag) (S : Addr → Prop) (H : Hp) : Oc → Prop
  | .nx γ => ∀ σ H2, Ext H H2 → Fits K S γ σ H2 → D.nx σ H2
  | .rt x => ∀ v H2, Ext H H2 → Ds K S H2 v x → D.rt v H2
def Run (K : PySem.W.Frag) (γ : Gm) (ts : TS) (o : Oc) : Prop :=
  ∀ (S : Addr → Prop) (σ : L2.St) (H : Hp), Fits K S γ σ H → Frs S H → ∀ D : Ends, okE D K S H o → ts D σ H
theorem okE.same {D : Ends} {K : PySem.W.Frag} {S : Addr → Prop} {H H' : Hp} {o : Oc} (h : okE D K S H o) (e : Ext H H') : okE D K S H' o := by
  cases o with
  | nx γ => exact fun σ H2 e2 f => h σ H2 (e.trans e2) f
  | rt x => exact fun v H2 e2 f => h v H2 (e.trans e2) f
section
variable {K : PySem.W.Frag} {γ γ' : Gm} {te : TE} {tt : TT} {t u : TS} {o : Oc} {x d : PyData} {g : TG}
theorem Fits.le {S : Addr → Prop} {σ : L2.St} {H : Hp} (h : Fits K S γ σ H) (hl : γ'.length = γ.length) (hi : ∀ (i : Nat) (d : PyData), γ'[i]? = some (some d) → γ[i]? = some (some d)) : Fits K S γ' σ H := ⟨by rw [h.len, hl], fun i d q => h.get i d (hi i d q)⟩
theorem run_seq (h1 : Run K γ t (.nx γ')) (h2 : Run K γ' u o) : Run K γ (tSeq t u) o := fun S σ H f fr D k =>
  h1 S σ H f fr { D with nx := u D } fun σ' H2 e2 f2 => h2 S σ' H2 f2 (fr.same e2) D (k.same e2)
theorem run_seqR (h1 : Run K γ t (.rt x)) : Run K γ (tSeq t u) (.rt x) := fun S σ H f fr D k => h1 S σ H f fr { D with nx := u D } k
theorem run_asg (h : Ev K γ te d) (hg : EvG K g γ d γ') : Run K γ (tAsg te g) (.nx γ') := fun S σ H f fr D k =>
  h S σ H f fr _ fun v H2 e2 hv => hg S σ v H2 (f.same e2) hv _ fun σ' f' => k σ' H2 e2 f'
theorem run_set {i : Nat} (h : Ev K γ te d) : Run K γ (tAsg te (gName i)) (.nx (γ.set i (some d))) := run_asg h eg_name
theorem run_drop (h : Ev K γ te d) : Run K γ (tDrop te) (.nx γ) := fun S σ H f fr D k => h S σ H f fr _ fun v H2 e2 hv => k σ H2 e2 (f.same e2)
theorem run_ret (h : Ev K γ te x) : Run K γ (tRet te) (.rt x) := fun S σ H f fr D k => h S σ H f fr _ fun v H2 e2 hv => k v H2 e2 hv
theorem run_retN : Run K γ tRetN (.rt .none) := fun S σ H f fr D k => k .non H (Ext.refl H) .non
theorem run_next : Run K γ tNext (.nx γ) := fun S σ H f fr D k => k σ H (Ext.refl H) f
theorem run_if {b : Bool} (h : EvB K γ tt b) (h1 : b = true → Run K γ t o) (h2 : b = false → Run K γ u o) : Run K γ (tIfS tt t u) o := fun S σ H f fr D k => h S σ H f fr _ fun H2 e2 => by
  cases b with
  | true =>
    show t D σ H2
    exact h1 rfl S σ H2 (f.same e2) (fr.same e2) D (k.same e2)
  | false =>
    show u D σ H2
    exact h2 rfl S σ H2 (f.same e2) (fr.same e2) D (k.same e2)
theorem run_if0 {b : Bool} (h : EvB K γ tt b) (e : b = false) (h2 : Run K γ u o) : Run K γ (tIfS tt t u) o := run_if h (fun z => absurd (e.symm.trans z) Bool.false_ne_true) fun _ => h2
theorem run_if1 {b : Bool} (h : EvB K γ tt b) (e : b = true) (h2 : Run K γ t o) : Run K γ (tIfS tt t u) o := run_if h (fun _ => h2) fun z => absurd (z.symm.trans e) Bool.false_ne_true
theorem run_le (h : Run K γ t (.nx γ')) {γ2 : Gm} (hl : γ2.length = γ'.length) (hi : ∀ (i : Nat) (d : PyData), γ2[i]? = some (some d) → γ'[i]? = some (some d)) : Run K γ t (.nx γ2) := fun S σ H f fr D k =>
  h S σ H f fr D fun σ' H2 e2 f' => k σ' H2 e2 (f'.le hl hi)
theorem run_is (h : Run K γ t o) {o' : Oc} (e : o = o') : Run K γ t o' := e ▸ h
theorem run_aug {i : Nat} {F : Int → Int → Int} {a b : Int} (hx : γ[i]? = some (some (.int a))) (h : Ev K γ te (.int b)) : Run K γ (tAug i te (ipI F)) (.nx (γ.set i (some (.int (F a b))))) := fun S σ H f fr D k => by
  obtain ⟨v, e, hv⟩ := f.get i _ hx
  refine ⟨v, e, h S σ H f fr _ fun w H2 e2 hw => ⟨a, b, hv.int_inv, hw.int_inv, k _ H2 e2 ((f.same e2).set i (.int _))⟩⟩
/-- a for over what is walked, its turns done whole -/
theorem run_for {ti : TI} {tb : TS} {n : Nat} {y : Nat → PyData} (γs γm : Nat → Gm) (h : EvW K γ ti n y) (h0 : γs 0 = γ) (hg : ∀ i, i < n → EvG K g (γs i) (y i) (γm i)) (hb : ∀ i, i < n → Run K (γm i) tb (.nx (γs (i + 1)))) :
    Run K γ (tFor ti g tb) (.nx (γs n)) := fun S σ H f fr D k =>
  h S σ H f fr _ fun J H2 e2 W => by
    obtain ⟨G, wk, g0, gk⟩ := W S fun _ s _ => s
    refine for_it wk (fun i σ' H' => Ext H2 H' ∧ Fits K S (γs i) σ' H') ⟨Ext.refl _, by rw [h0]; exact f.same e2⟩ (fun i σ' H' hi p => gk H2 H' (.of p.1) g0) (fun i x σ' H3 H4 hi p yy => ?_) fun σ' H' p => k σ' H' (e2.trans p.1) p.2
    have e4 : Ext H2 H4 := p.1.trans yy.1
    refine hg i hi S σ' x H4 (p.2.same yy.1) yy.2 _ fun σ2 f2 => ?_
    exact hb i hi S σ2 H4 f2 ((fr.same e2).same e4) _ fun σ3 H5 e5 f5 => ⟨e4.trans e5, f5⟩
/-- a for that returns at turn m -/
theorem run_forR {ti : TI} {tb : TS} {n m : Nat} {y : Nat → PyData} (γs γm : Nat → Gm) (h : EvW K γ ti n y) (hm : m < n) (h0 : γs 0 = γ) (hg : ∀ i, i ≤ m → EvG K g (γs i) (y i) (γm i)) (hb : ∀ i, i < m → Run K (γm i) tb (.nx (γs (i + 1)))) (hr : Run K (γm m) tb (.rt x)) :
    Run K γ (tFor ti g tb) (.rt x) := fun S σ H f fr D k =>
  h S σ H f fr _ fun J H2 e2 W => by
    obtain ⟨G, wk, g0, gk⟩ := W S fun _ s _ => s
    refine for_it wk (fun i σ' H' => i ≤ m ∧ Ext H2 H' ∧ Fits K S (γs i) σ' H') ⟨Nat.zero_le _, Ext.refl _, by rw [h0]; exact f.same e2⟩ (fun i σ' H' hi p => gk H2 H' (.of p.2.1) g0) (fun i x σ' H3 H4 hi p yy => ?_) fun σ' H' p => absurd p.1 (by omega)
    obtain ⟨p0, p1, p2⟩ := p
    have e4 : Ext H2 H4 := p1.trans yy.1
    refine hg i p0 S σ' x H4 (p2.same yy.1) yy.2 _ fun σ2 f2 => ?_
    by_cases hi : i = m
    · subst hi
      exact hr S σ2 H4 f2 ((fr.same e2).same e4) _ fun v H5 e5 hv => k v H5 ((e2.trans e4).trans e5) hv
    · exact hb i (by omega) S σ2 H4 f2 ((fr.same e2).same e4) _ fun σ3 H5 e5 f5 => ⟨by omega, e4.trans e5, f5⟩
end

/-! ### promises -/
/-- called with data ds it hands back data x, where R ds x -/
def spP (K : PySem.W.Frag) (R : List PyData → PyData → Prop) : Sp := fun vs H Q _ => ∃ (S : Addr → Prop) (ds : List PyData) (x : PyData), DsAll K S H vs ds ∧ Frs S H ∧ R ds x ∧ ∀ v H2, Ext H H2 → Ds K S H2 v x → Q v H2
theorem ev_call {K : PySem.W.Frag} {γ : Gm} {R : List PyData → PyData → Prop} {E : XK} {ta : TA} {ds : List PyData} {x : PyData} (ha : EvA K γ ta ds) (hr : R ds x) : Ev K γ (tCall (spP K R) [] E ta) x := fun S σ H f fr Q q =>
  ha S σ H f fr _ fun vs H2 e2 hv => ⟨S, ds, x, by rw [List.append_nil]; exact hv, fr.same e2, hr, fun v H3 e3 hx => q v H3 (e2.trans e3) hx⟩
def startG (n : Nat) (ds : List PyData) : Gm := ds.map some ++ List.replicate (n - ds.length) none
theorem fits_start {K : PySem.W.Frag} {S : Addr → Prop} {H : Hp} {N : List Str} {vs : List V} {ds : List PyData} (h : DsAll K S H vs ds) : Fits K S (startG N.length ds) (L2.start N vs) H := by
  refine ⟨by unfold L2.start startG; simp [h.len], fun i d q => ?_⟩
  unfold startG at q
  unfold L2.start
  by_cases hi : i < ds.length
  · rw [List.getElem?_append_left (by simpa using hi), List.getElem?_map] at q
    cases hd : ds[i]? with
    | none =>
      rw [hd] at q
      cases q
    | some e =>
      rw [hd] at q
      cases q
      obtain ⟨v, h1, h2⟩ := h.at hd
      refine ⟨v, ?_, h2⟩
      rw [List.getElem?_append_left (by rw [List.length_map, h.len]; exact hi), List.getElem?_map, h1]
      rfl
  · rw [List.getElem?_append_right (by simpa using hi)] at q
    have := List.mem_of_getElem? q
    simp at this
section
variable {P : Program} {w : World} {K : PySem.W.Frag} {mg : Str → Option Value} {base : Heap}
theorem Fun.pure {x qual : Str} {st : Stmt} {f : Addr} {fd : FuncData} {N ps : List Str} {k : Nat} {R : List PyData → PyData → Prop} (F : Fun K x qual st f fd) (Sc : FnScope N ps (defScope st)) (len : ∀ ds x, R ds x → ds.length = ps.length)
    (hbody : ∀ (cdv : Value) (A : Around) (outer : List Env) (s : Shared) (H : Hp) (E : XK), Room k (A.deeper (envOfC qual (defScope st) s.heap.objs.size f cdv)) →
      ∃ t, PSs (cxOf CX0 P w K mg base N qual (defScope st) f cdv A outer s H E).nox (defBody st) t ∧ ∀ ds x, R ds x → Run K (startG N.length ds) t (.rt x) ∨ (x = .none ∧ ∃ γ', Run K (startG N.length ds) t (.nx γ'))) : FnOk P w K mg base CX0 (k + 1) f fd ps (spP K R) := by
  refine F.ok Sc (fun vs H Q E h => ?_) (fun cdv A outer s H vs Q E hr h => ?_)
  · obtain ⟨S, ds, x, h1, _, h3, _⟩ := h
    rw [h1.len]
    exact len ds x h3
  · obtain ⟨S, ds, x, h1, h2, h3, q⟩ := h
    obtain ⟨t, ht, hR⟩ := hbody cdv A outer s H E hr
    refine ⟨t, ht, ?_⟩
    rcases hR ds x h3 with r | ⟨rfl, γ', r⟩
    · exact r S _ H (fits_start h1) h2 _ fun v H2 e hv => q v H2 e hv
    · exact r S _ H (fits_start h1) h2 _ fun σ' H2 e _ => q .non H2 e .non
end
end LK
namespace LK
open PySem PySem.Spec PyProof.Rows L2
variable [Tbs]
/-! ### comprehensions in short -/
theorem map_getD {α : Type} (rs : List α) (g : α → PyData) (f : α → PyData) (F : Nat → PyData) (h : ∀ i r, rs[i]? = some r → F i = f r) : (List.range rs.length).map F = rs.map f := by
  apply List.ext_getElem?
  intro i
  rw [List.getElem?_map, List.getElem?_map]
  by_cases hi : i < rs.length
  · rw [List.getElem?_range hi, List.getElem?_eq_getElem hi]
    show some (F i) = some (f rs[i])
    rw [h i _ (List.getElem?_eq_getElem hi)]
  · rw [List.getElem?_eq_none (by simpa using hi), List.getElem?_eq_none (by omega)]
    rfl
theorem given_filter {α : Type} : ∀ (rs : List α) (b : α → Bool) (f : α → PyData), given rs.length (fun i => (rs[i]?.map b).getD false) (fun i => (rs[i]?.map f).getD .none) = (rs.filter b).map f
  | [], _, _ => rfl
  | r :: rs, b, f => by
    have ih := given_filter rs b f
    unfold given at ih ⊢
    rw [List.length_cons, List.range_succ_eq_map, List.filter_cons, List.filter_map, List.filter_cons]
    have e : (List.range rs.length).filter ((fun i => (((r :: rs)[i]?).map b).getD false) ∘ Nat.succ) = (List.range rs.length).filter (fun i => (rs[i]?.map b).getD false) := rfl
    rw [e]
    show List.map _ (if b r = true then _ else _) = _
    have e2 : List.map (fun i => (((r :: rs)[i]?).map f).getD PyData.none) (List.map Nat.succ ((List.range rs.length).filter (fun i => (rs[i]?.map b).getD false))) = (rs.filter b).map f := by
      rw [List.map_map, ← ih]
      rfl
    split
    · rw [List.map_cons, List.map_cons, e2]
      rfl
    · exact e2
section
variable {K : PySem.W.Frag} {γ : Gm} {te tl : TE} {tt : TT} {j k : Nat} {vs : List Nat}
theorem ev_lcM {α : Type} {g f : α → PyData} {rs : List α} (h : Ev K γ tl (.list (rs.map g))) (hz : rs.length ≤ 1000000) (hj : j ∈ vs) (he : ∀ r, r ∈ rs → Ev K ((wipeG γ vs).set j (some (g r))) te (f r)) :
    Ev K γ (tLc (iList K tl) (gName j) tYes te vs) (.list (rs.map f)) := by
  have q := ev_lcG (b := fun _ => true) (f := fun i => (rs[i]?.map f).getD .none) (γ' := fun i => (wipeG γ vs).set j (some ((rs.map g).getD i .none))) (ew_list h) (by rw [List.length_map]; exact hz) (gin_name hj) (fun i hi => eg_name) (fun i hi => eb_yes) (te := te) (fun i hi _ => by
    rw [List.length_map] at hi
    rw [List.getD_eq_getElem?_getD, List.getElem?_map, List.getElem?_eq_getElem hi]
    exact he _ (List.getElem_mem hi))
  refine q.is ?_
  rw [given_all, List.length_map, map_getD rs g f]
  intro i r hr
  rw [hr]
  rfl
/-- with a test -/
theorem ev_lcF {α : Type} {g f : α → PyData} {b : α → Bool} {rs : List α} (h : Ev K γ tl (.list (rs.map g))) (hz : rs.length ≤ 1000000) (hj : j ∈ vs) (ht : ∀ r, r ∈ rs → EvB K ((wipeG γ vs).set j (some (g r))) tt (b r)) (he : ∀ r, r ∈ rs → b r = true → Ev K ((wipeG γ vs).set j (some (g r))) te (f r)) :
    Ev K γ (tLc (iList K tl) (gName j) tt te vs) (.list ((rs.filter b).map f)) := by
  have q := ev_lcG (b := fun i => (rs[i]?.map b).getD false) (f := fun i => (rs[i]?.map f).getD .none) (γ' := fun i => (wipeG γ vs).set j (some ((rs.map g).getD i .none))) (ew_list h) (by rw [List.length_map]; exact hz) (gin_name hj) (fun i hi => eg_name) (t := tt) (fun i hi => by
    rw [List.length_map] at hi
    rw [List.getD_eq_getElem?_getD, List.getElem?_map, List.getElem?_eq_getElem hi]
    exact ht _ (List.getElem_mem hi)) (te := te) (fun i hi hb => by
    rw [List.length_map] at hi
    rw [List.getElem?_eq_getElem hi] at hb
    rw [List.getD_eq_getElem?_getD, List.getElem?_map, List.getElem?_eq_getElem hi]
    exact he _ (List.getElem_mem hi) hb)
  refine q.is ?_
  rw [List.length_map]
  exact congrArg PyData.list (given_filter rs b f)
theorem ev_lcR {ta : TA} {m : Nat} {f : Nat → PyData} (h : EvA K γ ta [.int (m : Int)]) (hz : m ≤ 1000000) (hj : j ∈ vs) (he : ∀ i, i < m → Ev K ((wipeG γ vs).set j (some (.int (i : Int)))) te (f i)) :
    Ev K γ (tLc (iRng1 ta) (gName j) tYes te vs) (.list ((List.range m).map f)) := by
  have q := ev_lcG (b := fun _ => true) (f := f) (γ' := fun i => (wipeG γ vs).set j (some (.int (i : Int)))) (ew_r1 h (by omega)) (by simpa using hz) (gin_name hj) (fun i hi => eg_name) (fun i hi => eb_yes) (te := te) (fun i hi _ => he i (by simpa using hi))
  refine q.is ?_
  rw [given_all, Int.toNat_natCast]
theorem ev_lcR3 {ta : TA} {a b c : Int} {m : Nat} {f : Nat → PyData} (h : EvA K γ ta [.int a, .int b, .int c]) (hr : RgC a b c m) (hz : m ≤ 1000000) (hj : j ∈ vs) (he : ∀ i, i < m → Ev K ((wipeG γ vs).set j (some (.int (a + (i : Int) * c)))) te (f i)) :
    Ev K γ (tLc (iRng3 ta) (gName j) tYes te vs) (.list ((List.range m).map f)) := by
  have q := ev_lcG (b := fun _ => true) (f := f) (γ' := fun i => (wipeG γ vs).set j (some (.int (a + (i : Int) * c)))) (ew_r3 h hr) hz (gin_name hj) (fun i hi => eg_name) (fun i hi => eb_yes) (te := te) (fun i hi _ => he i hi)
  refine q.is ?_
  rw [given_all]
end
/-! ### places -/
theorem atI_map {α : Type} {g : α → PyData} {rs : List α} {i : Nat} {r : α} (h : rs[i]? = some r) : L2.atI (rs.map g) (i : Int) = some (g r) := atI_nat (by rw [List.getElem?_map, h]; rfl)
theorem atI_int {α : Type} {g : α → PyData} {rs : List α} {z : Int} {r : α} (h0 : 0 ≤ z) (h : rs[z.toNat]? = some r) : L2.atI (rs.map g) z = some (g r) := by
  have := atI_map (g := g) h
  rwa [Int.toNat_of_nonneg h0] at this
end LK
namespace LK
open PySem PySem.Spec PyProof.Rows L2
variable [Tbs]
/-! ### the layer's rules, their K said -/
section
variable {X : Cx} {K : PySem.W.Frag} {te tl : TE} {ta : TA} {tg l e e2 a : Expr} {pos p : Pos}
theorem ix_UK (h : X.K = K) : IxR X (rIxU K) := h ▸ ix_U
theorem cr_lenK (h : X.K = K) : CallR X (.builtin "len") (rLenU K) := h ▸ cr_lenU
theorem cr_listK (h : X.K = K) : CallR X (.type "list") (rListU K) := h ▸ cr_listU
theorem cr_sumK (h : X.K = K) (hc : X.calm = true) : CallR X (.builtin "sum") (rSum K) := h ▸ cr_sum hc
theorem cr_allK (h : X.K = K) (hc : X.calm = true) : CallR X (.builtin "all") (rAll K) := h ▸ cr_all hc
theorem cr_minK (h : X.K = K) (hc : X.calm = true) : CallR X (.builtin "min") (rMin K) := h ▸ cr_min hc
theorem cr_maxK (h : X.K = K) (hc : X.calm = true) : CallR X (.builtin "max") (rMax K) := h ▸ cr_max hc
def rMin2 : List V → Hp → VK → Prop := fun xs H Q => ∃ i j, xs = [.int i, .int j] ∧ Q (.int (if j < i then j else i)) H
def rMax2 : List V → Hp → VK → Prop := fun xs H Q => ∃ i j, xs = [.int i, .int j] ∧ Q (.int (if j > i then j else i)) H
theorem cr_min2 (hc : X.calm = true) : CallR X (.builtin "min") rMin2 := call_min2 hc
theorem cr_max2 (hc : X.calm = true) : CallR X (.builtin "max") rMax2 := call_max2 hc
def rInt1 : List V → Hp → VK → Prop := fun xs H Q => (∃ i, xs = [.int i] ∧ Q (.int i) H) ∨ ∃ k, xs = [.bl k] ∧ Q (.int (if k then 1 else 0)) H
theorem cr_int1 : CallR X (.type "int") rInt1 := call_int1
theorem cr_isiK (h : X.K = K) : CallR X (.builtin "isinstance") (rIsi K) := h ▸ call_isi
theorem pi_listK (h : X.K = K) (hl : PE X l tl) : PI X tg l (iList K tl) := h ▸ pi_list hl
theorem pi_tupK (h : X.K = K) (hl : PE X l tl) : PI X tg l (iTup K tl) := h ▸ pi_tup hl
theorem pi_zipK {tpos : Pos} {elts : List Expr} {kk : Nat} (h : X.K = K) (hg : Gl X "zip") (hm : X.mg "zip" = none) (ha : PA X [e, e2] ta)
    (hs : starEach [e, e2] X.env = (false, eval e X.env) :: starEach [e2] X.env := by rfl) (hpl : (backTo pos (starEach [e2] X.env)).any (·.1) = false := by rfl) :
    PI X (.Tuple elts kk tpos) (.Call (.Name "zip" p) [e, e2] [] pos) (iZip K ta) := h ▸ pi_zip hg hm ha hs hpl
theorem sl_listK (h : X.K = K) : SlR X (rSlL K) := h ▸ sl_list
theorem sl_tupK (h : X.K = K) : SlR X (rSlT K) := h ▸ sl_tup
theorem pe_revLK {k : Nat} {p1 p2 p3 : Pos} (h : X.K = K) (he : PE X e te) : PE X (.Subscript e (.Slice none none (some (.UnaryOp .USub (.Constant (.int 1) k p1) p2)) p3) pos) (tRevL K te) := h ▸ pe_revL he
theorem op_eqDK (h : X.K = K) (hu : X.A.units + 64 < cLine) : OpR X (compareOp .Eq) (rEqD K) := h ▸ op_eqD hu
theorem op_neDK (h : X.K = K) (hu : X.A.units + 64 < cLine) : OpR X (compareOp .NotEq) (rNeD K) := h ▸ op_neD hu
theorem op_inK (h : X.K = K) : OpR X (compareOp .In) (rIn K false) := h ▸ op_in_seq
theorem op_notInK (h : X.K = K) : OpR X (compareOp .NotIn) (rIn K true) := h ▸ op_notIn_seq
theorem pg_tupK {es : List Expr} {k : Nat} {t : TGs} {n : Nat} (hk : X.K = K) (hc : X.calm = true) (h : PGs X es t)
    (hn : (assignEach es X.env).length = n := by rfl) (hst : (assignEach es X.env).findIdx? (·.1) = none := by rfl) : PG X (.Tuple es k pos) (gTup K n t) := hk ▸ pg_tup hc h hn hst
section
variable {T name id : String} {pa : PlainAttrs T} {slot : Slot T name id} {r : V → List V → Hp → VK → Prop} {o : Expr} {to : TE} {es : List Expr} {apos cpos : Pos}
end
end
theorem bt_len : bootBuiltins "len" = some (.builtin "len") := by decide +kernel
theorem bt_list : bootBuiltins "list" = some (.type "list") := by decide +kernel
theorem bt_tuple : bootBuiltins "tuple" = some (.type "tuple") := by decide +kernel
theorem bt_dict : bootBuiltins "dict" = some (.type "dict") := by decide +kernel
theorem bt_bool : bootBuiltins "bool" = some (.type "bool") := by decide +kernel
theorem bt_int : bootBuiltins "int" = some (.type "int") := by decide +kernel
theorem bt_str : bootBuiltins "str" = some (.type "str") := by decide +kernel
theorem bt_abs : bootBuiltins "abs" = some (.builtin "abs") := by decide +kernel
theorem bt_sum : bootBuiltins "sum" = some (.builtin "sum") := by decide +kernel
theorem bt_all : bootBuiltins "all" = some (.builtin "all") := by decide +kernel
theorem bt_min : bootBuiltins "min" = some (.builtin "min") := by decide +kernel
theorem bt_max : bootBuiltins "max" = some (.builtin "max") := by decide +kernel
theorem bt_isinstance : bootBuiltins "isinstance" = some (.builtin "isinstance") := by decide +kernel
theorem bt_sorted : bootBuiltins "sorted" = some (.builtin "sorted") := by decide +kernel
theorem bt_ValueError : bootBuiltins "ValueError" = some (.type "ValueError") := by decide +kernel
end LK
namespace LK
open PySem PySem.Spec PyProof.Rows L2
variable [Tbs]
theorem atI_row {r : List Int} {z : Int} (h0 : 0 ≤ z) (h1 : z < r.length) : L2.atI (r.map PyData.int) z = some (.int (r.getD z.toNat 0)) := by
  have hz : z.toNat < r.length := by omega
  rw [atI_int (g := PyData.int) h0 (List.getElem?_eq_getElem hz), List.getD_eq_getElem?_getD, List.getElem?_eq_getElem hz]
  rfl
theorem atI_lit {ds : List PyData} {i : Nat} {d : PyData} (h : ds[i]? = some d) : L2.atI ds (i : Int) = some d := atI_nat h
section
variable {K : PySem.W.Frag} {γ : Gm} {te : TE}
/-- len(rows[0]) -/
theorem ev_wid {rows : List (List Int)} (h : Ev K γ te (pic rows)) (hn : rows ≠ []) : Ev K γ (tCB (rLenU K) (tCons (tOp (rIxU K) te (tC (.int 0))) tNil)) (.int ((rows.headD []).length : Nat)) := by
  cases rows with
  | nil => exact absurd rfl hn
  | cons r rs =>
    have q := ev_cb (r := rLenU K) (ea_cons (ev_op h ev_int (eo_ixUL (i := 0) (z := il r) (atI_nat (j := 0) rfl))) ea_nil) ec_lenL
    rw [List.length_map] at q
    exact q
theorem ev_lenM {α : Type} {g : α → PyData} {rs : List α} (h : Ev K γ te (.list (rs.map g))) : Ev K γ (tCB (rLenU K) (tCons te tNil)) (.int (rs.length : Nat)) := by
  have q := ev_cb (r := rLenU K) (ea_cons h ea_nil) ec_lenL
  rw [List.length_map] at q
  exact q
end
end LK
namespace LK
open PySem PySem.Spec PyProof.Rows L2
variable [Tbs]
section
variable {K : PySem.W.Frag} {γ γ' : Gm} {t : TS}
/-- what slot j holds is forgotten -/
theorem run_wipe (j : Nat) (h : Run K γ t (.nx γ')) : Run K γ t (.nx (γ'.set j none)) := run_le h (by rw [List.length_set]) fun i d e => by
  by_cases hj : j = i
  · subst hj
    by_cases hi : j < γ'.length
    · rw [List.getElem?_set_self hi] at e
      cases e
    · rw [List.getElem?_eq_none (by rw [List.length_set]; omega)] at e
      cases e
  · rw [List.getElem?_set_ne hj] at e
    exact e
/-- range(n) walked -/
theorem ew_rN {ta : TA} {n : Nat} (h : EvA K γ ta [.int (n : Int)]) (hn : n ≤ 1000000) : EvW K γ (iRng1 ta) n (fun i => .int i) := by
  have q := ew_r1 h (by omega)
  rw [Int.toNat_natCast] at q
  exact q
end
theorem eqv_nat (a b : Nat) : PyData.eqv (.int (a : Int)) (.int (b : Int)) = decide (a = b) := by
  show decide ((a : Int) = (b : Int)) = _
  exact decide_eq_decide.mpr Int.ofNat_inj
end LK
namespace LK
open PySem PySem.Spec PyProof.Rows L2
variable [Tbs]
/-! ### new matrices: a new list of new lists of ints, all at places of their own -/
abbrev Rows := List (List Int)
structure Mat (H0 H : Hp) (p : Addr) (as : List Addr) (rows : Rows) : Prop where
  top : H p = some (.lst (as.map V.ref))
  len : as.length = rows.length
  row : ∀ (i : Nat) (a : Addr) (r : List Int), as[i]? = some a → rows[i]? = some r → H a = some (.lst (r.map V.int))
  nd : (p :: as).Nodup
  fr : ∀ a, a ∈ p :: as → Nt H0 a
section
variable {K : PySem.W.Frag} {S : Addr → Prop} {H0 H1 H H' : Hp} {p : Addr} {as : List Addr} {rows : Rows}
theorem Mat.back (m : Mat H1 H p as rows) (e : Ext H0 H1) : Mat H0 H p as rows := { m with fr := fun a ha => e.nt (m.fr a ha) }
theorem Mat.same (m : Mat H0 H p as rows) (e : Ext H H') : Mat H0 H' p as rows := { m with top := e.lst m.top, row := fun i a r h1 h2 => e.lst (m.row i a r h1 h2) }
theorem dsAll_of {xs : List V} {ds : List PyData} (hl : xs.length = ds.length) (h : ∀ (i : Nat) (x : V) (d : PyData), xs[i]? = some x → ds[i]? = some d → Ds K S H x d) : DsAll K S H xs ds := by
  induction xs generalizing ds with
  | nil =>
    cases ds with
    | nil => exact .nil
    | cons d ds => simp at hl
  | cons x xs ih =>
    cases ds with
    | nil => simp at hl
    | cons d ds => exact .cons (h 0 x d rfl rfl) (ih (by simpa using hl) fun i y e h1 h2 => h (i + 1) y e (by simpa using h1) (by simpa using h2))
theorem Mat.ds (m : Mat H0 H p as rows) (s : ∀ a, a ∈ p :: as → S a) : Ds K S H (.ref p) (pic rows) := by
  refine .lst (s p List.mem_cons_self) (.inl m.top) (dsAll_of (by rw [List.length_map, List.length_map, m.len]) fun i x d h1 h2 => ?_)
  rw [List.getElem?_map] at h1 h2
  cases ha : as[i]? with
  | none =>
    rw [ha] at h1
    cases h1
  | some a =>
    cases hr : rows[i]? with
    | none =>
      rw [hr] at h2
      cases h2
    | some r =>
      rw [ha] at h1
      rw [hr] at h2
      cases h1
      cases h2
      exact .lst (s a (List.mem_cons_of_mem _ (List.mem_of_getElem? ha))) (.inl (m.row i a r ha hr)) (DsAll.ints r)
theorem Mat.dsF (m : Mat H0 H p as rows) (f : Frs S H0) : Ds K S H (.ref p) (pic rows) := m.ds fun a ha => f.new a (m.fr a ha)
end
/-- a new list of ints -/
def EvI (K : PySem.W.Frag) (γ : Gm) (te : TE) (ns : List Int) : Prop :=
  ∀ (S : Addr → Prop) (σ : L2.St) (H : Hp), Fits K S γ σ H → Frs S H → ∀ Q : VK, (∀ p H2, Ext H H2 → Nt H p → H2 p = some (.lst (ns.map V.int)) → Q (.ref p) H2) → te σ H Q
def EvM (K : PySem.W.Frag) (γ : Gm) (te : TE) (rows : Rows) : Prop :=
  ∀ (S : Addr → Prop) (σ : L2.St) (H : Hp), Fits K S γ σ H → Frs S H → ∀ Q : VK, (∀ p as H2, Ext H H2 → Mat H H2 p as rows → Q (.ref p) H2) → te σ H Q
section
variable {K : PySem.W.Frag} {γ : Gm} {te ta tb : TE} {tt : TT} {rows : Rows} {ns : List Int}
theorem EvI.is {ms : List Int} (h : EvI K γ te ns) (e : ns = ms) : EvI K γ te ms := e ▸ h
theorem EvM.is {rs : Rows} (h : EvM K γ te rows) (e : rows = rs) : EvM K γ te rs := e ▸ h
theorem EvM.ev (h : EvM K γ te rows) : Ev K γ te (pic rows) := fun S σ H f fr Q q => h S σ H f fr Q fun p as H2 e m => q _ H2 e (m.dsF fr)
theorem ei_list (h : Ev K γ te (il ns)) : EvI K γ (tCB (rListU K) (tCons te tNil)) ns := fun S σ H f fr Q q => h S σ H f fr _ fun v H2 e2 hv => by
  obtain ⟨a, xs, rfl, s, hq, hall⟩ := hv.lst_inv
  rw [hall.ofInts] at hq
  exact ⟨a, ns.map V.int, rfl, .inl (.inl hq), fun l hl => q l _ (e2.trans (same_new hl)) (e2.nt (.of hl)) upd_same⟩
theorem ei_rev (h : Ev K γ te (il ns)) : EvI K γ (tRevL K te) ns.reverse := fun S σ H f fr Q q => h S σ H f fr _ fun v H2 e2 hv => by
  obtain ⟨a, xs, rfl, s, hq, hall⟩ := hv.lst_inv
  rw [hall.ofInts] at hq
  refine ⟨a, ns.map V.int, rfl, .inl hq, fun l hl => q l _ (e2.trans (same_new hl)) (e2.nt (.of hl)) ?_⟩
  rw [upd_same, List.map_reverse]
theorem em_if {b : Bool} (h : EvB K γ tt b) (h1 : b = true → EvM K γ ta rows) (h2 : b = false → EvM K γ tb rows) : EvM K γ (tIf tt ta tb) rows := fun S σ H f fr Q q => h S σ H f fr _ fun H2 e2 => by
  cases b with
  | true =>
    show ta σ H2 Q
    exact h1 rfl S σ H2 (f.same e2) (fr.same e2) Q fun p as H3 e3 m => q p as H3 (e2.trans e3) (m.back e2)
  | false =>
    show tb σ H2 Q
    exact h2 rfl S σ H2 (f.same e2) (fr.same e2) Q fun p as H3 e3 m => q p as H3 (e2.trans e3) (m.back e2)
/-- a comprehension whose items are ints -/
theorem ei_lcG {ti : TI} {g : TG} {vs : List Nat} {n : Nat} {y : Nat → PyData} {f : Nat → Int} {γ' : Nat → Gm}
    (h : EvW K γ ti n y) (hz : n ≤ 1000000) (hv : GIn g vs) (hg : ∀ i, i < n → EvG K g (wipeG γ vs) (y i) (γ' i))
    (he : ∀ i, i < n → Ev K (γ' i) te (.int (f i))) : EvI K γ (tLc ti g tYes te vs) ((List.range n).map f) := fun S σ H fi fr Q q =>
  h S σ H fi fr _ fun J H2 e2 W D hD => by
    have fr2 := fr.same e2
    have res : Res H2 S (fun a => S a ∧ a ≠ D) := Res.ne hD
    obtain ⟨G, wk, g0, gk⟩ := W _ res
    have fi2 : Fits K (fun a => S a ∧ a ≠ D) (wipeG γ vs) (L2.wipe σ vs) H2 := ((fi.same e2).res res).wipe vs
    refine lc_it wk (fun i H' => Ext H2 H' ∧ H' D = some (.lst (((List.range i).map f).map V.int))) ⟨same_new hD, upd_same⟩ (fun i H' hi p => ?_) (fun i x H3 H4 hi p yy => ?_) (fun H' p => ?_)
    · exact gk H2 H' (.of p.1) g0
    · obtain ⟨p1, p2⟩ := p
      obtain ⟨y1, y2⟩ := yy
      have k24 : Ext H2 H4 := p1.trans y1
      refine hv x σ H4 _ (hg i hi _ _ x H4 (fi2.same k24) y2 _ fun σ' fi' => ?_)
      have dis : Frs (fun a => S a ∧ a ≠ D) H4 := ⟨fun p hp => ⟨fr2.new p (k24.nt hp), fun z => by
        subst z
        exact hp.lst (y1.lst p2)⟩, (fr2.same k24).tabs⟩
      show te _ H4 _
      refine he i hi _ σ' H4 fi' dis _ fun v H7 e7 hv => ⟨_, e7.lst (y1.lst p2), sz_lt ?_, ?_, ?_⟩
      · rw [List.length_map, List.length_map, List.length_range]
        omega
      · exact same_mut (k24.trans e7) (.of hD) (e7.lst (y1.lst p2))
      · rw [upd_same, hv.int_inv, List.range_succ, List.map_append, List.map_append]
        rfl
    · exact q D H' (e2.trans p.1) (e2.nt (.of hD)) p.2
/-- a comprehension whose items are new lists of ints -/
theorem em_lcG {ti : TI} {g : TG} {vs : List Nat} {n : Nat} {y : Nat → PyData} {f : Nat → List Int} {γ' : Nat → Gm}
    (h : EvW K γ ti n y) (hz : n ≤ 1000000) (hv : GIn g vs) (hg : ∀ i, i < n → EvG K g (wipeG γ vs) (y i) (γ' i))
    (he : ∀ i, i < n → EvI K (γ' i) te (f i)) : EvM K γ (tLc ti g tYes te vs) ((List.range n).map f) := fun S σ H fi fr Q q =>
  h S σ H fi fr _ fun J H2 e2 W D hD => by
    have fr2 := fr.same e2
    have res : Res H2 S (fun a => S a ∧ a ≠ D) := Res.ne hD
    obtain ⟨G, wk, g0, gk⟩ := W _ res
    have fi2 : Fits K (fun a => S a ∧ a ≠ D) (wipeG γ vs) (L2.wipe σ vs) H2 := ((fi.same e2).res res).wipe vs
    refine lc_it wk (fun i H' => Ext H2 H' ∧ ∃ as, Mat H2 H' D as ((List.range i).map f)) ⟨same_new hD, [], upd_same, rfl, fun i a r h1 _ => by simp at h1, by simp, fun a ha => by
      rw [List.mem_singleton.mp ha]
      exact .of hD⟩ (fun i H' hi p => ?_) (fun i x H3 H4 hi p yy => ?_) (fun H' p => ?_)
    · exact gk H2 H' (.of p.1) g0
    · obtain ⟨p1, as, m⟩ := p
      obtain ⟨y1, y2⟩ := yy
      have k24 : Ext H2 H4 := p1.trans y1
      have m4 := m.same y1
      refine hv x σ H4 _ (hg i hi _ _ x H4 (fi2.same k24) y2 _ fun σ' fi' => ?_)
      have dis : Frs (fun a => S a ∧ a ≠ D) H4 := ⟨fun p hp => ⟨fr2.new p (k24.nt hp), fun z => by
        subst z
        exact hp.lst m4.top⟩, (fr2.same k24).tabs⟩
      have hli : as.length = i := by rw [m.len, List.length_map, List.length_range]
      show te _ H4 _
      refine he i hi _ σ' H4 fi' dis _ fun p H7 e7 hp h7 => ⟨_, e7.lst m4.top, sz_lt ?_, same_mut (k24.trans e7) (.of hD) (e7.lst m4.top), as ++ [p], ?_⟩
      · rw [List.length_map]
        omega
      · have npD : p ≠ D := fun z => by
          subst z
          exact hp.lst m4.top
        have npa : p ∉ as := fun z => by
          obtain ⟨j, hj, ej⟩ := List.getElem_of_mem z
          have hjr : j < ((List.range i).map f).length := by rw [← m.len]; exact hj
          have := m4.row j p _ (by rw [← ej]; exact List.getElem?_eq_getElem hj) (List.getElem?_eq_getElem hjr)
          exact hp.lst this
        have nd := List.nodup_cons.mp m.nd
        refine ⟨?_, by simp [hli], fun j a r h1 h2 => ?_, ?_, fun a ha => ?_⟩
        · rw [upd_same, List.map_append]
          rfl
        · rw [List.range_succ, List.map_append] at h2
          by_cases hj : j < i
          · rw [List.getElem?_append_left (by omega)] at h1
            rw [List.getElem?_append_left (by rw [List.length_map, List.length_range]; exact hj)] at h2
            have ne : a ≠ D := fun z => nd.1 (z ▸ List.mem_of_getElem? h1)
            rw [upd_ne ne]
            exact e7.lst (m4.row j a r h1 h2)
          · have hj2 : j = i := by
              have := (List.getElem?_eq_some_iff.mp h1).1
              rw [List.length_append] at this
              simp at this
              omega
            subst hj2
            rw [List.getElem?_append_right (by omega)] at h1
            rw [List.getElem?_append_right (by rw [List.length_map, List.length_range]; omega)] at h2
            simp [hli] at h1
            simp at h2
            subst h1 h2
            rw [upd_ne npD]
            exact h7
        · rw [← List.cons_append, List.nodup_append]
          refine ⟨m.nd, by simp, fun x hx y hy e => ?_⟩
          rw [List.mem_singleton.mp hy] at e
          subst e
          rcases List.mem_cons.mp hx with z | z
          · exact npD z
          · exact npa z
        · rw [← List.cons_append, List.mem_append] at ha
          rcases ha with ha | ha
          · exact m.fr a ha
          · rw [List.mem_singleton.mp ha]
            exact k24.nt hp
    · obtain ⟨p1, as, m⟩ := p
      exact q D as H' (e2.trans p1) (m.back e2)
theorem map_range {α β : Type} (rs : List α) (f : α → β) (F : Nat → β) (h : ∀ i r, rs[i]? = some r → F i = f r) : (List.range rs.length).map F = rs.map f := by
  apply List.ext_getElem?
  intro i
  rw [List.getElem?_map, List.getElem?_map]
  by_cases hi : i < rs.length
  · rw [List.getElem?_range hi, List.getElem?_eq_getElem hi]
    show some (F i) = some (f rs[i])
    rw [h i _ (List.getElem?_eq_getElem hi)]
  · rw [List.getElem?_eq_none (by simpa using hi), List.getElem?_eq_none (by omega)]
    rfl
theorem em_lcM {α : Type} {g : α → PyData} {f : α → List Int} {rs : List α} {tl : TE} {j : Nat} {vs : List Nat} (h : Ev K γ tl (.list (rs.map g))) (hz : rs.length ≤ 1000000) (hj : j ∈ vs) (he : ∀ r, r ∈ rs → EvI K ((wipeG γ vs).set j (some (g r))) te (f r)) :
    EvM K γ (tLc (iList K tl) (gName j) tYes te vs) (rs.map f) := by
  have q := em_lcG (f := fun i => (rs[i]?.map f).getD []) (γ' := fun i => (wipeG γ vs).set j (some ((rs.map g).getD i .none))) (ew_list h) (by rw [List.length_map]; exact hz) (gin_name hj) (fun i hi => eg_name) (te := te) (fun i hi => by
    rw [List.length_map] at hi
    rw [List.getD_eq_getElem?_getD, List.getElem?_map, List.getElem?_eq_getElem hi]
    exact he _ (List.getElem_mem hi))
  refine q.is ?_
  rw [List.length_map]
  refine map_range rs f _ fun i r hr => ?_
  rw [hr]
  rfl
theorem em_lcR {ta : TA} {m j : Nat} {vs : List Nat} {f : Nat → List Int} (h : EvA K γ ta [.int (m : Int)]) (hz : m ≤ 1000000) (hj : j ∈ vs) (he : ∀ i, i < m → EvI K ((wipeG γ vs).set j (some (.int (i : Int)))) te (f i)) :
    EvM K γ (tLc (iRng1 ta) (gName j) tYes te vs) ((List.range m).map f) :=
  em_lcG (γ' := fun i => (wipeG γ vs).set j (some (.int (i : Int)))) (ew_rN h hz) hz (gin_name hj) (fun i hi => eg_name) (te := te) (fun i hi => he i hi)
theorem em_lcR3 {ta : TA} {a b c : Int} {m j : Nat} {vs : List Nat} {f : Nat → List Int} (h : EvA K γ ta [.int a, .int b, .int c]) (hr : RgC a b c m) (hz : m ≤ 1000000) (hj : j ∈ vs) (he : ∀ i, i < m → EvI K ((wipeG γ vs).set j (some (.int (a + (i : Int) * c)))) te (f i)) :
    EvM K γ (tLc (iRng3 ta) (gName j) tYes te vs) ((List.range m).map f) :=
  em_lcG (γ' := fun i => (wipeG γ vs).set j (some (.int (a + (i : Int) * c)))) (ew_r3 h hr) hz (gin_name hj) (fun i hi => eg_name) (te := te) (fun i hi => he i hi)
theorem ei_lcM {α : Type} {g : α → PyData} {f : α → Int} {rs : List α} {tl : TE} {j : Nat} {vs : List Nat} (h : Ev K γ tl (.list (rs.map g))) (hz : rs.length ≤ 1000000) (hj : j ∈ vs) (he : ∀ r, r ∈ rs → Ev K ((wipeG γ vs).set j (some (g r))) te (.int (f r))) :
    EvI K γ (tLc (iList K tl) (gName j) tYes te vs) (rs.map f) := by
  have q := ei_lcG (f := fun i => (rs[i]?.map f).getD 0) (γ' := fun i => (wipeG γ vs).set j (some ((rs.map g).getD i .none))) (ew_list h) (by rw [List.length_map]; exact hz) (gin_name hj) (fun i hi => eg_name) (te := te) (fun i hi => by
    rw [List.length_map] at hi
    rw [List.getD_eq_getElem?_getD, List.getElem?_map, List.getElem?_eq_getElem hi]
    exact he _ (List.getElem_mem hi))
  refine q.is ?_
  rw [List.length_map]
  refine map_range rs f _ fun i r hr => ?_
  rw [hr]
  rfl
theorem ei_lcR {ta : TA} {m j : Nat} {vs : List Nat} {f : Nat → Int} (h : EvA K γ ta [.int (m : Int)]) (hz : m ≤ 1000000) (hj : j ∈ vs) (he : ∀ i, i < m → Ev K ((wipeG γ vs).set j (some (.int (i : Int)))) te (.int (f i))) :
    EvI K γ (tLc (iRng1 ta) (gName j) tYes te vs) ((List.range m).map f) :=
  ei_lcG (γ' := fun i => (wipeG γ vs).set j (some (.int (i : Int)))) (ew_rN h hz) hz (gin_name hj) (fun i hi => eg_name) (te := te) (fun i hi => he i hi)
end
/-- called with data ds it hands back a new matrix -/
def spM (K : PySem.W.Frag) (R : List PyData → Rows → Prop) : Sp := fun vs H Q _ => ∃ (S : Addr → Prop) (ds : List PyData) (rows : Rows), DsAll K S H vs ds ∧ Frs S H ∧ R ds rows ∧ ∀ p as H2, Ext H H2 → Mat H H2 p as rows → Q (.ref p) H2
section
variable {K : PySem.W.Frag} {γ : Gm} {R : List PyData → Rows → Prop} {E : XK} {ta : TA} {ds : List PyData} {rows : Rows}
theorem em_call (ha : EvA K γ ta ds) (hr : R ds rows) : EvM K γ (tCall (spM K R) [] E ta) rows := fun S σ H f fr Q q =>
  ha S σ H f fr _ fun vs H2 e2 hv => ⟨S, ds, rows, by rw [List.append_nil]; exact hv, fr.same e2, hr, fun p as H3 e3 m => q p as H3 (e2.trans e3) (m.back e2)⟩
theorem ev_callM (ha : EvA K γ ta ds) (hr : R ds rows) : Ev K γ (tCall (spM K R) [] E ta) (pic rows) := (em_call ha hr).ev
end
section
variable {P : Program} {w : World} {K : PySem.W.Frag} {mg : Str → Option Value} {base : Heap}
/-- what a body does from given arguments, a new matrix at its end -/
def RunM (K : PySem.W.Frag) (γ : Gm) (ts : TS) (rows : Rows) : Prop :=
  ∀ (S : Addr → Prop) (σ : L2.St) (H : Hp), Fits K S γ σ H → Frs S H → ∀ D : Ends, (∀ p as H2, Ext H H2 → Mat H H2 p as rows → D.rt (.ref p) H2) → ts D σ H
theorem rm_ret {γ : Gm} {te : TE} {rows : Rows} (h : EvM K γ te rows) : RunM K γ (tRet te) rows := fun S σ H f fr D k => h S σ H f fr _ k
theorem Fun.mat {x qual : Str} {st : Stmt} {f : Addr} {fd : FuncData} {N ps : List Str} {k : Nat} {R : List PyData → Rows → Prop} (F : Fun K x qual st f fd) (Sc : FnScope N ps (defScope st)) (len : ∀ ds x, R ds x → ds.length = ps.length)
    (hbody : ∀ (cdv : Value) (A : Around) (outer : List Env) (s : Shared) (H : Hp) (E : XK), Room k (A.deeper (envOfC qual (defScope st) s.heap.objs.size f cdv)) →
      ∃ t, PSs (cxOf CX0 P w K mg base N qual (defScope st) f cdv A outer s H E).nox (defBody st) t ∧ ∀ ds x, R ds x → RunM K (startG N.length ds) t x) : FnOk P w K mg base CX0 (k + 1) f fd ps (spM K R) := by
  refine F.ok Sc (fun vs H Q E h => ?_) (fun cdv A outer s H vs Q E hr h => ?_)
  · obtain ⟨S, ds, x, h1, _, h3, _⟩ := h
    rw [h1.len]
    exact len ds x h3
  · obtain ⟨S, ds, x, h1, h2, h3, q⟩ := h
    obtain ⟨t, ht, hR⟩ := hbody cdv A outer s H E hr
    exact ⟨t, ht, hR ds x h3 S _ H (fits_start h1) h2 _ fun p as H2 e m => q p as H2 e m⟩
end
end LK
namespace LK
open PySem PySem.Spec PyProof.Rows L2
variable [Tbs]
/-! ### a body that keeps a new matrix in slot i -/
def RunX (K : PySem.W.Frag) (γ : Gm) (i : Nat) (rows : Rows) (ts : TS) (out : Rows) : Prop :=
  ∀ (S : Addr → Prop) (σ : L2.St) (H0 H : Hp) (p : Addr) (as : List Addr), Fits K S γ σ H → Frs S H0 → Ext H0 H → σ[i]? = some (some (.ref p)) → Mat H0 H p as rows →
    ∀ D : Ends, (∀ p' as' H2, Ext H0 H2 → Mat H0 H2 p' as' out → D.rt (.ref p') H2) → ts D σ H
def RunY (K : PySem.W.Frag) (γ : Gm) (i : Nat) (rows : Rows) (ts : TS) (γ' : Gm) (rows' : Rows) : Prop :=
  ∀ (S : Addr → Prop) (σ : L2.St) (H0 H : Hp) (p : Addr) (as : List Addr), Fits K S γ σ H → Frs S H0 → Ext H0 H → σ[i]? = some (some (.ref p)) → Mat H0 H p as rows →
    ∀ D : Ends, (∀ σ' H2 p' as', Ext H H2 → Fits K S γ' σ' H2 → σ'[i]? = some (some (.ref p')) → Mat H0 H2 p' as' rows' → D.nx σ' H2) → ts D σ H
section
variable {K : PySem.W.Frag} {γ γ' γ2 : Gm} {i : Nat} {rows rows' out : Rows} {t u : TS} {te : TE} {tt : TT}
theorem rm_seq (h : Run K γ t (.nx γ')) (k : RunM K γ' u out) : RunM K γ (tSeq t u) out := fun S σ H f fr D q =>
  h S σ H f fr { D with nx := u D } fun σ' H2 e2 f2 => k S σ' H2 f2 (fr.same e2) D fun p as H3 e3 m => q p as H3 (e2.trans e3) (m.back e2)
theorem rx_start (h : EvM K γ te rows) (k : RunX K (γ.set i (some (pic rows))) i rows u out) (hi : i < γ.length := by exact Nat.le_of_ble_eq_true rfl) : RunM K γ (tSeq (tAsg te (gName i)) u) out := fun S σ H f fr D q =>
  h S σ H f fr _ fun p as H2 e2 m => k S _ H H2 p as ((f.same e2).set i (m.dsF fr)) fr e2 (List.getElem?_set_self (by rw [f.len]; exact hi)) m D q
theorem rx_seq (h : RunY K γ i rows t γ' rows') (k : RunX K γ' i rows' u out) : RunX K γ i rows (tSeq t u) out := fun S σ H0 H p as f fr e hp m D q =>
  h S σ H0 H p as f fr e hp m { D with nx := u D } fun σ' H2 p' as' e2 f2 hp2 m2 => k S σ' H0 H2 p' as' f2 fr (e.trans e2) hp2 m2 D q
theorem ry_seq {t u : TS} {γ3 : Gm} {rows3 : Rows} (h : RunY K γ i rows t γ' rows') (k : RunY K γ' i rows' u γ3 rows3) : RunY K γ i rows (tSeq t u) γ3 rows3 := fun S σ H0 H p as f fr e hp m D q =>
  h S σ H0 H p as f fr e hp m { D with nx := u D } fun σ' H2 p' as' e2 f2 hp2 m2 => k S σ' H0 H2 p' as' f2 fr (e.trans e2) hp2 m2 D fun σ'' H3 p'' as'' e3 => q σ'' H3 p'' as'' (e2.trans e3)
theorem ry_set (h : EvM K γ te rows') (hi : i < γ.length := by exact Nat.le_of_ble_eq_true rfl) : RunY K γ i rows (tAsg te (gName i)) (γ.set i (some (pic rows'))) rows' := fun S σ H0 H p as f fr e hp m D q =>
  h S σ H f (fr.same e) _ fun p2 as2 H2 e2 m2 => q _ H2 p2 as2 e2 ((f.same e2).set i (m2.dsF (fr.same e))) (List.getElem?_set_self (by rw [f.len]; exact hi)) (m2.back e)
theorem ry_asg {j : Nat} {d : PyData} (h : Ev K γ te d) (hj : j ≠ i) : RunY K γ i rows (tAsg te (gName j)) (γ.set j (some d)) rows := fun S σ H0 H p as f fr e hp m D q =>
  h S σ H f (fr.same e) _ fun v H2 e2 hv => q _ H2 p as e2 ((f.same e2).set j hv) (by rw [List.getElem?_set_ne hj]; exact hp) (m.same e2)
theorem ry_next : RunY K γ i rows tNext γ rows := fun S σ H0 H p as f fr e hp m D q => q σ H p as (Ext.refl H) f hp m
theorem ry_if {b : Bool} (h : EvB K γ tt b) (h1 : b = true → RunY K γ i rows t γ' rows') (h2 : b = false → RunY K γ i rows u γ' rows') : RunY K γ i rows (tIfS tt t u) γ' rows' := fun S σ H0 H p as f fr e hp m D q =>
  h S σ H f (fr.same e) _ fun H2 e2 => by
    cases b with
    | true =>
      show t D σ H2
      exact h1 rfl S σ H0 H2 p as (f.same e2) fr (e.trans e2) hp (m.same e2) D fun σ' H3 p' as' e3 => q σ' H3 p' as' (e2.trans e3)
    | false =>
      show u D σ H2
      exact h2 rfl S σ H0 H2 p as (f.same e2) fr (e.trans e2) hp (m.same e2) D fun σ' H3 p' as' e3 => q σ' H3 p' as' (e2.trans e3)
theorem ry_wipe (j : Nat) (h : RunY K γ i rows t γ' rows') : RunY K γ i rows t (γ'.set j none) rows' := fun S σ H0 H p as f fr e hp m D q =>
  h S σ H0 H p as f fr e hp m D fun σ' H2 p' as' e2 f2 => q σ' H2 p' as' e2 (f2.le (by rw [List.length_set]) fun k d e => by
    by_cases hj : j = k
    · subst hj
      by_cases hi : j < γ'.length
      · rw [List.getElem?_set_self hi] at e
        cases e
      · rw [List.getElem?_eq_none (by rw [List.length_set]; omega)] at e
        cases e
    · rw [List.getElem?_set_ne hj] at e
      exact e)
theorem rx_ret : RunX K γ i rows (tRet (tVar i)) rows := fun S σ H0 H p as f fr e hp m D q => ⟨.ref p, hp, q p as H e m⟩
theorem ry_for {ti : TI} {n j : Nat} {y : Nat → PyData} (γs : Nat → Gm) (rs : Nat → Rows) (h : EvW K γ ti n y) (h0 : γs 0 = γ) (r0 : rs 0 = rows) (hj : j ≠ i) (hb : ∀ k, k < n → RunY K ((γs k).set j (some (y k))) i (rs k) t (γs (k + 1)) (rs (k + 1))) :
    RunY K γ i rows (tFor ti (gName j) t) (γs n) (rs n) := fun S σ H0 H p as f fr e hp m D q =>
  h S σ H f (fr.same e) _ fun J H2 e2 W => by
    obtain ⟨G, wk, g0, gk⟩ := W S fun _ s _ => s
    refine for_it wk (fun k σ' H' => Ext H2 H' ∧ Fits K S (γs k) σ' H' ∧ ∃ p' as', σ'[i]? = some (some (.ref p')) ∧ Mat H0 H' p' as' (rs k)) ⟨Ext.refl _, by rw [h0]; exact f.same e2, p, as, hp, by rw [r0]; exact m.same e2⟩ (fun k σ' H' hi p => gk H2 H' (.of p.1) g0) (fun k x σ' H3 H4 hi pp yy => ?_) fun σ' H' pp => ?_
    · obtain ⟨p1, p2, p', as', p3, p4⟩ := pp
      have e4 : Ext H2 H4 := p1.trans yy.1
      show t _ (σ'.set j (some x)) H4
      refine hb k hi S _ H0 H4 p' as' ((p2.same yy.1).set j yy.2) fr ((e.trans e2).trans e4) (by rw [List.getElem?_set_ne hj]; exact p3) (p4.same yy.1) _ fun σ3 H5 p5 as5 e5 f5 h5 m5 => ⟨e4.trans e5, f5, p5, as5, h5, m5⟩
    · obtain ⟨p1, p2, p', as', p3, p4⟩ := pp
      exact q σ' H' p' as' (e2.trans p1) p2 p3 p4
end
end LK
namespace LK
open PySem PySem.Spec PyProof.Rows L2
variable [Tbs]
/-! ### is None, isinstance -/
def rIsNo : R2 := fun x y H Q => y = .non ∧ Q (.bl (decide (x = .non))) H
def rNotNo : R2 := fun x y H Q => y = .non ∧ Q (.bl (!decide (x = .non))) H
theorem op_isNo {X : Cx} : OpR X (compareOp .Is) rIsNo := op_isN
theorem op_notNo {X : Cx} : OpR X (compareOp .IsNot) rNotNo := op_notN
def isNone : PyData → Bool
  | .none => true
  | _ => false
theorem Ds.isNone {K : PySem.W.Frag} {S : Addr → Prop} {H : Hp} {v : V} {x : PyData} (h : Ds K S H v x) : decide (v = .non) = LK.isNone x := by
  cases h <;> first | rfl | exact decide_eq_false (fun z => nomatch z)
theorem eo_isNo {K : PySem.W.Frag} {x : PyData} : EvO K rIsNo x .none (.bool (isNone x)) := fun S v w H _ hv hw Q q => by
  cases hw
  refine ⟨rfl, ?_⟩
  rw [hv.isNone]
  exact q _ H (Ext.refl _) (.bl _)
theorem eo_notNo {K : PySem.W.Frag} {x : PyData} : EvO K rNotNo x .none (.bool (!isNone x)) := fun S v w H _ hv hw Q q => by
  cases hw
  refine ⟨rfl, ?_⟩
  rw [hv.isNone]
  exact q _ H (Ext.refl _) (.bl _)
def tyN : PyData → String
  | .none => "NoneType"
  | .bool _ => "bool"
  | .int _ => "int"
  | .str _ => "str"
  | .list _ => "list"
  | .tuple _ => "tuple"
  | .dict _ => "dict"
/-- an own instance, or a name of what stands somewhere -/
def isOb : PyData → Bool
  | .dict ((.none, _) :: _) => true
  | .dict ((.bool _, _) :: _) => true
  | _ => false
theorem Ds.tyX {K : PySem.W.Frag} {S : Addr → Prop} {H : Hp} {v : V} {x : PyData} (h : Ds K S H v x) (ho : isOb x = false := by rfl) : TyX K H v (.type (tyN x)) := by
  cases h with
  | ins _ _ _ => cases ho
  | rf _ => cases ho
  | dct _ h _ =>
    rcases h with h | ⟨o, h⟩
    · exact .base (.dK h)
    · exact .fDict h
  | non => exact .base .non
  | bl b => exact .base (.bl b)
  | int i => exact .base (.int i)
  | str x => exact .base (.str x)
  | lst s h r =>
    rcases h with h | ⟨o, h⟩
    · exact .base (.lst h)
    · exact .base (.frz h)
  | tup h r =>
    rcases h with (h | ⟨o, h⟩) | ⟨o, its, n, hk, hc, _⟩
    · exact .base (.tup h)
    · exact .fTuple h
    · exact .kTuple hk hc
theorem ev_isi {K : PySem.W.Frag} {γ : Gm} {ta : TE} {x : PyData} {n : String} {b : Bool} (h : Ev K γ ta x) (k : kitB (tyN x) n = some b) (ho : isOb x = false := by rfl) : Ev K γ (tCB (rIsi K) (tCons ta (tCons (tC (.ty n)) tNil))) (.bool b) := fun S σ H f fr Q q =>
  h S σ H f fr _ fun v H2 e2 hv => ⟨v, .ty n, .type (tyN x), .type n, b, rfl, .ty n, hv.tyX ho, kit_ty k, q _ H2 e2 (.bl b)⟩
theorem FnOk.absurd {P : Program} {w : World} {K : PySem.W.Frag} {mg : Str → Option Value} {base : Heap} {CX : CXT} {k : Nat} {f : Addr} {fd : FuncData} {ps : List Str} : FnOk P w K mg base CX k f fd ps (spP K fun _ _ => False) :=
  ⟨fun _ _ _ _ ⟨_, _, _, _, _, h, _⟩ => h.elim, fun _ _ _ _ _ _ _ _ _ _ _ _ _ ⟨_, _, _, _, _, h, _⟩ => h.elim⟩
end LK
namespace LK
open PySem PySem.Spec PyProof.Rows L2
variable [Tbs]
/-! ### dice: a list of ints at d, of which only off takes -/
structure Dc (ns : List Int) : Prop where
  ok : ∃ a b rest, ns = a :: b :: rest ∧ 0 ≤ a ∧ a < 2147483647 ∧ 0 ≤ b ∧ (∀ r ∈ rest, 0 ≤ r) ∧ rest.length ≤ 100
def Dice (H : Hp) (d : Addr) : Prop := ∃ ns, H d = some (.lst (ns.map V.int)) ∧ Dc ns
/-- all but the list at d stays, but that tables may grow -/
structure ChD (d : Addr) (H H' : Hp) : Prop where
  keep : ∀ b o, b ≠ d → H b = some o → (∀ ps, o ≠ .tbl ps) → H' b = some o
  tabs : LamX.Tabs Tbs.tabs H → LamX.Tabs Tbs.tabs H'
theorem ChD.refl {d : Addr} {H : Hp} : ChD d H H := ⟨fun _ _ _ h _ => h, fun h => h⟩
theorem ChD.trans {d : Addr} {H H1 H2 : Hp} (a : ChD d H H1) (b : ChD d H1 H2) : ChD d H H2 := ⟨fun x o n h k => b.keep x o n (a.keep x o n h k) k, fun t => b.tabs (a.tabs t)⟩
theorem ChD.of {d : Addr} {H H' : Hp} (e : Ext H H') : ChD d H H' := ⟨fun b o _ h n => e.keep b o h n, e.tabs⟩
theorem ChD.upd {d : Addr} {H : Hp} {xs ys : List V} (hd : H d = some (.lst xs)) : ChD d H (upd H d (.lst ys)) := ⟨fun b u n h _ => by
  rw [upd_ne n]
  exact h, fun t q hq => tabs_upd hd (t q hq)⟩
theorem Dice.same {d : Addr} {H H' : Hp} (h : Dice H d) (e : Ext H H') : Dice H' d := let ⟨ns, a, b⟩ := h; ⟨ns, e.lst a, b⟩
theorem ChD.chg {d : Addr} {H H' : Hp} (c : ChD d H H') : Chg (fun a => a = d) H H' := ⟨fun b o n => c.keep b o n, c.tabs⟩
theorem ChD.keepS {S : Addr → Prop} {d : Addr} {H H' : Hp} (c : ChD d H H') (n : ¬ S d) (h : Dice H d) : Keep S H H' := by
  obtain ⟨ns, e, _⟩ := h
  exact c.chg.keepS (fun a s z => n (z ▸ s)) (ntup_of e trivial)
theorem ChD.nt {d : Addr} {H H' : Hp} (c : ChD d H H') (h : Dice H' d) {p : Addr} (hp : Nt H' p) : Nt H p := fun o q => by
  have ne : p ≠ d := fun z => by
    subst z
    obtain ⟨ns, e, _⟩ := h
    exact hp.lst e
  rcases isTbl o with z | n
  · exact z
  · exact hp o (c.keep p o ne q n)
theorem ChD.frs {S : Addr → Prop} {d : Addr} {H H' : Hp} (c : ChD d H H') (f : Frs S H) (h : Dice H' d) : Frs S H' := ⟨fun p hp => f.new p (c.nt h hp), c.tabs f.tabs⟩

def EvN (K : PySem.W.Frag) (γ : Gm) (δ : Nat) (te : TE) (A : PyData → Prop) : Prop :=
  ∀ (S : Addr → Prop) (σ : L2.St) (H : Hp) (d : Addr), Fits K S γ σ H → Frs S H → σ[δ]? = some (some (.ref d)) → ¬ S d → Dice H d →
    ∀ Q : VK, (∀ v x H2, A x → ChD d H H2 → Dice H2 d → Ds K S H2 v x → Q v H2) → te σ H Q
def EvNB (K : PySem.W.Frag) (γ : Gm) (δ : Nat) (tt : TT) (B : Bool → Prop) : Prop :=
  ∀ (S : Addr → Prop) (σ : L2.St) (H : Hp) (d : Addr), Fits K S γ σ H → Frs S H → σ[δ]? = some (some (.ref d)) → ¬ S d → Dice H d →
    ∀ Q : Bool → Hp → Prop, (∀ b H2, B b → ChD d H H2 → Dice H2 d → Q b H2) → tt σ H Q
def EvNA (K : PySem.W.Frag) (γ : Gm) (δ : Nat) (ta : TA) (L : List PyData → Prop) : Prop :=
  ∀ (S : Addr → Prop) (σ : L2.St) (H : Hp) (d : Addr), Fits K S γ σ H → Frs S H → σ[δ]? = some (some (.ref d)) → ¬ S d → Dice H d →
    ∀ Q : List V → Hp → Prop, (∀ vs xs H2, L xs → ChD d H H2 → Dice H2 d → DsAll K S H2 vs xs → Q vs H2) → ta σ H Q
/-- called with the dice and data of which Pre holds, it hands back data x with R ds x -/
def spD (K : PySem.W.Frag) (Pre : List PyData → Prop) (R : List PyData → PyData → Prop) : Sp := fun vs H Q _ => ∃ (S : Addr → Prop) (d : Addr) (us : List V) (ds : List PyData), vs = .ref d :: us ∧ DsAll K S H us ds ∧ ¬ S d ∧ Frs S H ∧ Dice H d ∧ Pre ds ∧
  ∀ v x H2, R ds x → ChD d H H2 → Dice H2 d → Ds K S H2 v x → Q v H2
section
variable {K : PySem.W.Frag} {γ : Gm} {δ : Nat} {te ta tb : TE} {tt tu : TT} {A B : PyData → Prop} {r : R2} {x : PyData}
theorem EvN.mono (h : EvN K γ δ te A) (w : ∀ x, A x → B x) : EvN K γ δ te B := fun S σ H d f fr hd n di Q q => h S σ H d f fr hd n di Q fun v x H2 a => q v x H2 (w x a)
theorem en_pure (h : Ev K γ te x) : EvN K γ δ te (fun y => y = x) := fun S σ H d f fr hd n di Q q => h S σ H f fr Q fun v H2 e hv => q v x H2 rfl (.of e) (di.same e) hv
theorem en_op {C : PyData → PyData → Prop} {Z : PyData → Prop} (ha : EvN K γ δ ta A) (hb : ∀ x, A x → EvN K γ δ tb (C x)) (hr : ∀ x y, A x → C x y → ∃ z, EvO K r x y z ∧ Z z) : EvN K γ δ (tOp r ta tb) Z :=
  fun S σ H d f fr hd n di Q q => ha S σ H d f fr hd n di _ fun v x H2 ax c2 d2 hv => hb x ax S σ H2 d (f.keep (c2.keepS n di)) (c2.frs fr d2) hd n d2 _ fun w y H3 cy c3 d3 hw => by
    obtain ⟨z, ez, hz⟩ := hr x y ax cy
    exact ez S v w H3 (c3.frs (c2.frs fr d2) d3) (hv.keep (c3.keepS n d2)) hw Q fun u H4 e4 hu => q u z H4 hz ((c2.trans c3).trans (.of e4)) (d3.same e4) hu
theorem ena_nil : EvNA K γ δ tNil (fun xs => xs = []) := fun S σ H d f fr hd n di Q q => q [] [] H rfl .refl di .nil
theorem ena_cons {tr : TA} {L : PyData → List PyData → Prop} (ha : EvN K γ δ ta A) (hr : ∀ x, A x → EvNA K γ δ tr (L x)) : EvNA K γ δ (tCons ta tr) (fun xs => ∃ x ys, A x ∧ L x ys ∧ xs = x :: ys) := fun S σ H d f fr hd n di Q q =>
  ha S σ H d f fr hd n di _ fun v x H2 ax c2 d2 hv => hr x ax S σ H2 d (f.keep (c2.keepS n di)) (c2.frs fr d2) hd n d2 _ fun vs ys H3 ly c3 d3 hvs => q (v :: vs) (x :: ys) H3 ⟨x, ys, ax, ly, rfl⟩ (c2.trans c3) d3 (.cons (hv.keep (c3.keepS n d2)) hvs)
theorem ena_pure {ta : TA} {xs : List PyData} (h : EvA K γ ta xs) : EvNA K γ δ ta (fun ys => ys = xs) := fun S σ H d f fr hd n di Q q => h S σ H f fr Q fun vs H2 e hv => q vs xs H2 rfl (.of e) (di.same e) hv
theorem EvNA.mono {ta : TA} {L L' : List PyData → Prop} (h : EvNA K γ δ ta L) (w : ∀ x, L x → L' x) : EvNA K γ δ ta L' := fun S σ H d f fr hd n di Q q => h S σ H d f fr hd n di Q fun v x H2 a => q v x H2 (w x a)
theorem en_call {Pre : List PyData → Prop} {R : List PyData → PyData → Prop} {E : XK} {tr : TA} {L : List PyData → Prop} (h : EvNA K γ δ tr L) (hp : ∀ ds, L ds → Pre ds) : EvN K γ δ (tCall (spD K Pre R) [] E (tCons (tVar δ) tr)) (fun x => ∃ ds, L ds ∧ R ds x) := fun S σ H d f fr hd n di Q q =>
  ⟨.ref d, hd, h S σ H d f fr hd n di _ fun vs ds H2 l c2 d2 hv => ⟨S, d, vs, ds, by rw [List.append_nil], hv, n, c2.frs fr d2, d2, hp ds l, fun v x H3 rx c3 d3 hx => q v x H3 ⟨ds, l, rx⟩ (c2.trans c3) d3 hx⟩⟩
theorem en_callP {R : List PyData → PyData → Prop} {E : XK} {ta : TA} {L : List PyData → Prop} (h : EvNA K γ δ ta L) (hp : ∀ ds, L ds → ∃ x, R ds x) : EvN K γ δ (tCall (spP K R) [] E ta) (fun x => ∃ ds, L ds ∧ R ds x) := fun S σ H d f fr hd n di Q q =>
  h S σ H d f fr hd n di _ fun vs ds H2 l c2 d2 hv => by
    obtain ⟨x, rx⟩ := hp ds l
    exact ⟨S, ds, x, by rw [List.append_nil]; exact hv, c2.frs fr d2, rx, fun v H3 e3 hx => q v x H3 ⟨ds, l, rx⟩ (c2.trans (.of e3)) (d2.same e3) hx⟩
theorem en_cb {r : List V → Hp → VK → Prop} {ta : TA} {L : List PyData → Prop} {z : List PyData → PyData} (h : EvNA K γ δ ta L) (hr : ∀ xs, L xs → EvC K r xs (z xs)) : EvN K γ δ (tCB r ta) (fun x => ∃ xs, L xs ∧ x = z xs) := fun S σ H d f fr hd n di Q q =>
  h S σ H d f fr hd n di _ fun vs xs H2 l c2 d2 hv => hr xs l S vs H2 (c2.frs fr d2) hv Q fun u H3 e3 hu => q u _ H3 ⟨xs, l, rfl⟩ (c2.trans (.of e3)) (d2.same e3) hu
theorem en_lst {ta : TA} {L : List PyData → Prop} (h : EvNA K γ δ ta L) (hz : ∀ xs, L xs → xs.length ≤ 1000000) : EvN K γ δ (tLst ta) (fun x => ∃ xs, L xs ∧ x = .list xs) := fun S σ H d f fr hd n di Q q =>
  h S σ H d f fr hd n di _ fun vs xs H2 l c2 d2 hv => ⟨sz_of (by rw [hv.len]; exact hz xs l), fun p hp => q (.ref p) _ _ ⟨xs, l, rfl⟩ (c2.trans (.of (same_new hp))) (d2.same (same_new hp)) (.lst ((c2.frs fr d2).fresh p hp) (.inl upd_same) (hv.same (same_new hp)))⟩
theorem en_tup {ta : TA} {L : List PyData → Prop} (h : EvNA K γ δ ta L) (hz : ∀ xs, L xs → xs.length ≤ 1000000) : EvN K γ δ (tTup ta) (fun x => ∃ xs, L xs ∧ x = .tuple xs) := fun S σ H d f fr hd n di Q q =>
  h S σ H d f fr hd n di _ fun vs xs H2 l c2 d2 hv => ⟨sz_of (by rw [hv.len]; exact hz xs l), fun p hp => q (.ref p) _ _ ⟨xs, l, rfl⟩ (c2.trans (.of (same_new hp))) (d2.same (same_new hp)) (.tup (SqT.of upd_same) (hv.same (same_new hp)))⟩
theorem enb_pure {b : Bool} (h : EvB K γ tt b) : EvNB K γ δ tt (fun c => c = b) := fun S σ H d f fr hd n di Q q => h S σ H f fr Q fun H2 e => q b H2 rfl (.of e) (di.same e)
theorem enb_test {B : Bool → Prop} (h : EvN K γ δ te (fun x => ∃ b, B b ∧ x = .bool b)) : EvNB K γ δ (tTest te) B := fun S σ H d f fr hd n di Q q => h S σ H d f fr hd n di _ fun v x H2 ax c2 d2 hv => by
  obtain ⟨b, hb, rfl⟩ := ax
  exact ⟨b, hv.bl_inv, q b H2 hb c2 d2⟩
theorem enb_B {B : Bool → Prop} (h : EvN K γ δ te (fun x => ∃ b, B b ∧ x = .bool b)) : EvNB K γ δ (tB te) B := fun S σ H d f fr hd n di Q q => h S σ H d f fr hd n di _ fun v x H2 ax c2 d2 hv => by
  obtain ⟨b, hb, rfl⟩ := ax
  exact ⟨b, hv.bl_inv, q b H2 hb c2 d2⟩
theorem enb_not {B : Bool → Prop} (h : EvNB K γ δ tt B) : EvNB K γ δ (tNot tt) (fun b => B (!b)) := fun S σ H d f fr hd n di Q q => h S σ H d f fr hd n di _ fun b H2 hb c2 d2 => q (!b) H2 (by
  show B (!!b)
  rw [Bool.not_not]
  exact hb) c2 d2
theorem enb_any (h : EvNB K γ δ tt B') : EvNB K γ δ tt (fun _ => True) := fun S σ H d f fr hd n di Q q => h S σ H d f fr hd n di Q fun b H2 _ => q b H2 trivial
theorem EvNB.mono {B B' : Bool → Prop} (h : EvNB K γ δ tt B) (w : ∀ b, B b → B' b) : EvNB K γ δ tt B' := fun S σ H d f fr hd n di Q q => h S σ H d f fr hd n di Q fun b H2 hb => q b H2 (w b hb)
theorem enb_and {B B' : Bool → Prop} (h : EvNB K γ δ tt B) (h2 : B true → EvNB K γ δ tu B') : EvNB K γ δ (tAnd tt tu) (fun c => (c = true → B true ∧ B' true) ∧ (c = false → B false ∨ (B true ∧ B' false))) := fun S σ H d f fr hd n di Q q => h S σ H d f fr hd n di _ fun b H2 hb c2 d2 => by
  cases b with
  | true =>
    show tu σ H2 Q
    exact h2 hb S σ H2 d (f.keep (c2.keepS n di)) (c2.frs fr d2) hd n d2 Q fun b' H3 hb' c3 d3 => q b' H3 ⟨fun e => ⟨hb, e ▸ hb'⟩, fun e => .inr ⟨hb, e ▸ hb'⟩⟩ (c2.trans c3) d3
  | false =>
    show Q false H2
    exact q false H2 ⟨fun e => Bool.noConfusion e, fun _ => .inl hb⟩ c2 d2
theorem en_ifE {B : Bool → Prop} (h : EvNB K γ δ tt B) (h1 : B true → EvN K γ δ ta A) (h2 : B false → EvN K γ δ tb A) : EvN K γ δ (tIf tt ta tb) A := fun S σ H d f fr hd n di Q q => h S σ H d f fr hd n di _ fun b H2 hb c2 d2 => by
  cases b with
  | true =>
    show ta σ H2 Q
    exact h1 hb S σ H2 d (f.keep (c2.keepS n di)) (c2.frs fr d2) hd n d2 Q fun v x H3 ax c3 d3 hv => q v x H3 ax (c2.trans c3) d3 hv
  | false =>
    show tb σ H2 Q
    exact h2 hb S σ H2 d (f.keep (c2.keepS n di)) (c2.frs fr d2) hd n d2 Q fun v x H3 ax c3 d3 hv => q v x H3 ax (c2.trans c3) d3 hv
/-- a target whose names are among vs, the dice's slot among them not -/
def GInD (g : TG) (vs : List Nat) (δ : Nat) : Prop := ∀ (v : V) (σ : L2.St) (H : Hp) (Q : L2.St → Hp → Prop), g v (L2.wipe σ vs) H (fun σ2 H2 => σ2[δ]? = σ[δ]? → Q σ2 H2) → g v (L2.wipe σ vs) H fun σ2 H2 => L2.wipe σ2 vs = L2.wipe σ vs ∧ Q σ2 H2
theorem gind_name {j : Nat} {vs : List Nat} (h : j ∈ vs) (hd : δ ∉ vs) : GInD (gName j) vs δ := fun v σ H Q q => by
  have hne : j ≠ δ := fun e => by
    rw [e] at h
    exact hd h
  exact ⟨wipe_in h _, q ((List.getElem?_set_ne hne).trans (wipe_out hd))⟩
/-- a comprehension whose items draw -/
theorem en_lcG {ti : TI} {g : TG} {vs : List Nat} {n : Nat} {y : Nat → PyData} {C : Nat → PyData → Prop} {γ' : Nat → Gm}
    (h : EvW K γ ti n y) (hz : n ≤ 1000000) (hv : GInD g vs δ) (hg : ∀ i, i < n → EvG K g (wipeG γ vs) (y i) (γ' i))
    (he : ∀ i, i < n → EvN K (γ' i) δ te (C i)) : EvN K γ δ (tLc ti g tYes te vs) (fun x => ∃ xs : List PyData, x = .list xs ∧ xs.length = n ∧ ∀ i y, xs[i]? = some y → C i y) := fun S σ H d fi fr hd nd di Q q =>
  h S σ H fi fr _ fun J H2 e2 W D hD => by
    have fr2 := fr.same e2
    have di2 := di.same e2
    have res : Res H2 S (fun a => S a ∧ a ≠ D) := Res.ne hD
    obtain ⟨G, wk, g0, gk⟩ := W _ res
    have fi2 : Fits K (fun a => S a ∧ a ≠ D) (wipeG γ vs) (L2.wipe σ vs) H2 := ((fi.same e2).res res).wipe vs
    have nDd : D ≠ d := fun z => by
      subst z
      obtain ⟨ns, e, _⟩ := di2
      rw [e] at hD
      cases hD
    refine lc_it wk (fun i H' => ∃ acc xs, ChD d H2 H' ∧ Dice H' d ∧ H' D = some (.lst acc) ∧ DsAll K (fun a => S a ∧ a ≠ D) H' acc xs ∧ xs.length = i ∧ ∀ j y, xs[j]? = some y → C j y)
      ⟨[], [], .of (same_new hD), di2.same (same_new hD), upd_same, .nil, rfl, fun j y e => by simp at e⟩ (fun i H' hi p => ?_) (fun i x H3 H4 hi p yy => ?_) (fun H' p => ?_)
    · obtain ⟨acc, xs, p1, _⟩ := p
      exact gk H2 H' (p1.keepS (fun z => nd z.1) di2) g0
    · obtain ⟨acc, xs, p1, p2, p3, p4, p5, p6⟩ := p
      obtain ⟨y1, y2⟩ := yy
      have k24 : ChD d H2 H4 := p1.trans (.of y1)
      have di4 := p2.same y1
      refine hv x σ H4 _ (hg i hi _ _ x H4 (fi2.keep (k24.keepS (fun z => nd z.1) di2)) y2 _ fun σ' fi' hs => ?_)
      have fr4 : Frs S H4 := k24.frs fr2 di4
      have dis : Frs (fun a => S a ∧ a ≠ D) H4 := ⟨fun p hp => ⟨fr4.new p hp, fun z => by
        subst z
        exact hp.lst (y1.lst p3)⟩, fr4.tabs⟩
      have atD4 : H4 D = some (.lst acc) := y1.lst p3
      show te _ H4 _
      refine he i hi _ σ' H4 d fi' dis (hs.trans hd) (fun z => nd z.1) di4 _ fun v x H7 cx c7 d7 hv => ⟨acc, c7.keep _ _ nDd atD4 (fun _ z => nomatch z), sz_lt ?_, acc ++ [v], xs ++ [x], ?_, ?_, upd_same, ?_, by rw [List.length_append, p5]; rfl, fun j y e => ?_⟩
      · rw [p4.len]
        omega
      · have h7 := c7.keep _ _ nDd atD4 (fun _ z => nomatch z)
        have c27 := k24.trans c7
        refine ⟨fun b o nb hb nt => ?_, fun t q hq => tabs_upd h7 (c27.tabs t q hq)⟩
        rw [upd_ne (ne_of_none hb hD)]
        exact c27.keep _ _ nb hb nt
      · obtain ⟨ns, e, dc⟩ := d7
        exact ⟨ns, by rw [upd_ne (Ne.symm nDd)]; exact e, dc⟩
      · have kk : Keep (fun a => S a ∧ a ≠ D) H7 (upd H7 D (.lst (acc ++ [v]))) := Keep.upd (c7.keep _ _ nDd atD4 (fun _ z => nomatch z)) (fun z => z.2 rfl)
        exact (((p4.same y1).keep (c7.keepS (fun z => nd z.1) di4)).app (.one hv)).keep kk
      · by_cases hj : j < i
        · rw [List.getElem?_append_left (by omega)] at e
          exact p6 j y e
        · have hj2 : j = i := by
            have := (List.getElem?_eq_some_iff.mp e).1
            rw [List.length_append] at this
            simp at this
            omega
          subst hj2
          rw [List.getElem?_append_right (by omega)] at e
          simp [p5] at e
          exact e ▸ cx
    · obtain ⟨acc, xs, p1, p2, p3, p4, p5, p6⟩ := p
      exact q (.ref D) _ H' ⟨xs, rfl, p5, p6⟩ ((ChD.of e2).trans p1) p2 (.lst (fr2.fresh D hD) (.inl p3) (p4.res fun a s _ => s.1))
theorem en_lcR {ta : TA} {m j : Nat} {vs : List Nat} {C : Nat → PyData → Prop} (h : EvA K γ ta [.int (m : Int)]) (hz : m ≤ 1000000) (hj : j ∈ vs) (hd : δ ∉ vs) (he : ∀ i, i < m → EvN K ((wipeG γ vs).set j (some (.int (i : Int)))) δ te (C i)) :
    EvN K γ δ (tLc (iRng1 ta) (gName j) tYes te vs) (fun x => ∃ xs : List PyData, x = .list xs ∧ xs.length = m ∧ ∀ i y, xs[i]? = some y → C i y) :=
  en_lcG (γ' := fun i => (wipeG γ vs).set j (some (.int (i : Int)))) (ew_rN h hz) hz (gind_name hj hd) (fun i hi => eg_name) (te := te) (fun i hi => he i hi)
/-! bodies that draw -/
def RunN (K : PySem.W.Frag) (γ : Gm) (δ : Nat) (ts : TS) (Γ : Gm → Prop) (A : PyData → Prop) : Prop :=
  ∀ (S : Addr → Prop) (σ : L2.St) (H : Hp) (d : Addr), Fits K S γ σ H → Frs S H → σ[δ]? = some (some (.ref d)) → ¬ S d → Dice H d →
    ∀ D : Ends, (∀ σ' γ' H2, Γ γ' → ChD d H H2 → Dice H2 d → Fits K S γ' σ' H2 → σ'[δ]? = some (some (.ref d)) → D.nx σ' H2) → (∀ v x H2, A x → ChD d H H2 → Dice H2 d → Ds K S H2 v x → D.rt v H2) → ts D σ H
theorem rn_seq {t u : TS} {Γ Γ' : Gm → Prop} (h : RunN K γ δ t Γ A) (k : ∀ γ', Γ γ' → RunN K γ' δ u Γ' A) : RunN K γ δ (tSeq t u) Γ' A := fun S σ H d f fr hd n di D qn qr =>
  h S σ H d f fr hd n di { D with nx := u D } (fun σ' γ' H2 g c2 d2 f2 hd2 => k γ' g S σ' H2 d f2 (c2.frs fr d2) hd2 n d2 D (fun σ'' γ'' H3 g3 c3 => qn σ'' γ'' H3 g3 (c2.trans c3)) fun v x H3 ax c3 => qr v x H3 ax (c2.trans c3)) qr
theorem rn_mono {t : TS} {Γ Γ' : Gm → Prop} (h : RunN K γ δ t Γ A) (w : ∀ γ', Γ γ' → Γ' γ') (w2 : ∀ x, A x → B x) : RunN K γ δ t Γ' B := fun S σ H d f fr hd n di D qn qr => h S σ H d f fr hd n di D (fun σ' γ' H2 g => qn σ' γ' H2 (w _ g)) fun v x H2 ax => qr v x H2 (w2 x ax)
theorem rn_set {i : Nat} {C : PyData → Prop} (h : EvN K γ δ te C) (hi : i ≠ δ := by decide) : RunN K γ δ (tAsg te (gName i)) (fun γ' => ∃ x, C x ∧ γ' = γ.set i (some x)) A := fun S σ H d f fr hd n di D qn qr =>
  h S σ H d f fr hd n di _ fun v x H2 cx c2 d2 hv => qn _ _ H2 ⟨x, cx, rfl⟩ c2 d2 ((f.keep (c2.keepS n di)).set i hv) (by rw [List.getElem?_set_ne hi]; exact hd)
theorem rn_setT2 {i j : Nat} {C : PyData → Prop} (h : EvN K γ δ te C) (ht : ∀ x, C x → ∃ y z, x = .tuple [y, z]) (hi : i ≠ δ := by decide) (hj : j ≠ δ := by decide) : RunN K γ δ (tAsg te (gTup K 2 (gCons (gName i) (gCons (gName j) gNil)))) (fun γ' => ∃ y z, C (.tuple [y, z]) ∧ γ' = (γ.set i (some y)).set j (some z)) A := fun S σ H d f fr hd n di D qn qr =>
  h S σ H d f fr hd n di _ fun v x H2 cx c2 d2 hv => by
    obtain ⟨y, z, rfl⟩ := ht x cx
    obtain ⟨a, xs, rfl, hq, hall⟩ := hv.tup_inv
    obtain ⟨v, w, rfl, h1, h2⟩ := hall.two
    exact ⟨a, [v, w], rfl, hq, rfl, v, [w], rfl, w, [], rfl, rfl, qn _ _ H2 ⟨y, z, cx, rfl⟩ c2 d2 (((f.keep (c2.keepS n di)).set i h1).set j h2) (by rw [List.getElem?_set_ne hj, List.getElem?_set_ne hi]; exact hd)⟩
theorem rn_setT3 {i j l : Nat} {C : PyData → Prop} (h : EvN K γ δ te C) (ht : ∀ x, C x → ∃ y z u, x = .tuple [y, z, u]) (hi : i ≠ δ := by decide) (hj : j ≠ δ := by decide) (hl : l ≠ δ := by decide) : RunN K γ δ (tAsg te (gTup K 3 (gCons (gName i) (gCons (gName j) (gCons (gName l) gNil))))) (fun γ' => ∃ y z u, C (.tuple [y, z, u]) ∧ γ' = ((γ.set i (some y)).set j (some z)).set l (some u)) A := fun S σ H d f fr hd n di D qn qr =>
  h S σ H d f fr hd n di _ fun v x H2 cx c2 d2 hv => by
    obtain ⟨y, z, u, rfl⟩ := ht x cx
    obtain ⟨a, xs, rfl, hq, hall⟩ := hv.tup_inv
    obtain ⟨v, w, r, rfl, h1, h2, h3⟩ := hall.three
    exact ⟨a, [v, w, r], rfl, hq, rfl, v, [w, r], rfl, w, [r], rfl, r, [], rfl, rfl, qn _ _ H2 ⟨y, z, u, cx, rfl⟩ c2 d2 ((((f.keep (c2.keepS n di)).set i h1).set j h2).set l h3) (by rw [List.getElem?_set_ne hl, List.getElem?_set_ne hj, List.getElem?_set_ne hi]; exact hd)⟩
theorem rn_next {Γ : Gm → Prop} (h : Γ γ) : RunN K γ δ tNext Γ A := fun S σ H d f fr hd n di D qn qr => qn σ γ H h .refl di f hd
theorem rn_ret {Γ : Gm → Prop} (h : EvN K γ δ te A) : RunN K γ δ (tRet te) Γ A := fun S σ H d f fr hd n di D qn qr => h S σ H d f fr hd n di _ fun v x H2 ax c2 d2 hv => qr v x H2 ax c2 d2 hv
theorem rn_drop {C : PyData → Prop} (h : EvN K γ δ te C) : RunN K γ δ (tDrop te) (fun γ' => γ' = γ) A := fun S σ H d f fr hd n di D qn qr => h S σ H d f fr hd n di _ fun v x H2 ax c2 d2 hv => qn σ γ H2 rfl c2 d2 (f.keep (c2.keepS n di)) hd
theorem rn_if {B : Bool → Prop} {t u : TS} {Γ : Gm → Prop} (h : EvNB K γ δ tt B) (h1 : B true → RunN K γ δ t Γ A) (h2 : B false → RunN K γ δ u Γ A) : RunN K γ δ (tIfS tt t u) Γ A := fun S σ H d f fr hd n di D qn qr => h S σ H d f fr hd n di _ fun b H2 hb c2 d2 => by
  cases b with
  | true =>
    show t D σ H2
    exact h1 hb S σ H2 d (f.keep (c2.keepS n di)) (c2.frs fr d2) hd n d2 D (fun σ' γ' H3 g c3 => qn σ' γ' H3 g (c2.trans c3)) fun v x H3 ax c3 => qr v x H3 ax (c2.trans c3)
  | false =>
    show u D σ H2
    exact h2 hb S σ H2 d (f.keep (c2.keepS n di)) (c2.frs fr d2) hd n d2 D (fun σ' γ' H3 g c3 => qn σ' γ' H3 g (c2.trans c3)) fun v x H3 ax c3 => qr v x H3 ax (c2.trans c3)
theorem rn_for {ti : TI} {t : TS} {n j : Nat} {y : Nat → PyData} (Γs : Nat → Gm → Prop) (h : EvW K γ ti n y) (h0 : Γs 0 γ) (hj : j ≠ δ) (hb : ∀ i γ', i < n → Γs i γ' → RunN K (γ'.set j (some (y i))) δ t (Γs (i + 1)) A) : RunN K γ δ (tFor ti (gName j) t) (Γs n) A := fun S σ H d f fr hd nd di D qn qr =>
  h S σ H f fr _ fun J H2 e2 W => by
    obtain ⟨G, wk, g0, gk⟩ := W S fun _ s _ => s
    have di2 := di.same e2
    have fr2 := fr.same e2
    refine for_it wk (fun i σ' H' => ∃ γ', Γs i γ' ∧ ChD d H2 H' ∧ Dice H' d ∧ Fits K S γ' σ' H' ∧ σ'[δ]? = some (some (.ref d))) ⟨γ, h0, .refl, di2, f.same e2, hd⟩ (fun i σ' H' hi p => ?_) (fun i x σ' H3 H4 hi p yy => ?_) fun σ' H' p => ?_
    · obtain ⟨γ', p0, p1, p2, _⟩ := p
      exact gk H2 H' (p1.keepS nd di2) g0
    · obtain ⟨γ', p0, p1, p2, p3, p4⟩ := p
      have c4 : ChD d H2 H4 := p1.trans (.of yy.1)
      have d4 := p2.same yy.1
      show t _ (σ'.set j (some x)) H4
      refine hb i γ' hi p0 S _ H4 d ((p3.same yy.1).set j yy.2) (c4.frs fr2 d4) (by rw [List.getElem?_set_ne hj]; exact p4) nd d4 _ (fun σ'' γ'' H5 g5 c5 d5 f5 hd5 => ⟨γ'', g5, c4.trans c5, d5, f5, hd5⟩) fun v x H5 ax c5 d5 hv => qr v x H5 ax (((ChD.of e2).trans c4).trans c5) d5 hv
    · obtain ⟨γ', p0, p1, p2, p3, p4⟩ := p
      exact qn σ' γ' H' p0 ((ChD.of e2).trans p1) p2 p3 p4
end
section
variable {P : Program} {w : World} {K : PySem.W.Frag} {mg : Str → Option Value} {base : Heap}
theorem Fun.draws {x qual : Str} {st : Stmt} {f : Addr} {fd : FuncData} {N ps : List Str} {k : Nat} {Pre : List PyData → Prop} {R : List PyData → PyData → Prop} (F : Fun K x qual st f fd) (Sc : FnScope N ps (defScope st)) (len : ∀ ds, Pre ds → ds.length + 1 = ps.length)
    (hbody : ∀ (cdv : Value) (A : Around) (outer : List Env) (s : Shared) (H : Hp) (E : XK), Room k (A.deeper (envOfC qual (defScope st) s.heap.objs.size f cdv)) →
      ∃ t, PSs (cxOf CX0 P w K mg base N qual (defScope st) f cdv A outer s H E).nox (defBody st) t ∧ ∀ ds, Pre ds → RunN K (none :: startG (N.length - 1) ds) 0 t (fun _ => False) (R ds)) : FnOk P w K mg base CX0 (k + 1) f fd ps (spD K Pre R) := by
  refine F.ok Sc (fun vs H Q E h => ?_) (fun cdv A outer s H vs Q E hr h => ?_)
  · obtain ⟨S, d, us, ds, rfl, h1, _, _, _, h3, _⟩ := h
    rw [List.length_cons, h1.len]
    exact len ds h3
  · obtain ⟨S, d, us, ds, rfl, h1, n, fr, di, h3, q⟩ := h
    obtain ⟨t, ht, hR⟩ := hbody cdv A outer s H E hr
    refine ⟨t, ht, hR ds h3 S _ H d ?_ fr rfl n di _ (fun _ _ _ z => z.elim) fun v x H2 rx c2 d2 hv => q v x H2 rx c2 d2 hv⟩
    have e : L2.start N (.ref d :: us) = some (.ref d) :: L2.start N.tail us := by
      unfold L2.start
      show some (V.ref d) :: (us.map some ++ List.replicate (N.length - (us.length + 1)) none) = _
      rw [List.length_tail, Nat.sub_sub, Nat.add_comm 1]
    rw [e, show N.length - 1 = N.tail.length from List.length_tail.symm]
    have g := fits_start (N := N.tail) h1
    exact ⟨by rw [List.length_cons, List.length_cons, g.len], fun i x hx => by
      cases i with
      | zero => cases hx
      | succ i => exact g.get i x hx⟩
end
end LK
namespace LK
open PySem PySem.Spec PyProof.Rows L2
variable [Tbs]
theorem ixN_nat {n j : Nat} (h : j < n) : ixN n (j : Int) = some j := by
  unfold ixN
  rw [if_pos (by omega), if_pos (by omega), Int.toNat_natCast]
end LK
namespace LK
open PySem PySem.Spec PyProof.Rows L2
variable [Tbs]
theorem map_of {α : Type} {g : α → PyData} {A : α → Prop} : ∀ {xs : List PyData}, (∀ y ∈ xs, ∃ a, y = g a ∧ A a) → ∃ as : List α, xs = as.map g ∧ ∀ a ∈ as, A a
  | [], _ => ⟨[], rfl, fun a h => by cases h⟩
  | x :: xs, h => by
    obtain ⟨a, rfl, ha⟩ := h x List.mem_cons_self
    obtain ⟨as, rfl, hs⟩ := map_of (xs := xs) fun y hy => h y (List.mem_cons_of_mem _ hy)
    exact ⟨a :: as, rfl, fun b hb => by
      rcases List.mem_cons.mp hb with e | e
      · rw [e]
        exact ha
      · exact hs b e⟩
def PreOff : List PyData → Prop := fun ds => ∃ m : Int, ds = [.int m] ∧ 0 < m ∧ m < 1073741824
def R_off : List PyData → PyData → Prop := fun ds x => ∃ m r : Int, ds = [.int m] ∧ x = .int r ∧ 0 ≤ r ∧ r < m
section
variable {K : PySem.W.Frag} {γ : Gm} {δ : Nat} {te : TE} {E : XK}
/-- a draw below m -/
theorem en_off {m : Int} (h : Ev K γ te (.int m)) (h0 : 0 < m) (h1 : m < 1073741824) : EvN K γ δ (tCall (spD K PreOff R_off) [] E (tCons (tVar δ) (tCons te tNil))) (fun x => ∃ r : Int, x = .int r ∧ 0 ≤ r ∧ r < m) :=
  EvN.mono (en_call (ena_pure (ea_cons h ea_nil)) fun ds e => ⟨m, e, h0, h1⟩) fun x ⟨ds, e, m', r, e', hx, r0, r1⟩ => ⟨r, hx, r0, by
    rw [e] at e'
    cases e'
    exact r1⟩
/-- .. below a drawn m -/
theorem en_offN {A : PyData → Prop} (h : EvN K γ δ te A) (hA : ∀ x, A x → ∃ m : Int, x = .int m ∧ 0 < m ∧ m < 1073741824) : EvN K γ δ (tCall (spD K PreOff R_off) [] E (tCons (tVar δ) (tCons te tNil))) (fun x => ∃ m r : Int, A (.int m) ∧ x = .int r ∧ 0 ≤ r ∧ r < m) :=
  EvN.mono (en_call (ena_cons h fun _ _ => ena_nil) fun ds ⟨x, ys, ax, hy, e⟩ => by
    obtain ⟨m, rfl, m0, m1⟩ := hA x ax
    subst hy
    exact ⟨m, e, m0, m1⟩) fun x ⟨ds, ⟨y, ys, ay, hy, e⟩, m, r, e', hx, r0, r1⟩ => by
      subst hy
      rw [e] at e'
      cases e'
      exact ⟨m, r, ay, hx, r0, r1⟩
end
end LK
namespace LK
open PySem PySem.Spec PyProof.Rows L2
variable [Tbs]
/-! ### methods of lists, their K said -/
section
variable {X : Cx} {K : PySem.W.Frag} {o e : Expr} {es : List Expr} {to : TE} {t : TA} {name : Str} {apos cpos : Pos} {T id : String} {r : V → List V → Hp → VK → Prop}
theorem pe_bm0K (hk : X.K = K) (pa : PlainAttrs T) (slot : Slot T name id) (hty : typeOf (.builtin id) = pure (.type "method_descriptor")) (hm : MtR X id r) (ho : PE X o to)
    (hbase : attributeBase o name X.env (eval o X.env) = eval o X.env := by rfl) (hline : (apos.endLine == cpos.line) = true := by rfl) : PE X (.Call (.Attribute o name apos) [] [] cpos) (tBM0 K T r to) := hk ▸ pe_bm0 pa slot hty hm ho hbase hline
theorem pe_bmK (hk : X.K = K) (pa : PlainAttrs T) (slot : Slot T name id) (hty : typeOf (.builtin id) = pure (.type "method_descriptor")) (hm : MtR X id r) (ho : PE X o to) (ha : PA X (e :: es) t)
    (hbase : attributeBase o name X.env (eval o X.env) = eval o X.env := by rfl)
    (hfew : ((backTo cpos (starEach (e :: es) X.env)).all (fun x => !x.1) && (backToKw cpos (keywordEach [] X.env)).all (fun x => x.1.isSome)
      && decide ((e :: es).length + ([] : List Keyword).length + (if ([] : List Keyword).isEmpty then 0 else 1) < 30)) = true := by rfl)
    (hline : (apos.endLine == cpos.line) = true := by rfl) (hs : starEach (e :: es) X.env = (false, eval e X.env) :: starEach es X.env := by rfl) (hplain : (backTo cpos (starEach es X.env)).any (·.1) = false := by rfl) :
    PE X (.Call (.Attribute o name apos) (e :: es) [] cpos) (tBM K T r to t) := hk ▸ pe_bm pa slot hty hm ho ha hbase hfew hline hs hplain
end
/-! ### data that may be compared -/
structure Shp (n : Nat) (d : PyData) : Prop where
  lay : d.canLay0 = true
  dep : d.depth ≤ n
theorem Shp.shaped {n : Nat} {d : PyData} (h : Shp n d) (hn : n ≤ 64) : SeqAt.shaped d = true := by
  unfold SeqAt.shaped
  rw [h.lay, decide_eq_true (Nat.le_trans h.dep hn)]
  rfl
theorem Shp.eqv {n : Nat} {d : PyData} (h : Shp n d) : PyData.eqv d d = true := SeqAt.eqv_refl d h.lay
end LK
namespace LK
open PySem PySem.Spec PyProof.Rows L2
variable [Tbs]
theorem shp_all {n : Nat} : ∀ {ds : List PyData}, (∀ d ∈ ds, Shp n d) → PyData.canLayAll0 ds = true ∧ PyData.depthAll ds ≤ n
  | [], _ => ⟨rfl, Nat.zero_le _⟩
  | d :: ds, h => by
    obtain ⟨a, b⟩ := shp_all (ds := ds) fun e he => h e (List.mem_cons_of_mem _ he)
    obtain ⟨c, e⟩ := h d List.mem_cons_self
    refine ⟨?_, ?_⟩
    · show (d.canLay0 && PyData.canLayAll0 ds) = true
      rw [a, c]
      rfl
    · show max d.depth (PyData.depthAll ds) ≤ n
      omega
theorem shp_lst {n : Nat} {ds : List PyData} (h : ∀ d ∈ ds, Shp n d) : Shp (n + 1) (.list ds) := ⟨(shp_all h).1, Nat.succ_le_succ (shp_all h).2⟩
theorem shp_tup {n : Nat} {ds : List PyData} (h : ∀ d ∈ ds, Shp n d) : Shp (n + 1) (.tuple ds) := ⟨(shp_all h).1, Nat.succ_le_succ (shp_all h).2⟩
theorem shp_int {n : Nat} {i : Int} : Shp n (.int i) := ⟨rfl, Nat.zero_le _⟩
theorem shp_bl {n : Nat} {i : Bool} : Shp n (.bool i) := ⟨rfl, Nat.zero_le _⟩
theorem shp_non {n : Nat} : Shp n .none := ⟨rfl, Nat.zero_le _⟩
theorem shp_str {n : Nat} {z : Str} (h : (PyData.str z).canLay0 = true) : Shp n (.str z) := ⟨h, Nat.zero_le _⟩
theorem shp_il {n : Nat} {ns : List Int} : Shp (n + 1) (il ns) := shp_lst fun d hd => by
  obtain ⟨i, _, rfl⟩ := List.mem_map.mp hd
  exact shp_int
theorem shp_pic {n : Nat} {rows : Rows} : Shp (n + 2) (pic rows) := shp_lst fun d hd => by
  obtain ⟨r, _, rfl⟩ := List.mem_map.mp hd
  exact shp_il
theorem eqv_pic (rows : Rows) : PyData.eqv (pic rows) (pic rows) = true := (shp_pic (n := 0)).eqv
theorem sh_pic (rows : Rows) : SeqAt.shaped (pic rows) = true := (shp_pic (n := 0)).shaped (by decide)
section
variable {K : PySem.W.Frag} {γ : Gm} {te ta tb : TE}
theorem ev_eqPic {rows : Rows} (ha : Ev K γ ta (pic rows)) (hb : Ev K γ tb (pic rows)) : Ev K γ (tOp (rEqD K) ta tb) (.bool true) := (ev_op ha hb (eo_eqD (sh_pic rows) (sh_pic rows))).is (by rw [eqv_pic])
end
end LK
namespace LK
open PySem PySem.Spec PyProof.Rows L2
variable [Tbs]
section
variable {K : PySem.W.Frag} {γ : Gm} {δ : Nat} {te : TE} {tt : TT} {t u : TS} {Γ : Gm → Prop} {A : PyData → Prop}
theorem rn_if0 (h : EvB K γ tt false) (h2 : RunN K γ δ u Γ A) : RunN K γ δ (tIfS tt t u) Γ A := rn_if (enb_pure h) (fun z => Bool.noConfusion z) fun _ => h2
theorem rn_when0 (h : EvB K γ tt false) : RunN K γ δ (tIfS tt t tNext) (fun γ' => γ' = γ) A := rn_if0 h (rn_next rfl)
theorem rn_forget (j : Nat) (h : RunN K γ δ t Γ A) : RunN K γ δ t (fun γ' => ∃ γ0, Γ γ0 ∧ γ' = γ0.set j none) A := fun S σ H d f fr hd n di D qn qr =>
  h S σ H d f fr hd n di D (fun σ' γ' H2 g c2 d2 f2 hd2 => qn σ' _ H2 ⟨γ', g, rfl⟩ c2 d2 (f2.le (by rw [List.length_set]) fun k d e => by
    by_cases hj : j = k
    · subst hj
      by_cases hi : j < γ'.length
      · rw [List.getElem?_set_self hi] at e
        cases e
      · rw [List.getElem?_eq_none (by rw [List.length_set]; omega)] at e
        cases e
    · rw [List.getElem?_set_ne hj] at e
      exact e) hd2) qr
theorem fits_none {S : Addr → Prop} {σ : L2.St} {H : Hp} {n : Nat} (h : σ.length = n) : Fits K S (List.replicate n none) σ H := ⟨by rw [List.length_replicate, h], fun i d e => by
  have := List.mem_of_getElem? e
  simp at this⟩
theorem RunN.law {σ : L2.St} {H : Hp} {d : Addr} {n : Nat} {D : Ends} (h : RunN K (List.replicate n none) δ t (fun _ => False) (fun x => x = .bool true)) (hl : σ.length = n) (hd : σ[δ]? = some (some (.ref d))) (di : Dice H d) (tb : LamX.Tabs Tbs.tabs H) (q : ∀ H2, D.rt (.bl true) H2) : t D σ H :=
  h (fun b => b ≠ d) σ H d (fits_none hl) ⟨fun p hp z => (by
    subst z
    obtain ⟨ns, e, _⟩ := di
    exact hp.lst e), tb⟩ hd (fun z => z rfl) di D (fun _ _ _ z => z.elim) fun v x H2 hx _ _ hv => by
      subst hx
      cases hv
      exact q H2
/-- 1 + a draw below m -/
theorem en_one {E : XK} {m : Nat} (h : Ev K γ te (.int (m : Int))) (h0 : 0 < m) (h1 : m ≤ 1000) : EvN K γ δ (tOp (rI0 fun i j => .int (i + j)) (tC (.int 1)) (tCall (spD K PreOff R_off) [] E (tCons (tVar δ) (tCons te tNil)))) (fun x => ∃ k : Nat, x = .int (k : Int) ∧ 1 ≤ k ∧ k ≤ m) :=
  en_op (en_pure ev_int) (fun x _ => en_off h (by omega) (by omega)) (by
    rintro x y rfl ⟨r, rfl, r0, r1⟩
    exact ⟨.int (1 + r), eo_I0 fun _ _ => .int _, (1 + r).toNat, by rw [Int.toNat_of_nonneg (by omega)], by omega, by omega⟩)
end
end LK
namespace LK
open PySem PySem.Spec PyProof.Rows L2
variable [Tbs]
/-! ### min(xs, key=lambda x: x[n]) -/
def lamArgs (x : Str) (p : Pos) : Arguments := { posonlyargs := [], args := [{ arg := x, annotation := none, pos := p }], vararg := none, kwonlyargs := [], kw_defaults := [], kwarg := none, defaults := [] }
def lamScope (x : Str) : Scope := { kind := .function, names := [(x, .local)], isGenerator := false, isCoroutine := false, more := [] }
def LamB (qual x : Str) (p : Pos) (body : Expr) (scope : Scope) : Prop := ∀ (pm cdv ct v : Value), bindArgs (PySem.W.kla_fn "<lambda>" qual (lamArgs x p) body scope [] pm cdv ct) ⟨[v], []⟩ = pure [(x, v)]
/-- the call of such a lambda at a tuple -/
theorem lam_item {prog : Program} {w : World} {A : Around} {E : Value → Shared → Prop} {s : Shared} {f c' t : Addr} {qual x : Str} {p p1 p2 p3 : Pos} {kk : Nat} {n : Nat} {pm ctv u : Value} {its : Array Value} {Q : Value → Shared → Prop}
    (hb : LamB qual x p (.Subscript (.Name x p1) (.Constant (.int (n : Int)) kk p2) p3) (lamScope x)) (hd : (x == ("__debug__" : Str)) = false) (hroom : A.depth < recursionLimit)
    (hf : s.heap.get? f = some (PySem.W.kla_obj "<lambda>" qual (lamArgs x p) (.Subscript (.Name x p1) (.Constant (.int (n : Int)) kk p2) p3) (lamScope x) [] pm c' ctv)) (hc : s.heap.CodeRec (.ref c') qual) (hlim : s.heap.NoLimit)
    (ht : IsTup s.heap t its) (hn : its[n]? = some u) (hsz : its.size ≤ sizeLine)
    (h : ∀ h' tk, (∀ b o, s.heap.get? b = some o → h'.get? b = some o) → Q u { s with heap := h', toks := tk }) :
    wpAny (model prog w) A (call (.ref f) [.ref t]) Q E s := by
  refine wpAny_call ?_
  refine PySem.W.kla_callFunE hroom hf rfl rfl rfl rfl hc ?_
  rw [hb]
  have hlook : (lamScope x).names.lookup x = some .local := by
    show List.lookup x [(x, NameKind.local)] = _
    simp
  refine wpAny_pure (wpAny_newFunctionEnv (fun y hy => ?_) (fun y hy => ?_) (fun h₁ hns hsb => ⟨hlim.fresh _ hsb, ?_⟩) rfl)
  · have : y = (x, NameKind.local) := List.mem_singleton.mp hy
    subst this
    exact fun z => nomatch z
  · have : y = (x, _) := List.mem_singleton.mp hy
    subst this
    exact hlook
  have kp : ∀ b o, s.heap.get? b = some o → h₁.get? b = some o := fun b o e => hsb.extBut b o (Nat.ne_of_lt (Heap.lt_size e)) (Heap.get?_push_of_some _ e)
  show codeAny _ _ (.expr _ (PySem.W.envX qual (lamScope x) s.heap.objs.size f (.ref c') [])) _ _
  refine PySem.W.kla_codeExpr ?_
  refine Subscript_ (wpAny_Name (wpAny_loadName_local (m := fun y => ([(x, Value.ref t)] : List (Str × Value)).reverse.lookup y) (v := .ref t) rfl hlook hns ?_ ?_) hd)
  · show List.lookup x [(x, Value.ref t)] = _
    simp
  refine wpAny_Constant_int ?_
  have ht1 : IsTup h₁ t its := by
    obtain ⟨o, e, r⟩ := ht
    exact ⟨o, kp _ _ e, r⟩
  have hnl : n < its.size := by
    rcases Nat.lt_or_ge n its.size with q | q
    · exact q
    · rw [Array.getElem?_eq_none q] at hn
      cases hn
  have hs63 : its.size < 2 ^ 63 := Nat.lt_of_le_of_lt hsz line63
  refine subscriptTail_builtinR (x := u) (T := "tuple") (s := { s with heap := h₁, toks := _ }) ht1.typeIs slot_tuple_getitem.lookup (getItem_tuple (j := n) ht1 (by omega) (by omega) (by
    rw [seqIndex_of (by omega) (by omega)]
    rfl) hn ⟨rfl, ?_⟩) rfl
  exact h h₁ _ kp
section
variable {X : Cx} {K : PySem.W.Frag} {e : Expr} {te : TE} {x : Str} {n : Nat} {c P : Addr} {p pos p0 p1 p2 p3 lpos kpos : Pos} {kk : Nat} {T : List (Addr × Str)}
/-- the first of the least items, by the ints at place n -/
def tMinLam (K : PySem.W.Frag) (T : List (Addr × Str)) (te : TE) (n : Nat) : TE := fun σ H Q => te σ H fun v H1 => ∃ (a : Addr) (xs : List V) (kf : Nat → Int), v = .ref a ∧ SqL K H1 a xs ∧ 0 < xs.length ∧ LamX.Tabs T H1 ∧
  (∀ i v, xs[i]? = some v → ∃ t ys, v = .ref t ∧ SqT K H1 t ys ∧ ys[n]? = some (.int (kf i))) ∧
  ∀ i v H2, xs[i]? = some v → (∀ j, j < xs.length → kf i ≤ kf j ∧ (j < i → kf i < kf j)) → LamX.ExtN H1 H2 → LamX.Tabs T H2 → Q v H2
theorem pe_minLam (hk : X.K = K) (hr : Room 1 X.A) (hc : X.calm = true) (hg : Gl X "min") (hm : X.mg "min" = none) (TB : LamX.TabB X.base X.mg c P) (hcode : X.env.code = .ref c) (hT : (P, X.env.qual ++ "<lambda>") ∈ T) (hu : ∀ q ∈ T, q.1 = P → q.2 = X.env.qual ++ "<lambda>")
    (hb : LamB (X.env.qual ++ "<lambda>") x p0 (.Subscript (.Name x p1) (.Constant (.int (n : Int)) kk p2) p3) (lamScope x)) (hd : (x == ("__debug__" : Str)) = false) (he : PE X e te)
    (hs : backTo pos (starEach (e :: []) X.env) = (false, eval e X.env) :: backTo pos (starEach [] X.env) := by rfl) (hpl : (backTo pos (starEach (e :: []) X.env)).any (·.1) = false := by rfl) (hse : starEach [e] X.env = (false, eval e X.env) :: starEach [] X.env := by rfl) :
    PE X (.Call (.Name "min" p) [e] [⟨some "key", .Lambda (lamArgs x p0) (.Subscript (.Name x p1) (.Constant (.int (n : Int)) kk p2) p3) (lamScope x) lpos, kpos⟩] pos) (tMinLam K T te n) := by
  subst hk
  refine ⟨fun pins s σ H Q I h => ?_⟩
  refine wpAny_Call_Name_kw (ld_blt I hg hm bt_min ?_)
  refine PyProof.Rows.callWith_kw (thn ((pa_cons he pa_nil hse).run pos pins s σ H (fun vs H1 => match vs with
    | [v] => ∃ (a : Addr) (xs : List V) (kf : Nat → Int), v = .ref a ∧ SqL X.K H1 a xs ∧ 0 < xs.length ∧ LamX.Tabs T H1 ∧
      (∀ i v, xs[i]? = some v → ∃ t ys, v = .ref t ∧ SqT X.K H1 t ys ∧ ys[n]? = some (.int (kf i))) ∧
      ∀ i v H2, xs[i]? = some v → (∀ j, j < xs.length → kf i ≤ kf j ∧ (j < i → kf i < kf j)) → LamX.ExtN H1 H2 → LamX.Tabs T H2 → Q v H2
    | _ => False) I h) fun us s1 ⟨vs, H1, I1, r1, q1⟩ => ?_) hs hpl rfl rfl
  obtain ⟨v, rfl⟩ : ∃ v, vs = [v] := by
    match vs, q1 with
    | [v], _ => exact ⟨v, rfl⟩
  obtain ⟨a, xs, kf, rfl, hS, hne, tb, hkey, q⟩ := q1
  obtain rfl := Vals.ref1 r1
  -- the lambda is made
  show wpAny _ _ (evalAll ((do let v ← eval (.Lambda (lamArgs x p0) (.Subscript (.Name x p1) (.Constant (.int (n : Int)) kk p2) p3) (lamScope x) lpos) X.env; standAt pos; pure v) :: [])) _ _ s1
  refine wpAny_evalAll_cons (wpAny_bind (LamX.lam_make2 (T := T) I1 TB hcode hT hu tb rfl (fun y hy e => ?_) fun f c' pm ctv H2 s2 I2 ext tb2 of nf nfr oc => wpAny_bind (wpAny_standAt (wpAny_pure ?_))))
  · have : y = (x, NameKind.local) := List.mem_singleton.mp hy
    subst this
    cases e
  refine wpAny_evalAll_nil ?_
  show wpAny _ X.A (call (.builtin "min") [.ref a] [(Str.ofString "key", .ref f)]) _ _ _
  have rdE : ∀ {b : Addr} {u : HO}, (∀ ps, u ≠ .tbl ps) → Rd H1 b u → Rd H2 b u := fun n r => by
    rcases r with r | ⟨o, r⟩
    · exact .inl (ext _ _ r n)
    · exact .inr ⟨o, ext _ _ r fun ps z => nomatch z⟩
  have hS2 : SqL X.K H2 a xs := hS.imp (rdE fun _ z => nomatch z) id
  obtain ⟨its, rv, pl, hz⟩ := I2.list hS2
  have hlen := rv.length
  have ln63 := line63
  obtain ⟨m, hnL, _⟩ := id I2.loc
  obtain ⟨oL, esL, epL, hoL, hdL, _⟩ := id hnL
  have neL : ∀ {b : Addr} {o : Obj}, s2.heap.get? b = some o → (∀ es ep, o.data ≠ .dict es ep) → b ≠ X.env.locals := fun e n z => by
    rw [z, hoL] at e
    cases e
    exact n _ _ hdL
  have N0 : News (Att.noObjs s2.heap) X.env.locals s2.heap (Att.ledger s2.heap X.env.locals X.env.locals) := fun q hq => by
    obtain ⟨b, o⟩ := q
    obtain ⟨n1, _, e⟩ := Att.mem_ledger.mp hq
    exact ⟨e, n1, Att.noObjs_get _ _⟩
  have kept : ∀ {h : Heap} {own : List (Addr × Obj)}, News (Att.noObjs s2.heap) X.env.locals h (Att.ledger s2.heap X.env.locals X.env.locals ++ own) → ∀ b o, b ≠ X.env.locals → s2.heap.get? b = some o → h.get? b = some o := fun N b o hb e =>
    (N (b, o) (List.mem_append_left _ (Att.mem_ledger.mpr ⟨hb, hb, e⟩))).1
  have kept0 : ∀ {h : Heap}, News (Att.noObjs s2.heap) X.env.locals h (Att.ledger s2.heap X.env.locals X.env.locals) → ∀ b o, b ≠ X.env.locals → s2.heap.get? b = some o → h.get? b = some o := fun N b o hb e => (N (b, o) (Att.mem_ledger.mpr ⟨hb, hb, e⟩)).1
  have listE : ∀ {h : Heap}, (∀ b o, b ≠ X.env.locals → s2.heap.get? b = some o → h.get? b = some o) → h.IsList a its.toArray := fun k => by
    obtain ⟨o, nn, e, hc, _, hdt⟩ := pl
    exact ⟨o, k a o (neL e fun es ep z => by rw [hdt] at z; cases z) e, hc, nn, hdt⟩
  have item : ∀ {i : Nat} {v : Value}, its[i]? = some v → ∃ x, xs[i]? = some x ∧ RelV x v := fun {i v} hv => by
    have hi : i < its.length := (List.getElem?_eq_some_iff.mp hv).1
    have hx : xs[i]? = some (xs[i]'(by omega)) := List.getElem?_eq_getElem (by omega)
    obtain ⟨u, hu, ru⟩ := rv.get hx
    rw [hv] at hu
    cases hu
    exact ⟨_, hx, ru⟩
  have frL : ∀ {h h' : Heap}, Fr (Att.noObjs s2.heap) X.env.locals h m → (∀ b o, h.get? b = some o → h'.get? b = some o) → Fr (Att.noObjs s2.heap) X.env.locals h' m := fun F' k => by
    obtain ⟨⟨o, es, ep, e, r⟩, _, _⟩ := F'
    exact ⟨⟨o, es, ep, k _ _ e, r⟩, fun b o e => (by rw [Att.noObjs_get] at e; cases e), Nat.zero_le _⟩
  refine kmk_min (L := X.env.locals) (m := m) (h₀ := Att.noObjs s2.heap) (news := Att.ledger s2.heap X.env.locals X.env.locals) (vs := its) kf (I2.ok.hd hc) (Att.fr_all hnL) N0 (fun h F' N' => listE (kept0 N')) (by omega) (fun i v hv h tk own F' N' => ?_) fun i v h' tk' hv hmin F' N' => ?_
  · have k := kept N'
    obtain ⟨x1, hx1, rx⟩ := item hv
    obtain ⟨t, ys, rfl, hst, hkn⟩ := hkey i x1 hx1
    cases rx
    have hst2 : SqT X.K H2 t ys := hst.imp (rdE fun _ z => nomatch z) id
    obtain ⟨its2, rv2, pt, hz2⟩ := I2.tuple hst2
    obtain ⟨u, hu, ru⟩ := rv2.get hkn
    obtain ⟨tu, rfl⟩ := ru
    have hlen2 := rv2.length
    obtain ⟨⟨oc', vs', tq, hoc, hdc, hvc⟩, _, _⟩ := I2.hok c' _ oc
    have ptk : IsTup h t its2.toArray := by
      obtain ⟨o, e, hcl, nn, hdt⟩ := pt
      exact ⟨o, k t o (neL e fun es ep z => by rw [hdt] at z; cases z) e, hcl, nn, hdt⟩
    refine lam_item (s := { s2 with heap := h, toks := tk }) hb hd hr.in1.depth (k f _ (neL of fun es ep z => by cases z) of) ⟨c', oc', vs', tq, rfl, k c' _ (neL hoc fun es ep z => by rw [hdc] at z; cases z) hoc, hdc, hvc⟩ (I2.ok.mod.nolimit.keeps fun b o e => k b o (fun z => ?_) (I2.bk b o e)) ptk (by simpa using hu) (by rw [List.size_toArray, ← hlen2]; exact hz2) fun h' tk' kp => ?_
    · obtain ⟨mm, hF⟩ := I2.fr
      rw [z] at e
      exact absurd (Nat.lt_of_lt_of_le (Heap.lt_size e) hF.above) (Nat.lt_irrefl _)
    · exact ⟨h', tk', tu, rfl, rfl, frL F' kp, fun p hp => ⟨kp _ _ (N' p hp).1, (N' p hp).2⟩⟩
  · have k := kept0 N'
    obtain ⟨x1, hx1, rx⟩ := item hv
    refine ⟨x1, H2, ?_, rx, q i x1 H2 hx1 (fun j hj => hmin j (by omega)) ext tb2⟩
    obtain ⟨o', es', ep', e', r'⟩ := id F'.ns
    refine I2.step (g' := s2.gens) (d' := s2.drawn) (ch := []) (fun b z => nomatch z) (fun b o hb _ _ e _ => k b o hb e) (fun b o hb _ _ e _ => ⟨o.slots, k b o hb e⟩) (fun b o _ _ n => n) (fun b o _ e => ?_) (fun _ _ z => z) (fun _ _ _ z => z) (fun b ps z => ⟨#[], by rw [z]; simp⟩) (fun m' hm' => ?_) (fun b u hbu => ?_) I2.bare
    · by_cases hb : b = X.env.locals
      · rw [hb]
        exact ⟨_, e'⟩
      · exact ⟨o, k b o hb e⟩
    · rw [hm'.eq_nsMap.trans hnL.eq_nsMap.symm]
      exact F'.ns
    · exact (I2.hok b u hbu).stay (fun c v hc => k c v (fun z => by
        rw [z] at hc
        rcases hc with hc | hc
        · rw [← hc, I2.free] at hbu
          cases hbu
        · rw [I2.free] at hc
          cases hc)) (fun _ z => z) fun _ _ z => z
end
end LK
namespace LK
open PySem PySem.Spec PyProof.Rows L2
variable [Tbs]
/-! ### comprehensions of two clauses -/
theorem gin_any {j : Nat} {vs : List Nat} (h : j ∈ vs) : GIn (gName j) vs := gin_name h
section
variable {K : PySem.W.Frag} {γ : Gm} {te : TE}
/-- what has been made in n whole turns of the outer walk -/
def flat2 (n : Nat) (m : Nat → Nat) (f : Nat → Nat → PyData) : List PyData := (List.range n).flatMap fun i => (List.range (m i)).map (f i)
theorem flat2_succ (n : Nat) (m : Nat → Nat) (f : Nat → Nat → PyData) : flat2 (n + 1) m f = flat2 n m f ++ (List.range (m n)).map (f n) := by
  unfold flat2
  rw [List.range_succ, List.flatMap_append]
  simp
theorem ev_lc2G {ti ti1 : TI} {g g1 : TG} {vs vs1 : List Nat} {n : Nat} {y : Nat → PyData} {m : Nat → Nat} {y1 : Nat → Nat → PyData} {f : Nat → Nat → PyData} {γ1 : Nat → Gm} {γ2 : Nat → Nat → Gm} {M : Nat}
    (h : EvW K γ ti n y) (hv : GIn g vs) (hv1 : GIn g1 vs1) (hg : ∀ i, i < n → EvG K g (wipeG γ vs) (y i) (γ1 i))
    (h1 : ∀ i, i < n → EvW K (γ1 i) ti1 (m i) (y1 i)) (hg1 : ∀ i j, i < n → j < m i → EvG K g1 (wipeG (γ1 i) vs1) (y1 i j) (γ2 i j))
    (he : ∀ i j, i < n → j < m i → Ev K (γ2 i j) te (f i j)) (hz : ∀ i, i ≤ n → (flat2 i m f).length ≤ M) (hM : M ≤ 900000) : Ev K γ (tLc2 ti g tYes ti1 g1 tYes te vs vs1) (.list (flat2 n m f)) := fun S σ H fi fr Q q =>
  h S σ H fi fr _ fun J H2 e2 W D hD => by
    have fr2 := fr.same e2
    have res : Res H2 S (fun a => S a ∧ a ≠ D) := Res.ne hD
    obtain ⟨G, wk, g0, gk⟩ := W _ res
    have fi2 : Fits K (fun a => S a ∧ a ≠ D) (wipeG γ vs) (L2.wipe σ vs) H2 := ((fi.same e2).res res).wipe vs
    have big : ∀ i, i < n → ∀ j, j ≤ m i → (flat2 i m f ++ (List.range j).map (f i)).length ≤ M := fun i hi j hj => by
      have := hz (i + 1) hi
      rw [flat2_succ, List.length_append, List.length_map, List.length_range] at this
      rw [List.length_append, List.length_map, List.length_range]
      omega
    refine ⟨fun i k H' => k = n - i ∧ i ≤ n ∧ ∃ acc, Ext H2 H' ∧ H' D = some (.lst acc) ∧ DsAll K (fun a => S a ∧ a ≠ D) H' acc (flat2 i m f), ⟨n, rfl, Nat.zero_le _, [], same_new hD, upd_same, .nil⟩, ?_⟩
    rintro i k H' ⟨rfl, hi, acc, p1, p2, p3⟩
    have gH := gk H2 H' (.of p1) g0
    by_cases hlt : i < n
    · refine .inr ⟨wk.goes i H' hlt gH, fun H' => i + 1 ≤ n ∧ ∃ acc, Ext H2 H' ∧ H' D = some (.lst acc) ∧ DsAll K (fun a => S a ∧ a ≠ D) H' acc (flat2 (i + 1) m f), fun H3 p => ⟨n - (i + 1), by omega, rfl, p.1, p.2⟩, fun x H4 yy => ?_⟩
      obtain ⟨y1', y2⟩ := wk.yields i H' x H4 hlt gH yy
      have k24 : Ext H2 H4 := p1.trans y1'
      refine hv x σ H4 _ (hg i hlt _ _ x H4 (fi2.same k24) y2 _ fun σ2 f2 => ?_)
      show ti1 σ2 H4 _
      have dis : ∀ {H' : Hp}, Ext H4 H' → Frs (fun a => S a ∧ a ≠ D) H' := fun e => ⟨fun p hp => ⟨fr2.new p ((k24.trans e).nt hp), fun z => by
        subst z
        exact hp.lst (e.lst (y1'.lst p2))⟩, (fr2.same (k24.trans e)).tabs⟩
      refine h1 i hlt _ σ2 H4 f2 (dis (Ext.refl _)) _ fun J1 H5 e5 W1 => ?_
      obtain ⟨G1, wk1, g01, gk1⟩ := W1 _ fun a s _ => s
      have fi5 := f2.same e5
      have acc5 : DsAll K (fun a => S a ∧ a ≠ D) H5 acc (flat2 i m f) := p3.same (y1'.trans e5)
      refine ⟨fun j k H' => k = m i - j ∧ j ≤ m i ∧ ∃ acc, Ext H2 H' ∧ Keep (fun a => S a ∧ a ≠ D) H5 H' ∧ H' D = some (.lst acc) ∧ DsAll K (fun a => S a ∧ a ≠ D) H' acc (flat2 i m f ++ (List.range j).map (f i)), ⟨m i, rfl, Nat.zero_le _, acc, k24.trans e5, Keep.refl, e5.lst (y1'.lst p2), by
        rw [List.range_zero, List.map_nil, List.append_nil]
        exact acc5⟩, ?_⟩
      rintro j k2 H6 ⟨rfl, hj, acc6, q1, q2, q3, q4⟩
      have gH1 := gk1 H5 H6 q2 g01
      by_cases hlt1 : j < m i
      · refine .inr ⟨wk1.goes j H6 hlt1 gH1, fun H' => j + 1 ≤ m i ∧ ∃ acc, Ext H2 H' ∧ Keep (fun a => S a ∧ a ≠ D) H5 H' ∧ H' D = some (.lst acc) ∧ DsAll K (fun a => S a ∧ a ≠ D) H' acc (flat2 i m f ++ (List.range (j + 1)).map (f i)), fun H3 p => ⟨m i - (j + 1), by omega, rfl, p.1, p.2⟩, fun x1 H7 yy1 => ?_⟩
        obtain ⟨z1, z2⟩ := wk1.yields j H6 x1 H7 hlt1 gH1 yy1
        have k27 : Ext H2 H7 := q1.trans z1
        refine hv1 x1 σ2 H7 _ (hg1 i j hlt hlt1 _ _ x1 H7 (((fi5.keep q2).same z1).wipe vs1) z2 _ fun σ3 f3 => ?_)
        show te σ3 H7 _
        have dis7 : Frs (fun a => S a ∧ a ≠ D) H7 := ⟨fun p hp => ⟨fr2.new p (k27.nt hp), fun z => by
          subst z
          exact hp.lst (z1.lst q3)⟩, (fr2.same k27).tabs⟩
        refine he i j hlt hlt1 _ σ3 H7 f3 dis7 _ fun v H8 e8 hv8 => ?_
        have at8 : H8 D = some (.lst acc6) := e8.lst (z1.lst q3)
        have kk : Keep (fun a => S a ∧ a ≠ D) H8 (upd H8 D (.lst (acc6 ++ [v]))) := Keep.upd at8 (fun z => z.2 rfl)
        refine ⟨acc6, at8, sz_lt ?_, hlt1, acc6 ++ [v], same_mut (k27.trans e8) (.of hD) at8, ((q2.trans (.of z1)).trans (.of e8)).trans kk, upd_same, ?_⟩
        · rw [q4.len]
          exact Nat.lt_of_le_of_lt (big i hlt j hj) (by omega)
        · rw [List.range_succ, List.map_append, ← List.append_assoc]
          exact ((q4.same (z1.trans e8)).app (.one hv8)).keep kk
      · have e : j = m i := by omega
        subst e
        refine .inl ⟨wk1.stops H6 gH1, hlt, acc6, q1, q3, ?_⟩
        rw [flat2_succ]
        exact q4
    · have e : i = n := by omega
      subst e
      exact .inl ⟨wk.stops H' gH, q (.ref D) H' (e2.trans p1) (.lst (fr2.fresh D hD) (.inl p2) (p3.res fun a s _ => s.1))⟩
end
end LK
namespace LK
open PySem PySem.Spec PyProof.Rows L2
variable [Tbs]
/-! ### the data of what is written -/
def allK (f : Value → Option PyData) : List Value → Option (List PyData)
  | [] => some []
  | u :: r => match f u, allK f r with
    | some d, some ds => some (d :: ds)
    | _, _ => none
def tupK (K : PySem.W.Frag) : Nat → Value → Option PyData
  | 0, _ => none
  | n + 1, u => match u with
    | .int i _ => some (.int i)
    | .str x _ => some (.str x)
    | .ref a => match K.lookup a with
      | some o => match o.cls, o.data with
        | .type c, .seq its _ => if c = "tuple" ∧ its.size ≤ 1000 then (allK (tupK K n) its.toList).map PyData.tuple else none
        | _, _ => none
      | none => none
    | _ => none
theorem allK_vals {K : PySem.W.Frag} {f : Value → Option PyData} (hf : ∀ u d, f u = some d → ∃ v, RelV v u ∧ ∀ S H, Ds K S H v d) : ∀ {us : List Value} {ds : List PyData}, allK f us = some ds → ∃ vs, Vals vs us ∧ ∀ S H, DsAll K S H vs ds
  | [], ds, e => by
    unfold allK at e
    cases e
    exact ⟨[], .nil, fun _ _ => .nil⟩
  | u :: r, ds, e => by
    unfold allK at e
    split at e
    · rename_i d ds' h1 h2
      cases e
      obtain ⟨v, r1, r2⟩ := hf _ _ h1
      obtain ⟨vs, r3, r4⟩ := allK_vals hf h2
      exact ⟨v :: vs, .cons r1 r3, fun S H => .cons (r2 S H) (r4 S H)⟩
    · cases e
theorem tupK_ds {K : PySem.W.Frag} : ∀ (n : Nat) (u : Value) (d : PyData), tupK K n u = some d → ∃ v, RelV v u ∧ ∀ S H, Ds K S H v d
  | 0, u, d, e => by
    unfold tupK at e
    cases e
  | n + 1, u, d, e => by
    unfold tupK at e
    split at e
    · cases e
      exact ⟨.int _, ⟨_, rfl⟩, fun _ _ => .int _⟩
    · cases e
      exact ⟨.str _, ⟨_, rfl⟩, fun _ _ => .str _⟩
    · rename_i a
      split at e
      · rename_i o ho
        split at e
        · rename_i c its nn hc hd
          split at e
          · rename_i hh
            obtain ⟨rfl, hs⟩ := hh
            rw [Option.map_eq_some_iff] at e
            obtain ⟨ds, e1, rfl⟩ := e
            obtain ⟨vs, h1, h2⟩ := allK_vals (fun u d => tupK_ds n u d) e1
            exact ⟨.ref a, rfl, fun S H => .tup (.inr ⟨o, its, nn, ho, hc, hd, sz_of (by omega), h1⟩) (h2 S H)⟩
          · cases e
        · cases e
      · cases e
    · cases e
/-- what a written dict holds under a text -/
def dictK (K : PySem.W.Frag) (a : Addr) (x : Str) : Option PyData := match PySem.W.nsIn K a x with
  | some (some u) => tupK K 4 u
  | _ => none
structure GlobD (K : PySem.W.Frag) (w : World) (a : Addr) (L : List (Str × PyData)) : Prop where
  at' : ∀ x d, (x, d) ∈ L → ∃ v, KDct K w a x v ∧ ∀ S H, Ds K S H v d
  kd : ∃ es n, KDict K w a es n
  ns : ∀ x d, (x, d) ∈ L → ∃ u, PySem.W.nsIn K a x = some (some u)
theorem globD_mk {K : PySem.W.Frag} {w : World} {a : Addr} {es : Array DictEntry} {n : Nat} {L : List (Str × PyData)} (hl : K.lookup a = some ⟨.type "dict", none, .dict es n, #[]⟩) (hk : PySem.W.KeysLit w.params es.toList) (hd : L.map (fun p => dictK K a p.1) = L.map fun p => some p.2) (low : (a == sysModules) = false) : GlobD K w a L := by
  refine ⟨fun x d hm => ?_, ⟨es, n, hl, hk, low⟩, fun x d hm => ?_⟩
  · have e : dictK K a x = some d := List.map_inj_left.mp hd (x, d) hm
    unfold dictK at e
    split at e
    · rename_i u hu
      obtain ⟨v, r1, r2⟩ := tupK_ds _ _ _ e
      exact ⟨v, ⟨es, n, u, hl, hk, hu, r1⟩, r2⟩
    · cases e
  · have e : dictK K a x = some d := List.map_inj_left.mp hd (x, d) hm
    unfold dictK at e
    split at e
    · rename_i u hu
      exact ⟨u, hu⟩
    · cases e
theorem tupK_ref {K : PySem.W.Frag} {n : Nat} {a : Addr} {d : PyData} (h : tupK K n (.ref a) = some d) : ∀ S H, Ds K S H (.ref a) d := by
  obtain ⟨v, r1, r2⟩ := tupK_ds _ _ _ h
  have e : v = .ref a := by
    cases v with
    | ref b =>
      have z : Value.ref a = Value.ref b := r1
      injection z with z
      rw [z]
    | non => cases r1
    | bl b => cases r1
    | int i => obtain ⟨t, z⟩ := r1; cases z
    | str x => obtain ⟨t, z⟩ := r1; cases z
    | byt x => obtain ⟨t, z⟩ := r1; cases z
    | flt x => obtain ⟨t, z⟩ := r1; cases z
    | ty x => cases r1
  exact e ▸ r2
theorem ix_kdictK {X : Cx} {K : PySem.W.Frag} {w : World} (hk : X.K = K) (hw : X.w = w) : IxR X (rIxD K w) := hk ▸ hw ▸ ix_kdict
section
variable {K : PySem.W.Frag} {γ : Gm} {te ti : TE}
theorem ev_kdict {w : World} {a : Addr} {L : List (Str × PyData)} {x : Str} {d : PyData} (G : GlobD K w a L) (h : Ev K γ ti (.str x)) (hm : (x, d) ∈ L) : Ev K γ (tOp (rIxD K w) (tC (.ref a)) ti) d := fun S σ H f fr Q q => by
  obtain ⟨v, k, hv⟩ := G.at' x d hm
  refine h S σ H f fr _ fun u H2 e2 hu => ?_
  exact ⟨a, x, v, rfl, hu.str_inv, k, q v H2 e2 (hv S H2)⟩
/-! ### the first of the least -/
def FirstMin (n : Nat) (kf : Nat → Int) (i : Nat) : Prop := i < n ∧ ∀ j, j < n → kf i ≤ kf j ∧ (j < i → kf i < kf j)
theorem firstMin_ex (kf : Nat → Int) : ∀ n, 0 < n → ∃ i, FirstMin n kf i
  | 0, h => absurd h (by decide)
  | 1, _ => ⟨0, by decide, fun j hj => by
    have : j = 0 := by omega
    subst this
    exact ⟨Int.le_refl _, fun z => by omega⟩⟩
  | n + 2, _ => by
    obtain ⟨i, h1, h2⟩ := firstMin_ex kf (n + 1) (by omega)
    by_cases h : kf (n + 1) < kf i
    · refine ⟨n + 1, by omega, fun j hj => ?_⟩
      by_cases hjn : j = n + 1
      · subst hjn
        exact ⟨Int.le_refl _, fun z => by omega⟩
      · have := (h2 j (by omega)).1
        exact ⟨by omega, fun _ => by omega⟩
    · refine ⟨i, by omega, fun j hj => ?_⟩
      by_cases hjn : j = n + 1
      · subst hjn
        exact ⟨by omega, fun z => by omega⟩
      · exact h2 j (by omega)
theorem FirstMin.uniq {n : Nat} {kf : Nat → Int} {i j : Nat} (a : FirstMin n kf i) (b : FirstMin n kf j) : i = j := by
  have h1 := a.2 j b.1
  have h2 := b.2 i a.1
  rcases Nat.lt_trichotomy i j with h | h | h
  · have := h2.2 h
    omega
  · exact h
  · have := h1.2 h
    omega
theorem ev_minLam {n : Nat} {xs : List PyData} {kf : Nat → Int} {i : Nat} {z : PyData} (h : Ev K γ te (.list xs)) (hk : ∀ j x, xs[j]? = some x → ∃ ys : List PyData, x = PyData.tuple ys ∧ ys[n]? = some (.int (kf j))) (hi : xs[i]? = some z) (hm : FirstMin xs.length kf i) : Ev K γ (tMinLam K Tbs.tabs te n) z := fun S σ H f fr Q q =>
  h S σ H f fr _ fun v H2 e2 hv => by
    obtain ⟨a, ws, rfl, s, hq, hall⟩ := hv.lst_inv
    have hl := hall.len
    refine ⟨a, ws, kf, rfl, .inl hq, by rw [hl]; exact Nat.lt_of_le_of_lt (Nat.zero_le _) hm.1, (fr.same e2).tabs, fun j v hj => ?_, fun j v H3 hj hmj ext tb => ?_⟩
    · obtain ⟨d, hd, hv⟩ := hall.at' hj
      obtain ⟨ys, rfl, hy⟩ := hk j d hd
      obtain ⟨t, us, rfl, ht, hus⟩ := hv.tup_inv
      obtain ⟨u, hu, hdu⟩ := hus.at hy
      rw [hdu.int_inv] at hu
      exact ⟨t, us, rfl, ht, hu⟩
    · have hjn : j < xs.length := by rw [← hl]; exact (List.getElem?_eq_some_iff.mp hj).1
      have e : j = i := FirstMin.uniq ⟨hjn, fun k hk => hmj k (by rw [hl]; exact hk)⟩ hm
      subst e
      obtain ⟨d, hd, hv⟩ := hall.at' hj
      rw [hi] at hd
      cases hd
      have e3 : Ext H2 H3 := ⟨ext, fun _ => tb⟩
      exact q v H3 (e2.trans e3) (hv.same e3)
end
/-- a pure def whose code object is known -/
theorem Fun.pureC {P : Program} {w : World} {K : PySem.W.Frag} {mg : Str → Option Value} {base : Heap} {x qual : Str} {st : Stmt} {f : Addr} {fd : FuncData} {N ps : List Str} {k : Nat} {R : List PyData → PyData → Prop} (F : Fun K x qual st f fd) (Sc : FnScope N ps (defScope st)) (len : ∀ ds x, R ds x → ds.length = ps.length)
    (hbody : ∀ (A : Around) (outer : List Env) (s : Shared) (H : Hp) (E : XK), Room k (A.deeper (envOfC qual (defScope st) s.heap.objs.size f fd.code)) →
      ∃ t, PSs (cxOf CX0 P w K mg base N qual (defScope st) f fd.code A outer s H E).nox (defBody st) t ∧ ∀ ds x, R ds x → Run K (startG N.length ds) t (.rt x)) : FnOk P w K mg base CX0 (k + 1) f fd ps (spP K R) := by
  obtain ⟨oc, od, kV, doc, pm, an, cdv, ct, osl, rfl, lk, hcd⟩ := F.ex
  refine fn_of lk hcd Sc (fun vs H Q E h => ?_) fun A outer s H vs Q E hr h => ?_
  · obtain ⟨S, ds, x, h1, _, h3, _⟩ := h
    rw [h1.len]
    exact len ds x h3
  · obtain ⟨S, ds, x, h1, h2, h3, q⟩ := h
    obtain ⟨t, ht, hR⟩ := hbody A outer s H E hr
    exact ⟨t, ht.nox, hR ds x h3 S _ H (fits_start h1) h2 _ fun v H2 e hv => q v H2 e hv⟩
end LK
namespace LK
open PySem PySem.Spec PyProof.Rows L2
variable [Tbs]
section
variable {K : PySem.W.Frag} {γ : Gm} {te tl : TE} {j : Nat} {vs : List Nat}
theorem ev_lcMT {α : Type} {g f : α → PyData} {rs : List α} (h : Ev K γ tl (.tuple (rs.map g))) (hz : rs.length ≤ 1000000) (hj : j ∈ vs) (he : ∀ r, r ∈ rs → Ev K ((wipeG γ vs).set j (some (g r))) te (f r)) :
    Ev K γ (tLc (iTup K tl) (gName j) tYes te vs) (.list (rs.map f)) := by
  have q := ev_lcG (b := fun _ => true) (f := fun i => (rs[i]?.map f).getD .none) (γ' := fun i => (wipeG γ vs).set j (some ((rs.map g).getD i .none))) (ew_tup h) (by rw [List.length_map]; exact hz) (gin_name hj) (fun i hi => eg_name) (fun i hi => eb_yes) (te := te) (fun i hi _ => by
    rw [List.length_map] at hi
    rw [List.getD_eq_getElem?_getD, List.getElem?_map, List.getElem?_eq_getElem hi]
    exact he _ (List.getElem_mem hi))
  refine q.is ?_
  rw [given_all, List.length_map, map_getD rs g f]
  intro i r hr
  rw [hr]
  rfl
end
end LK
namespace LK
open PySem PySem.Spec PyProof.Rows L2
/-! ### the end of a law with tables -/
theorem walk_tabs {l : PySem.W.OpenLaw} {n k : Nat} {q : Program} {loose : List Str} {XP : (Str → Option Value) → Heap → Prop} {YP : World → Heap → Prop} {d : DefRec} {K : Params → PySem.W.Frag} {CX : World → CXT} {x : Str}
    (hn : l.most = some n) (hn2 : n ≤ sizeLine) (hdf : d.params.defaults = []) (hr : Room k callerA) (hY : ∀ (w : World) (h : Heap), YP w h → (K w.params).In h)
    (F : ∀ (w : World) (mg mb : Str → Option Value) (fa : Addr) (h : Heap) (ls : List Str) (mean : ExcName → Option Value), YP w h → (K w.params).In h → h.Ns mainGlobals mg → Top q ls mean mg mb h → mg d.name = some (.ref fa) → LamX.LawAtS l w (K w.params) (CX w) k n x mg fa h)
    (hCX : ∀ (w : World) (H : Hp) (s : Shared) (e : Value) (s' : Shared), CX w [] H s (fun _ _ _ => False) e s' → False) :
    PySem.W.WalkO q loose XP YP l.row.toRowW d [] (fun f vs => PySem.call f vs) := by
  refine Att.attach_callB hn hdf fun w s₀ s₁ mg mb fa o pm cd doc a vs ns G Y ho hd hcd hmg hobj hints hlen hbits hg => ?_
  have KX := hY w _ Y
  obtain ⟨fd, cs, sp, hT, nT, C, hb, hsp, hF⟩ := F w mg mb fa _ _ _ Y KX G.T.g G.T hmg
  exact LamX.law_callTs KX G.T.g G.T.b G.T.builtins G.T.nolimit hg hT nT C G.T.bmain hobj hints (Nat.le_trans hlen hn2) hr hF hb (fun H hH hS => hsp H a ns hlen hbits hH hS) fun H e s' => hCX w H s₁ e s'
/-- one table -/
theorem law_tab1 {l : PySem.W.OpenLaw} {w : World} {K : PySem.W.Frag} {CX : CXT} {k n : Nat} {x y q : Str} {mg mb : Str → Option Value} {fa c P : Addr} {h : Heap} {fd : FuncData} {sp : Sp} {p : Program} {ls : List Str} {mean : ExcName → Option Value} {d : DefRec}
    (T : Top p ls mean mg mb h) (KX : K.In h) (hr : (recsOf p).find? (fun e => e.name == y) = some d) (ht : PySem.W.tabIn K y = some (c, P)) (nK : K.lookup P = none)
    (hb : ∀ (s : Shared) (u : Value), BindsTo s fd ⟨[u], []⟩ [(x, u)])
    (hsp : ∀ (H : Hp) (a : Addr) (ns : List Int), ns.length ≤ n → LamX.TabS H P q → SqL K H a (ns.map V.int) → sp [.ref a] H (fun v _ => v = .bl true) fun _ _ _ => False)
    (hF : ∀ base : Heap, K.In base → base.Ns mainGlobals mg → LamX.TabB base mg c P → FnOk l.prog w K mg base CX k fa fd [x] sp) : LamX.LawAtS l w K CX k n x mg fa h := by
  obtain ⟨t1, t2⟩ := PySem.W.tab_of T KX hr ht
  refine ⟨fd, [(c, P)], sp, fun p hp => ?_, fun p hp => ?_, fun p hp => ?_, hb, fun H a ns hl _ hT hS => hsp H a ns hl (.nil (hT _ List.mem_cons_self)) hS, fun base h1 h2 hT => hF base h1 h2 (hT _ List.mem_cons_self)⟩
  · have e : p = (c, P) := List.mem_singleton.mp hp
    subst e
    exact t2
  · have e : p = (c, P) := List.mem_singleton.mp hp
    subst e
    exact nK
  · have e : p = (c, P) := List.mem_singleton.mp hp
    subst e
    exact t1
end LK
namespace LK
open PySem PySem.Spec PyProof.Rows L2
variable [Tbs]
/-! ### list + list, min, max -/
def rCatR : R2 := fun x y H Q => ∃ l b xs zs, x = .ref l ∧ y = .ref b ∧ Rd H l (.lst xs) ∧ Rd H b (.lst zs) ∧ xs.length + zs.length ≤ sizeLine ∧ ∀ p, H p = none → Q (.ref p) (upd H p (.lst (xs ++ zs)))
theorem op_catR {X : Cx} : OpR X (binaryOp .Add) rCatR := by
  intro pins s σ H x y v u Q I rx ry h
  obtain ⟨l, b, xs, zs, rfl, rfl, hH, hB, hz, q⟩ := h
  cases rx
  cases ry
  obtain ⟨z, its, n, r, e⟩ := hH.ok I.hok
  obtain ⟨z2, its2, n2, r2, e2⟩ := hB.ok I.hok
  have hl := r.length
  have hl2 := r2.length
  refine PySem.P.add_list e e2 ?_ (by rw [List.size_toArray, List.size_toArray]; omega)
  have ea : its.toArray ++ its2.toArray = (its ++ its2).toArray := by simp
  rw [ea]
  exact ⟨.ref _, _, I.lnew (t' := s.toks) (r.append r2) (by rw [List.length_append]; omega), rfl, q _ I.fresh⟩
section
variable {K : PySem.W.Frag} {γ : Gm} {te ta tb ti : TE}
theorem eo_catR {ds es : List PyData} (hz : ds.length + es.length ≤ 1000000) : EvO K rCatR (.list ds) (.list es) (.list (ds ++ es)) := fun S v w H f hv hw Q q => by
  obtain ⟨a, xs, rfl, s, ha, h1⟩ := hv.lst_inv
  obtain ⟨b, ys, rfl, s', hb, h2⟩ := hw.lst_inv
  exact ⟨a, b, xs, ys, rfl, rfl, ha, hb, sz_of (by rw [h1.len, h2.len]; exact hz), fun p hp => q _ _ (same_new hp) (.lst (f.fresh p hp) (.inl upd_same) ((h1.app h2).same (same_new hp)))⟩
theorem ec_min {ns : List Int} {m : Int} (hm : m ∈ ns) (hl : ∀ y ∈ ns, m ≤ y) : EvC K (rMin K) [.list (ns.map .int)] (.int m) := fun S vs H f hv Q q => by
  obtain ⟨v, rfl, h1⟩ := hv.one_inv
  obtain ⟨a, xs, rfl, s, hq, hall⟩ := h1.lst_inv
  rw [hall.ofInts] at hq
  refine ⟨a, ns, rfl, .inl hq, List.length_pos_of_mem hm, fun k hk hk2 => ?_⟩
  have e : k = m := Int.le_antisymm (hk2 m hm) (hl k hk)
  rw [e]
  exact q _ H (Ext.refl _) (.int _)
theorem ec_min2 {i j : Int} : EvC K rMin2 [.int i, .int j] (.int (if j < i then j else i)) := fun S vs H f hv Q q => by
  obtain ⟨v, w, rfl, h1, h2⟩ := hv.two
  rw [h1.int_inv, h2.int_inv]
  exact ⟨i, j, rfl, q _ H (Ext.refl _) (.int _)⟩
theorem ec_max2 {i j : Int} : EvC K rMax2 [.int i, .int j] (.int (if j > i then j else i)) := fun S vs H f hv Q q => by
  obtain ⟨v, w, rfl, h1, h2⟩ := hv.two
  rw [h1.int_inv, h2.int_inv]
  exact ⟨i, j, rfl, q _ H (Ext.refl _) (.int _)⟩
end
/-! ### a dict of one's own, its keys texts -/
inductive DkAll (K : PySem.W.Frag) (S : Addr → Prop) (H : Hp) : List (Key × V) → List (Str × PyData) → Prop where
  | nil : DkAll K S H [] []
  | cons {x : Str} {v : V} {d : PyData} {kvs : List (Key × V)} {es : List (Str × PyData)} (h : Ds K S H v d) (r : DkAll K S H kvs es) : DkAll K S H ((.inr x, v) :: kvs) ((x, d) :: es)
def lk (es : List (Str × PyData)) (x : Str) : Option PyData := (es.find? fun p => decide (p.1 = x)).map (·.2)
section
variable {K : PySem.W.Frag} {S : Addr → Prop} {H H' : Hp} {kvs : List (Key × V)} {es : List (Str × PyData)} {x : Str} {d : PyData} {v : V}
theorem DkAll.keep (e : Keep S H H') (h : DkAll K S H kvs es) : DkAll K S H' kvs es := by
  induction h with
  | nil => exact .nil
  | cons h _ ih => exact .cons (h.keep e) ih
theorem DkAll.len (h : DkAll K S H kvs es) : kvs.length = es.length := by
  induction h with
  | nil => rfl
  | cons _ _ ih => rw [List.length_cons, List.length_cons, ih]
theorem DkAll.get (h : DkAll K S H kvs es) (e : lk es x = some d) : ∃ v, valV kvs (.inr x) = some v ∧ Ds K S H v d := by
  induction h with
  | nil => cases e
  | @cons y v' d' kvs' es' h _ ih =>
    unfold lk at e
    rw [List.find?_cons] at e
    by_cases hy : y = x
    · rw [decide_eq_true hy] at e
      cases e
      exact ⟨v', valV_pos (by rw [hy]), h⟩
    · rw [decide_eq_false hy] at e
      obtain ⟨w, h1, h2⟩ := ih e
      exact ⟨w, (valV_neg (fun z => hy (Sum.inr.inj z))).trans h1, h2⟩
theorem DkAll.any (h : DkAll K S H kvs es) (e : lk es x = none) : (kvs.any fun kv => decide (kv.1 = Sum.inr x)) = false := by
  induction h with
  | nil => rfl
  | @cons y v' d' kvs' es' h _ ih =>
    unfold lk at e
    rw [List.find?_cons] at e
    by_cases hy : y = x
    · rw [decide_eq_true hy] at e
      cases e
    · rw [decide_eq_false hy] at e
      rw [List.any_cons, ih e, decide_eq_false (fun z => hy (Sum.inr.inj z))]
      rfl
theorem DkAll.snoc (h : DkAll K S H kvs es) (hv : Ds K S H v d) : DkAll K S H (kvs ++ [(.inr x, v)]) (es ++ [(x, d)]) := by
  induction h with
  | nil => exact .cons hv .nil
  | cons h _ ih => exact .cons h ih
theorem DkAll.put (h : DkAll K S H kvs es) (e : lk es x = none) (hv : Ds K S H v d) : DkAll K S H (putK kvs (.inr x) v) (es ++ [(x, d)]) := by
  unfold putK
  rw [h.any e, if_neg (by decide)]
  exact h.snoc hv
theorem lk_none {es : List (Str × PyData)} {x : Str} (h : x ∉ es.map (·.1)) : lk es x = none := by
  unfold lk
  rw [List.find?_eq_none.mpr]
  · rfl
  · intro p hp z
    exact h (List.mem_map.mpr ⟨p, hp, of_decide_eq_true z⟩)
theorem merge_go {more : List (Key × V)} {es2 : List (Str × PyData)} (h2 : DkAll K S H more es2) : ∀ {kvs : List (Key × V)} {es : List (Str × PyData)}, DkAll K S H kvs es → ((es ++ es2).map (·.1)).Nodup → DkAll K S H (mergeK kvs more) (es ++ es2) := by
  induction h2 with
  | nil =>
    intro kvs es h _
    rw [List.append_nil]
    exact h
  | @cons x v d more' es' hv _ ih =>
    intro kvs es h nd
    show DkAll K S H (mergeK (putK kvs (.inr x) v) more') _
    have e : es ++ (x, d) :: es' = (es ++ [(x, d)]) ++ es' := by simp
    rw [e] at nd ⊢
    refine ih (h.put (lk_none fun hx => ?_) hv) nd
    rw [List.map_append, List.map_append] at nd
    have nd1 := (List.nodup_append.mp nd).1
    exact (List.nodup_append.mp nd1).2.2 x hx x (by simp) rfl
/-- a dict stands at D -/
def Dk (K : PySem.W.Frag) (S : Addr → Prop) (H : Hp) (D : Addr) (es : List (Str × PyData)) : Prop := ∃ kvs, H D = some (.dK kvs) ∧ DkAll K S H kvs es
theorem Ext.dk (e : Ext H H') {D : Addr} (h : Dk K S H D es) : Dk K S H' D es := by
  obtain ⟨kvs, h1, h2⟩ := h
  exact ⟨kvs, e.keep _ _ h1 (fun _ z => nomatch z), h2.keep (.of e)⟩
theorem keep_dk {D : Addr} {k1 k2 : List (Key × V)} (h : H D = some (.dK k1)) (hs : ¬ S D) : Keep S H (upd H D (.dK k2)) := Keep.updP h trivial hs
theorem tabs_dk {D : Addr} {k1 k2 : List (Key × V)} (hp : H D = some (.dK k1)) {P : Addr} {q : Str} (t : LamX.TabS H P q) : LamX.TabS (upd H D (.dK k2)) P q := by
  obtain ⟨ps, h1, h2, h3⟩ := t
  refine ⟨ps, by rw [upd_ne (ne_of h1 hp fun z => nomatch z)]; exact h1, h2, fun pos cv hc => ?_⟩
  obtain ⟨c, e1, e2⟩ := h3 pos cv hc
  exact ⟨c, e1, by rw [upd_ne (ne_of e2 hp fun z => by unfold LamX.CodeO at z; cases z)]; exact e2⟩
theorem nt_dk {D p : Addr} {k1 k2 : List (Key × V)} (h : H D = some (.dK k1)) (hp : Nt (upd H D (.dK k2)) p) : Nt H p := fun o q => by
  by_cases e : p = D
  · subst e
    obtain ⟨ps, z⟩ := hp _ upd_same
    cases z
  · exact hp o (by rw [upd_ne e]; exact q)
theorem ext_dk {H0 : Hp} {D : Addr} {k1 k2 : List (Key × V)} (e : Ext H0 H) (n : Nt H0 D) (h : H D = some (.dK k1)) : Ext H0 (upd H D (.dK k2)) := ⟨fun a u ha nt => by
  have ne : a ≠ D := fun z => by
    subst z
    obtain ⟨ps, z⟩ := n u ha
    exact nt ps z
  rw [upd_ne ne]
  exact e.keep a u ha nt, fun t q hq => tabs_dk h (e.tabs t q hq)⟩
theorem frs_dk {D : Addr} {k1 k2 : List (Key × V)} (f : Frs S H) (h : H D = some (.dK k1)) : Frs S (upd H D (.dK k2)) := ⟨fun p hp => f.new p (nt_dk h hp), fun q hq => tabs_dk h (f.tabs q hq)⟩
end
/-- an expression where a dict stands in slot i -/
def EvK (K : PySem.W.Frag) (γ : Gm) (i : Nat) (es : List (Str × PyData)) (te : TE) (d : PyData) : Prop :=
  ∀ (S : Addr → Prop) (σ : L2.St) (H : Hp) (D : Addr), Fits K S γ σ H → Frs S H → σ[i]? = some (some (.ref D)) → Dk K S H D es → ∀ Q : VK, (∀ v H2, Ext H H2 → Ds K S H2 v d → Q v H2) → te σ H Q
def RunK (K : PySem.W.Frag) (γ : Gm) (i : Nat) (es : List (Str × PyData)) (ts : TS) (x : PyData) : Prop :=
  ∀ (S : Addr → Prop) (σ : L2.St) (H0 H : Hp) (D : Addr), Fits K S γ σ H → Frs S H → ¬ S D → Ext H0 H → Nt H0 D → σ[i]? = some (some (.ref D)) → Dk K S H D es → ∀ Dn : Ends, (∀ v H2, Ext H0 H2 → Ds K S H2 v x → Dn.rt v H2) → ts Dn σ H
/-- the pairs of a display -/
def EvPs (K : PySem.W.Frag) (γ : Gm) (trs : List (TE × TE)) (es : List (Str × PyData)) : Prop :=
  ∀ (S : Addr → Prop) (σ : L2.St) (H : Hp), Fits K S γ σ H → Frs S H → ∀ Q : List (V × V) → Hp → Prop, (∀ kvs H2, Ext H H2 → DkAll K S H2 kvs es → Q (kvs.map fun kv => (kV kv.1, kv.2)) H2) → tPairs trs σ H Q
section
variable {K : PySem.W.Frag} {γ : Gm} {i : Nat} {es : List (Str × PyData)} {te ta tb ti : TE} {d x y z : PyData} {u : TS} {r : R2}
theorem ek_pure (h : Ev K γ te d) : EvK K γ i es te d := fun S σ H D f fr hi dk Q q => h S σ H f fr Q q
theorem ek_get {k : Str} (hk : lk es k = some d) (h : Ev K γ ti (.str k)) : EvK K γ i es (tDGet (tVar i) ti) d := fun S σ H D f fr hi dk Q q =>
  ⟨.ref D, hi, h S σ H f fr _ fun w H2 e2 hw => by
    obtain ⟨kvs, h1, h2⟩ := e2.dk dk
    obtain ⟨v, h3, h4⟩ := h2.get hk
    refine ⟨D, v, rfl, ?_, q v H2 e2 h4⟩
    rw [← h3, hw.str_inv]
    exact DGet.k (k := .inr k) h1⟩
theorem ek_op (ha : EvK K γ i es ta x) (hb : Ev K γ tb y) (hr : EvO K r x y z) : EvK K γ i es (tOp r ta tb) z := fun S σ H D f fr hi dk Q q =>
  ha S σ H D f fr hi dk _ fun v H2 e2 hv => hb S σ H2 (f.same e2) (fr.same e2) _ fun w H3 e3 hw => hr S v w H3 ((fr.same e2).same e3) (hv.same e3) hw Q fun u H4 e4 hu => q u H4 ((e2.trans e3).trans e4) hu
theorem rk_ret (h : EvK K γ i es te d) : RunK K γ i es (tRet te) d := fun S σ H0 H D f fr nS e n hi dk Dn q => h S σ H D f fr hi dk _ fun v H2 e2 hv => q v H2 (e.trans e2) hv
theorem rk_store {k : Str} {w : PyData} (h : EvK K γ i es te d) (hk : lk es k = none) (hz : es.length ≤ 1000) (hu : RunK K γ i (es ++ [(k, d)]) u w) : RunK K γ i es (tSeq (tAsg te (gSub (tVar i) (tC (.str k)) rSetD)) u) w := fun S σ H0 H D f fr nS e n hi dk Dn q =>
  h S σ H D f fr hi dk _ fun v H2 e2 hv => by
    obtain ⟨kvs, h1, h2⟩ := e2.dk dk
    have kk : Keep S H2 (upd H2 D (.dK (putK kvs (.inr k) v))) := keep_dk h1 nS
    refine ⟨.ref D, hi, D, _, rfl, DPut.k (k := .inr k) h1 (sz_lt (by rw [h2.len]; omega)), ?_⟩
    exact hu S σ H0 _ D ((f.same e2).keep kk) (frs_dk (fr.same e2) h1) nS (ext_dk (e.trans e2) n h1) n hi ⟨_, upd_same, (h2.put hk hv).keep kk⟩ Dn q
theorem eps_nil : EvPs K γ [] [] := fun S σ H f fr Q q => q [] H (Ext.refl H) .nil
theorem eps_cons {k : Str} {trs : List (TE × TE)} (h : Ev K γ te d) (hr : EvPs K γ trs es) : EvPs K γ ((tC (.str k), te) :: trs) ((k, d) :: es) := fun S σ H f fr Q q =>
  h S σ H f fr _ fun v H2 e2 hv => hr S σ H2 (f.same e2) (fr.same e2) _ fun kvs H3 e3 hk => q ((.inr k, v) :: kvs) H3 (e2.trans e3) (.cons (hv.same e3) hk)
theorem run_dict {trs : List (TE × TE)} {x : PyData} (h : EvPs K γ trs es) (nd : (es.map (·.1)).Nodup) (hl : es.length ≤ 15) (hi : i < γ.length) (hu : RunK K (γ.set i none) i es u x) : Run K γ (tSeq (tAsg (tDisp trs) (gName i)) u) (.rt x) := fun S σ H f fr Dn q p hp => by
  have e1 : Ext H (upd H p (.dK [])) := same_new hp
  have res : Res H S (fun a => S a ∧ a ≠ p) := Res.ne hp
  have fr1 : Frs (fun a => S a ∧ a ≠ p) (upd H p (.dK [])) := ⟨fun q hq => ⟨fr.new q (e1.nt hq), fun z => by
    subst z
    obtain ⟨ps, z⟩ := hq _ upd_same
    cases z⟩, e1.tabs fr.tabs⟩
  refine h _ σ _ ((f.res res).same e1) fr1 _ fun kvs H2 e2 hk => ?_
  have at2 : H2 p = some (.dK []) := e2.keep _ _ upd_same fun _ z => nomatch z
  have e12 := e1.trans e2
  have nS : ¬ (S p ∧ p ≠ p) := fun z => z.2 rfl
  have kk : Keep (fun a => S a ∧ a ≠ p) H2 (upd H2 p (.dK (mergeK [] kvs))) := keep_dk at2 nS
  refine ⟨at2, kvs, rfl, by rw [hk.len]; exact hl, ?_⟩
  exact hu _ (σ.set i (some (.ref p))) H _ p ((((f.res res).same e12).forget i _).keep kk) (frs_dk (fr1.same e2) at2) nS (ext_dk e12 (.of hp) at2) (.of hp) (List.getElem?_set_self (by rw [f.len]; exact hi)) ⟨_, upd_same, (merge_go hk .nil nd).keep kk⟩ Dn fun v H3 e3 hv => q v H3 e3 (hv.res fun a s _ => s.1)
end
end LK
namespace LK
open PySem PySem.Spec PyProof.Rows L2
variable [Tbs]
section
variable {K : PySem.W.Frag} {γ : Gm} {te tl : TE} {j k : Nat} {vs : List Nat}
/-- over pairs, both named -/
theorem ev_lcM2 {α : Type} {g1 g2 f : α → PyData} {rs : List α} (h : Ev K γ tl (.list (rs.map fun r => .tuple [g1 r, g2 r]))) (hz : rs.length ≤ 1000000) (hj : j ∈ vs) (hk : k ∈ vs) (he : ∀ r, r ∈ rs → Ev K (((wipeG γ vs).set j (some (g1 r))).set k (some (g2 r))) te (f r)) :
    Ev K γ (tLc (iList K tl) (gTup K 2 (gCons (gName j) (gCons (gName k) gNil))) tYes te vs) (.list (rs.map f)) := by
  have q := ev_lcG (b := fun _ => true) (f := fun i => (rs[i]?.map f).getD .none) (γ' := fun i => ((wipeG γ vs).set j (some ((rs[i]?.map g1).getD .none))).set k (some ((rs[i]?.map g2).getD .none))) (ew_list h) (by rw [List.length_map]; exact hz) (gin_tup2 hj hk) (fun i hi => by
    rw [List.length_map] at hi
    rw [List.getD_eq_getElem?_getD, List.getElem?_map, List.getElem?_eq_getElem hi]
    exact eg_tup2) (fun i hi => eb_yes) (te := te) (fun i hi _ => by
    rw [List.length_map] at hi
    rw [List.getElem?_eq_getElem hi]
    exact he _ (List.getElem_mem hi))
  refine q.is ?_
  rw [given_all, List.length_map]
  refine congrArg PyData.list (List.ext_getElem (by rw [List.length_map, List.length_map, List.length_range]) fun i h1 h2 => ?_)
  rw [List.length_map, List.length_range] at h1
  rw [List.getElem_map, List.getElem_map, List.getElem_range, List.getElem?_eq_getElem h1]
  rfl
end
theorem first_of {α : Type} (f : α → Int) (ws : List α) (i : Nat) (d : α) (h : FirstMin ws.length (fun j => f (ws.getD j d)) i) : (ws.filter fun p => decide (f p = f (ws.getD i d)))[0]? = some (ws.getD i d) := by
  have hi := h.1
  have gi : ws.getD i d = ws[i] := by rw [List.getD_eq_getElem?_getD, List.getElem?_eq_getElem hi]; rfl
  rw [← List.head?_eq_getElem?, List.head?_filter, List.find?_eq_some_iff_getElem]
  refine ⟨decide_eq_true rfl, i, hi, gi.symm, fun j hj => ?_⟩
  have q := (h.2 j (by omega)).2 hj
  dsimp only at q
  have gj : ws.getD j d = ws[j]'(by omega) := by rw [List.getD_eq_getElem?_getD, List.getElem?_eq_getElem (show j < ws.length by omega)]; rfl
  rw [gj] at q
  rw [decide_eq_false (by omega)]
  rfl
end LK
namespace LK
open PySem PySem.Spec PyProof.Rows L2
variable [Tbs]
/-! ### a matrix of one's own, changed while dice are thrown -/
section
variable {K : PySem.W.Frag} {S : Addr → Prop} {γ γ' : Gm} {δ i : Nat} {σ : L2.St} {H0 H H2 : Hp} {d p : Addr} {as l : List Addr} {rows : Rows}
theorem Fits.off (h : Fits K S γ σ H) (hn : ∀ a ∈ l, Nt H a) : Fits K (fun a => S a ∧ a ∉ l) γ σ H := ⟨h.len, fun i d q => by
  obtain ⟨v, a, b⟩ := h.get i d q
  refine ⟨v, a, b.move ⟨fun a xs s r n => ⟨⟨s, fun z => ?_⟩, r⟩, fun a C dx fs s r => ⟨⟨s, fun z => ?_⟩, r⟩, fun _ _ q => q⟩⟩
  · rcases r with r | ⟨o, r⟩
    · obtain ⟨ps, e⟩ := hn a z _ r
      exact n _ e
    · obtain ⟨ps, e⟩ := hn a z _ r
      cases e
  · obtain ⟨ps, e⟩ := hn a z _ r
    cases e⟩
theorem Fits.on (h : Fits K S γ σ H) {v : V} {x : PyData} (hv : σ[i]? = some (some v)) (hx : Ds K S H v x) : Fits K S (γ.set i (some x)) σ H := by
  have q := h.set i hx
  have e : σ.set i (some v) = σ := by
    apply List.ext_getElem?
    intro j
    by_cases hj : i = j
    · subst hj
      rw [List.getElem?_set_self (List.getElem?_eq_some_iff.mp hv).1, hv]
    · rw [List.getElem?_set_ne hj]
  rw [e] at q
  exact q
structure OwnS (K : PySem.W.Frag) (S : Addr → Prop) (γ : Gm) (δ i : Nat) (H0 : Hp) (d p : Addr) (as : List Addr) (rows : Rows) (σ : L2.St) (H : Hp) : Prop where
  fits : Fits K (fun a => S a ∧ a ∉ p :: as) γ σ H
  frs : Frs S H0
  ch : ChD d H0 H
  d0 : Dice H0 d
  di : Dice H d
  sd : σ[δ]? = some (some (.ref d))
  nd : ¬ S d
  sp : σ[i]? = some (some (.ref p))
  mat : Mat H0 H p as rows
theorem OwnS.dne (o : OwnS K S γ δ i H0 d p as rows σ H) : d ∉ p :: as := fun z => by
  obtain ⟨ns, e, _⟩ := o.d0
  exact (o.mat.fr d z).lst e
theorem Mat.chd (m : Mat H0 H p as rows) (c : ChD d H H2) (n : d ∉ p :: as) : Mat H0 H2 p as rows := { m with
  top := c.keep p _ (fun z => n (z ▸ List.mem_cons_self)) m.top fun _ z => nomatch z
  row := fun j a r h1 h2 => c.keep a _ (fun z => n (z ▸ List.mem_cons_of_mem _ (List.mem_of_getElem? h1))) (m.row j a r h1 h2) fun _ z => nomatch z }
theorem OwnS.inS (o : OwnS K S γ δ i H0 d p as rows σ H) : ∀ a, a ∈ p :: as → S a := fun a ha => o.frs.new a (o.mat.fr a ha)
theorem OwnS.view (o : OwnS K S γ δ i H0 d p as rows σ H) : Fits K S (γ.set i (some (pic rows))) σ H := (o.fits.res (.of fun a s => s.1)).on o.sp (o.mat.ds o.inS)
theorem OwnS.step (o : OwnS K S γ δ i H0 d p as rows σ H) (c : ChD d H H2) (d2 : Dice H2 d) : OwnS K S γ δ i H0 d p as rows σ H2 := { o with
  fits := o.fits.keep (c.keepS (fun z => o.nd z.1) o.di)
  ch := o.ch.trans c
  di := d2
  mat := o.mat.chd c o.dne }
end
def RunO (K : PySem.W.Frag) (γ : Gm) (δ i : Nat) (rows : Rows) (ts : TS) (Γ : Gm → Rows → Prop) : Prop :=
  ∀ (S : Addr → Prop) (σ : L2.St) (H0 H : Hp) (d p : Addr) (as : List Addr), OwnS K S γ δ i H0 d p as rows σ H → ∀ D : Ends, (∀ σ' γ' rows' H2, Γ γ' rows' → OwnS K S γ' δ i H0 d p as rows' σ' H2 → D.nx σ' H2) → ts D σ H
/-- a new matrix, drawn -/
def EvNM (K : PySem.W.Frag) (γ : Gm) (δ : Nat) (te : TE) (A : Rows → Prop) : Prop :=
  ∀ (S : Addr → Prop) (σ : L2.St) (H : Hp) (d : Addr), Fits K S γ σ H → Frs S H → σ[δ]? = some (some (.ref d)) → ¬ S d → Dice H d →
    ∀ Q : VK, (∀ p as rows H1 H2, A rows → ChD d H H1 → Dice H1 d → Ext H1 H2 → Mat H1 H2 p as rows → Q (.ref p) H2) → te σ H Q
section
variable {K : PySem.W.Frag} {γ : Gm} {δ i j k : Nat} {rows : Rows} {t u : TS} {te : TE} {ta : TA} {Γ Γ' : Gm → Rows → Prop}
theorem ro_seq (h : RunO K γ δ i rows t Γ) (q : ∀ γ' rows', Γ γ' rows' → RunO K γ' δ i rows' u Γ') : RunO K γ δ i rows (tSeq t u) Γ' := fun S σ H0 H d p as o D n =>
  h S σ H0 H d p as o { D with nx := u D } fun σ' γ' rows' H2 g o2 => q γ' rows' g S σ' H0 H2 d p as o2 D n
theorem ro_mono (h : RunO K γ δ i rows t Γ) (q : ∀ γ' rows', Γ γ' rows' → Γ' γ' rows') : RunO K γ δ i rows t Γ' := fun S σ H0 H d p as o D n => h S σ H0 H d p as o D fun σ' γ' rows' H2 g o2 => n σ' γ' rows' H2 (q _ _ g) o2
theorem ro_set {C : Int → Prop} (h : EvN K (γ.set i (some (pic rows))) δ te (fun x => ∃ n : Int, x = .int n ∧ C n)) (hj : j ≠ δ := by decide) (hi : j ≠ i := by decide) :
    RunO K γ δ i rows (tAsg te (gName j)) (fun γ' rows' => rows' = rows ∧ ∃ n : Int, C n ∧ γ' = γ.set j (some (.int n))) := fun S σ H0 H d p as o D q =>
  h S σ H d o.view (o.ch.frs o.frs o.di) o.sd o.nd o.di _ fun v x H2 ax c2 d2 hv => by
    obtain ⟨n, rfl, hn⟩ := ax
    have o2 := o.step c2 d2
    refine q _ _ _ H2 ⟨rfl, n, hn, rfl⟩ { o2 with fits := o2.fits.set j (by rw [hv.int_inv]; exact .int n), sd := ?_, sp := ?_ }
    · rw [List.getElem?_set_ne hj]
      exact o.sd
    · rw [List.getElem?_set_ne hi]
      exact o.sp
theorem ro_store {m n : Nat} {C : Int → Prop} (hm : γ[j]? = some (some (.int (m : Int)))) (hn : γ[k]? = some (some (.int (n : Int)))) (h1 : m < rows.length) (h2 : n < (rows.getD m []).length) (h : EvN K (γ.set i (some (pic rows))) δ te (fun x => ∃ c : Int, x = .int c ∧ C c)) :
    RunO K γ δ i rows (tAsg te (gSub (tOp (rIxU K) (tVar i) (tVar j)) (tVar k) rSetL)) (fun γ' rows' => γ' = γ ∧ ∃ c : Int, C c ∧ rows' = rows.set m ((rows.getD m []).set n c)) := fun S σ H0 H d p as o D q =>
  h S σ H d o.view (o.ch.frs o.frs o.di) o.sd o.nd o.di _ fun v x H2 ax c2 d2 hv => by
    obtain ⟨c, rfl, hcc⟩ := ax
    rw [hv.int_inv]
    have o2 := o.step c2 d2
    obtain ⟨w1, a1, b1⟩ := o2.fits.get j _ hm
    obtain ⟨w2, a2, b2⟩ := o2.fits.get k _ hn
    rw [b1.int_inv] at a1
    rw [b2.int_inv] at a2
    have hl : m < as.length := by rw [o.mat.len]; exact h1
    have hr : rows[m]? = some (rows.getD m []) := by
      rw [List.getD_eq_getElem?_getD, List.getElem?_eq_getElem h1]
      rfl
    have ha : as[m]? = some as[m] := List.getElem?_eq_getElem hl
    generalize as[m] = a at ha
    have mem : a ∈ p :: as := List.mem_cons_of_mem _ (List.mem_of_getElem? ha)
    have row := o2.mat.row m a _ ha hr
    refine ⟨.ref p, o.sp, .int m, a1, .inl ⟨p, _, m, .ref a, rfl, rfl, .inl (.inl o2.mat.top), atI_nat (j := m) (by rw [List.getElem?_map, ha]; rfl), ?_⟩⟩
    refine ⟨.int n, a2, a, _, n, n, rfl, rfl, row, ixN_nat (by rw [List.length_map]; exact h2), ?_⟩
    rw [← List.map_set (f := V.int)]
    have pa : p ≠ a := fun z => (List.nodup_cons.mp o.mat.nd).1 (z ▸ List.mem_of_getElem? ha)
    have da : d ≠ a := fun z => o.dne (z ▸ mem)
    have na : Nt H0 a := o.mat.fr a mem
    refine q σ γ _ _ ⟨rfl, c, hcc, rfl⟩ { o2 with fits := o2.fits.keep (Keep.upd row fun z => z.2 mem), ch := ⟨fun b u hb e nt => ?_, fun t q hq => tabs_upd row (o2.ch.tabs t q hq)⟩, di := ?_, mat := ?_ }
    · have ne : b ≠ a := fun z => by
        subst z
        obtain ⟨ps, z⟩ := na u e
        exact nt ps z
      rw [upd_ne ne]
      exact o2.ch.keep b u hb e nt
    · obtain ⟨ns, e, dc⟩ := o2.di
      exact ⟨ns, by rw [upd_ne da]; exact e, dc⟩
    · refine { o2.mat with top := by rw [upd_ne pa]; exact o2.mat.top, len := by rw [List.length_set]; exact o.mat.len, row := fun l b r e1 e2 => ?_ }
      by_cases hl : m = l
      · subst hl
        rw [List.getElem?_set_self h1] at e2
        cases e2
        rw [ha] at e1
        cases e1
        exact upd_same
      · rw [List.getElem?_set_ne hl] at e2
        have ne : b ≠ a := fun z => by
          subst z
          have nd := (List.nodup_cons.mp o.mat.nd).2
          exact hl ((List.getElem?_inj (List.getElem?_eq_some_iff.mp ha).1 nd).mp (ha.trans e1.symm))
        rw [upd_ne ne]
        exact o2.mat.row l b r e1 e2
theorem ro_for (I : Gm → Rows → Prop) (h : EvNA K (γ.set i (some (pic rows))) δ ta (fun xs => ∃ m : Int, xs = [.int m] ∧ 0 ≤ m ∧ m ≤ 1000)) (h0 : I γ rows) (hb : ∀ γ' rows' (t : Nat), I γ' rows' → RunO K (γ'.set j (some (.int (t : Int)))) δ i rows' t1 I) (hj : j ≠ δ := by decide) (hi : j ≠ i := by decide) :
    RunO K γ δ i rows (tFor (iRng1 ta) (gName j) t1) I := fun S σ H0 H d p as o D q =>
  h S σ H d o.view (o.ch.frs o.frs o.di) o.sd o.nd o.di _ fun vs xs H2 ax c2 d2 hv => by
    obtain ⟨m, rfl, m0, m1⟩ := ax
    have o2 := o.step c2 d2
    refine ⟨m, DsAll.ofInts (ns := [m]) hv, by omega, by omega, ?_⟩
    refine for_it (walk_range (lo := 0) (n := m.toNat)) (fun _ σ' H' => ∃ γ' rows', I γ' rows' ∧ OwnS K S γ' δ i H0 d p as rows' σ' H') ⟨γ, rows, h0, o2⟩ (fun _ _ _ _ _ => trivial) (fun t x σ' H3 H4 ht pp yy => ?_) fun σ' H' pp => ?_
    · obtain ⟨e1, e2⟩ := yy
      subst e1 e2
      obtain ⟨γ', rows', g, o3⟩ := pp
      dsimp only
      rw [Int.zero_add]
      refine hb γ' rows' t g S _ H0 _ d p as { o3 with fits := o3.fits.set j (.int _), sd := ?_, sp := ?_ } _ fun σ2 γ2 rows2 H5 g2 o5 => ⟨γ2, rows2, g2, o5⟩
      · rw [List.getElem?_set_ne hj]
        exact o3.sd
      · rw [List.getElem?_set_ne hi]
        exact o3.sp
    · obtain ⟨γ', rows', g, o3⟩ := pp
      exact q σ' γ' rows' H' g o3
theorem en_callM {R : List PyData → Rows → Prop} {E : XK} {L : List PyData → Prop} {A : Rows → Prop} (h : EvNA K γ δ ta L) (hp : ∀ ds, L ds → ∃ rows, R ds rows ∧ A rows) : EvNM K γ δ (tCall (spM K R) [] E ta) A := fun S σ H d f fr hd n di Q q =>
  h S σ H d f fr hd n di _ fun vs ds H2 l c2 d2 hv => by
    obtain ⟨rows, r, a⟩ := hp ds l
    exact ⟨S, ds, rows, by rw [List.append_nil]; exact hv, c2.frs fr d2, r, fun p as H3 e3 m => q p as rows H2 H3 a c2 d2 e3 m⟩
theorem en_cbR {r : List V → Hp → VK → Prop} {L : List PyData → Prop} {A : PyData → Prop} (h : EvNA K γ δ ta L) (hr : ∀ xs, L xs → ∃ z, EvC K r xs z ∧ A z) : EvN K γ δ (tCB r ta) A := fun S σ H d f fr hd n di Q q =>
  h S σ H d f fr hd n di _ fun vs xs H2 l c2 d2 hv => by
    obtain ⟨z, hz, az⟩ := hr xs l
    exact hz S vs H2 (c2.frs fr d2) hv Q fun u H3 e3 hu => q u z H3 az (c2.trans (.of e3)) (d2.same e3) hu
theorem rn_own {A : Rows → Prop} {B : PyData → Prop} {Γ2 : Gm → Prop} (h : EvNM K γ δ te A) (hb : ∀ rows, A rows → RunO K (γ.set i none) δ i rows t Γ) (hr : ∀ γ' rows', Γ γ' rows' → B (pic rows')) (hi : i ≠ δ := by decide) (hl : i < γ.length := by exact Nat.le_of_ble_eq_true rfl) :
    RunN K γ δ (tSeq (tAsg te (gName i)) (tSeq t (tRet (tVar i)))) Γ2 B := fun S σ H d f fr hd n di D qn qr =>
  h S σ H d f fr hd n di _ fun p as rows H1 H2 ar c1 d1 e2 m => by
    refine hb rows ar S (σ.set i (some (.ref p))) H1 H2 d p as ⟨?_, c1.frs fr d1, .of e2, d1, d1.same e2, ?_, n, List.getElem?_set_self (by rw [f.len]; exact hl), m⟩ _ fun σ' γ' rows' H3 g o => ⟨.ref p, o.sp, qr (.ref p) (pic rows') H3 (hr γ' rows' g) (c1.trans o.ch) o.di (o.mat.ds o.inS)⟩
    · exact (((f.keep (c1.keepS n di)).off m.fr).same e2).forget i _
    · rw [List.getElem?_set_ne hi]
      exact hd
end
end LK
namespace LK
open PySem PySem.Spec PyProof.Rows L2
variable [Tbs]
/-! ### a list of one's own, growing -/
structure OwnL (K : PySem.W.Frag) (S : Addr → Prop) (γ : Gm) (δ i : Nat) (dv : Option (Option V)) (H0 : Hp) (D : Addr) (xs : List PyData) (σ : L2.St) (H : Hp) : Prop where
  fits : Fits K (fun a => S a ∧ a ≠ D) γ σ H
  frs : Frs S H0
  ext : Ext H0 H
  nt : Nt H0 D
  sp : σ[i]? = some (some (.ref D))
  sd : σ[δ]? = dv
  at' : ∃ acc, H D = some (.lst acc) ∧ DsAll K (fun a => S a ∧ a ≠ D) H acc xs
def RunL (K : PySem.W.Frag) (γ : Gm) (δ i : Nat) (xs : List PyData) (ts : TS) (γ' : Gm) (xs' : List PyData) : Prop :=
  ∀ (S : Addr → Prop) (dv : Option (Option V)) (σ : L2.St) (H0 H : Hp) (D : Addr), OwnL K S γ δ i dv H0 D xs σ H → ∀ Dn : Ends, (∀ σ' H2, Keep (fun a => S a ∧ a ≠ D) H H2 → OwnL K S γ' δ i dv H0 D xs' σ' H2 → Dn.nx σ' H2) → ts Dn σ H
section
variable {K : PySem.W.Frag} {S : Addr → Prop} {γ γ' γ2 : Gm} {δ i j : Nat} {dv : Option (Option V)} {σ : L2.St} {H0 H H2 : Hp} {D : Addr} {xs xs' ys : List PyData} {t u : TS} {te : TE} {d : PyData} {ti : TI} {g : TG}
theorem OwnL.frs' (o : OwnL K S γ δ i dv H0 D xs σ H) : Frs (fun a => S a ∧ a ≠ D) H := ⟨fun p hp => ⟨o.frs.new p (o.ext.nt hp), fun z => by
  subst z
  obtain ⟨acc, e, _⟩ := o.at'
  exact hp.lst e⟩, o.ext.tabs o.frs.tabs⟩
theorem OwnL.step (o : OwnL K S γ δ i dv H0 D xs σ H) (e : Ext H H2) : OwnL K S γ δ i dv H0 D xs σ H2 := { o with
  fits := o.fits.same e
  ext := o.ext.trans e
  at' := by
    obtain ⟨acc, h1, h2⟩ := o.at'
    exact ⟨acc, e.lst h1, h2.same e⟩ }
theorem rl_seq (h : RunL K γ δ i xs t γ' xs') (k : RunL K γ' δ i xs' u γ2 ys) : RunL K γ δ i xs (tSeq t u) γ2 ys := fun S dv σ H0 H D o Dn q => h S dv σ H0 H D o { Dn with nx := u Dn } fun σ' H2 k2 o2 => k S dv σ' H0 H2 D o2 Dn fun σ2 H3 k3 => q σ2 H3 (k2.trans k3)
theorem rl_next : RunL K γ δ i xs tNext γ xs := fun S dv σ H0 H D o Dn q => q σ H Keep.refl o
theorem rl_le (h : RunL K γ δ i xs t γ' xs') (hl : γ2.length = γ'.length) (hi : ∀ (i : Nat) (d : PyData), γ2[i]? = some (some d) → γ'[i]? = some (some d)) : RunL K γ δ i xs t γ2 xs' := fun S dv σ H0 H D o Dn q => h S dv σ H0 H D o Dn fun σ' H2 k2 o2 => q σ' H2 k2 { o2 with fits := o2.fits.le hl hi }
theorem rl_set (h : Ev K γ te d) (hj : j ≠ δ := by decide) (hi : j ≠ i := by decide) : RunL K γ δ i xs (tAsg te (gName j)) (γ.set j (some d)) xs := fun S dv σ H0 H D o Dn q =>
  h _ σ H o.fits o.frs' _ fun v H2 e2 hv => by
    have o2 := o.step e2
    exact q _ H2 (.of e2) { o2 with fits := o2.fits.set j hv, sp := by rw [List.getElem?_set_ne hi]; exact o.sp, sd := by rw [List.getElem?_set_ne hj]; exact o.sd }
theorem rl_append (h : Ev K γ te d) (hz : xs.length ≤ 900000) : RunL K γ δ i xs (tDrop (tBM K "list" rAppend (tVar i) (tCons te tNil))) γ (xs ++ [d]) := fun S dv σ H0 H D o Dn q => by
  obtain ⟨acc0, a0, _⟩ := o.at'
  refine ⟨.ref D, o.sp, .inl ⟨rfl, _, .inl (.inl a0)⟩, ?_⟩
  refine h _ σ H o.fits o.frs' _ fun v H2 e2 hv => ?_
  have o2 := o.step e2
  obtain ⟨acc, a1, a2⟩ := o2.at'
  have kk : Keep (fun a => S a ∧ a ≠ D) H2 (upd H2 D (.lst (acc ++ [v]))) := Keep.upd a1 fun z => z.2 rfl
  exact ⟨D, acc, v, rfl, rfl, a1, sz_lt (by rw [a2.len]; omega), q σ _ (Keep.trans (.of e2) kk) { o2 with fits := o2.fits.keep kk, ext := same_mut o2.ext o.nt a1, at' := ⟨_, upd_same, (a2.app (.one hv)).keep kk⟩ }⟩
theorem rl_for {n : Nat} {y : Nat → PyData} (γs : Nat → Gm) (xss : Nat → List PyData) (h : EvW K γ ti n y) (h0 : γs 0 = γ) (x0 : xss 0 = xs) (hb : ∀ k, k < n → RunL K ((γs k).set j (some (y k))) δ i (xss k) t (γs (k + 1)) (xss (k + 1))) (hj : j ≠ δ := by decide) (hi : j ≠ i := by decide) :
    RunL K γ δ i xs (tFor ti (gName j) t) (γs n) (xss n) := fun S dv σ H0 H D o Dn q =>
  h _ σ H o.fits o.frs' _ fun J H2 e2 W => by
    obtain ⟨G, wk, g0, gk⟩ := W (fun a => S a ∧ a ≠ D) fun _ s _ => s
    have o2 := o.step e2
    refine for_it wk (fun k σ' H' => Keep (fun a => S a ∧ a ≠ D) H2 H' ∧ OwnL K S (γs k) δ i dv H0 D (xss k) σ' H') ⟨Keep.refl, by rw [h0, x0]; exact o2⟩ (fun k σ' H' _ p => gk H2 H' p.1 g0) (fun k x σ' H3 H4 hk p yy => ?_) fun σ' H' p => q σ' H' (Keep.trans (.of e2) p.1) p.2
    have o4 := p.2.step yy.1
    refine hb k hk S dv _ H0 H4 D { o4 with fits := o4.fits.set j yy.2, sp := by rw [List.getElem?_set_ne hi]; exact o4.sp, sd := by rw [List.getElem?_set_ne hj]; exact o4.sd } _ fun σ2 H5 k5 o5 => ⟨(p.1.trans (.of yy.1)).trans k5, o5⟩
theorem OwnL.view (o : OwnL K S γ δ i dv H0 D xs σ H) : Fits K S (γ.set i (some (.list xs))) σ H := by
  obtain ⟨acc, h1, h2⟩ := o.at'
  exact (o.fits.res (.of fun a s => s.1)).on o.sp (.lst (o.frs.new D o.nt) (.inl h1) (h2.res fun a s _ => s.1))
/-- a list is made, filled, and stands in its slot -/
theorem run_list {o : Oc} (h : RunL K (γ.set i none) i i [] t γ' xs) (k : Run K (γ'.set i (some (.list xs))) u o) (hl : i < γ.length := by exact Nat.le_of_ble_eq_true rfl) : Run K γ (tSeq (tAsg (tLst tNil) (gName i)) (tSeq t u)) o := fun S σ H f fr Dn q =>
  ⟨Nat.zero_le _, fun p hp => by
    have e1 : Ext H (upd H p (.lst [])) := same_new hp
    refine h S _ (σ.set i (some (.ref p))) H _ p ⟨?_, fr, e1, .of hp, List.getElem?_set_self (by rw [f.len]; exact hl), rfl, [], upd_same, .nil⟩ _ fun σ' H2 _ o2 => k S σ' H2 o2.view (fr.same o2.ext) Dn (q.same o2.ext)
    exact ((f.res (Res.ne hp)).same e1).forget i _⟩
theorem rn_list {A : PyData → Prop} {Γ : Gm → Prop} (h : RunL K (γ.set i none) δ i [] t γ' xs) (k : RunN K (γ'.set i (some (.list xs))) δ u Γ A) (hi : i ≠ δ := by decide) (hl : i < γ.length := by exact Nat.le_of_ble_eq_true rfl) : RunN K γ δ (tSeq (tAsg (tLst tNil) (gName i)) (tSeq t u)) Γ A := fun S σ H d f fr hd n di Dn qn qr =>
  ⟨Nat.zero_le _, fun p hp => by
    have e1 : Ext H (upd H p (.lst [])) := same_new hp
    refine h S (some (some (.ref d))) (σ.set i (some (.ref p))) H _ p ⟨?_, fr, e1, .of hp, List.getElem?_set_self (by rw [f.len]; exact hl), ?_, [], upd_same, .nil⟩ _ fun σ' H2 _ o2 => k S σ' H2 d o2.view (fr.same o2.ext) o2.sd n (di.same o2.ext) Dn (fun σ2 γ2 H3 g c3 => qn σ2 γ2 H3 g ((ChD.of o2.ext).trans c3)) fun v x H3 ax c3 => qr v x H3 ax ((ChD.of o2.ext).trans c3)
    · exact ((f.res (Res.ne hp)).same e1).forget i _
    · rw [List.getElem?_set_ne hi]
      exact hd⟩
end
end LK
namespace LK
open PySem PySem.Spec PyProof.Rows L2
variable [Tbs]
section
variable {K : PySem.W.Frag} {γ : Gm} {δ i j : Nat} {ts : TS} {ta : TA} {A : PyData → Prop} {Γ : Gm → Prop} {x : PyData}
/-- the rest of a body throws no dice -/
theorem rn_run (h : Run K γ ts (.rt x)) (hx : A x) : RunN K γ δ ts Γ A := fun S σ H d f fr hd n di D qn qr => h S σ H f fr D fun v H2 e hv => qr v x H2 hx (.of e) (di.same e) hv
theorem rn_par {C : PyData → PyData → Prop} (h : EvNA K γ δ ta (fun xs => ∃ x y, xs = [x, y] ∧ C x y)) (hi : i ≠ δ := by decide) (hj : j ≠ δ := by decide) : RunN K γ δ (tPar i j ta) (fun γ' => ∃ x y, C x y ∧ γ' = (γ.set i (some x)).set j (some y)) A := fun S σ H d f fr hd n di D qn qr =>
  h S σ H d f fr hd n di _ fun vs xs H2 ax c2 d2 hv => by
    obtain ⟨x, y, rfl, c⟩ := ax
    obtain ⟨v, w, rfl, h1, h2⟩ := hv.two
    exact ⟨v, w, rfl, qn _ _ H2 ⟨x, y, c, rfl⟩ c2 d2 (((f.keep (c2.keepS n di)).set i h1).set j h2) (by rw [List.getElem?_set_ne hj, List.getElem?_set_ne hi]; exact hd)⟩
theorem ec_int1 {b : Bool} : EvC K rInt1 [.bool b] (.int (if b then 1 else 0)) := fun S vs H f hv Q q => by
  obtain ⟨v, rfl, h1⟩ := hv.one_inv
  rw [h1.bl_inv]
  exact .inr ⟨b, rfl, q _ H (Ext.refl _) (.int _)⟩
theorem eo_notIn2 {z a b : Str} : EvO K (rIn K true) (.str z) (.list [.str a, .str b]) (.bool (!inV (.str z) [.str a, .str b])) := fun S v w H f hv hw Q q => by
  obtain ⟨p, xs, rfl, s, hq, hall⟩ := hw.lst_inv
  obtain ⟨x, y, rfl, h1, h2⟩ := hall.two
  rw [h1.str_inv, h2.str_inv] at hq
  rw [hv.str_inv]
  exact ⟨p, _, rfl, .inl (.inl hq), rfl, rfl, q _ H (Ext.refl _) (.bl _)⟩
end
theorem cut_from {α : Type} (g : α → PyData) {xs : List α} {i : Nat} (h : i ≤ xs.length) : LK.cutD (xs.map g) (some (i : Int)) none = (xs.drop i).map g := by
  unfold LK.cutD
  rw [HT.sIx_nat, HT.sIx_none, List.length_map, Nat.min_eq_left h, List.take_of_length_le (by rw [List.length_drop, List.length_map]; exact Nat.le_refl _), List.map_drop]
end LK
namespace LK
open PySem PySem.Spec PyProof.Rows L2
variable [Tbs]
/-! ### truth of a list -/
def tTru (K : PySem.W.Frag) (te : TE) : TT := fun σ H Q => te σ H fun x H' => ∃ k, TruV K x H' k ∧ Q k H'
theorem pt_truthK {X : Cx} {K : PySem.W.Frag} {a : Expr} {ta : TE} (h : X.K = K) (ha : PE X a ta) (he : ∀ whole, isTrue a X.env whole = (do let v ← whole; standAt a.pos; holding [v] (truthy v))) : PT X a (tTru K ta) := h ▸ pt_truth ha he
section
variable {K : PySem.W.Frag} {γ : Gm} {te : TE}
theorem eb_truL {ds : List PyData} (h : Ev K γ te (.list ds)) : EvB K γ (tTru K te) (!ds.isEmpty) := fun S σ H f fr Q q => h S σ H f fr _ fun v H2 e hv => by
  obtain ⟨a, xs, rfl, s, hq, hall⟩ := hv.lst_inv
  refine ⟨_, .inl ⟨xs, .inl hq, rfl⟩, ?_⟩
  have e2 : xs.isEmpty = ds.isEmpty := by
    have := hall.len
    cases xs <;> cases ds <;> first | rfl | cases this
  rw [e2]
  exact q H2 e
end
end LK
namespace LK
open PySem PySem.Spec PyProof.Rows L2
variable [Tbs]
/-! ### what is one's own: objects at addresses outside of the data's region -/
/-- what stands at such an address -/
inductive Ct where
  | lst (ds : List PyData)
  | dct (es : List (PyData × PyData))
  | ins (C : Addr) (es : List (PyData × PyData))
  | dice
  | dtu (es : List (List Key × PyData))
def Ct.holds (K : PySem.W.Frag) (S : Addr → Prop) (H : Hp) (p : Addr) : Ct → Prop
  | .lst ds => ∃ xs, H p = some (.lst xs) ∧ DsAll K S H xs ds
  | .dct es => ∃ kvs : List (Key × V), H p = some (.dK kvs) ∧ DsP K S H (kvs.map fun q => (kD q.1, q.2)) es
  | .ins C es => ∃ (dx : Addr) (fs : List (Str × V)), H p = some (.ins C dx fs) ∧ DsP K S H (fs.map fun q => (.str q.1, q.2)) es
  | .dice => Dice H p
  | .dtu es => ∃ kvs : List (List Key × V), H p = some (.dT kvs) ∧ kvs.map (·.1) = es.map (·.1) ∧ DsAll K S H (kvs.map (·.2)) (es.map (·.2))
section
variable {K : PySem.W.Frag} {S S' S1 S2 : Addr → Prop} {H H' H1 H2 : Hp} {p q : Addr} {c : Ct}
theorem Ct.plain (h : c.holds K S H p) : ∃ o, H p = some o ∧ Plain o := by
  cases c with
  | lst ds => obtain ⟨xs, e, _⟩ := h; exact ⟨_, e, trivial⟩
  | dct es => obtain ⟨xs, e, _⟩ := h; exact ⟨_, e, trivial⟩
  | ins C es => obtain ⟨dx, fs, e, _⟩ := h; exact ⟨_, e, trivial⟩
  | dice => obtain ⟨ns, e, _⟩ := h; exact ⟨_, e, trivial⟩
  | dtu es => obtain ⟨ns, e, _⟩ := h; exact ⟨_, e, trivial⟩
theorem Ct.nnt (h : c.holds K S H p) : ¬ Nt H p := fun z => by
  obtain ⟨o, e, pl⟩ := Ct.plain h
  obtain ⟨ps, e2⟩ := z _ e
  exact pl.ntup.2.2.1 ps e2
theorem Ct.move (m : Mv S S' K H H') (e : ∀ o, H p = some o → Plain o → H' p = some o) (h : c.holds K S H p) : c.holds K S' H' p := by
  cases c with
  | lst ds => obtain ⟨xs, a, r⟩ := h; exact ⟨xs, e _ a trivial, r.move m⟩
  | dct es => obtain ⟨xs, a, r⟩ := h; exact ⟨xs, e _ a trivial, r.move m⟩
  | ins C es => obtain ⟨dx, fs, a, r⟩ := h; exact ⟨dx, fs, e _ a trivial, r.move m⟩
  | dice => obtain ⟨ns, a, r⟩ := h; exact ⟨ns, e _ a trivial, r⟩
  | dtu es => obtain ⟨ns, a, r, t⟩ := h; exact ⟨ns, e _ a trivial, r, t.move m⟩
abbrev Rho := List (Addr × Ct)
def dom (ρ : Rho) (p : Addr) : Prop := p ∈ ρ.map (·.1)
theorem dom_of {ρ : Rho} {p : Addr} {c : Ct} (h : (p, c) ∈ ρ) : dom ρ p := List.mem_map_of_mem (f := fun q : Addr × Ct => q.1) h
structure StR (K : PySem.W.Frag) (S : Addr → Prop) (ρ : Rho) (H : Hp) : Prop where
  frs : Frs S H
  own : ∀ q ∈ ρ, ¬ S q.1 ∧ q.2.holds K S H q.1
  nd : (ρ.map (·.1)).Nodup
structure Sta (K : PySem.W.Frag) (S : Addr → Prop) (γ : Gm) (ρ : Rho) (σ : L2.St) (H : Hp) : Prop extends StR K S ρ H where
  fits : Fits K S γ σ H
structure Eff (S : Addr → Prop) (ρ : Rho) (H : Hp) (S' : Addr → Prop) (ρ' : Rho) (H' : Hp) : Prop where
  chg : Chg (dom ρ) H H'
  new : ∀ p, dom ρ' p → dom ρ p ∨ Nt H p
  sub : ∀ a, S' a → S a ∨ dom ρ a
  old : ∀ a, S a → ¬ Nt H a → S' a
  al : ∀ p, Nt H' p → Nt H p
variable {ρ ρ' ρ1 ρ2 : Rho}
theorem StR.ns (r : StR K S ρ H) : ∀ a, S a → ¬ dom ρ a := fun a s d => by
  obtain ⟨q, hq, e⟩ := List.mem_map.mp d
  exact (r.own q hq).1 (e ▸ s)
theorem StR.nt (r : StR K S ρ H) : ∀ a xs, dom ρ a → ¬ Rd H a (.tup xs) := fun a xs d => by
  obtain ⟨q, hq, e⟩ := List.mem_map.mp d
  obtain ⟨o, h, pl⟩ := Ct.plain (r.own q hq).2
  exact ntup_of h pl a xs e.symm
theorem StR.trk (r : StR K S ρ H) {a : Addr} (d : dom ρ a) : ¬ Nt H a := by
  obtain ⟨q, hq, e⟩ := List.mem_map.mp d
  exact e ▸ Ct.nnt (r.own q hq).2
theorem Eff.keep (r : StR K S ρ H) (e : Eff S ρ H S' ρ' H') : Keep S H H' := e.chg.keepS r.ns r.nt
theorem Eff.mv (r : StR K S ρ H) (e : Eff S ρ H S' ρ' H') : Mv S S' K H H' := ⟨fun a u s q n => ⟨e.old a s (rd_nt q n), (e.keep r).obj a u s q n⟩, fun a C d f s q => ⟨e.old a s (rd_nt (.inl q) fun _ z => nomatch z), (e.keep r).ins a C d f s q⟩, fun _ _ q => sqT_keep (e.keep r) q⟩
theorem Chg.of {U : Addr → Prop} (e : Ext H H') : Chg U H H' := ⟨fun b o _ h n => e.keep b o h n, e.tabs⟩
theorem Eff.ext (e : Ext H H') : Eff S ρ H S ρ H' := ⟨.of e, fun p d => .inl d, fun a s => .inl s, fun a s _ => s, fun p h => e.nt h⟩
theorem Eff.refl : Eff S ρ H S ρ H := .ext (Ext.refl H)
theorem Chg.mono {U W : Addr → Prop} (c : Chg U H H') (h : ∀ a, U a → W a) : Chg W H H' := ⟨fun b o n => c.keep b o fun u => n (h b u), c.tabs⟩
theorem Eff.trans (f : Frs S H) (a : Eff S ρ H S1 ρ1 H1) (b : Eff S1 ρ1 H1 S2 ρ2 H2) : Eff S ρ H S2 ρ2 H2 where
  chg := ⟨fun x o n h k => b.chg.keep x o (fun d => by
    rcases a.new x d with z | z
    · exact n z
    · obtain ⟨ps, e⟩ := z _ h
      exact k ps e) (a.chg.keep x o n h k) k, fun t => b.chg.tabs (a.chg.tabs t)⟩
  new := fun p d => by
    rcases b.new p d with z | z
    · exact a.new p z
    · exact .inr (a.al p z)
  sub := fun x s => by
    rcases b.sub x s with z | z
    · exact a.sub x z
    · rcases a.new x z with y | y
      · exact .inr y
      · exact .inl (f.new x y)
  old := fun x s n => b.old x (a.old x s n) fun z => n (a.al x z)
  al := fun p h => a.al p (b.al p h)
theorem Frs.eff (f : Frs S H) (e : Ext H H') : Frs S H' := f.same e
theorem StR.ext (r : StR K S ρ H) (e : Ext H H') : StR K S ρ H' := ⟨r.frs.same e, fun q hq => ⟨(r.own q hq).1, Ct.move (.keep (.of e)) (fun o h pl => e.keep _ _ h pl.ntup.2.2.1) (r.own q hq).2⟩, r.nd⟩
variable {γ γ' : Gm} {σ : L2.St}
theorem Sta.ext (r : Sta K S γ ρ σ H) (e : Ext H H') : Sta K S γ ρ σ H' := { r.toStR.ext e with fits := r.fits.same e }
theorem Fits.move (m : Mv S S' K H H') (h : Fits K S γ σ H) : Fits K S' γ σ H' := ⟨h.len, fun i d q => let ⟨v, a, b⟩ := h.get i d q; ⟨v, a, b.move m⟩⟩
/-- what was done to some of what is one's own: the rest stands -/
theorem StR.frame {ρa ρa' : Rho} (r : StR K S ρa H) (hs : ∀ q ∈ ρ, q ∈ ρa) (e : Eff S ρ H S' ρ' H') (r' : StR K S' ρ' H') (hd : ∀ p, dom ρ p → dom ρ' p) (h1 : ∀ q ∈ ρa', q ∈ ρ' ∨ (q ∈ ρa ∧ ¬ dom ρ q.1)) (nd : (ρa'.map (·.1)).Nodup) : StR K S' ρa' H' ∧ Eff S ρa H S' ρa' H' := by
  have hda : ∀ p, dom ρ p → dom ρa p := fun p d => by
    obtain ⟨q, hq, e⟩ := List.mem_map.mp d
    exact List.mem_map.mpr ⟨q, hs q hq, e⟩
  have rr : StR K S ρ H → Mv S S' K H H' := fun r => e.mv r
  have kS : Keep S H H' := e.chg.keepS (fun a s d => r.ns a s (hda a d)) fun a xs d => r.nt a xs (hda a d)
  have mv : Mv S S' K H H' := ⟨fun a u s q n => ⟨e.old a s (rd_nt q n), kS.obj a u s q n⟩, fun a C d f s q => ⟨e.old a s (rd_nt (.inl q) fun _ z => nomatch z), kS.ins a C d f s q⟩, fun _ _ q => sqT_keep kS q⟩
  refine ⟨⟨r'.frs, fun q hq => ?_, nd⟩, ⟨e.chg.mono hda, fun p d => ?_, fun a s => ?_, e.old, e.al⟩⟩
  · rcases h1 q hq with z | ⟨z, n⟩
    · exact r'.own q z
    · obtain ⟨n1, n2⟩ := r.own q z
      refine ⟨fun s => ?_, Ct.move mv (fun o h pl => e.chg.keep _ _ n h pl.ntup.2.2.1) n2⟩
      rcases e.sub _ s with y | y
      · exact n1 y
      · exact n y
  · obtain ⟨q, hq, e1⟩ := List.mem_map.mp d
    rcases h1 q hq with z | ⟨z, n⟩
    · rcases e.new p (List.mem_map.mpr ⟨q, z, e1⟩) with y | y
      · exact .inl (hda p y)
      · exact .inr y
    · exact .inl (List.mem_map.mpr ⟨q, z, e1⟩)
  · rcases e.sub a s with y | y
    · exact .inl y
    · exact .inr (hda a y)
theorem Sta.frame {ρa ρa' : Rho} (r : Sta K S γ ρa σ H) (hs : ∀ q ∈ ρ, q ∈ ρa) (e : Eff S ρ H S' ρ' H') (r' : StR K S' ρ' H') (hd : ∀ p, dom ρ p → dom ρ' p) (h1 : ∀ q ∈ ρa', q ∈ ρ' ∨ (q ∈ ρa ∧ ¬ dom ρ q.1)) (nd : (ρa'.map (·.1)).Nodup) : Sta K S' γ ρa' σ H' ∧ Eff S ρa H S' ρa' H' := by
  obtain ⟨a, b⟩ := r.toStR.frame hs e r' hd h1 nd
  exact ⟨{ a with fits := r.fits.move (b.mv r.toStR) }, b⟩
theorem StR.sub {ρa : Rho} (r : StR K S ρa H) (hs : ∀ q ∈ ρ, q ∈ ρa) (nd : (ρ.map (·.1)).Nodup) : StR K S ρ H := ⟨r.frs, fun q hq => r.own q (hs q hq), nd⟩
/-- one of them is changed in its place -/
theorem StR.put {n : Nat} {c' : Ct} {o u : HO} (r : StR K S ρ H) (hn : ρ[n]? = some (p, c)) (ho : H p = some o) (pl : Plain o) (pu : Plain u) (hc : Mv S S K H (upd H p u) → c'.holds K S (upd H p u) p) : StR K S (ρ.set n (p, c')) (upd H p u) ∧ Eff S ρ H S (ρ.set n (p, c')) (upd H p u) := by
  have hm := List.mem_of_getElem? hn
  have hS := (r.own _ hm).1
  have kk : Keep S H (upd H p u) := Keep.updP ho pl hS
  have nt : ∀ a, Nt (upd H p u) a → Nt H a := fun a h x hx => by
    by_cases e : a = p
    · subst e
      obtain ⟨ps, z⟩ := h _ upd_same
      exact absurd z (pu.ntup.2.2.1 ps)
    · exact h x (by rw [upd_ne e]; exact hx)
  have keys : (ρ.set n (p, c')).map (·.1) = ρ.map (·.1) := by
    rw [List.map_set]
    refine List.ext_getElem? fun i => ?_
    by_cases e : n = i
    · subst e
      by_cases l : n < ρ.length
      · rw [List.getElem?_set_self (by rw [List.length_map]; exact l), List.getElem?_map, hn]
        rfl
      · rw [List.getElem?_eq_none (by rw [List.length_set, List.length_map]; omega), List.getElem?_eq_none (by rw [List.length_map]; omega)]
    · rw [List.getElem?_set_ne e]
  refine ⟨⟨⟨fun a h => r.frs.new a (nt a h), fun q hq => tabs_pl ho pl (r.frs.tabs q hq)⟩, fun q hq => ?_, by rw [keys]; exact r.nd⟩, ⟨(Chg.upd ho pl).mono fun a e => ?_, fun a d => ?_, fun a s => .inl s, fun a s _ => s, nt⟩⟩
  · obtain ⟨i, hi, e⟩ := List.mem_iff_getElem.mp hq
    rw [List.length_set] at hi
    by_cases en : n = i
    · subst en
      rw [List.getElem_set_self] at e
      subst e
      exact ⟨hS, hc (.keep kk)⟩
    · rw [List.getElem_set_ne en] at e
      have hq' : q ∈ ρ := e ▸ List.getElem_mem hi
      have ne : q.1 ≠ p := fun z => en (by
        have h1 : (ρ.map (·.1))[n]? = some p := by rw [List.getElem?_map, hn]; rfl
        have h2 : (ρ.map (·.1))[i]? = some p := by rw [List.getElem?_map, List.getElem?_eq_getElem hi, e]; exact congrArg some z
        have ln : n < (ρ.map (·.1)).length := (List.getElem?_eq_some_iff.mp h1).1
        exact (List.getElem?_inj ln r.nd).mp (h1.trans h2.symm))
      exact ⟨(r.own q hq').1, Ct.move (.keep kk) (fun x h _ => by rw [upd_ne ne]; exact h) (r.own q hq').2⟩
  · have e : a = p := e
    subst e
    exact dom_of hm
  · unfold dom at d ⊢
    rw [keys] at d
    exact .inl d
/-- a new one -/
theorem StR.newO {u : HO} (r : StR K S ρ H) (hp : H p = none) (pu : Plain u) (hc : Mv S (fun a => S a ∧ a ≠ p) K H (upd H p u) → c.holds K (fun a => S a ∧ a ≠ p) (upd H p u) p) : StR K (fun a => S a ∧ a ≠ p) (ρ ++ [(p, c)]) (upd H p u) ∧ Eff S ρ H (fun a => S a ∧ a ≠ p) (ρ ++ [(p, c)]) (upd H p u) := by
  have e : Ext H (upd H p u) := same_new hp
  have mv : Mv S (fun a => S a ∧ a ≠ p) K H (upd H p u) := ⟨fun a x s q n => ⟨⟨s, fun z => rd_nt q n (z ▸ .of hp)⟩, (Keep.of e).obj a x s q n⟩, fun a C d f s q => ⟨⟨s, fun z => by
    subst z
    rw [hp] at q
    cases q⟩, (Keep.of e).ins a C d f s q⟩, fun _ _ q => sqT_keep (Keep.of (S := S) e) q⟩
  have nt : ∀ a, Nt (upd H p u) a → Nt H a ∧ a ≠ p := fun a h => ⟨e.nt h, fun z => by
    subst z
    obtain ⟨ps, z⟩ := h _ upd_same
    exact absurd z (pu.ntup.2.2.1 ps)⟩
  refine ⟨⟨⟨fun a h => ⟨r.frs.new a (nt a h).1, (nt a h).2⟩, e.tabs r.frs.tabs⟩, fun q hq => ?_, ?_⟩, ⟨.of e, fun a d => ?_, fun a s => .inl s.1, fun a s n => ⟨s, fun z => n (z ▸ .of hp)⟩, fun a h => (nt a h).1⟩⟩
  · rcases List.mem_append.mp hq with h | h
    · obtain ⟨n1, n2⟩ := r.own q h
      exact ⟨fun z => n1 z.1, Ct.move mv (fun o h pl => e.keep _ _ h pl.ntup.2.2.1) n2⟩
    · rw [List.mem_singleton.mp h]
      exact ⟨fun z => z.2 rfl, hc mv⟩
  · rw [List.map_append]
    refine List.nodup_append.mpr ⟨r.nd, by simp, fun a ha b hb z => ?_⟩
    have hb : b = p := by simpa using hb
    subst hb z
    exact r.trk ha (.of hp)
  · unfold dom at d
    rw [List.map_append] at d
    rcases List.mem_append.mp d with h | h
    · exact .inl h
    · have : a = p := by simpa using h
      exact .inr (this ▸ .of hp)
end
end LK
namespace LK
open PySem PySem.Spec PyProof.Rows L2
variable [Tbs]
/-! ### expressions and bodies over what is one's own -/
def EvR (K : PySem.W.Frag) (γ : Gm) (ρ : Rho) (te : TE) (A : PyData → Rho → Prop) : Prop :=
  ∀ (S : Addr → Prop) (σ : L2.St) (H : Hp), Sta K S γ ρ σ H → ∀ Q : VK, (∀ S' v x ρ' H', A x ρ' → Ds K S' H' v x → Sta K S' γ ρ' σ H' → Eff S ρ H S' ρ' H' → Q v H') → te σ H Q
def EvRB (K : PySem.W.Frag) (γ : Gm) (ρ : Rho) (tt : TT) (B : Bool → Rho → Prop) : Prop :=
  ∀ (S : Addr → Prop) (σ : L2.St) (H : Hp), Sta K S γ ρ σ H → ∀ Q : Bool → Hp → Prop, (∀ S' b ρ' H', B b ρ' → Sta K S' γ ρ' σ H' → Eff S ρ H S' ρ' H' → Q b H') → tt σ H Q
def EvRA (K : PySem.W.Frag) (γ : Gm) (ρ : Rho) (ta : TA) (L : List PyData → Rho → Prop) : Prop :=
  ∀ (S : Addr → Prop) (σ : L2.St) (H : Hp), Sta K S γ ρ σ H → ∀ Q : List V → Hp → Prop, (∀ S' vs xs ρ' H', L xs ρ' → DsAll K S' H' vs xs → Sta K S' γ ρ' σ H' → Eff S ρ H S' ρ' H' → Q vs H') → ta σ H Q
def RunR (K : PySem.W.Frag) (γ : Gm) (ρ : Rho) (ts : TS) (N : Gm → Rho → Prop) (A : PyData → Rho → Prop) : Prop :=
  ∀ (S : Addr → Prop) (σ : L2.St) (H : Hp), Sta K S γ ρ σ H → ∀ D : Ends, (∀ S' σ' γ' ρ' H', N γ' ρ' → Sta K S' γ' ρ' σ' H' → Eff S ρ H S' ρ' H' → D.nx σ' H') →
    (∀ S' v x ρ' H', A x ρ' → Ds K S' H' v x → StR K S' ρ' H' → Eff S ρ H S' ρ' H' → D.rt v H') → ts D σ H
section
variable {K : PySem.W.Frag} {γ γ' γv : Gm} {ρ ρ' : Rho} {te ta tb : TE} {tt : TT} {t u : TS} {A B : PyData → Rho → Prop} {N N' : Gm → Rho → Prop} {x d y z : PyData} {i j k n : Nat} {p : Addr} {c c' : Ct} {S S' : Addr → Prop} {H H' : Hp} {σ : L2.St}
theorem Sta.set (s : Sta K S γ ρ σ H) (i : Nat) {v : V} {d : PyData} (hv : Ds K S H v d) : Sta K S (γ.set i (some d)) ρ (σ.set i (some v)) H := { s with fits := s.fits.set i hv }
theorem DsAll.one0 : DsAll K S H [] [] := .nil
theorem nodup_uniq {ρ : Rho} (nd : (ρ.map (·.1)).Nodup) : ∀ {p : Addr} {c c' : Ct}, (p, c) ∈ ρ → (p, c') ∈ ρ → c = c' := by
  induction ρ with
  | nil => intro p c c' h; cases h
  | cons q r ih =>
    intro p c c' h1 h2
    rw [List.map_cons, List.nodup_cons] at nd
    rcases List.mem_cons.mp h1 with e1 | e1 <;> rcases List.mem_cons.mp h2 with e2 | e2
    · rw [← e1] at e2
      injection e2 with _ e
      exact e.symm
    · subst e1
      exact absurd (dom_of e2) nd.1
    · subst e2
      exact absurd (dom_of e1) nd.1
    · exact ih nd.2 e1 e2
/-- one of them, changed in its place: what the frame asks -/
theorem frame1 (nd : (ρ.map (·.1)).Nodup) (hn : ρ[n]? = some (p, c)) : (∀ q ∈ ρ.set n (p, c'), q ∈ [(p, c')] ∨ (q ∈ ρ ∧ ¬ dom [(p, c)] q.1)) ∧ ((ρ.set n (p, c')).map (·.1)).Nodup := by
  have keys : (ρ.set n (p, c')).map (·.1) = ρ.map (·.1) := by
    rw [List.map_set]
    refine List.ext_getElem? fun i => ?_
    by_cases e : n = i
    · subst e
      have l := (List.getElem?_eq_some_iff.mp hn).1
      rw [List.getElem?_set_self (by rw [List.length_map]; exact l), List.getElem?_map, hn]
      rfl
    · rw [List.getElem?_set_ne e]
  refine ⟨fun q hq => ?_, by rw [keys]; exact nd⟩
  obtain ⟨i, hi, e⟩ := List.mem_iff_getElem.mp hq
  rw [List.length_set] at hi
  by_cases en : n = i
  · subst en
    rw [List.getElem_set_self] at e
    exact .inl (by rw [← e]; exact List.mem_singleton.mpr rfl)
  · rw [List.getElem_set_ne en] at e
    refine .inr ⟨e ▸ List.getElem_mem hi, fun z => en ?_⟩
    have z : q.1 = p := by simpa [dom] using z
    have h1 : (ρ.map (·.1))[n]? = some p := by rw [List.getElem?_map, hn]; rfl
    have h2 : (ρ.map (·.1))[i]? = some p := by rw [List.getElem?_map, List.getElem?_eq_getElem hi, e]; exact congrArg some z
    have ln : n < (ρ.map (·.1)).length := (List.getElem?_eq_some_iff.mp h1).1
    exact (List.getElem?_inj ln nd).mp (h1.trans h2.symm)
theorem StR.one (r : StR K S ρ H) (hn : ρ[n]? = some (p, c)) : StR K S [(p, c)] H := r.sub (fun q hq => by
  rw [List.mem_singleton.mp hq]
  exact List.mem_of_getElem? hn) (by simp)
theorem set_self (hn : ρ[n]? = some (p, c)) : ρ.set n (p, c) = ρ := by
  refine List.ext_getElem? fun i => ?_
  by_cases e : n = i
  · subst e
    rw [List.getElem?_set_self (List.getElem?_eq_some_iff.mp hn).1, hn]
  · rw [List.getElem?_set_ne e]
theorem Ds.rf_inv {v : V} {a : Addr} (h : Ds K S H v (LK.rf a)) : v = .ref a := by
  unfold LK.rf at h
  generalize e : ([(PyData.bool true, PyData.int (a : Int))] : List (PyData × PyData)) = es at h
  cases h with
  | rf b =>
    injection e with e _
    injection e with _ e
    injection e with e
    rw [Int.ofNat_inj.mp e]
  | ins _ _ _ =>
    injection e with e _
    injection e with e _
    cases e
  | dct _ _ r =>
    subst e
    rename_i kvs _ _
    cases kvs with
    | nil => cases r
    | cons q r2 =>
      obtain ⟨k, v⟩ := q
      cases k <;> cases r
/-- data without an address -/
def atomD : PyData → Bool
  | .none | .bool _ | .int _ | .str _ => true
  | _ => false
theorem Ds.atom {v : V} (h : Ds K S H v d) (e : atomD d = true) (S' : Addr → Prop) (H' : Hp) : Ds K S' H' v d := by
  cases h with
  | non => exact .non
  | bl b => exact .bl b
  | int i => exact .int i
  | str x => exact .str x
  | lst _ _ _ => cases e
  | tup _ _ => cases e
  | dct _ _ _ => cases e
  | ins _ _ _ => cases e
  | rf a => cases e
/-! expressions -/
theorem EvR.mono (h : EvR K γ ρ te A) (w : ∀ x r, A x r → B x r) : EvR K γ ρ te B := fun S σ H st Q q => h S σ H st Q fun S' v x ρ' H' a => q S' v x ρ' H' (w x ρ' a)
theorem EvRB.mono {B B' : Bool → Rho → Prop} (h : EvRB K γ ρ tt B) (w : ∀ x r, B x r → B' x r) : EvRB K γ ρ tt B' := fun S σ H st Q q => h S σ H st Q fun S' b ρ' H' a => q S' b ρ' H' (w b ρ' a)
theorem er_pure (h : Ev K γ te d) : EvR K γ ρ te (fun x r => x = d ∧ r = ρ) := fun S σ H st Q q => h S σ H st.fits st.frs Q fun v H2 e hv => q S v d ρ H2 ⟨rfl, rfl⟩ hv (st.ext e) (.ext e)
theorem erb_pure {b : Bool} (h : EvB K γ tt b) : EvRB K γ ρ tt (fun x r => x = b ∧ r = ρ) := fun S σ H st Q q => h S σ H st.fits st.frs Q fun H2 e => q S b ρ H2 ⟨rfl, rfl⟩ (st.ext e) (.ext e)
theorem era_pure {ta : TA} {xs : List PyData} (h : EvA K γ ta xs) : EvRA K γ ρ ta (fun x r => x = xs ∧ r = ρ) := fun S σ H st Q q => h S σ H st.fits st.frs Q fun v H2 e hv => q S v xs ρ H2 ⟨rfl, rfl⟩ hv (st.ext e) (.ext e)
theorem era_nil : EvRA K γ ρ tNil (fun xs r => xs = [] ∧ r = ρ) := era_pure ea_nil
theorem era_cons {tr : TA} {L : PyData → Rho → List PyData → Rho → Prop} (ha : EvR K γ ρ ta A) (hr : ∀ x ρ', A x ρ' → EvRA K γ ρ' tr (L x ρ')) : EvRA K γ ρ (tCons ta tr) (fun xs r => ∃ x ρ' ys, A x ρ' ∧ L x ρ' ys r ∧ xs = x :: ys) := fun S σ H st Q q =>
  ha S σ H st _ fun S1 v x ρ1 H1 ax hv st1 e1 => hr x ρ1 ax S1 σ H1 st1 _ fun S2 vs ys ρ2 H2 ly hvs st2 e2 => q S2 (v :: vs) (x :: ys) ρ2 H2 ⟨x, ρ1, ys, ax, ly, rfl⟩ (.cons (hv.move (e2.mv st1.toStR)) hvs) st2 (e1.trans st.frs e2)
/-- the dice's slot -/
structure DiceAt (γ : Gm) (ρ : Rho) (δ n : Nat) (d : Addr) : Prop where
  slot : γ[δ]? = some (some (rf d))
  at_ : ρ[n]? = some (d, .dice)
theorem dice_eff {d : Addr} {n : Nat} (st : Sta K S γ ρ σ H) (hn : ρ[n]? = some (d, .dice)) (c2 : ChD d H H') (d2 : Dice H' d) : Sta K S γ ρ σ H' ∧ Eff S ρ H S ρ H' := by
  obtain ⟨hS, di⟩ := st.own _ (List.mem_of_getElem? hn)
  have e : Eff S [(d, .dice)] H S [(d, .dice)] H' := ⟨c2.chg.mono fun a z => by simpa [dom] using z, fun p z => .inl z, fun a s => .inl s, fun a s _ => s, fun p h => c2.nt d2 h⟩
  have r' : StR K S [(d, .dice)] H' := ⟨c2.frs st.frs d2, fun q hq => by
    rw [List.mem_singleton.mp hq]
    exact ⟨hS, d2⟩, by simp⟩
  obtain ⟨f1, f2⟩ := frame1 (c' := .dice) st.nd hn
  rw [set_self hn] at f1 f2
  exact st.frame (fun q hq => by
    rw [List.mem_singleton.mp hq]
    exact List.mem_of_getElem? hn) e r' (fun p z => z) f1 f2
theorem er_N {δ : Nat} {d : Addr} {A : PyData → Prop} (D : DiceAt γ ρ δ n d) (h : EvN K γ δ te A) : EvR K γ ρ te (fun x r => A x ∧ r = ρ) := fun S σ H st Q q => by
  obtain ⟨v, hs, hv⟩ := st.fits.get δ _ D.slot
  rw [hv.rf_inv] at hs
  obtain ⟨hS, di⟩ := st.own _ (List.mem_of_getElem? D.at_)
  refine h S σ H d st.fits st.frs hs hS di Q fun v x H2 ax c2 d2 hx => ?_
  obtain ⟨s2, e2⟩ := dice_eff st D.at_ c2 d2
  exact q S v x ρ H2 ⟨ax, rfl⟩ hx s2 e2
theorem erb_N {δ : Nat} {d : Addr} {B : Bool → Prop} (D : DiceAt γ ρ δ n d) (h : EvNB K γ δ tt B) : EvRB K γ ρ tt (fun x r => B x ∧ r = ρ) := fun S σ H st Q q => by
  obtain ⟨v, hs, hv⟩ := st.fits.get δ _ D.slot
  rw [hv.rf_inv] at hs
  obtain ⟨hS, di⟩ := st.own _ (List.mem_of_getElem? D.at_)
  refine h S σ H d st.fits st.frs hs hS di Q fun b H2 ax c2 d2 => ?_
  obtain ⟨s2, e2⟩ := dice_eff st D.at_ c2 d2
  exact q S b ρ H2 ⟨ax, rfl⟩ s2 e2
/-- the slots, some of what is one's own read as data: P tells the addresses -/
def View (K : PySem.W.Frag) (γ : Gm) (ρ : Rho) (P : List Addr) (γv : Gm) : Prop := ∀ S σ H, Sta K S γ ρ σ H → Fits K (fun a => S a ∨ a ∈ P) γv σ H
theorem View.refl {P : List Addr} : View K γ ρ P γ := fun S σ H st => st.fits.res (.of fun a s => .inl s)
theorem frs_or {P : List Addr} (f : Frs S H) : Frs (fun a => S a ∨ a ∈ P) H := ⟨fun p h => .inl (f.new p h), f.tabs⟩
/-- slot i holds d, seen so -/
theorem View.set {P : List Addr} (h : View K γ ρ P γv) (i : Nat) {d0 : PyData} (hi : γ[i]? = some (some d0)) (hd : ∀ S H v, StR K S ρ H → Ds K S H v d0 → Ds K (fun a => S a ∨ a ∈ P) H v d) : View K γ ρ P (γv.set i (some d)) := fun S σ H st => by
  obtain ⟨v, h1, h2⟩ := st.fits.get i _ hi
  exact (h S σ H st).on h1 (hd S H v st.toStR h2)
theorem ds_lst {P : List Addr} (hn : ρ[n]? = some (p, .lst xs)) (hp : p ∈ P) (S : Addr → Prop) (H : Hp) (v : V) (r : StR K S ρ H) (h : Ds K S H v (rf p)) : Ds K (fun a => S a ∨ a ∈ P) H v (.list xs) := by
  obtain ⟨_, ys, e, hall⟩ := r.own _ (List.mem_of_getElem? hn)
  rw [h.rf_inv]
  exact .lst (.inr hp) (.inl e) (hall.res (.of fun a s => .inl s))
theorem ds_dct {es : List (PyData × PyData)} {P : List Addr} (hn : ρ[n]? = some (p, .dct es)) (hp : p ∈ P) (S : Addr → Prop) (H : Hp) (v : V) (r : StR K S ρ H) (h : Ds K S H v (rf p)) : Ds K (fun a => S a ∨ a ∈ P) H v (.dict es) := by
  obtain ⟨_, ys, e, hall⟩ := r.own _ (List.mem_of_getElem? hn)
  rw [h.rf_inv]
  exact .dct (.inr hp) (.inl e) (hall.res (.of fun a s => .inl s))
theorem View.lst {xs : List PyData} (hi : γ[i]? = some (some (rf p))) (hn : ρ[n]? = some (p, .lst xs)) : View K γ ρ [p] (γ.set i (some (.list xs))) := View.refl.set i hi (ds_lst hn (by simp))
theorem View.dct {es : List (PyData × PyData)} (hi : γ[i]? = some (some (rf p))) (hn : ρ[n]? = some (p, .dct es)) : View K γ ρ [p] (γ.set i (some (.dict es))) := View.refl.set i hi (ds_dct hn (by simp))
theorem er_view {P : List Addr} (V : View K γ ρ P γv) (h : Ev K γv te d) (hd : atomD d = true := by rfl) : EvR K γ ρ te (fun x r => x = d ∧ r = ρ) := fun S σ H st Q q => h _ σ H (V S σ H st) (frs_or st.frs) Q fun v H2 e hv => q S v d ρ H2 ⟨rfl, rfl⟩ (hv.atom hd _ _) (st.ext e) (.ext e)
theorem erb_view {P : List Addr} {b : Bool} (V : View K γ ρ P γv) (h : EvB K γv tt b) : EvRB K γ ρ tt (fun x r => x = b ∧ r = ρ) := fun S σ H st Q q => h _ σ H (V S σ H st) (frs_or st.frs) Q fun H2 e => q S b ρ H2 ⟨rfl, rfl⟩ (st.ext e) (.ext e)
/-- .. with dice that are not among them -/
theorem er_viewN {P : List Addr} {δ : Nat} {a : Addr} {A : PyData → Prop} (V : View K γ ρ P γv) (D : DiceAt γ ρ δ n a) (hP : a ∉ P) (h : EvN K γv δ te A) (hA : ∀ x, A x → atomD x = true) : EvR K γ ρ te (fun x r => A x ∧ r = ρ) := fun S σ H st Q q => by
  obtain ⟨v, hs, hv⟩ := st.fits.get δ _ D.slot
  rw [hv.rf_inv] at hs
  obtain ⟨hS, di⟩ := st.own _ (List.mem_of_getElem? D.at_)
  refine h _ σ H a (V S σ H st) (frs_or st.frs) hs (fun z => z.elim hS hP) di Q fun v x H2 ax c2 d2 hx => ?_
  obtain ⟨s2, e2⟩ := dice_eff st D.at_ c2 d2
  exact q S v x ρ H2 ⟨ax, rfl⟩ (hx.atom (hA x ax) _ _) s2 e2
theorem erb_viewN {P : List Addr} {δ : Nat} {a : Addr} {B : Bool → Prop} (V : View K γ ρ P γv) (D : DiceAt γ ρ δ n a) (hP : a ∉ P) (h : EvNB K γv δ tt B) : EvRB K γ ρ tt (fun x r => B x ∧ r = ρ) := fun S σ H st Q q => by
  obtain ⟨v, hs, hv⟩ := st.fits.get δ _ D.slot
  rw [hv.rf_inv] at hs
  obtain ⟨hS, di⟩ := st.own _ (List.mem_of_getElem? D.at_)
  refine h _ σ H a (V S σ H st) (frs_or st.frs) hs (fun z => z.elim hS hP) di Q fun b H2 ax c2 d2 => ?_
  obtain ⟨s2, e2⟩ := dice_eff st D.at_ c2 d2
  exact q S b ρ H2 ⟨ax, rfl⟩ s2 e2
/-- an operation whose right side is pure, its left side as it was found -/
theorem er_op {r : R2} (ha : EvR K γ ρ ta A) (hb : Ev K γ tb y) (hr : ∀ x ρ', A x ρ' → ∃ z, EvO K r x y z ∧ B z ρ') : EvR K γ ρ (tOp r ta tb) B := fun S σ H st Q q =>
  ha S σ H st _ fun S1 v x ρ1 H1 ax hv st1 e1 => hb S1 σ H1 st1.fits st1.frs _ fun w H2 e2 hw => by
    obtain ⟨z, ho, bz⟩ := hr x ρ1 ax
    exact ho S1 v w H2 (st1.frs.same e2) (hv.same e2) hw Q fun u H3 e3 hu => q S1 u z ρ1 H3 bz hu ((st1.ext e2).ext e3) (e1.trans st.frs (.ext (e2.trans e3)))
theorem erb_test {B : Bool → Rho → Prop} (h : EvR K γ ρ te (fun x r => ∃ b, x = .bool b ∧ B b r)) : EvRB K γ ρ (tTest te) B := fun S σ H st Q q => h S σ H st _ fun S1 v x ρ1 H1 ⟨b, e, bb⟩ hv st1 e1 => by
  subst e
  exact ⟨b, hv.bl_inv, q S1 b ρ1 H1 bb st1 e1⟩
theorem erb_B {B : Bool → Rho → Prop} (h : EvR K γ ρ te (fun x r => ∃ b, x = .bool b ∧ B b r)) : EvRB K γ ρ (tB te) B := fun S σ H st Q q => h S σ H st _ fun S1 v x ρ1 H1 ⟨b, e, bb⟩ hv st1 e1 => by
  subst e
  exact ⟨b, hv.bl_inv, q S1 b ρ1 H1 bb st1 e1⟩
theorem erb_not {B : Bool → Rho → Prop} (h : EvRB K γ ρ tt B) : EvRB K γ ρ (tNot tt) (fun b r => B (!b) r) := fun S σ H st Q q => h S σ H st _ fun S1 b ρ1 H1 bb st1 e1 => q S1 (!b) ρ1 H1 (by
  show B (!!b) ρ1
  rw [Bool.not_not]
  exact bb) st1 e1
theorem erb_and {tu : TT} {B B' : Bool → Rho → Prop} (h : EvRB K γ ρ tt B) (h2 : ∀ ρ', B true ρ' → EvRB K γ ρ' tu B') : EvRB K γ ρ (tAnd tt tu) (fun c r => (c = false ∧ B false r) ∨ B' c r) := fun S σ H st Q q => h S σ H st _ fun S1 b ρ1 H1 bb st1 e1 => by
  cases b with
  | true =>
    show tu σ H1 Q
    exact h2 ρ1 bb S1 σ H1 st1 Q fun S2 b2 ρ2 H2 bb2 st2 e2 => q S2 b2 ρ2 H2 (.inr bb2) st2 (e1.trans st.frs e2)
  | false =>
    show Q false H1
    exact q S1 false ρ1 H1 (.inl ⟨rfl, bb⟩) st1 e1
theorem erb_or {tu : TT} {B B' : Bool → Rho → Prop} (h : EvRB K γ ρ tt B) (h2 : ∀ ρ', B false ρ' → EvRB K γ ρ' tu B') : EvRB K γ ρ (tOr tt tu) (fun c r => (c = true ∧ B true r) ∨ B' c r) := fun S σ H st Q q => h S σ H st _ fun S1 b ρ1 H1 bb st1 e1 => by
  cases b with
  | false =>
    show tu σ H1 Q
    exact h2 ρ1 bb S1 σ H1 st1 Q fun S2 b2 ρ2 H2 bb2 st2 e2 => q S2 b2 ρ2 H2 (.inr bb2) st2 (e1.trans st.frs e2)
  | true =>
    show Q true H1
    exact q S1 true ρ1 H1 (.inl ⟨rfl, bb⟩) st1 e1
/-! bodies -/
theorem rr_mono (h : RunR K γ ρ t N A) (w : ∀ g r, N g r → N' g r) (w2 : ∀ x r, A x r → B x r) : RunR K γ ρ t N' B := fun S σ H st D qn qr => h S σ H st D (fun S' σ' γ' ρ' H' n => qn S' σ' γ' ρ' H' (w γ' ρ' n)) fun S' v x ρ' H' a => qr S' v x ρ' H' (w2 x ρ' a)
theorem rr_seq (h : RunR K γ ρ t N A) (k : ∀ γ' ρ', N γ' ρ' → RunR K γ' ρ' u N' A) : RunR K γ ρ (tSeq t u) N' A := fun S σ H st D qn qr =>
  h S σ H st { D with nx := u D } (fun S1 σ1 γ1 ρ1 H1 n st1 e1 => k γ1 ρ1 n S1 σ1 H1 st1 D (fun S2 σ2 γ2 ρ2 H2 n2 st2 e2 => qn S2 σ2 γ2 ρ2 H2 n2 st2 (e1.trans st.frs e2)) fun S2 v x ρ2 H2 a hv r2 e2 => qr S2 v x ρ2 H2 a hv r2 (e1.trans st.frs e2)) qr
theorem rr_next (h : N γ ρ) : RunR K γ ρ tNext N A := fun S σ H st D qn qr => qn S σ γ ρ H h st .refl
theorem rr_set {i : Nat} (h : EvR K γ ρ te B) : RunR K γ ρ (tAsg te (gName i)) (fun g r => ∃ x, B x r ∧ g = γ.set i (some x)) A := fun S σ H st D qn qr => h S σ H st _ fun S1 v x ρ1 H1 bx hv st1 e1 => qn S1 _ _ ρ1 H1 ⟨x, bx, rfl⟩ (st1.set i hv) e1
theorem rr_asg {g : TG} {γ2 : PyData → Gm} (h : EvR K γ ρ te B) (hg : ∀ x r, B x r → EvG K g γ x (γ2 x)) : RunR K γ ρ (tAsg te g) (fun g r => ∃ x, B x r ∧ g = γ2 x) A := fun S σ H st D qn qr => h S σ H st _ fun S1 v x ρ1 H1 bx hv st1 e1 => hg x ρ1 bx S1 σ v H1 st1.fits hv _ fun σ' f' => qn S1 σ' _ ρ1 H1 ⟨x, bx, rfl⟩ { st1 with fits := f' } e1
theorem rr_drop (h : EvR K γ ρ te B) : RunR K γ ρ (tDrop te) (fun g r => g = γ ∧ ∃ x, B x r) A := fun S σ H st D qn qr => h S σ H st _ fun S1 v x ρ1 H1 bx hv st1 e1 => qn S1 σ γ ρ1 H1 ⟨rfl, x, bx⟩ st1 e1
theorem rr_ret (h : EvR K γ ρ te A) : RunR K γ ρ (tRet te) N A := fun S σ H st D qn qr => h S σ H st _ fun S1 v x ρ1 H1 ax hv st1 e1 => qr S1 v x ρ1 H1 ax hv st1.toStR e1
theorem rr_retN (h : A .none ρ) : RunR K γ ρ tRetN N A := fun S σ H st D qn qr => qr S .non .none ρ H h .non st.toStR .refl
theorem rr_if {B : Bool → Rho → Prop} (h : EvRB K γ ρ tt B) (h1 : ∀ ρ', B true ρ' → RunR K γ ρ' t N A) (h2 : ∀ ρ', B false ρ' → RunR K γ ρ' u N A) : RunR K γ ρ (tIfS tt t u) N A := fun S σ H st D qn qr => h S σ H st _ fun S1 b ρ1 H1 bb st1 e1 => by
  cases b with
  | true =>
    show t D σ H1
    exact h1 ρ1 bb S1 σ H1 st1 D (fun S2 σ2 γ2 ρ2 H2 n2 st2 e2 => qn S2 σ2 γ2 ρ2 H2 n2 st2 (e1.trans st.frs e2)) fun S2 v x ρ2 H2 a hv r2 e2 => qr S2 v x ρ2 H2 a hv r2 (e1.trans st.frs e2)
  | false =>
    show u D σ H1
    exact h2 ρ1 bb S1 σ H1 st1 D (fun S2 σ2 γ2 ρ2 H2 n2 st2 e2 => qn S2 σ2 γ2 ρ2 H2 n2 st2 (e1.trans st.frs e2)) fun S2 v x ρ2 H2 a hv r2 e2 => qr S2 v x ρ2 H2 a hv r2 (e1.trans st.frs e2)
theorem rr_if0 {P : List Addr} (V : View K γ ρ P γv) (h : EvB K γv tt false) (h2 : RunR K γ ρ u N A) : RunR K γ ρ (tIfS tt t u) N A := rr_if (erb_view V h) (fun r z => Bool.noConfusion z.1) fun r z => z.2 ▸ h2
theorem rr_if1 {P : List Addr} (V : View K γ ρ P γv) (h : EvB K γv tt true) (h2 : RunR K γ ρ t N A) : RunR K γ ρ (tIfS tt t u) N A := rr_if (erb_view V h) (fun r z => z.2 ▸ h2) fun r z => Bool.noConfusion z.1
theorem rr_run (h : Run K γ t (.nx γ')) : RunR K γ ρ t (fun g r => g = γ' ∧ r = ρ) A := fun S σ H st D qn qr => h S σ H st.fits st.frs D fun σ' H2 e f => qn S σ' γ' ρ H2 ⟨rfl, rfl⟩ { st.ext e with fits := f } (.ext e)
theorem rr_runR (h : Run K γ t (.rt x)) (hx : A x ρ) : RunR K γ ρ t N A := fun S σ H st D qn qr => h S σ H st.fits st.frs D fun v H2 e hv => qr S v x ρ H2 hx hv (st.ext e).toStR (.ext e)
/-- told otherwise -/
def Step (K : PySem.W.Frag) (γ : Gm) (ρ : Rho) (γ' : Gm) (ρ' : Rho) : Prop := ∀ S σ H, Sta K S γ ρ σ H → ∃ S', Sta K S' γ' ρ' σ H ∧ Eff S ρ H S' ρ' H
theorem rr_step (hs : Step K γ ρ γ' ρ') (h : RunR K γ' ρ' t N A) : RunR K γ ρ t N A := fun S σ H st D qn qr => by
  obtain ⟨S1, st1, e1⟩ := hs S σ H st
  exact h S1 σ H st1 D (fun S2 σ2 γ2 ρ2 H2 n2 st2 e2 => qn S2 σ2 γ2 ρ2 H2 n2 st2 (e1.trans st.frs e2)) fun S2 v x ρ2 H2 a hv r2 e2 => qr S2 v x ρ2 H2 a hv r2 (e1.trans st.frs e2)
/-- what was told of slots is left out -/
theorem step_le (hl : γ'.length = γ.length) (hi : ∀ (i : Nat) (d : PyData), γ'[i]? = some (some d) → γ[i]? = some (some d)) : Step K γ ρ γ' ρ := fun S σ H st => ⟨S, { st with fits := st.fits.le hl hi }, .refl⟩
/-- one is given up: what reads it is data from now on -/
theorem step_freeze (hn : ρ[n]? = some (p, c)) (V : View K γ ρ [p] γv) : Step K γ ρ γv (ρ.eraseIdx n) := fun S σ H st => by
  have hm := List.mem_of_getElem? hn
  have l := (List.getElem?_eq_some_iff.mp hn).1
  have hsub : ∀ q ∈ ρ.eraseIdx n, q ∈ ρ := fun q hq => List.mem_of_mem_eraseIdx hq
  have hne : ∀ q ∈ ρ.eraseIdx n, q.1 ≠ p := fun q hq z => by
    obtain ⟨i, hi, e⟩ := List.mem_eraseIdx_iff_getElem.mp hq
    obtain ⟨hne, e2⟩ := e
    have h1 : (ρ.map (·.1))[n]? = some p := by rw [List.getElem?_map, hn]; rfl
    have h2 : (ρ.map (·.1))[i]? = some p := by rw [List.getElem?_map, List.getElem?_eq_getElem hi, e2]; exact congrArg some z
    exact hne ((List.getElem?_inj (by rw [List.length_map]; exact l) st.nd).mp (h1.trans h2.symm)).symm
  refine ⟨fun a => S a ∨ a ∈ [p], { frs := frs_or st.frs, own := fun q hq => ⟨fun z => ?_, Ct.move (Mv.res (.of fun a s => .inl s)) (fun o h _ => h) (st.own q (hsub q hq)).2⟩, nd := ?_, fits := V S σ H st }, ⟨⟨fun b o _ h _ => h, fun t => t⟩, fun a d => .inl ?_, fun a s => ?_, fun a s _ => .inl s, fun a h => h⟩⟩
  · rcases z with z | z
    · exact (st.own q (hsub q hq)).1 z
    · exact hne q hq (by simpa using z)
  · exact (List.Sublist.map _ (List.eraseIdx_sublist ρ n)).nodup st.nd
  · obtain ⟨q, hq, e⟩ := List.mem_map.mp d
    exact List.mem_map.mpr ⟨q, hsub q hq, e⟩
  · rcases s with s | s
    · exact .inl s
    · exact .inr (by rw [show a = p by simpa using s]; exact dom_of hm)
/-- a new list -/
theorem rr_new (i : Nat) : RunR K γ ρ (tAsg (tLst tNil) (gName i)) (fun g r => ∃ p, g = γ.set i (some (rf p)) ∧ r = ρ ++ [(p, .lst [])]) A := fun S σ H st D qn qr => ⟨Nat.zero_le _, fun p hp => by
  obtain ⟨r, e⟩ := st.toStR.newO (c := .lst []) (u := .lst []) hp trivial fun _ => ⟨[], upd_same, .nil⟩
  exact qn _ _ _ _ _ ⟨p, rfl, rfl⟩ { r with fits := (st.fits.move (e.mv st.toStR)).set i (.rf p) } e⟩
/-- a new dict -/
theorem rr_newD (i : Nat) : RunR K γ ρ (tAsg tDNewK (gName i)) (fun g r => ∃ p, g = γ.set i (some (rf p)) ∧ r = ρ ++ [(p, .dct [])]) A := fun S σ H st D qn qr => fun p hp => by
  obtain ⟨r, e⟩ := st.toStR.newO (c := .dct []) (u := .dK []) hp trivial fun _ => ⟨[], upd_same, .nil⟩
  exact qn _ _ _ _ _ ⟨p, rfl, rfl⟩ { r with fits := (st.fits.move (e.mv st.toStR)).set i (.rf p) } e
/-- xs.append(e) -/
theorem rr_append {tl : TE} {xs : List PyData} (hl : Ev K γ tl (rf p)) (hn : ρ[n]? = some (p, .lst xs)) (h : EvR K γ ρ te (fun x r => B x r ∧ r = ρ)) (hz : xs.length ≤ 900000) : RunR K γ ρ (tDrop (tBM K "list" rAppend tl (tCons te tNil))) (fun g r => ∃ x, B x ρ ∧ g = γ ∧ r = ρ.set n (p, .lst (xs ++ [x]))) A := fun S σ H st D qn qr => by
  refine hl S σ H st.fits st.frs _ fun v1 H1 e1 hv1 => ?_
  rw [hv1.rf_inv]
  have st1 := st.ext e1
  obtain ⟨_, acc0, a0, _⟩ := st1.own _ (List.mem_of_getElem? hn)
  refine ⟨.inl ⟨rfl, _, .inl (.inl a0)⟩, ?_⟩
  refine h S σ H1 st1 _ fun S2 v x ρ2 H2 ⟨bx, er⟩ hv st2 e2 => ?_
  subst er
  obtain ⟨_, acc, a1, a2⟩ := st2.own _ (List.mem_of_getElem? hn)
  obtain ⟨r3, e3⟩ := st2.toStR.put (u := .lst (acc ++ [v])) (c' := .lst (xs ++ [x])) hn a1 trivial trivial fun m => ⟨_, upd_same, (a2.move m).app (.one (hv.move m))⟩
  exact ⟨p, acc, v, rfl, rfl, a1, sz_lt (by rw [a2.len]; omega), qn S2 σ γ _ _ ⟨x, bx, rfl, rfl⟩ { r3 with fits := st2.fits.move (e3.mv st2.toStR) } ((Eff.ext e1).trans st.frs (e2.trans st1.frs e3))⟩
/-- what is walked is data -/
theorem rr_for {ti : TI} {n j : Nat} {y : Nat → PyData} (I : Nat → Gm → Rho → Prop) (h : EvW K γ ti n y) (h0 : I 0 γ ρ) (hb : ∀ i γ' ρ', i < n → I i γ' ρ' → RunR K (γ'.set j (some (y i))) ρ' t (I (i + 1)) A) : RunR K γ ρ (tFor ti (gName j) t) (I n) A := fun S σ H st D qn qr =>
  h S σ H st.fits st.frs _ fun J H2 e2 W => by
    have st2 := st.ext e2
    have res : Res H2 S (fun a => S a ∧ ¬ Nt H2 a) := fun a s n => ⟨s, n⟩
    obtain ⟨G, wk, g0, gk⟩ := W _ res
    refine for_it wk (fun i σ' H' => ∃ S' γ' ρ', I i γ' ρ' ∧ Sta K S' γ' ρ' σ' H' ∧ Eff S ρ H2 S' ρ' H') ⟨S, γ, ρ, h0, st2, .refl⟩ (fun i σ' H' hi p => ?_) (fun i x σ' H3 H4 hi p yy => ?_) fun σ' H' p => ?_
    · obtain ⟨S', γ', ρ', p0, p1, p2⟩ := p
      exact gk H2 H' (p2.chg.keepS (fun a s => st2.ns a s.1) st2.nt) g0
    · obtain ⟨S', γ', ρ', p0, p1, p2⟩ := p
      show t _ (σ'.set j (some x)) H4
      have p1' := p1.ext yy.1
      have hx : Ds K S' H4 x (y i) := yy.2.res fun a s _ => p2.old a s.1 s.2
      have e4 : Eff S ρ H2 S' ρ' H4 := p2.trans st2.frs (.ext yy.1)
      exact hb i γ' ρ' hi p0 S' _ H4 (p1'.set j hx) _ (fun S5 σ5 γ5 ρ5 H5 g5 s5 e5 => ⟨S5, γ5, ρ5, g5, s5, e4.trans st2.frs e5⟩) fun S5 v x ρ5 H5 ax hv r5 e5 => qr S5 v x ρ5 H5 ax hv r5 ((Eff.ext e2).trans st.frs (e4.trans st2.frs e5))
    · obtain ⟨S', γ', ρ', p0, p1, p2⟩ := p
      exact qn S' σ' γ' ρ' H' p0 p1 ((Eff.ext e2).trans st.frs p2)
/-- .. its items taken apart -/
theorem rr_forG {ti : TI} {g : TG} {n : Nat} {y : Nat → PyData} {γm : Nat → Gm → Gm} (I : Nat → Gm → Rho → Prop) (h : EvW K γ ti n y) (h0 : I 0 γ ρ) (hg : ∀ i γ' ρ', i < n → I i γ' ρ' → EvG K g γ' (y i) (γm i γ')) (hb : ∀ i γ' ρ', i < n → I i γ' ρ' → RunR K (γm i γ') ρ' t (I (i + 1)) A) : RunR K γ ρ (tFor ti g t) (I n) A := fun S σ H st D qn qr =>
  h S σ H st.fits st.frs _ fun J H2 e2 W => by
    have st2 := st.ext e2
    have res : Res H2 S (fun a => S a ∧ ¬ Nt H2 a) := fun a s n => ⟨s, n⟩
    obtain ⟨G, wk, g0, gk⟩ := W _ res
    refine for_it wk (fun i σ' H' => ∃ S' γ' ρ', I i γ' ρ' ∧ Sta K S' γ' ρ' σ' H' ∧ Eff S ρ H2 S' ρ' H') ⟨S, γ, ρ, h0, st2, .refl⟩ (fun i σ' H' hi p => ?_) (fun i x σ' H3 H4 hi p yy => ?_) fun σ' H' p => ?_
    · obtain ⟨S', γ', ρ', p0, p1, p2⟩ := p
      exact gk H2 H' (p2.chg.keepS (fun a s => st2.ns a s.1) st2.nt) g0
    · obtain ⟨S', γ', ρ', p0, p1, p2⟩ := p
      have p1' := p1.ext yy.1
      have hx : Ds K S' H4 x (y i) := yy.2.res fun a s _ => p2.old a s.1 s.2
      have e4 : Eff S ρ H2 S' ρ' H4 := p2.trans st2.frs (.ext yy.1)
      refine hg i γ' ρ' hi p0 S' σ' x H4 p1'.fits hx _ fun σ2 f2 => ?_
      exact hb i γ' ρ' hi p0 S' _ H4 { p1' with fits := f2 } _ (fun S5 σ5 γ5 ρ5 H5 g5 s5 e5 => ⟨S5, γ5, ρ5, g5, s5, e4.trans st2.frs e5⟩) fun S5 v x ρ5 H5 ax hv r5 e5 => qr S5 v x ρ5 H5 ax hv r5 ((Eff.ext e2).trans st.frs (e4.trans st2.frs e5))
    · obtain ⟨S', γ', ρ', p0, p1, p2⟩ := p
      exact qn S' σ' γ' ρ' H' p0 p1 ((Eff.ext e2).trans st.frs p2)
/-! promises -/
/-- called with data ds while ρ stands at places of its own: it hands back x, and leaves ρ', where R ds ρ x ρ' -/
def spW (K : PySem.W.Frag) (Pre : List PyData → Rho → Prop) (R : List PyData → Rho → PyData → Rho → Prop) : Sp := fun vs H Q _ => ∃ (S : Addr → Prop) (ds : List PyData) (ρ : Rho), DsAll K S H vs ds ∧ StR K S ρ H ∧ Pre ds ρ ∧
  ∀ S' v x ρ' H', R ds ρ x ρ' → (∀ p, dom ρ p → dom ρ' p) → Ds K S' H' v x → StR K S' ρ' H' → Eff S ρ H S' ρ' H' → Q v H'
/-- what a call of such a def leaves of the caller's -/
structure Left (ρ0 ρ1 ρ ρ' : Rho) : Prop where
  mem : ∀ q ∈ ρ', q ∈ ρ1 ∨ (q ∈ ρ ∧ ¬ dom ρ0 q.1)
  nd : (ρ'.map (·.1)).Nodup
theorem er_callW {Pre : List PyData → Rho → Prop} {R : List PyData → Rho → PyData → Rho → Prop} {E : XK} {ta : TA} {L : List PyData → Rho → Prop} (ha : EvRA K γ ρ ta L)
    (hp : ∀ ds ρ2, L ds ρ2 → ∃ ρ0, (∀ q ∈ ρ0, q ∈ ρ2) ∧ (ρ0.map (·.1)).Nodup ∧ Pre ds ρ0 ∧ ∀ x ρ1, R ds ρ0 x ρ1 → (ρ2.map (·.1)).Nodup → (ρ1.map (·.1)).Nodup → (∀ p, dom ρ1 p → dom ρ0 p ∨ ¬ dom ρ2 p) → ∃ ρ', A x ρ' ∧ Left ρ0 ρ1 ρ2 ρ') : EvR K γ ρ (tCall (spW K Pre R) [] E ta) A := fun S σ H st Q q =>
  ha S σ H st _ fun S2 vs ds ρ2 H2 l hv st2 e2 => by
    obtain ⟨ρ0, hs, nd0, pre, hR⟩ := hp ds ρ2 l
    refine ⟨S2, ds, ρ0, by rw [List.append_nil]; exact hv, st2.toStR.sub hs nd0, pre, fun S' v x ρ1 H' rx hd hx r1 e1 => ?_⟩
    obtain ⟨ρ', ax, lf⟩ := hR x ρ1 rx st2.nd r1.nd fun p d => by
      rcases e1.new p d with z | z
      · exact .inl z
      · exact .inr fun y => st2.toStR.trk y z
    obtain ⟨s3, e3⟩ := st2.frame hs e1 r1 hd lf.mem lf.nd
    exact q S' v x ρ' H' ax hx s3 (e2.trans st.frs e3)
/-- one of them is handed in, and stands afterwards in its place -/
theorem er_call1 {Pre : List PyData → Rho → Prop} {R : List PyData → Rho → PyData → Rho → Prop} {E : XK} {ta : TA} {ds : List PyData} (ha : EvA K γ ta ds) (hn : ρ[n]? = some (p, c)) (pre : Pre ds [(p, c)]) (hR : ∀ x ρ1, R ds [(p, c)] x ρ1 → ∃ c', ρ1 = [(p, c')] ∧ A x (ρ.set n (p, c'))) : EvR K γ ρ (tCall (spW K Pre R) [] E ta) A :=
  er_callW (era_pure ha) fun ds' ρ2 ⟨e1, e2⟩ => by
    subst e1 e2
    refine ⟨[(p, c)], fun q hq => ?_, by simp, pre, fun x ρ1 rx nd _ _ => ?_⟩
    · rw [List.mem_singleton.mp hq]
      exact List.mem_of_getElem? hn
    · obtain ⟨c', rfl, ax⟩ := hR x ρ1 rx
      obtain ⟨f1, f2⟩ := frame1 (c' := c') nd hn
      exact ⟨_, ax, f1, f2⟩
/-- a pure def, its arguments drawn or the like -/
theorem er_callP {R : List PyData → PyData → Prop} {E : XK} {ta : TA} {L : List PyData → Rho → Prop} (ha : EvRA K γ ρ ta L) (hp : ∀ ds r, L ds r → ∃ x, R ds x ∧ A x r) : EvR K γ ρ (tCall (spP K R) [] E ta) A := fun S σ H st Q q =>
  ha S σ H st _ fun S2 vs ds ρ2 H2 l hv st2 e2 => by
    obtain ⟨x, rx, ax⟩ := hp ds ρ2 l
    exact ⟨S2, ds, x, by rw [List.append_nil]; exact hv, st2.frs, rx, fun v H3 e3 hx => q S2 v x ρ2 H3 ax hx (st2.ext e3) (e2.trans st.frs (.ext e3))⟩
end
section
variable {P : Program} {w : World} {K : PySem.W.Frag} {mg : Str → Option Value} {base : Heap}
theorem Fun.own {x qual : Str} {st : Stmt} {f : Addr} {fd : FuncData} {N ps : List Str} {k : Nat} {Pre : List PyData → Rho → Prop} {R : List PyData → Rho → PyData → Rho → Prop} (F : Fun K x qual st f fd) (Sc : FnScope N ps (defScope st)) (len : ∀ ds ρ, Pre ds ρ → ds.length = ps.length)
    (hbody : ∀ (cdv : Value) (A : Around) (outer : List Env) (s : Shared) (H : Hp) (E : XK), Room k (A.deeper (envOfC qual (defScope st) s.heap.objs.size f cdv)) →
      ∃ t, PSs (cxOf CX0 P w K mg base N qual (defScope st) f cdv A outer s H E).nox (defBody st) t ∧ ∀ ds ρ, Pre ds ρ → RunR K (startG N.length ds) ρ t (fun _ r => ∃ r2, R ds ρ .none r2 ∧ r2.Sublist r ∧ ∀ p, dom ρ p → dom r2 p) (fun x r => ∃ r2, R ds ρ x r2 ∧ r2.Sublist r ∧ ∀ p, dom ρ p → dom r2 p)) : FnOk P w K mg base CX0 (k + 1) f fd ps (spW K Pre R) := by
  refine F.ok Sc (fun vs H Q E h => ?_) (fun cdv A outer s H vs Q E hr h => ?_)
  · obtain ⟨S, ds, ρ, h1, _, h3, _⟩ := h
    rw [h1.len]
    exact len ds ρ h3
  · obtain ⟨S, ds, ρ, h1, h2, h3, q⟩ := h
    obtain ⟨t, ht, hR⟩ := hbody cdv A outer s H E hr
    refine ⟨t, ht, ?_⟩
    have cut : ∀ {S' : Addr → Prop} {r r2 : Rho} {H' : Hp}, (∀ q ∈ r2, q ∈ r) → Eff S ρ H S' r H' → Eff S ρ H S' r2 H' := fun hs e => ⟨e.chg, fun p d => by
      obtain ⟨q, hq, e1⟩ := List.mem_map.mp d
      exact e.new p (List.mem_map.mpr ⟨q, hs q hq, e1⟩), e.sub, e.old, e.al⟩
    refine hR ds ρ h3 S _ H { h2 with fits := fits_start h1 } _ (fun S' σ' γ' r H' ⟨r2, a1, a2, a4⟩ s' e' => ?_) fun S' v x r H' ⟨r2, a1, a2, a4⟩ hv s' e' => ?_
    · exact q S' .non .none r2 H' a1 a4 .non (s'.toStR.sub (fun q hq => a2.subset hq) ((a2.map _).nodup s'.nd)) (cut (fun q hq => a2.subset hq) e')
    · exact q S' v x r2 H' a1 a4 hv (s'.sub (fun q hq => a2.subset hq) ((a2.map _).nodup s'.nd)) (cut (fun q hq => a2.subset hq) e')
end
end LK
namespace LK
open PySem PySem.Spec PyProof.Rows L2
variable [Tbs]
/-! ### dicts and instances as data -/
def kEq : PyData → Key → Bool
  | .int i, .inl j => decide (i = j)
  | .str x, .inr y => decide (x = y)
  | _, _ => false
theorem kEq_kD (a b : Key) : kEq (kD a) b = decide (a = b) := by
  cases a <;> cases b <;> simp [kEq, kD]
def lkD (es : List (PyData × PyData)) (k : Key) : Option PyData := (es.find? fun p => kEq p.1 k).map (·.2)
def putD (es : List (PyData × PyData)) (k : Key) (d : PyData) : List (PyData × PyData) :=
  if (es.any fun p => kEq p.1 k) = true then es.map (fun p => if kEq p.1 k = true then (p.1, d) else p) else es ++ [(kD k, d)]
def dropD (es : List (PyData × PyData)) (k : Key) : List (PyData × PyData) := es.filter fun p => !kEq p.1 k
def putFD (f : Str) (d : PyData) : List (PyData × PyData) → List (PyData × PyData)
  | [] => [(.str f, d)]
  | (k, x) :: r => if kEq k (.inr f) = true then (k, d) :: r else (k, x) :: putFD f d r
theorem lkD_pos {k d : PyData} {r : List (PyData × PyData)} {q : Key} (h : kEq k q = true) : lkD ((k, d) :: r) q = some d := by
  unfold lkD
  rw [List.find?_cons, h]
  rfl
theorem lkD_neg {k d : PyData} {r : List (PyData × PyData)} {q : Key} (h : kEq k q = false) : lkD ((k, d) :: r) q = lkD r q := by
  unfold lkD
  rw [List.find?_cons, h]
section
variable {K : PySem.W.Frag} {S S' : Addr → Prop} {H H' : Hp} {kvs : List (Key × V)} {fs : List (Str × V)} {es : List (PyData × PyData)} {k : Key} {f : Str} {d : PyData} {v : V}
theorem DsP.len : ∀ {vs : List (PyData × V)} {es : List (PyData × PyData)}, DsP K S H vs es → vs.length = es.length
  | _, _, .nil => rfl
  | _, _, .cons _ r => by rw [List.length_cons, List.length_cons, r.len]
theorem DsP.get : ∀ {kvs : List (Key × V)} {es : List (PyData × PyData)} {d : PyData}, DsP K S H (kvs.map fun p => (kD p.1, p.2)) es → lkD es k = some d → ∃ v, valV kvs k = some v ∧ Ds K S H v d
  | [], _, _, h, e => by
    cases h
    cases e
  | (k', x) :: r, _, _, h, e => by
    cases h with
    | cons hd hr =>
      by_cases z : k' = k
      · rw [lkD_pos (by rw [kEq_kD]; exact decide_eq_true z)] at e
        cases e
        exact ⟨x, valV_pos z, hd⟩
      · rw [lkD_neg (by rw [kEq_kD]; exact decide_eq_false z)] at e
        obtain ⟨v, h1, h2⟩ := DsP.get hr e
        exact ⟨v, by rw [valV_neg z]; exact h1, h2⟩
theorem DsP.no : ∀ {kvs : List (Key × V)} {es : List (PyData × PyData)}, DsP K S H (kvs.map fun p => (kD p.1, p.2)) es → lkD es k = none → valV kvs k = none
  | [], _, h, e => rfl
  | (k', x) :: r, _, h, e => by
    cases h with
    | cons hd hr =>
      by_cases z : k' = k
      · rw [lkD_pos (by rw [kEq_kD]; exact decide_eq_true z)] at e
        cases e
      · rw [lkD_neg (by rw [kEq_kD]; exact decide_eq_false z)] at e
        rw [valV_neg z]
        exact DsP.no hr e
theorem DsP.isSome (h : DsP K S H (kvs.map fun p => (kD p.1, p.2)) es) (k : Key) : (valV kvs k).isSome = (lkD es k).isSome := by
  cases e : lkD es k with
  | none =>
    rw [h.no e]
    rfl
  | some d =>
    obtain ⟨v, e2, _⟩ := h.get e
    rw [e2]
    rfl
theorem DsP.any : ∀ {kvs : List (Key × V)} {es : List (PyData × PyData)}, DsP K S H (kvs.map fun p => (kD p.1, p.2)) es → (es.any fun p => kEq p.1 k) = (kvs.any fun kv => decide (kv.1 = k))
  | [], _, h => by
    cases h
    rfl
  | (k', x) :: r, _, h => by
    cases h with
    | cons hd hr => rw [List.any_cons, List.any_cons, DsP.any hr, kEq_kD]
theorem DsP.mapput (hv : Ds K S H v d) : ∀ {kvs : List (Key × V)} {es : List (PyData × PyData)}, DsP K S H (kvs.map fun p => (kD p.1, p.2)) es → DsP K S H ((kvs.map fun kv => if kv.1 = k then (kv.1, v) else kv).map fun p => (kD p.1, p.2)) (es.map fun p => if kEq p.1 k = true then (p.1, d) else p)
  | [], _, h => by
    cases h
    exact .nil
  | (k', x) :: r, _, h => by
    cases h with
    | cons hd hr =>
      rw [List.map_cons, List.map_cons, List.map_cons]
      by_cases z : k' = k
      · rw [if_pos z, if_pos (by rw [kEq_kD]; exact decide_eq_true z)]
        exact .cons hv (DsP.mapput hv hr)
      · rw [if_neg z, if_neg (by rw [kEq_kD, decide_eq_false z]; exact Bool.false_ne_true)]
        exact .cons hd (DsP.mapput hv hr)
theorem DsP.app : ∀ {as bs : List (PyData × V)} {xs ys : List (PyData × PyData)}, DsP K S H as xs → DsP K S H bs ys → DsP K S H (as ++ bs) (xs ++ ys)
  | _, _, _, _, .nil, h2 => h2
  | _, _, _, _, .cons a r, h2 => .cons a (r.app h2)
theorem DsP.put (h : DsP K S H (kvs.map fun p => (kD p.1, p.2)) es) (hv : Ds K S H v d) : DsP K S H ((putK kvs k v).map fun p => (kD p.1, p.2)) (putD es k d) := by
  unfold putK putD
  rw [h.any]
  split
  · exact h.mapput hv
  · rw [List.map_append]
    exact h.app (.cons hv .nil)
theorem DsP.drop : ∀ {kvs : List (Key × V)} {es : List (PyData × PyData)}, DsP K S H (kvs.map fun p => (kD p.1, p.2)) es → DsP K S H ((dropK kvs k).map fun p => (kD p.1, p.2)) (dropD es k)
  | [], _, h => by
    cases h
    exact .nil
  | (k', x) :: r, _, h => by
    cases h with
    | cons hd hr =>
      unfold dropK dropD
      rw [List.filter_cons, List.filter_cons, kEq_kD]
      by_cases z : k' = k
      · rw [decide_eq_true z]
        simp only [ne_eq, z, not_true_eq_false, decide_false, Bool.not_true, Bool.false_eq_true, ↓reduceIte]
        exact DsP.drop hr
      · rw [decide_eq_false z]
        simp only [ne_eq, z, not_false_eq_true, decide_true, Bool.not_false, ↓reduceIte]
        exact .cons hd (DsP.drop hr)
theorem DsP.fget : ∀ {fs : List (Str × V)} {es : List (PyData × PyData)} {d : PyData}, DsP K S H (fs.map fun p => (PyData.str p.1, p.2)) es → lkD es (.inr f) = some d → ∃ v, fs.lookup f = some v ∧ Ds K S H v d
  | [], _, _, h, e => by
    cases h
    cases e
  | (g, x) :: r, _, _, h, e => by
    cases h with
    | cons hd hr =>
      by_cases z : g = f
      · rw [lkD_pos (by exact decide_eq_true z)] at e
        cases e
        exact ⟨x, by rw [List.lookup, beq_iff_eq.mpr z.symm], hd⟩
      · rw [lkD_neg (by exact decide_eq_false z)] at e
        obtain ⟨v, h1, h2⟩ := DsP.fget hr e
        exact ⟨v, by rw [List.lookup, beq_eq_false_iff_ne.mpr (Ne.symm z)]; exact h1, h2⟩
theorem DsP.fnone : ∀ {fs : List (Str × V)} {es : List (PyData × PyData)}, DsP K S H (fs.map fun p => (PyData.str p.1, p.2)) es → lkD es (.inr f) = none → fs.lookup f = none
  | [], _, h, e => rfl
  | (g, x) :: r, _, h, e => by
    cases h with
    | cons hd hr =>
      by_cases z : g = f
      · rw [lkD_pos (by exact decide_eq_true z)] at e
        cases e
      · rw [lkD_neg (by exact decide_eq_false z)] at e
        rw [List.lookup, beq_eq_false_iff_ne.mpr (Ne.symm z)]
        exact DsP.fnone hr e
theorem DsP.fput (hv : Ds K S H v d) : ∀ {fs : List (Str × V)} {es : List (PyData × PyData)}, DsP K S H (fs.map fun p => (PyData.str p.1, p.2)) es → DsP K S H ((putF f v fs).map fun p => (PyData.str p.1, p.2)) (putFD f d es)
  | [], _, h => by
    cases h
    exact .cons hv .nil
  | (g, x) :: r, _, h => by
    cases h with
    | cons hd hr =>
      unfold putF putFD
      by_cases z : g = f
      · rw [if_pos z, if_pos (show kEq (PyData.str g) (Sum.inr f) = true from decide_eq_true z)]
        exact .cons hv hr
      · rw [if_neg z, if_neg (show ¬ kEq (PyData.str g) (Sum.inr f) = true from fun y => z (of_decide_eq_true y))]
        exact .cons hd (DsP.fput hv hr)
theorem Ds.dct_inv (h : Ds K S H v (.dict es)) (o : isOb (.dict es) = false) : ∃ a kvs, v = .ref a ∧ S a ∧ Rd H a (.dK kvs) ∧ DsP K S H (kvs.map fun p => (kD p.1, p.2)) es := by
  cases h with
  | dct s h r => exact ⟨_, _, rfl, s, h, r⟩
  | ins s h r => cases o
  | rf a => cases o
theorem Ds.ins_inv {C : Addr} (h : Ds K S H v (insD C es)) : ∃ a dx fs, v = .ref a ∧ S a ∧ H a = some (.ins C dx fs) ∧ DsP K S H (fs.map fun p => (PyData.str p.1, p.2)) es := by
  unfold insD at h
  generalize e : ((PyData.none, PyData.int (C : Int)) :: es) = es' at h
  cases h with
  | dct s h r =>
    subst e
    rename_i kvs
    cases kvs with
    | nil => cases r
    | cons q r2 =>
      obtain ⟨k, v⟩ := q
      cases k <;> cases r
  | ins s h r =>
    injection e with e1 e2
    injection e1 with _ e1
    injection e1 with e1
    rw [Int.ofNat_inj.mp e1, e2]
    exact ⟨_, _, _, rfl, s, h, r⟩
  | rf a =>
    injection e with e _
    injection e with e _
    cases e
variable {γ : Gm} {te td ty ta : TE} {tt : TT} {C : Addr}
theorem ev_fld (h : Ev K γ te (insD C es)) (c : Cls K C) (n : NoAttr K C f) (l : lkD es (.inr f) = some d) : Ev K γ (tFld K te f) d := fun S σ H fi fr Q q => h S σ H fi fr _ fun v H2 e2 hv => by
  obtain ⟨a, dx, fs, rfl, s, hq, r⟩ := hv.ins_inv
  obtain ⟨u, h1, h2⟩ := r.fget l
  exact ⟨a, C, dx, fs, u, rfl, hq, c, n, h1, q u H2 e2 h2⟩
theorem dget_rd {a : Addr} {k : Key} (e : Rd H a (.dK kvs)) : DGet H a (kV k) (valV kvs k) := .inl ⟨kvs, k, e, rfl, rfl⟩
theorem ds_key {k : Key} (h : Ds K S H v (kD k)) : v = kV k := by
  cases k with
  | inl i => exact h.int_inv
  | inr x => exact h.str_inv
theorem ev_dget (h : Ev K γ td (.dict es)) (hk : Ev K γ ty (kD k)) (l : lkD es k = some d) (o : isOb (.dict es) = false) : Ev K γ (tDGet td ty) d := fun S σ H fi fr Q q => h S σ H fi fr _ fun v H2 e2 hv => hk S σ H2 (fi.same e2) (fr.same e2) _ fun w H3 e3 hw => by
  obtain ⟨a, kvs, rfl, s, hq, r⟩ := (hv.same e3).dct_inv o
  obtain ⟨u, h1, h2⟩ := r.get l
  refine ⟨a, u, rfl, ?_, q u H3 (e2.trans e3) h2⟩
  rw [ds_key hw, ← h1]
  exact dget_rd hq
theorem ev_din (h : Ev K γ td (.dict es)) (hk : Ev K γ ty (kD k)) (o : isOb (.dict es) = false) : Ev K γ (tDIn ty td) (.bool (lkD es k).isSome) := fun S σ H fi fr Q q => hk S σ H fi fr _ fun w H2 e2 hw => h S σ H2 (fi.same e2) (fr.same e2) _ fun v H3 e3 hv => by
  obtain ⟨a, kvs, rfl, s, hq, r⟩ := hv.dct_inv o
  refine ⟨a, valV kvs k, rfl, ?_, ?_⟩
  · rw [ds_key hw]
    exact dget_rd hq
  · rw [r.isSome]
    exact q _ H3 (e2.trans e3) (.bl _)
theorem ev_dnotin (h : Ev K γ td (.dict es)) (hk : Ev K γ ty (kD k)) (o : isOb (.dict es) = false) : Ev K γ (tDNotIn ty td) (.bool (!(lkD es k).isSome)) := fun S σ H fi fr Q q => hk S σ H fi fr _ fun w H2 e2 hw => h S σ H2 (fi.same e2) (fr.same e2) _ fun v H3 e3 hv => by
  obtain ⟨a, kvs, rfl, s, hq, r⟩ := hv.dct_inv o
  refine ⟨a, valV kvs k, rfl, ?_, ?_⟩
  · rw [ds_key hw]
    exact dget_rd hq
  · rw [r.isSome]
    exact q _ H3 (e2.trans e3) (.bl _)
/-- o.m(..), a method that changes nothing -/
theorem ev_meth {R : List PyData → PyData → Prop} {E : XK} {m : Str} {t : TA} {ds : List PyData} {x : PyData} (h : Ev K γ te (insD C es)) (n : lkD es (.inr m) = none) (ha : EvA K γ t ds) (hr : R (insD C es :: ds) x) : Ev K γ (tMeth C m (spP K R) [] E te t) x := fun S σ H f fr Q q =>
  h S σ H f fr _ fun v H2 e2 hv => by
    obtain ⟨a, dx, fs, rfl, s, hq, r⟩ := hv.ins_inv
    refine ⟨a, dx, fs, rfl, hq, r.fnone n, ha S σ H2 (f.same e2) (fr.same e2) _ fun vs H3 e3 hvs => ⟨S, _, x, ?_, (fr.same e2).same e3, hr, fun u H4 e4 hx => q u H4 ((e2.trans e3).trans e4) hx⟩⟩
    rw [List.append_nil]
    exact .cons (hv.same e3) hvs
/-! what is one's own -/
variable {ρ : Rho} {n : Nat} {p : Addr} {A B : PyData → Rho → Prop} {N : Gm → Rho → Prop} {tv to : TE}
theorem rr_dput (hx : EvR K γ ρ tv (fun y r => B y r ∧ r = ρ)) (hd : Ev K γ td (rf p)) (hk : Ev K γ ty (kD k)) (hn : ρ[n]? = some (p, .dct es)) (hz : es.length ≤ 900000) : RunR K γ ρ (sDPut td ty tv) (fun g r => ∃ x, B x ρ ∧ g = γ ∧ r = ρ.set n (p, .dct (putD es k x))) A := fun S σ H st D qn qr =>
  hx S σ H st _ fun S2 v x ρ2 H2 ⟨bx, er⟩ hv st2 e2 => by
    subst er
    refine hd S2 σ H2 st2.fits st2.frs _ fun v1 H3 e3 hv1 => ?_
    have st3 := st2.ext e3
    refine hk S2 σ H3 st3.fits st3.frs _ fun w H4 e4 hw => ?_
    have st4 := st3.ext e4
    rw [hv1.rf_inv, ds_key hw]
    obtain ⟨_, kvs, a1, a2⟩ := st4.own _ (List.mem_of_getElem? hn)
    obtain ⟨r5, e5⟩ := st4.toStR.put (u := .dK (putK kvs k v)) (c' := .dct (putD es k x)) hn a1 trivial trivial fun m => ⟨_, upd_same, (a2.put ((hv.same e3).same e4)).move m⟩
    have hl : kvs.length < sizeLine := sz_lt (by
      have := a2.len
      rw [List.length_map] at this
      omega)
    exact ⟨p, _, rfl, DPut.k a1 hl, qn S2 σ γ _ _ ⟨x, bx, rfl, rfl⟩ { r5 with fits := st4.fits.move (e5.mv st4.toStR) } (e2.trans st.frs ((Eff.ext (e3.trans e4)).trans st2.frs e5))⟩
theorem rr_ddel (hd : Ev K γ td (rf p)) (hk : Ev K γ ty (kD k)) (hn : ρ[n]? = some (p, .dct es)) (l : (lkD es k).isSome = true) : RunR K γ ρ (sDDel td ty) (fun g r => g = γ ∧ r = ρ.set n (p, .dct (dropD es k))) A := fun S σ H st D qn qr => by
  refine hd S σ H st.fits st.frs _ fun v1 H3 e3 hv1 => ?_
  have st3 := st.ext e3
  refine hk S σ H3 st3.fits st3.frs _ fun w H4 e4 hw => ?_
  have st4 := st3.ext e4
  rw [hv1.rf_inv, ds_key hw]
  obtain ⟨_, kvs, a1, a2⟩ := st4.own _ (List.mem_of_getElem? hn)
  obtain ⟨r5, e5⟩ := st4.toStR.put (u := .dK (dropK kvs k)) (c' := .dct (dropD es k)) hn a1 trivial trivial fun m => ⟨_, upd_same, a2.drop.move m⟩
  exact ⟨p, kvs, k, rfl, a1, rfl, by rw [a2.isSome]; exact l, qn S σ γ _ _ ⟨rfl, rfl⟩ { r5 with fits := st4.fits.move (e5.mv st4.toStR) } ((Eff.ext (e3.trans e4)).trans st.frs e5)⟩
/-- self.f = e, in __init__ -/
theorem rr_fld (hx : EvR K γ ρ tv (fun y r => B y r ∧ r = ρ)) (ho : Ev K γ to (rf p)) (hn : ρ[n]? = some (p, .ins C es)) (c : Cls K C) (na : NoAttr K C f) (hz : es.length < 1000) : RunR K γ ρ (sFld K to tv f) (fun g r => ∃ x, B x ρ ∧ g = γ ∧ r = ρ.set n (p, .ins C (putFD f x es))) A := fun S σ H st D qn qr =>
  hx S σ H st _ fun S2 v x ρ2 H2 ⟨bx, er⟩ hv st2 e2 => by
    subst er
    refine ho S2 σ H2 st2.fits st2.frs _ fun v1 H3 e3 hv1 => ?_
    have st3 := st2.ext e3
    rw [hv1.rf_inv]
    obtain ⟨_, dx, fs, a1, a2⟩ := st3.own _ (List.mem_of_getElem? hn)
    obtain ⟨r5, e5⟩ := st3.toStR.put (u := .ins C dx (putF f v fs)) (c' := .ins C (putFD f x es)) hn a1 trivial trivial fun m => ⟨dx, _, upd_same, (DsP.fput (hv.same e3) a2).move m⟩
    have hl : fs.length < 1000 := by
      have := a2.len
      rw [List.length_map] at this
      omega
    exact ⟨p, C, dx, fs, rfl, a1, c, na, hl, qn S2 σ γ _ _ ⟨x, bx, rfl, rfl⟩ { r5 with fits := st3.fits.move (e5.mv st3.toStR) } (e2.trans st.frs ((Eff.ext e3).trans st2.frs e5))⟩
/-- self.f = {}, a new dict -/
theorem rr_fldD (ho : Ev K γ to (rf p)) (hn : ρ[n]? = some (p, .ins C es)) (c : Cls K C) (na : NoAttr K C f) (hz : es.length < 1000) : RunR K γ ρ (sFld K to tDNewK f) (fun g r => ∃ q, g = γ ∧ r = (ρ ++ [(q, Ct.dct [])]).set n (p, .ins C (putFD f (rf q) es))) A := fun S σ H st D qn qr => fun q hq => by
  obtain ⟨r1, e1⟩ := st.toStR.newO (c := .dct []) (u := .dK []) hq trivial fun _ => ⟨[], upd_same, .nil⟩
  have st1 : Sta K (fun a => S a ∧ a ≠ q) γ (ρ ++ [(q, .dct [])]) σ (upd H q (.dK [])) := { r1 with fits := st.fits.move (e1.mv st.toStR) }
  refine ho _ σ _ st1.fits st1.frs _ fun v1 H3 e3 hv1 => ?_
  have st3 := st1.ext e3
  rw [hv1.rf_inv]
  have hn' : (ρ ++ [(q, Ct.dct [])])[n]? = some (p, .ins C es) := by rw [List.getElem?_append_left (List.getElem?_eq_some_iff.mp hn).1]; exact hn
  obtain ⟨_, dx, fs, a1, a2⟩ := st3.own _ (List.mem_of_getElem? hn')
  obtain ⟨r5, e5⟩ := st3.toStR.put (u := .ins C dx (putF f (.ref q) fs)) (c' := .ins C (putFD f (rf q) es)) hn' a1 trivial trivial fun m => ⟨dx, _, upd_same, (DsP.fput (.rf q) a2).move m⟩
  have hl : fs.length < 1000 := by
    have := a2.len
    rw [List.length_map] at this
    omega
  exact ⟨p, C, dx, fs, rfl, a1, c, na, hl, qn _ σ γ _ _ ⟨q, rfl, rfl⟩ { r5 with fits := st3.fits.move (e5.mv st3.toStR) } (e1.trans st.frs ((Eff.ext e3).trans st1.frs e5))⟩
/-- self.f = [], a new list -/
theorem rr_fldL (ho : Ev K γ to (rf p)) (hn : ρ[n]? = some (p, .ins C es)) (c : Cls K C) (na : NoAttr K C f) (hz : es.length < 1000) : RunR K γ ρ (sFld K to (tLst tNil) f) (fun g r => ∃ q, g = γ ∧ r = (ρ ++ [(q, Ct.lst [])]).set n (p, .ins C (putFD f (rf q) es))) A := fun S σ H st D qn qr => ⟨Nat.zero_le _, fun q hq => by
  obtain ⟨r1, e1⟩ := st.toStR.newO (c := .lst []) (u := .lst []) hq trivial fun _ => ⟨[], upd_same, .nil⟩
  have st1 : Sta K (fun a => S a ∧ a ≠ q) γ (ρ ++ [(q, .lst [])]) σ (upd H q (.lst [])) := { r1 with fits := st.fits.move (e1.mv st.toStR) }
  refine ho _ σ _ st1.fits st1.frs _ fun v1 H3 e3 hv1 => ?_
  have st3 := st1.ext e3
  rw [hv1.rf_inv]
  have hn' : (ρ ++ [(q, Ct.lst [])])[n]? = some (p, .ins C es) := by rw [List.getElem?_append_left (List.getElem?_eq_some_iff.mp hn).1]; exact hn
  obtain ⟨_, dx, fs, a1, a2⟩ := st3.own _ (List.mem_of_getElem? hn')
  obtain ⟨r5, e5⟩ := st3.toStR.put (u := .ins C dx (putF f (.ref q) fs)) (c' := .ins C (putFD f (rf q) es)) hn' a1 trivial trivial fun m => ⟨dx, _, upd_same, (DsP.fput (.rf q) a2).move m⟩
  have hl : fs.length < 1000 := by
    have := a2.len
    rw [List.length_map] at this
    omega
  exact ⟨p, C, dx, fs, rfl, a1, c, na, hl, qn _ σ γ _ _ ⟨q, rfl, rfl⟩ { r5 with fits := st3.fits.move (e5.mv st3.toStR) } (e1.trans st.frs ((Eff.ext e3).trans st1.frs e5))⟩⟩
/-- o.m(..), a method that changes what is handed in -/
theorem er_meth {Pre : List PyData → Rho → Prop} {R : List PyData → Rho → PyData → Rho → Prop} {E : XK} {m : Str} {t : TA} {L : List PyData → Rho → Prop} (h : Ev K γ te (insD C es)) (nm : lkD es (.inr m) = none) (ha : EvRA K γ ρ t L)
    (hp : ∀ ds ρ2, L ds ρ2 → ∃ ρ0, (∀ q ∈ ρ0, q ∈ ρ2) ∧ (ρ0.map (·.1)).Nodup ∧ Pre (insD C es :: ds) ρ0 ∧ ∀ x ρ1, R (insD C es :: ds) ρ0 x ρ1 → (ρ2.map (·.1)).Nodup → (ρ1.map (·.1)).Nodup → (∀ p, dom ρ1 p → dom ρ0 p ∨ ¬ dom ρ2 p) → ∃ ρ', A x ρ' ∧ Left ρ0 ρ1 ρ2 ρ') : EvR K γ ρ (tMeth C m (spW K Pre R) [] E te t) A := fun S σ H st Q q =>
  h S σ H st.fits st.frs _ fun v H1 e1 hv => by
    obtain ⟨a, dx, fs, rfl, s, hq, r⟩ := hv.ins_inv
    have st1 := st.ext e1
    refine ⟨a, dx, fs, rfl, hq, r.fnone nm, ha S σ H1 st1 _ fun S2 vs ds ρ2 H2 l hvs st2 e2 => ?_⟩
    obtain ⟨ρ0, hs, nd0, pre, hR⟩ := hp ds ρ2 l
    refine ⟨S2, insD C es :: ds, ρ0, by rw [List.append_nil]; exact .cons (hv.move (e2.mv st1.toStR)) hvs, st2.toStR.sub hs nd0, pre, fun S' v x ρ1 H' rx hd hx r1 e3 => ?_⟩
    obtain ⟨ρ', ax, lf⟩ := hR x ρ1 rx st2.nd r1.nd fun p d => by
      rcases e3.new p d with z | z
      · exact .inl z
      · exact .inr fun y => st2.toStR.trk y z
    obtain ⟨s3, e4⟩ := st2.frame hs e3 r1 hd lf.mem lf.nd
    exact q S' v x ρ' H' ax hx s3 ((Eff.ext e1).trans st.frs (e2.trans st1.frs e4))
theorem er_meth1 {c : Ct} {Pre : List PyData → Rho → Prop} {R : List PyData → Rho → PyData → Rho → Prop} {E : XK} {m : Str} {t : TA} {ds : List PyData} (h : Ev K γ te (insD C es)) (nm : lkD es (.inr m) = none) (ha : EvA K γ t ds) (hn : ρ[n]? = some (p, c)) (pre : Pre (insD C es :: ds) [(p, c)]) (hR : ∀ x ρ1, R (insD C es :: ds) [(p, c)] x ρ1 → ∃ c', ρ1 = [(p, c')] ∧ A x (ρ.set n (p, c'))) : EvR K γ ρ (tMeth C m (spW K Pre R) [] E te t) A :=
  er_meth h nm (era_pure ha) fun ds' ρ2 ⟨e1, e2⟩ => by
    subst e1 e2
    refine ⟨[(p, c)], fun q hq => ?_, by simp, pre, fun x ρ1 rx nd _ _ => ?_⟩
    · rw [List.mem_singleton.mp hq]
      exact List.mem_of_getElem? hn
    · obtain ⟨c', rfl, ax⟩ := hR x ρ1 rx
      obtain ⟨f1, f2⟩ := frame1 (c' := c') nd hn
      exact ⟨_, ax, f1, f2⟩
end
end LK
namespace LK
open PySem PySem.Spec PyProof.Rows L2
variable [Tbs]
section
variable {K : PySem.W.Frag} {S S' : Addr → Prop} {H H' : Hp} {γ γ' γv : Gm} {ρ ρ' : Rho} {σ : L2.St} {te ta tb : TE} {t u : TS} {A B : PyData → Rho → Prop} {N : Gm → Rho → Prop} {x d : PyData} {n : Nat} {p : Addr} {c : Ct} {C : Addr} {es : List (PyData × PyData)}
theorem Sta.freeze (hn : ρ[n]? = some (p, c)) (V : View K γ ρ [p] γv) (st : Sta K S γ ρ σ H) : Sta K (fun a => S a ∨ a ∈ [p]) γv (ρ.eraseIdx n) σ H ∧ Eff S ρ H (fun a => S a ∨ a ∈ [p]) (ρ.eraseIdx n) H := by
  have hm := List.mem_of_getElem? hn
  have l := (List.getElem?_eq_some_iff.mp hn).1
  have hsub : ∀ q ∈ ρ.eraseIdx n, q ∈ ρ := fun q hq => List.mem_of_mem_eraseIdx hq
  have hne : ∀ q ∈ ρ.eraseIdx n, q.1 ≠ p := fun q hq z => by
    obtain ⟨i, hi, e⟩ := List.mem_eraseIdx_iff_getElem.mp hq
    obtain ⟨hne, e2⟩ := e
    have h1 : (ρ.map (·.1))[n]? = some p := by rw [List.getElem?_map, hn]; rfl
    have h2 : (ρ.map (·.1))[i]? = some p := by rw [List.getElem?_map, List.getElem?_eq_getElem hi, e2]; exact congrArg some z
    exact hne ((List.getElem?_inj (by rw [List.length_map]; exact l) st.nd).mp (h1.trans h2.symm)).symm
  refine ⟨{ frs := frs_or st.frs, own := fun q hq => ⟨fun z => ?_, Ct.move (Mv.res (.of fun a s => .inl s)) (fun o h _ => h) (st.own q (hsub q hq)).2⟩, nd := ?_, fits := V S σ H st }, ⟨⟨fun b o _ h _ => h, fun t => t⟩, fun a d => .inl ?_, fun a s => ?_, fun a s _ => .inl s, fun a h => h⟩⟩
  · rcases z with z | z
    · exact (st.own q (hsub q hq)).1 z
    · exact hne q hq (by simpa using z)
  · exact (List.Sublist.map _ (List.eraseIdx_sublist ρ n)).nodup st.nd
  · obtain ⟨q, hq, e⟩ := List.mem_map.mp d
    exact List.mem_map.mpr ⟨q, hsub q hq, e⟩
  · rcases s with s | s
    · exact .inl s
    · exact .inr (by rw [show a = p by simpa using s]; exact dom_of hm)
/-- an expression whose value is given up: it is data from now on -/
theorem er_freeze {te : TE} (h : EvR K γ ρ te (fun x r => ∃ p n c, x = rf p ∧ r[n]? = some (p, c) ∧ ∃ d, A d (r.eraseIdx n) ∧ ∀ S H v, StR K S r H → Ds K S H v (rf p) → Ds K (fun a => S a ∨ a ∈ [p]) H v d)) : EvR K γ ρ te A := fun S σ H st Q q =>
  h S σ H st _ fun S1 v x ρ1 H1 ⟨p, n, c, e, hn, d, ad, hd⟩ hv st1 e1 => by
    subst e
    obtain ⟨s2, e2⟩ := st1.freeze hn View.refl
    exact q _ v d _ H1 ad (hd S1 H1 v st1.toStR hv) s2 (e1.trans st.frs e2)
/-- C(..): a new instance; what its __init__ makes besides is one's own -/
theorem er_make {Pre : List PyData → Rho → Prop} {R : List PyData → Rho → PyData → Rho → Prop} {E : XK} {ta : TA} {ds : List PyData} (ha : EvA K γ ta ds) (hp : ∀ x, Pre (rf x :: ds) [(x, .ins C [])])
    (hR : ∀ x v ρ1, R (rf x :: ds) [(x, .ins C [])] v ρ1 → v = .none ∧ ∃ es ν, ρ1 = (x, .ins C es) :: ν ∧ A (insD C es) (ρ ++ ν)) : EvR K γ ρ (tMake C (spW K Pre R) [] E ta) A := fun S σ H st Q q =>
  ha S σ H st.fits st.frs _ fun vs H1 e1 hvs => fun x dx hx hdx ne => by
    have st1 := st.ext e1
    have e2 : Ext H1 (upd H1 dx (.own x)) := same_new hdx
    have st2 := st1.ext e2
    have hx2 : upd H1 dx (.own x) x = none := by rw [upd_ne (Ne.symm ne)]; exact hx
    obtain ⟨r3, f3⟩ := st2.toStR.newO (c := .ins C []) (u := .ins C dx []) hx2 trivial fun _ => ⟨dx, [], upd_same, .nil⟩
    have st3 : Sta K (fun a => S a ∧ a ≠ x) γ (ρ ++ [(x, .ins C [])]) σ _ := { r3 with fits := st2.fits.move (f3.mv st2.toStR) }
    refine ⟨_, rf x :: ds, [(x, .ins C [])], by rw [List.append_nil]; exact .cons (.rf x) ((hvs.same e2).move (f3.mv st2.toStR)), r3.sub (fun q hq => List.mem_append_right _ hq) (by simp), hp x, fun S' v y ρ1 H' rx hd hy r4 f4 => ?_⟩
    obtain ⟨rfl, es, ν, rfl, ax⟩ := hR x y ρ1 rx
    have hv : v = .non := by
      cases hy
      rfl
    refine ⟨hv, ?_⟩
    have nx : ∀ q ∈ ρ, q.1 ≠ x := fun q hq z => Ct.nnt (st1.own q hq).2 (z ▸ .of hx)
    obtain ⟨st5, f5⟩ := st3.frame (ρa' := ρ ++ (x, .ins C es) :: ν) (fun q hq => List.mem_append_right _ hq) f4 r4 hd (fun q hq => by
      rcases List.mem_append.mp hq with z | z
      · exact .inr ⟨List.mem_append_left _ z, fun y => nx q z (by simpa [dom] using y)⟩
      · exact .inl z) (by
      rw [List.map_append]
      refine List.nodup_append.mpr ⟨st.nd, r4.nd, fun a ha b hb z => ?_⟩
      subst z
      obtain ⟨q, hq, e⟩ := List.mem_map.mp ha
      rcases f4.new a hb with y | y
      · exact nx q hq (e.trans (by simpa [dom] using y))
      · exact st3.toStR.trk (by rw [← e]; exact dom_of (List.mem_append_left _ hq)) y)
    have hn : (ρ ++ (x, Ct.ins C es) :: ν)[ρ.length]? = some (x, .ins C es) := by
      rw [List.getElem?_append_right (Nat.le_refl _), Nat.sub_self]
      rfl
    obtain ⟨s6, f6⟩ := st5.freeze hn View.refl
    obtain ⟨_, dx', fs, a1, a2⟩ := st5.own _ (List.mem_of_getElem? hn)
    have er : (ρ ++ (x, Ct.ins C es) :: ν).eraseIdx ρ.length = ρ ++ ν := by
      rw [List.eraseIdx_append_of_length_le (Nat.le_refl _), Nat.sub_self]
      rfl
    rw [er] at s6 f6
    exact q _ (.ref x) (insD C es) _ H' ax (.ins (.inr (by simp)) a1 (a2.res (.of fun a s => .inl s))) s6 (((Eff.ext e1).trans st.frs (Eff.ext e2)).trans st.frs ((f3.trans st2.frs f5).trans st2.frs f6))
/-- an expression that is evaluated for what it does -/
theorem rr_drop0 (h : EvR K γ ρ te B) (w : ∀ x r, B x r → N γ r) : RunR K γ ρ (tDrop te) N A := rr_mono (rr_drop h) (fun g r ⟨e, x, bx⟩ => e ▸ w x r bx) fun _ _ h => h
end
end LK
namespace LK
open PySem PySem.Spec PyProof.Rows L2
variable [Tbs]
/-! ### more rules of expressions: chains, texts, what is in written things, dicts -/
section
variable {X : Cx} {K : PySem.W.Frag} {w : World}
def rInD (K : PySem.W.Frag) (d : Addr) : R2 := fun x y H Q => ∃ (z : Str) (r : Option Value), x = .str z ∧ y = .ref d ∧ PySem.W.nsIn K d z = some r ∧ Q (.bl r.isSome) H
theorem op_in_kdK {d : Addr} (hk : X.K = K) (hw : X.w = w) (h : ∃ es n, KDict K w d es n) : OpR X (compareOp .In) (rInD K d) := by
  obtain ⟨es, n, h⟩ := h
  subst hk hw
  exact op_in_kd h
def rLeS : R2 := fun x y H Q => ∃ i j, x = .str i ∧ y = .str j ∧ Q (.bl (!decide (j.cps.toList < i.cps.toList))) H
theorem op_leS : OpR X (compareOp .LtE) rLeS := op_le_str
def rLenS : List V → Hp → VK → Prop := fun xs H Q => ∃ z, xs = [.str z] ∧ z.length ≤ sizeLine ∧ Q (.int z.length) H
theorem cr_lenS : CallR X (.builtin "len") rLenS := call_len_str
def rLenD : List V → Hp → VK → Prop := fun xs H Q => ∃ a kvs, xs = [V.ref a] ∧ H a = some (.dK kvs) ∧ Q (.int kvs.length) H
theorem cr_lenD : CallR X (.builtin "len") rLenD := call_lenD
def rLisD : List V → Hp → VK → Prop := fun xs H Q => ∃ (a : Addr) (kvs : List (Key × V)), xs = [.ref a] ∧ Rd H a (.dK kvs) ∧ ∀ p, H p = none → Q (.ref p) (upd H p (.lst (kvs.map fun kv => kV kv.1)))
theorem cr_lisD (hc : X.calm = true) : CallR X (.type "list") rLisD := call_listD hc
theorem pe_fldK {e : Expr} {ta : TE} {f : Str} {pos : Pos} (hk : X.K = K) (he : PE X e ta) (hb : attributeBase e f X.env (eval e X.env) = eval e X.env) : PE X (.Attribute e f pos) (tFld K ta f) := hk ▸ pe_fld he hb
theorem ps_fldK {o value : Expr} {ta tv : TE} {f : Str} {pos pos' : Pos} (hk : X.K = K) (ha : PE X o ta) (hv : PE X value tv) (hs : swapsWith value (some (.Attribute o f pos')) pos.line X.env = pure false) : PS X (.Assign [.Attribute o f pos'] value pos) (sFld K ta tv f) := hk ▸ ps_fld ha hv hs
theorem pi_enumK {e : Expr} {ta : TA} {p pos tpos : Pos} {elts : List Expr} {kk : Nat} (hk : X.K = K) (hg : Gl X "enumerate") (hm : X.mg "enumerate" = none) (ha : PA X [e] ta) (hs : starEach [e] X.env = [(false, eval e X.env)] := by rfl) :
    PI X (.Tuple elts kk tpos) (.Call (.Name "enumerate" p) [e] [] pos) (iEnum K ta) := hk ▸ pi_enum hg hm ha hs
end
section
variable {K : PySem.W.Frag} {γ : Gm} {te ta tb tc : TE} {x y z d : PyData} {r r' : R2}
theorem ev_chain {a b : Bool} (h1 : Ev K γ ta x) (h2 : Ev K γ tb y) (o1 : EvO K r x y (.bool a)) (h3 : a = true → Ev K γ tc z) (o2 : a = true → EvO K r' y z (.bool b)) : Ev K γ (tChain r r' ta tb tc) (.bool (a && b)) := fun S σ H f fr Q q =>
  h1 S σ H f fr _ fun v H2 e2 hv => h2 S σ H2 (f.same e2) (fr.same e2) _ fun u H3 e3 hu => o1 S v u H3 ((fr.same e2).same e3) (hv.same e3) hu _ fun s H4 e4 hs => ⟨a, hs.bl_inv, by
    have fr4 := ((fr.same e2).same e3).same e4
    have e24 := (e2.trans e3).trans e4
    cases a with
    | true =>
      show tc σ H4 _
      exact h3 rfl S σ H4 (f.same e24) fr4 _ fun s2 H5 e5 hs2 => o2 rfl S u s2 H5 (fr4.same e5) ((hu.same e4).same e5) hs2 Q fun t H6 e6 ht => q t H6 ((e24.trans e5).trans e6) ht
    | false =>
      show Q (.bl false) H4
      exact q _ H4 e24 (.bl _)⟩
theorem eo_leS {a b : Str} : EvO K rLeS (.str a) (.str b) (.bool (!decide (b.cps.toList < a.cps.toList))) := fun S v w H _ hv hw Q q => ⟨a, b, hv.str_inv, hw.str_inv, q _ H (Ext.refl _) (.bl _)⟩
theorem ec_lenS {s : Str} (h : s.length ≤ 1000000) : EvC K rLenS [.str s] (.int s.length) := fun S vs H f hv Q q => by
  obtain ⟨v, rfl, h1⟩ := hv.one_inv
  exact ⟨s, by rw [h1.str_inv], sz_of h, q _ H (Ext.refl _) (.int _)⟩
theorem eo_inD {w : World} {a : Addr} {L : List (Str × PyData)} {s : Str} (G : GlobD K w a L) (hm : (s, d) ∈ L) {y : PyData} (hy : ∀ S H v, Ds K S H v y → v = .ref a) : EvO K (rInD K a) (.str s) y (.bool true) := fun S v u H _ hv hu Q q => by
  obtain ⟨v', hn⟩ := G.ns s d hm
  exact ⟨s, _, hv.str_inv, hy _ _ _ hu, hn, q _ H (Ext.refl _) (.bl _)⟩
/-- a written dict asked by in -/
theorem ev_inD {w : World} {a : Addr} {L : List (Str × PyData)} {s : Str} (G : GlobD K w a L) (h : Ev K γ te (.str s)) (hm : (s, d) ∈ L) : Ev K γ (tOp (rInD K a) te (tC (.ref a))) (.bool true) := fun S σ H f fr Q q => by
  obtain ⟨v', hn⟩ := G.ns s d hm
  exact h S σ H f fr _ fun v H2 e2 hv => ⟨s, _, hv.str_inv, rfl, hn, q _ H2 e2 (.bl _)⟩
theorem eo_notInT2 {z a b : Str} : EvO K (rIn K true) (.str z) (.tuple [.str a, .str b]) (.bool (!inV (.str z) [.str a, .str b])) := fun S v w H f hv hw Q q => by
  obtain ⟨p, xs, rfl, hq, hall⟩ := hw.tup_inv
  obtain ⟨u, u2, rfl, h1, h2⟩ := hall.two
  rw [hv.str_inv]
  rw [h1.str_inv, h2.str_inv] at hq
  exact ⟨p, _, rfl, .inr hq, rfl, rfl, q _ H (Ext.refl _) (.bl _)⟩
/-- the signs of a text -/
theorem ew_str {s : Str} (h : Ev K γ te (.str s)) : EvW K γ (iStr te) s.cps.size (fun i => .str ⟨#[s.cps.getD i 0]⟩) := fun S σ H f fr R q => h S σ H f fr _ fun v H2 e2 hv => by
  refine ⟨s, hv.str_inv, q _ H2 e2 fun S' w => ⟨fun _ => True, Walk.mono walk_str (fun _ _ => trivial) fun i H x H' hi _ y => ?_, trivial, fun _ _ _ _ => trivial⟩⟩
  obtain ⟨e1, c, e3, e4⟩ := y
  subst e1 e4
  refine ⟨Ext.refl _, ?_⟩
  show Ds K S' H' (.str ⟨#[c]⟩) (.str ⟨#[s.cps.getD i 0]⟩)
  have : s.cps.getD i 0 = c := by
    rw [Array.getD_eq_getD_getElem?, e3]
    rfl
  rw [this]
  exact .str _
theorem DsP.kvs {S : Addr → Prop} {H : Hp} : ∀ {kvs : List (Key × V)} {es : List (PyData × PyData)}, DsP K S H (kvs.map fun p => (kD p.1, p.2)) es → DsAll K S H (kvs.map fun kv => kV kv.1) (es.map (·.1))
  | [], _, h => by
    cases h
    exact .nil
  | (k, x) :: r, _, h => by
    cases h with
    | cons hd hr =>
      refine .cons ?_ (DsP.kvs hr)
      cases k with
      | inl i => exact .int i
      | inr x => exact .str x
/-- len(d) of a dict of one's own -/
theorem er_lenD {ρ : Rho} {n : Nat} {p : Addr} {es : List (PyData × PyData)} {td : TE} (hd : Ev K γ td (rf p)) (hn : ρ[n]? = some (p, .dct es)) : EvR K γ ρ (tCB rLenD (tCons td tNil)) (fun x r => x = .int es.length ∧ r = ρ) := fun S σ H st Q q => hd S σ H st.fits st.frs _ fun v H2 e2 hv => by
  have st2 := st.ext e2
  obtain ⟨_, kvs, a1, a2⟩ := st2.own _ (List.mem_of_getElem? hn)
  have hl := a2.len
  rw [List.length_map] at hl
  refine ⟨p, kvs, by rw [hv.rf_inv], a1, ?_⟩
  rw [hl]
  exact q S _ _ ρ H2 ⟨rfl, rfl⟩ (.int _) st2 (.ext e2)
/-- list(d) -/
theorem ec_lisD {es : List (PyData × PyData)} (o : isOb (.dict es) = false) : EvC K rLisD [.dict es] (.list (es.map (·.1))) := fun S vs H f hv Q q => by
  obtain ⟨v, rfl, h1⟩ := hv.one_inv
  obtain ⟨a, kvs, rfl, s, hq, r⟩ := h1.dct_inv o
  exact ⟨a, kvs, rfl, hq, fun p hp => q _ _ (same_new hp) (.lst (f.fresh p hp) (.inl upd_same) (r.kvs.same (same_new hp)))⟩
/-- enumerate(xs) -/
theorem ew_enum {ta : TA} {ds : List PyData} (h : EvA K γ ta [.list ds]) : EvW K γ (iEnum K ta) ds.length (fun i => .tuple [.int (i : Nat), ds.getD i .none]) := fun S σ H f fr R q => h S σ H f fr _ fun vs H2 e2 hv => by
  obtain ⟨v, rfl, h1⟩ := hv.one_inv
  obtain ⟨a, xs, rfl, s, hq, hall⟩ := h1.lst_inv
  refine ⟨a, xs, rfl, .inl hq, q (Ite K a) H2 e2 fun S' w => ⟨fun H => Rd H a (.lst xs) ∧ DsAll K S' H xs ds, ?_, ⟨hq, hall.res w⟩, fun H3 H4 k g => ⟨rd_keep k (w a s (rd_ntL hq)) g.1, g.2.keep k⟩⟩⟩
  rw [← hall.len]
  refine Walk.mono (walk_enum (K := K) (a := a) (xs := xs)) (fun _ g => .inl g.1) fun i H x H' hi g y => ?_
  obtain ⟨T, p, r, rfl, hT, rfl, e1, e2⟩ := y
  obtain ⟨d', hd', hx'⟩ := g.2.at' e2
  cases e1
  refine ⟨same_new hT, ?_⟩
  show Ds K S' _ _ (.tuple [.int (i : Nat), ds.getD i .none])
  rw [List.getD_eq_getElem?_getD, hd']
  exact .tup (SqT.of upd_same) (.cons (.int _) (.one (hx'.same (same_new hT))))
end
end LK
namespace LK
open PySem PySem.Spec PyProof.Rows L2
variable [Tbs]
/-! ### texts added, repeated, asked by place -/
def rAddS : R2 := fun x y H Q => ∃ i j, x = .str i ∧ y = .str j ∧ i.length + j.length ≤ sizeLine ∧ Q (.str (i ++ j)) H
theorem op_addS {X : Cx} : OpR X (binaryOp .Add) rAddS := op_add_str
def rRepS : R2 := fun x y H Q => ∃ z k, x = .str z ∧ y = .int k ∧ -1000 ≤ k ∧ k ≤ 1000 ∧ z.length ≤ 1000 ∧ Q (.str (Txt.mul z k)) H
theorem op_repS {X : Cx} : OpR X (binaryOp .Mult) rRepS := by
  intro pins s σ H x y v u Q I rx ry h
  obtain ⟨z, k, rfl, rfl, h0, h1, hz, q⟩ := h
  obtain ⟨t, rfl⟩ := rx
  obtain ⟨t', rfl⟩ := ry
  exact SB.mul (mulOk_of 1000 1000 hz (by omega) (by omega) (by decide) (by decide)) fun t' k' => ⟨.str (Txt.mul z k), H, I.tok _, ⟨_, rfl⟩, q⟩
def rIxT2 : R2 := fun x y H Q => ∃ z i c, x = .str z ∧ y = .int i ∧ z.length ≤ sizeLine ∧ L2.atI z.cps.toList i = some c ∧ Q (.str ⟨#[c]⟩) H
theorem ix_strK {X : Cx} : IxR X rIxT2 := ix_str
section
variable {K : PySem.W.Frag} {γ : Gm} {te ta tb tc : TE} {x y z d : PyData} {r r' : R2}
theorem eo_addS {a b : Str} (h : a.length + b.length ≤ 1000000) : EvO K rAddS (.str a) (.str b) (.str (a ++ b)) := fun S v w H _ hv hw Q q => ⟨a, b, hv.str_inv, hw.str_inv, sz_of h, q _ H (Ext.refl _) (.str _)⟩
theorem eo_repS {a : Str} {k : Int} (h : a.length ≤ 1000) (h0 : -1000 ≤ k) (h1 : k ≤ 1000) : EvO K rRepS (.str a) (.int k) (.str (Txt.mul a k)) := fun S v w H _ hv hw Q q => ⟨a, k, hv.str_inv, hw.int_inv, h0, h1, h, q _ H (Ext.refl _) (.str _)⟩
theorem eo_ixS {a : Str} {i : Int} {c : Nat} (h : a.length ≤ 1000000) (hi : L2.atI a.cps.toList i = some c) : EvO K rIxT2 (.str a) (.int i) (.str ⟨#[c]⟩) := fun S v w H _ hv hw Q q => ⟨a, i, c, hv.str_inv, hw.int_inv, sz_of h, hi, q _ H (Ext.refl _) (.str _)⟩
/-! what is one's own, dice among it -/
variable {ρ : Rho} {n m δ : Nat} {p a : Addr} {xs : List PyData} {A : PyData → Rho → Prop}
/-- xs[e] of a list of one's own -/
theorem er_ixOwn {J : Nat → Prop} (hl : Ev K γ ta (rf p)) (hn : ρ[n]? = some (p, .lst xs)) (hj : EvR K γ ρ tb (fun y r => (∃ j : Nat, y = .int (j : Int) ∧ J j) ∧ r = ρ)) (hJ : ∀ j, J j → ∃ z, xs[j]? = some z) : EvR K γ ρ (tOp (rIxU K) ta tb) (fun z r => (∃ j, J j ∧ xs[j]? = some z) ∧ r = ρ) := fun S σ H st Q q =>
  hl S σ H st.fits st.frs _ fun v H1 e1 hv => hj S σ H1 (st.ext e1) _ fun S2 w y ρ2 H2 ⟨⟨j, ey, jj⟩, er⟩ hw st2 e2 => by
    subst ey er
    obtain ⟨_, ys, a1, a2⟩ := st2.own _ (List.mem_of_getElem? hn)
    obtain ⟨z, hz⟩ := hJ j jj
    obtain ⟨u, hu, hd⟩ := a2.at hz
    rw [hv.rf_inv]
    exact .inl ⟨p, ys, (j : Int), u, rfl, hw.int_inv, .inl (.inl a1), atI_nat hu, q S2 u z ρ2 H2 ⟨⟨j, jj, hz⟩, rfl⟩ hd st2 ((Eff.ext e1).trans st.frs e2)⟩
theorem er_lenOwn (hl : Ev K γ ta (rf p)) (hn : ρ[n]? = some (p, .lst xs)) : EvR K γ ρ (tCB (rLenU K) (tCons ta tNil)) (fun x r => x = .int (xs.length : Nat) ∧ r = ρ) := fun S σ H st Q q => hl S σ H st.fits st.frs _ fun v H2 e2 hv => by
  have st2 := st.ext e2
  obtain ⟨_, ys, a1, a2⟩ := st2.own _ (List.mem_of_getElem? hn)
  refine ⟨p, ys, by rw [hv.rf_inv], .inl (.inl (.inl a1)), ?_⟩
  rw [a2.len]
  exact q S _ _ ρ H2 ⟨rfl, rfl⟩ (.int _) st2 (.ext e2)
/-- a def that draws, called -/
theorem er_callD {Pre : List PyData → Prop} {R : List PyData → PyData → Prop} {E : XK} {tr : TA} {L : List PyData → Prop} (D : DiceAt γ ρ δ n a) (h : EvRA K γ ρ tr (fun ds r => L ds ∧ r = ρ)) (hp : ∀ ds, L ds → Pre ds) : EvR K γ ρ (tCall (spD K Pre R) [] E (tCons (tVar δ) tr)) (fun x r => (∃ ds, L ds ∧ R ds x) ∧ r = ρ) := fun S σ H st Q q => by
  obtain ⟨v, hs, hv⟩ := st.fits.get δ _ D.slot
  rw [hv.rf_inv] at hs
  refine ⟨.ref a, hs, h S σ H st _ fun S2 vs ds ρ2 H2 ⟨l, er⟩ hvs st2 e2 => ?_⟩
  subst er
  obtain ⟨hS, di⟩ := st2.own _ (List.mem_of_getElem? D.at_)
  refine ⟨S2, a, vs, ds, by rw [List.append_nil], hvs, hS, st2.frs, di, hp ds l, fun u x H3 rx c3 d3 hx => ?_⟩
  obtain ⟨s3, e3⟩ := dice_eff st2 D.at_ c3 d3
  exact q S2 u x ρ2 H3 ⟨⟨ds, l, rx⟩, rfl⟩ hx s3 (e2.trans st.frs e3)
theorem er_off {E : XK} (D : DiceAt γ ρ δ n a) {M : Int → Prop} (h : EvR K γ ρ te (fun x r => (∃ m, x = .int m ∧ M m) ∧ r = ρ)) (hm : ∀ m, M m → 0 < m ∧ m < 1073741824) : EvR K γ ρ (tCall (spD K PreOff R_off) [] E (tCons (tVar δ) (tCons te tNil))) (fun x r => (∃ m k : Int, M m ∧ x = .int k ∧ 0 ≤ k ∧ k < m) ∧ r = ρ) := by
  refine EvR.mono (er_callD D (L := fun ds => ∃ m, ds = [.int m] ∧ M m) ?_ fun ds ⟨m, e, hmm⟩ => ⟨m, e, (hm m hmm).1, (hm m hmm).2⟩) ?_
  · intro S σ H st Q q
    exact era_cons (L := fun x r ys r2 => ys = [] ∧ r2 = r) h (fun x r _ => era_nil) S σ H st Q fun S' vs xs ρ' H' ⟨x, r, ys, ⟨⟨m, e1, hmm⟩, e2⟩, ⟨e3, e4⟩, e5⟩ => by
      subst e1 e2 e3 e4 e5
      exact q S' vs _ _ H' ⟨⟨m, rfl, hmm⟩, rfl⟩
  · rintro x r ⟨⟨ds, ⟨m, rfl, hmm⟩, m', k, e, rfl, k0, k1⟩, rfl⟩
    injection e with e
    injection e with e
    subst e
    exact ⟨⟨m, k, hmm, rfl, k0, k1⟩, rfl⟩
/-- a body that draws, as it was shown without what is one's own -/
theorem rr_N {t : TS} {Γ : Gm → Prop} {A0 : PyData → Prop} (D : DiceAt γ ρ δ n a) (h : RunN K γ δ t Γ A0) : RunR K γ ρ t (fun g r => Γ g ∧ r = ρ) (fun x r => A0 x ∧ r = ρ) := fun S σ H st Dn qn qr => by
  obtain ⟨v, hs, hv⟩ := st.fits.get δ _ D.slot
  rw [hv.rf_inv] at hs
  obtain ⟨hS, di⟩ := st.own _ (List.mem_of_getElem? D.at_)
  refine h S σ H a st.fits st.frs hs hS di Dn (fun σ' γ' H2 g c2 d2 f2 _ => ?_) fun v x H2 ax c2 d2 hx => ?_
  · obtain ⟨s2, e2⟩ := dice_eff st D.at_ c2 d2
    exact qn S σ' γ' ρ H2 ⟨g, rfl⟩ { s2 with fits := f2 } e2
  · obtain ⟨s2, e2⟩ := dice_eff st D.at_ c2 d2
    exact qr S v x ρ H2 ⟨ax, rfl⟩ hx s2.toStR e2
/-- a law's own body: it hands back True -/
theorem RunR.law {σ : L2.St} {H : Hp} {d : Addr} {γ : Gm} {t : TS} {D : Ends} (h : RunR K γ [(d, .dice)] t (fun _ _ => False) (fun x _ => x = .bool true)) (hf : ∀ S, Fits K S γ σ H) (di : Dice H d) (tb : LamX.Tabs Tbs.tabs H) (q : ∀ H2, D.rt (.bl true) H2) : t D σ H := by
  have fr : Frs (fun b => b ≠ d) H := ⟨fun p hp z => by
    subst z
    obtain ⟨ns, e, _⟩ := di
    exact hp.lst e, tb⟩
  have sr : StR K (fun b => b ≠ d) [(d, .dice)] H := ⟨fr, fun q hq => by
    rw [List.mem_singleton.mp hq]
    exact ⟨fun z => z rfl, di⟩, by simp⟩
  refine h (fun b => b ≠ d) σ H { sr with fits := hf _ } D (fun _ _ _ _ _ z => z.elim) fun S v x r H2 hx hv _ _ => ?_
  subst hx
  cases hv
  exact q H2
theorem fits_law {S : Addr → Prop} {σ : L2.St} {H : Hp} {d : Addr} {n : Nat} (hl : σ.length = n) (hd : σ[1]? = some (some (.ref d))) : Fits K S ((List.replicate n none).set 1 (some (rf d))) σ H := ⟨by rw [List.length_set, List.length_replicate, hl], fun i x e => by
  by_cases hi : 1 = i
  · subst hi
    by_cases h1 : 1 < n
    · rw [List.getElem?_set_self (by rw [List.length_replicate]; exact h1)] at e
      cases e
      exact ⟨_, hd, .rf d⟩
    · rw [List.getElem?_eq_none (by rw [List.length_set, List.length_replicate]; omega)] at e
      cases e
  · rw [List.getElem?_set_ne hi] at e
    have := List.mem_of_getElem? e
    simp at this⟩
/-- a def that makes what is one's own out of data -/
theorem er_callNew {Pre : List PyData → Rho → Prop} {R : List PyData → Rho → PyData → Rho → Prop} {E : XK} {ta : TA} {ds : List PyData} (ha : EvA K γ ta ds) (pre : Pre ds []) (hR : ∀ x ρ1, R ds [] x ρ1 → A x (ρ ++ ρ1)) : EvR K γ ρ (tCall (spW K Pre R) [] E ta) A :=
  er_callW (era_pure ha) fun ds' ρ2 ⟨e1, e2⟩ => by
    subst e1 e2
    refine ⟨[], fun q hq => (nomatch hq), List.nodup_nil, pre, fun x ρ1 rx nd nd1 hd => ⟨_, hR x ρ1 rx, fun q hq => ?_, ?_⟩⟩
    · rcases List.mem_append.mp hq with z | z
      · exact .inr ⟨z, fun y => (nomatch y)⟩
      · exact .inl z
    · rw [List.map_append]
      refine List.nodup_append.mpr ⟨nd, nd1, fun a ha b hb z => ?_⟩
      subst z
      rcases hd a hb with y | y
      · cases y
      · exact y ha
end
section
variable {P : Program} {w : World} {K : PySem.W.Frag} {mg : Str → Option Value} {base : Heap}
/-- a def that draws, and makes things of its own in between -/
theorem Fun.drawsR {x qual : Str} {st : Stmt} {f : Addr} {fd : FuncData} {N ps : List Str} {k : Nat} {Pre : List PyData → Prop} {R : List PyData → PyData → Prop} (F : Fun K x qual st f fd) (Sc : FnScope N ps (defScope st)) (len : ∀ ds, Pre ds → ds.length + 1 = ps.length)
    (hbody : ∀ (cdv : Value) (A : Around) (outer : List Env) (s : Shared) (H : Hp) (E : XK), Room k (A.deeper (envOfC qual (defScope st) s.heap.objs.size f cdv)) →
      ∃ t, PSs (cxOf CX0 P w K mg base N qual (defScope st) f cdv A outer s H E).nox (defBody st) t ∧ ∀ d ds, Pre ds → RunR K (some (rf d) :: startG (N.length - 1) ds) [(d, .dice)] t (fun _ _ => False) (fun x r => R ds x ∧ (d, Ct.dice) ∈ r)) : FnOk P w K mg base CX0 (k + 1) f fd ps (spD K Pre R) := by
  refine F.ok Sc (fun vs H Q E h => ?_) (fun cdv A outer s H vs Q E hr h => ?_)
  · obtain ⟨S, d, us, ds, rfl, h1, _, _, _, h3, _⟩ := h
    rw [List.length_cons, h1.len]
    exact len ds h3
  · obtain ⟨S, d, us, ds, rfl, h1, n, fr, di, h3, q⟩ := h
    obtain ⟨t, ht, hR⟩ := hbody cdv A outer s H E hr
    have sr : StR K S [(d, .dice)] H := ⟨fr, fun q hq => by
      rw [List.mem_singleton.mp hq]
      exact ⟨n, di⟩, by simp⟩
    refine ⟨t, ht, hR d ds h3 S _ H { sr with fits := ?_ } _ (fun _ _ _ _ _ z => z.elim) fun S' v x r H' ⟨rx, hm⟩ hv r' e' => ?_⟩
    · have e : L2.start N (.ref d :: us) = some (.ref d) :: L2.start N.tail us := by
        unfold L2.start
        show some (V.ref d) :: (us.map some ++ List.replicate (N.length - (us.length + 1)) none) = _
        rw [List.length_tail, Nat.sub_sub, Nat.add_comm 1]
      rw [e, show N.length - 1 = N.tail.length from List.length_tail.symm]
      have g := fits_start (N := N.tail) h1
      refine ⟨by rw [List.length_cons, List.length_cons, g.len], fun i x hx => ?_⟩
      cases i with
      | zero =>
        cases hx
        exact ⟨_, rfl, .rf d⟩
      | succ i => exact g.get i x hx
    · obtain ⟨nS, d'⟩ := r'.own _ hm
      refine q v x H' rx ⟨fun b o ne hb nt => e'.chg.keep b o (fun z => ne (by simpa [dom] using z)) hb nt, e'.chg.tabs⟩ d' (hv.res fun a s _ => ?_)
      rcases e'.sub a s with y | y
      · exact y
      · have : a = d := by simpa [dom] using y
        subst this
        exact absurd s nS
end
end LK
namespace LK
open PySem PySem.Spec PyProof.Rows L2
variable [Tbs]
/-! ### new lists -/
/-- evaluates to a new list of these -/
def EvL (K : PySem.W.Frag) (γ : Gm) (te : TE) (ds : List PyData) : Prop :=
  ∀ (S : Addr → Prop) (σ : L2.St) (H : Hp), Fits K S γ σ H → Frs S H → ∀ Q : VK, (∀ p xs H2, Ext H H2 → Nt H p → H2 p = some (.lst xs) → DsAll K (fun a => S a ∧ a ≠ p) H2 xs ds → Q (.ref p) H2) → te σ H Q
section
variable {K : PySem.W.Frag} {S : Addr → Prop} {γ γ' : Gm} {σ : L2.St} {H H' : Hp} {ta tb tc te tl : TE} {t u : TT} {tt : TT} {x y z d : PyData} {r : R2} {v : V} {ds : List PyData} {j k : Nat} {vs : List Nat}
theorem EvL.ev (h : EvL K γ te ds) : Ev K γ te (.list ds) := fun S σ H f fr Q q => h S σ H f fr Q fun p xs H2 e n at2 hall => q _ H2 e (.lst (fr.new p n) (.inl at2) (hall.res fun a s _ => s.1))
theorem EvL.is {es : List PyData} (h : EvL K γ te ds) (e : ds = es) : EvL K γ te es := e ▸ h
theorem el_lcG {ti : TI} {g : TG} {vs : List Nat} {n : Nat} {y : Nat → PyData} {b : Nat → Bool} {f : Nat → PyData} {γ' : Nat → Gm}
    (h : EvW K γ ti n y) (hz : n ≤ 1000000) (hv : GIn g vs) (hg : ∀ i, i < n → EvG K g (wipeG γ vs) (y i) (γ' i))
    (ht : ∀ i, i < n → EvB K (γ' i) t (b i)) (he : ∀ i, i < n → b i = true → Ev K (γ' i) te (f i)) : EvL K γ (tLc ti g t te vs) (given n b f) := fun S σ H fi fr Q q =>
  h S σ H fi fr _ fun J H2 e2 W D hD => by
    have fr2 := fr.same e2
    have res : Res H2 S (fun a => S a ∧ a ≠ D) := Res.ne hD
    obtain ⟨G, wk, g0, gk⟩ := W _ res
    have fi2 : Fits K (fun a => S a ∧ a ≠ D) (wipeG γ vs) (L2.wipe σ vs) H2 := ((fi.same e2).res res).wipe vs
    refine lc_it wk (fun i H' => ∃ acc, Ext H2 H' ∧ H' D = some (.lst acc) ∧ DsAll K (fun a => S a ∧ a ≠ D) H' acc (given i b f)) ⟨[], same_new hD, upd_same, .nil⟩ (fun i H' hi p => ?_) (fun i x H3 H4 hi p yy => ?_) (fun H' p => ?_)
    · obtain ⟨acc, p1, p2, p3⟩ := p
      exact gk H2 H' (.of p1) g0
    · obtain ⟨acc, p1, p2, p3⟩ := p
      obtain ⟨y1, y2⟩ := yy
      have k24 : Ext H2 H4 := p1.trans y1
      refine hv x σ H4 _ (hg i hi _ _ x H4 (fi2.same k24) y2 _ fun σ' fi' => ?_)
      have dis : ∀ {H' : Hp}, Ext H4 H' → Frs (fun a => S a ∧ a ≠ D) H' := fun e => ⟨fun p hp => ⟨fr2.new p ((k24.trans e).nt hp), fun z => by
        subst z
        exact hp.lst (e.lst (y1.lst p2))⟩, (fr2.same (k24.trans e)).tabs⟩
      refine ht i hi _ σ' H4 fi' (dis (Ext.refl _)) _ fun H6 e6 => ?_
      have k26 : Ext H2 H6 := k24.trans e6
      have accs : DsAll K (fun a => S a ∧ a ≠ D) H6 acc (given i b f) := p3.same (y1.trans e6)
      have atD : H6 D = some (.lst acc) := e6.lst (y1.lst p2)
      cases hb : b i with
      | true =>
        show te _ H6 _
        refine he i hi hb _ σ' H6 (fi'.same e6) (dis e6) _ fun v H7 e7 hv => ⟨acc, e7.lst atD, sz_lt ?_, acc ++ [v], ?_, upd_same, ?_⟩
        · rw [accs.len]
          exact Nat.lt_of_le_of_lt (given_len i b f) (by omega)
        · exact same_mut (k26.trans e7) (.of hD) (e7.lst atD)
        · rw [given_succ, if_pos hb]
          have kk : Keep (fun a => S a ∧ a ≠ D) H7 (upd H7 D (.lst (acc ++ [v]))) := Keep.upd (e7.lst atD) (fun z => z.2 rfl)
          exact ((accs.same e7).app (.one hv)).keep kk
      | false =>
        refine ⟨acc, k26, atD, ?_⟩
        rw [given_succ, if_neg (by rw [hb]; exact Bool.false_ne_true), List.append_nil]
        exact accs
    · obtain ⟨acc, p1, p2, p3⟩ := p
      exact q D acc H' (e2.trans p1) (e2.nt (.of hD)) p2 p3
theorem el_lc2G {ti ti1 : TI} {g g1 : TG} {vs vs1 : List Nat} {n : Nat} {y : Nat → PyData} {m : Nat → Nat} {y1 : Nat → Nat → PyData} {f : Nat → Nat → PyData} {γ1 : Nat → Gm} {γ2 : Nat → Nat → Gm} {M : Nat}
    (h : EvW K γ ti n y) (hv : GIn g vs) (hv1 : GIn g1 vs1) (hg : ∀ i, i < n → EvG K g (wipeG γ vs) (y i) (γ1 i))
    (h1 : ∀ i, i < n → EvW K (γ1 i) ti1 (m i) (y1 i)) (hg1 : ∀ i j, i < n → j < m i → EvG K g1 (wipeG (γ1 i) vs1) (y1 i j) (γ2 i j))
    (he : ∀ i j, i < n → j < m i → Ev K (γ2 i j) te (f i j)) (hz : ∀ i, i ≤ n → (flat2 i m f).length ≤ M) (hM : M ≤ 900000) : EvL K γ (tLc2 ti g tYes ti1 g1 tYes te vs vs1) (flat2 n m f) := fun S σ H fi fr Q q =>
  h S σ H fi fr _ fun J H2 e2 W D hD => by
    have fr2 := fr.same e2
    have res : Res H2 S (fun a => S a ∧ a ≠ D) := Res.ne hD
    obtain ⟨G, wk, g0, gk⟩ := W _ res
    have fi2 : Fits K (fun a => S a ∧ a ≠ D) (wipeG γ vs) (L2.wipe σ vs) H2 := ((fi.same e2).res res).wipe vs
    have big : ∀ i, i < n → ∀ j, j ≤ m i → (flat2 i m f ++ (List.range j).map (f i)).length ≤ M := fun i hi j hj => by
      have := hz (i + 1) hi
      rw [flat2_succ, List.length_append, List.length_map, List.length_range] at this
      rw [List.length_append, List.length_map, List.length_range]
      omega
    refine ⟨fun i k H' => k = n - i ∧ i ≤ n ∧ ∃ acc, Ext H2 H' ∧ H' D = some (.lst acc) ∧ DsAll K (fun a => S a ∧ a ≠ D) H' acc (flat2 i m f), ⟨n, rfl, Nat.zero_le _, [], same_new hD, upd_same, .nil⟩, ?_⟩
    rintro i k H' ⟨rfl, hi, acc, p1, p2, p3⟩
    have gH := gk H2 H' (.of p1) g0
    by_cases hlt : i < n
    · refine .inr ⟨wk.goes i H' hlt gH, fun H' => i + 1 ≤ n ∧ ∃ acc, Ext H2 H' ∧ H' D = some (.lst acc) ∧ DsAll K (fun a => S a ∧ a ≠ D) H' acc (flat2 (i + 1) m f), fun H3 p => ⟨n - (i + 1), by omega, rfl, p.1, p.2⟩, fun x H4 yy => ?_⟩
      obtain ⟨y1', y2⟩ := wk.yields i H' x H4 hlt gH yy
      have k24 : Ext H2 H4 := p1.trans y1'
      refine hv x σ H4 _ (hg i hlt _ _ x H4 (fi2.same k24) y2 _ fun σ2 f2 => ?_)
      show ti1 σ2 H4 _
      have dis : ∀ {H' : Hp}, Ext H4 H' → Frs (fun a => S a ∧ a ≠ D) H' := fun e => ⟨fun p hp => ⟨fr2.new p ((k24.trans e).nt hp), fun z => by
        subst z
        exact hp.lst (e.lst (y1'.lst p2))⟩, (fr2.same (k24.trans e)).tabs⟩
      refine h1 i hlt _ σ2 H4 f2 (dis (Ext.refl _)) _ fun J1 H5 e5 W1 => ?_
      obtain ⟨G1, wk1, g01, gk1⟩ := W1 _ fun a s _ => s
      have fi5 := f2.same e5
      have acc5 : DsAll K (fun a => S a ∧ a ≠ D) H5 acc (flat2 i m f) := p3.same (y1'.trans e5)
      refine ⟨fun j k H' => k = m i - j ∧ j ≤ m i ∧ ∃ acc, Ext H2 H' ∧ Keep (fun a => S a ∧ a ≠ D) H5 H' ∧ H' D = some (.lst acc) ∧ DsAll K (fun a => S a ∧ a ≠ D) H' acc (flat2 i m f ++ (List.range j).map (f i)), ⟨m i, rfl, Nat.zero_le _, acc, k24.trans e5, Keep.refl, e5.lst (y1'.lst p2), by
        rw [List.range_zero, List.map_nil, List.append_nil]
        exact acc5⟩, ?_⟩
      rintro j k2 H6 ⟨rfl, hj, acc6, q1, q2, q3, q4⟩
      have gH1 := gk1 H5 H6 q2 g01
      by_cases hlt1 : j < m i
      · refine .inr ⟨wk1.goes j H6 hlt1 gH1, fun H' => j + 1 ≤ m i ∧ ∃ acc, Ext H2 H' ∧ Keep (fun a => S a ∧ a ≠ D) H5 H' ∧ H' D = some (.lst acc) ∧ DsAll K (fun a => S a ∧ a ≠ D) H' acc (flat2 i m f ++ (List.range (j + 1)).map (f i)), fun H3 p => ⟨m i - (j + 1), by omega, rfl, p.1, p.2⟩, fun x1 H7 yy1 => ?_⟩
        obtain ⟨z1, z2⟩ := wk1.yields j H6 x1 H7 hlt1 gH1 yy1
        have k27 : Ext H2 H7 := q1.trans z1
        refine hv1 x1 σ2 H7 _ (hg1 i j hlt hlt1 _ _ x1 H7 (((fi5.keep q2).same z1).wipe vs1) z2 _ fun σ3 f3 => ?_)
        show te σ3 H7 _
        have dis7 : Frs (fun a => S a ∧ a ≠ D) H7 := ⟨fun p hp => ⟨fr2.new p (k27.nt hp), fun z => by
          subst z
          exact hp.lst (z1.lst q3)⟩, (fr2.same k27).tabs⟩
        refine he i j hlt hlt1 _ σ3 H7 f3 dis7 _ fun v H8 e8 hv8 => ?_
        have at8 : H8 D = some (.lst acc6) := e8.lst (z1.lst q3)
        have kk : Keep (fun a => S a ∧ a ≠ D) H8 (upd H8 D (.lst (acc6 ++ [v]))) := Keep.upd at8 (fun z => z.2 rfl)
        refine ⟨acc6, at8, sz_lt ?_, hlt1, acc6 ++ [v], same_mut (k27.trans e8) (.of hD) at8, ((q2.trans (.of z1)).trans (.of e8)).trans kk, upd_same, ?_⟩
        · rw [q4.len]
          exact Nat.lt_of_le_of_lt (big i hlt j hj) (by omega)
        · rw [List.range_succ, List.map_append, ← List.append_assoc]
          exact ((q4.same (z1.trans e8)).app (.one hv8)).keep kk
      · have e : j = m i := by omega
        subst e
        refine .inl ⟨wk1.stops H6 gH1, hlt, acc6, q1, q3, ?_⟩
        rw [flat2_succ]
        exact q4
    · have e : i = n := by omega
      subst e
      exact .inl ⟨wk.stops H' gH, q D acc H' (e2.trans p1) (e2.nt (.of hD)) p2 p3⟩
theorem el_lcM {α : Type} {g f : α → PyData} {rs : List α} (h : Ev K γ tl (.list (rs.map g))) (hz : rs.length ≤ 1000000) (hj : j ∈ vs) (he : ∀ r, r ∈ rs → Ev K ((wipeG γ vs).set j (some (g r))) te (f r)) :
    EvL K γ (tLc (iList K tl) (gName j) tYes te vs) (rs.map f) := by
  have q := el_lcG (b := fun _ => true) (f := fun i => (rs[i]?.map f).getD .none) (γ' := fun i => (wipeG γ vs).set j (some ((rs.map g).getD i .none))) (ew_list h) (by rw [List.length_map]; exact hz) (gin_name hj) (fun i hi => eg_name) (fun i hi => eb_yes) (te := te) (fun i hi _ => by
    rw [List.length_map] at hi
    rw [List.getD_eq_getElem?_getD, List.getElem?_map, List.getElem?_eq_getElem hi]
    exact he _ (List.getElem_mem hi))
  refine q.is ?_
  rw [given_all, List.length_map, map_getD rs g f]
  intro i r hr
  rw [hr]
  rfl
theorem el_lcF {α : Type} {g f : α → PyData} {b : α → Bool} {rs : List α} (h : Ev K γ tl (.list (rs.map g))) (hz : rs.length ≤ 1000000) (hj : j ∈ vs) (ht : ∀ r, r ∈ rs → EvB K ((wipeG γ vs).set j (some (g r))) tt (b r)) (he : ∀ r, r ∈ rs → b r = true → Ev K ((wipeG γ vs).set j (some (g r))) te (f r)) :
    EvL K γ (tLc (iList K tl) (gName j) tt te vs) ((rs.filter b).map f) := by
  have q := el_lcG (b := fun i => (rs[i]?.map b).getD false) (f := fun i => (rs[i]?.map f).getD .none) (γ' := fun i => (wipeG γ vs).set j (some ((rs.map g).getD i .none))) (ew_list h) (by rw [List.length_map]; exact hz) (gin_name hj) (fun i hi => eg_name) (t := tt) (fun i hi => by
    rw [List.length_map] at hi
    rw [List.getD_eq_getElem?_getD, List.getElem?_map, List.getElem?_eq_getElem hi]
    exact ht _ (List.getElem_mem hi)) (te := te) (fun i hi hb => by
    rw [List.length_map] at hi
    rw [List.getElem?_eq_getElem hi] at hb
    rw [List.getD_eq_getElem?_getD, List.getElem?_map, List.getElem?_eq_getElem hi]
    exact he _ (List.getElem_mem hi) hb)
  refine q.is ?_
  rw [List.length_map]
  exact given_filter rs b f
theorem el_nil : EvL K γ (tLst tNil) [] := fun S σ H f fr Q q => ⟨Nat.zero_le _, fun p hp => q p [] _ (same_new hp) (.of hp) upd_same .nil⟩
/-- list(d) -/
theorem el_lisD {td : TE} {es : List (PyData × PyData)} (h : Ev K γ td (.dict es)) (o : isOb (.dict es) = false) : EvL K γ (tCB rLisD (tCons td tNil)) (es.map (·.1)) := fun S σ H f fr Q q => h S σ H f fr _ fun v H2 e2 hv => by
  obtain ⟨a, kvs, rfl, s, hq, r⟩ := hv.dct_inv o
  exact ⟨a, kvs, rfl, hq, fun p hp => q p _ _ (e2.trans (same_new hp)) (e2.nt (.of hp)) upd_same ((r.kvs.res (Res.ne hp)).same (same_new hp))⟩
/-- a slice of a list -/
theorem el_slL {tl th : TO} {lo hi : Option Int} (h : Ev K γ te (.list ds)) (hl : EvP K γ tl lo) (hh : EvP K γ th hi) : EvL K γ (tSl (rSlL K) te tl th) (cutD ds lo hi) := fun S σ H f fr Q q =>
  h S σ H f fr _ fun v H2 e2 hv => hl S σ H2 (f.same e2) (fr.same e2) _ fun H3 e3 => hh S σ H3 ((f.same e2).same e3) ((fr.same e2).same e3) _ fun H4 e4 => by
    obtain ⟨a, xs, rfl, s, hq, hall⟩ := (hv.same (e3.trans e4)).lst_inv
    exact ⟨a, xs, rfl, .inl hq, fun p hp => q p _ _ (((e2.trans e3).trans e4).trans (same_new hp)) (((e2.trans e3).trans e4).nt (.of hp)) upd_same (((hall.cut lo hi).res (Res.ne hp)).same (same_new hp))⟩
/-- called with data it hands back a new list -/
def spL (K : PySem.W.Frag) (R : List PyData → List PyData → Prop) : Sp := fun vs H Q _ => ∃ (S : Addr → Prop) (ds xs : List PyData), DsAll K S H vs ds ∧ Frs S H ∧ R ds xs ∧ ∀ p ys H2, Ext H H2 → Nt H p → H2 p = some (.lst ys) → DsAll K (fun a => S a ∧ a ≠ p) H2 ys xs → Q (.ref p) H2
theorem el_call {R : List PyData → List PyData → Prop} {E : XK} {tr : TA} {ds xs : List PyData} (ha : EvA K γ tr ds) (hr : R ds xs) : EvL K γ (tCall (spL K R) [] E tr) xs := fun S σ H f fr Q q =>
  ha S σ H f fr _ fun vs H2 e2 hv => ⟨S, ds, xs, by rw [List.append_nil]; exact hv, fr.same e2, hr, fun p ys H3 e3 n at3 hall => q p ys H3 (e2.trans e3) (e2.nt n) at3 hall⟩
theorem el_meth {R : List PyData → List PyData → Prop} {E : XK} {m : Str} {tr : TA} {ds xs : List PyData} {C : Addr} {es : List (PyData × PyData)} (h : Ev K γ te (insD C es)) (n : lkD es (.inr m) = none) (ha : EvA K γ tr ds) (hr : R (insD C es :: ds) xs) : EvL K γ (tMeth C m (spL K R) [] E te tr) xs := fun S σ H f fr Q q =>
  h S σ H f fr _ fun v H2 e2 hv => by
    obtain ⟨a, dx, fs, rfl, s, hq, r⟩ := hv.ins_inv
    refine ⟨a, dx, fs, rfl, hq, r.fnone n, ha S σ H2 (f.same e2) (fr.same e2) _ fun vs H3 e3 hvs => ⟨S, _, xs, ?_, (fr.same e2).same e3, hr, fun p ys H4 e4 n at4 hall => q p ys H4 ((e2.trans e3).trans e4) ((e2.trans e3).nt n) at4 hall⟩⟩
    rw [List.append_nil]
    exact .cons (hv.same e3) hvs
theorem em_meth {R : List PyData → Rows → Prop} {E : XK} {m : Str} {tr : TA} {ds : List PyData} {rows : Rows} {C : Addr} {es : List (PyData × PyData)} (h : Ev K γ te (insD C es)) (n : lkD es (.inr m) = none) (ha : EvA K γ tr ds) (hr : R (insD C es :: ds) rows) : EvM K γ (tMeth C m (spM K R) [] E te tr) rows := fun S σ H f fr Q q =>
  h S σ H f fr _ fun v H2 e2 hv => by
    obtain ⟨a, dx, fs, rfl, s, hq, r⟩ := hv.ins_inv
    refine ⟨a, dx, fs, rfl, hq, r.fnone n, ha S σ H2 (f.same e2) (fr.same e2) _ fun vs H3 e3 hvs => ⟨S, _, rows, ?_, (fr.same e2).same e3, hr, fun p as H4 e4 m => q p as H4 ((e2.trans e3).trans e4) (m.back (e2.trans e3))⟩⟩
    rw [List.append_nil]
    exact .cons (hv.same e3) hvs
theorem eg_nest {a b c : Nat} : EvG K (gTup K 2 (gCons (gName a) (gCons (gTup K 2 (gCons (gName b) (gCons (gName c) gNil))) gNil))) γ (.tuple [x, .tuple [y, z]]) (((γ.set a (some x)).set b (some y)).set c (some z)) := fun S σ v H f hv Q q => by
  obtain ⟨p, xs, rfl, hq, hall⟩ := hv.tup_inv
  obtain ⟨v, w, rfl, h1, h2⟩ := hall.two
  obtain ⟨p2, xs2, rfl, hq2, hall2⟩ := h2.tup_inv
  obtain ⟨v2, w2, rfl, h3, h4⟩ := hall2.two
  exact ⟨p, _, rfl, hq, rfl, v, _, rfl, .ref p2, _, rfl, p2, _, rfl, hq2, rfl, v2, _, rfl, w2, _, rfl, rfl, rfl, q _ (((f.set a h1).set b h3).set c h4)⟩
theorem wipe_in3 {σ : L2.St} {vs : List Nat} {a b c : Nat} (h1 : a ∈ vs) (h2 : b ∈ vs) (h3 : c ∈ vs) (x y z : Option V) : L2.wipe ((((L2.wipe σ vs).set a x).set b y).set c z) vs = L2.wipe σ vs := by
  rw [wipe_set, if_pos h3, wipe_in2 h1 h2]
theorem gin_nest {a b c : Nat} (h1 : a ∈ vs) (h2 : b ∈ vs) (h3 : c ∈ vs) : GIn (gTup K 2 (gCons (gName a) (gCons (gTup K 2 (gCons (gName b) (gCons (gName c) gNil))) gNil))) vs := fun v σ H Q q => by
  obtain ⟨p, xs, rfl, hq, hn, v, r, rfl, w, r', rfl, p2, xs2, rfl, hq2, hn2, v2, r2, rfl, w2, r3, rfl, rfl, rfl, q⟩ := q
  exact ⟨p, _, rfl, hq, hn, v, _, rfl, .ref p2, _, rfl, p2, _, rfl, hq2, hn2, v2, _, rfl, w2, _, rfl, rfl, rfl, wipe_in3 h1 h2 h3 _ _ _, q⟩
/-- what a body does from given arguments, a new list at its end -/
def RunLn (K : PySem.W.Frag) (γ : Gm) (ts : TS) (xs : List PyData) : Prop :=
  ∀ (S : Addr → Prop) (σ : L2.St) (H : Hp), Fits K S γ σ H → Frs S H → ∀ D : Ends, (∀ p ys H2, Ext H H2 → Nt H p → H2 p = some (.lst ys) → DsAll K (fun a => S a ∧ a ≠ p) H2 ys xs → D.rt (.ref p) H2) → ts D σ H
theorem rln_ret {xs : List PyData} (h : EvL K γ te xs) : RunLn K γ (tRet te) xs := fun S σ H f fr D k => h S σ H f fr _ k
theorem rln_seq {t u : TS} {xs : List PyData} (h : Run K γ t (.nx γ')) (k : RunLn K γ' u xs) : RunLn K γ (tSeq t u) xs := fun S σ H f fr D q =>
  h S σ H f fr { D with nx := u D } fun σ' H2 e2 f2 => k S σ' H2 f2 (fr.same e2) D fun p ys H3 e3 n => q p ys H3 (e2.trans e3) (e2.nt n)
/-- a new list is one's own -/
theorem er_new {ρ : Rho} (h : EvL K γ te ds) : EvR K γ ρ te (fun x r => ∃ p, x = rf p ∧ r = ρ ++ [(p, .lst ds)]) := fun S σ H st Q q => h S σ H st.fits st.frs Q fun p xs H2 e n at2 hall => by
  have mv : Mv S (fun a => S a ∧ a ≠ p) K H H2 := ⟨fun a x s q nt => ⟨⟨s, fun z => rd_nt q nt (z ▸ n)⟩, (Keep.of e).obj a x s q nt⟩, fun a C d f s q => ⟨⟨s, fun z => by
    subst z
    obtain ⟨ps, z⟩ := n _ q
    cases z⟩, (Keep.of e).ins a C d f s q⟩, fun _ _ q => sqT_keep (Keep.of (S := S) e) q⟩
  have nt : ∀ a, Nt H2 a → Nt H a ∧ a ≠ p := fun a h => ⟨e.nt h, fun z => by
    subst z
    exact h.lst at2⟩
  refine q (fun a => S a ∧ a ≠ p) (.ref p) (rf p) (ρ ++ [(p, .lst ds)]) H2 ⟨p, rfl, rfl⟩ (.rf p) { frs := ⟨fun a h => ⟨st.frs.new a (nt a h).1, (nt a h).2⟩, e.tabs st.frs.tabs⟩, own := fun q hq => ?_, nd := ?_, fits := st.fits.move mv } ⟨.of e, fun a d => ?_, fun a s => .inl s.1, fun a s nn => ⟨s, fun z => nn (z ▸ n)⟩, fun a h => (nt a h).1⟩
  · rcases List.mem_append.mp hq with h | h
    · obtain ⟨n1, n2⟩ := st.own q h
      exact ⟨fun z => n1 z.1, Ct.move mv (fun o h pl => e.keep _ _ h pl.ntup.2.2.1) n2⟩
    · rw [List.mem_singleton.mp h]
      exact ⟨fun z => z.2 rfl, xs, at2, hall⟩
  · rw [List.map_append]
    refine List.nodup_append.mpr ⟨st.nd, by simp, fun a ha b hb z => ?_⟩
    have hb : b = p := by simpa using hb
    subst hb z
    exact st.toStR.trk ha n
  · unfold dom at d
    rw [List.map_append] at d
    rcases List.mem_append.mp d with h | h
    · exact .inl h
    · have : a = p := by simpa using h
      exact .inr (this ▸ n)
/-- xs.clear() -/
theorem rr_clear {ρ : Rho} {n : Nat} {p : Addr} {xs : List PyData} {A : PyData → Rho → Prop} (hl : Ev K γ tl (rf p)) (hn : ρ[n]? = some (p, .lst xs)) : RunR K γ ρ (tDrop (tBM0 K "list" rClear tl)) (fun g r => g = γ ∧ r = ρ.set n (p, .lst [])) A := fun S σ H st D qn qr => by
  refine hl S σ H st.fits st.frs _ fun v1 H1 e1 hv1 => ?_
  rw [hv1.rf_inv]
  have st1 := st.ext e1
  obtain ⟨_, ys, a1, a2⟩ := st1.own _ (List.mem_of_getElem? hn)
  obtain ⟨r3, e3⟩ := st1.toStR.put (u := .lst []) (c' := .lst []) hn a1 trivial trivial fun m => ⟨_, upd_same, .nil⟩
  exact ⟨.inl ⟨rfl, _, .inl (.inl a1)⟩, p, ys, rfl, rfl, a1, qn S σ γ _ _ ⟨rfl, rfl⟩ { r3 with fits := st1.fits.move (e3.mv st1.toStR) } ((Eff.ext e1).trans st.frs e3)⟩
end
section
variable {P : Program} {w : World} {K : PySem.W.Frag} {mg : Str → Option Value} {base : Heap}
theorem Fun.list {x qual : Str} {st : Stmt} {f : Addr} {fd : FuncData} {N ps : List Str} {k : Nat} {R : List PyData → List PyData → Prop} (F : Fun K x qual st f fd) (Sc : FnScope N ps (defScope st)) (len : ∀ ds x, R ds x → ds.length = ps.length)
    (hbody : ∀ (cdv : Value) (A : Around) (outer : List Env) (s : Shared) (H : Hp) (E : XK), Room k (A.deeper (envOfC qual (defScope st) s.heap.objs.size f cdv)) →
      ∃ t, PSs (cxOf CX0 P w K mg base N qual (defScope st) f cdv A outer s H E).nox (defBody st) t ∧ ∀ ds x, R ds x → RunLn K (startG N.length ds) t x) : FnOk P w K mg base CX0 (k + 1) f fd ps (spL K R) := by
  refine F.ok Sc (fun vs H Q E h => ?_) (fun cdv A outer s H vs Q E hr h => ?_)
  · obtain ⟨S, ds, x, h1, _, h3, _⟩ := h
    rw [h1.len]
    exact len ds x h3
  · obtain ⟨S, ds, x, h1, h2, h3, q⟩ := h
    obtain ⟨t, ht, hR⟩ := hbody cdv A outer s H E hr
    exact ⟨t, ht, hR ds x h3 S _ H (fits_start h1) h2 _ fun p as H2 e m => q p as H2 e m⟩
end
end LK
namespace LK
open PySem PySem.Spec PyProof.Rows L2
variable [Tbs]
/-! ### what is only read, where own lists stand -/
def EvV (K : PySem.W.Frag) (γ : Gm) (ρ : Rho) (te : TE) (d : PyData) : Prop := ∀ (S : Addr → Prop) (σ : L2.St) (H : Hp), Sta K S γ ρ σ H → ∀ Q : VK, (∀ v H2, Ext H H2 → Ds K S H2 v d → Q v H2) → te σ H Q
def EvVB (K : PySem.W.Frag) (γ : Gm) (ρ : Rho) (tt : TT) (b : Bool) : Prop := ∀ (S : Addr → Prop) (σ : L2.St) (H : Hp), Sta K S γ ρ σ H → ∀ Q : Bool → Hp → Prop, (∀ H2, Ext H H2 → Q b H2) → tt σ H Q
def EvVA (K : PySem.W.Frag) (γ : Gm) (ρ : Rho) (ta : TA) (ds : List PyData) : Prop := ∀ (S : Addr → Prop) (σ : L2.St) (H : Hp), Sta K S γ ρ σ H → ∀ Q : List V → Hp → Prop, (∀ vs H2, Ext H H2 → DsAll K S H2 vs ds → Q vs H2) → ta σ H Q
def EvWV (K : PySem.W.Frag) (γ : Gm) (ρ : Rho) (ti : TI) (n : Nat) (y : Nat → PyData) : Prop := ∀ (S : Addr → Prop) (σ : L2.St) (H : Hp), Sta K S γ ρ σ H → ∀ R : It → Hp → Prop,
    (∀ (J : It) (H2 : Hp), Ext H H2 → (∀ S', Res H2 S S' → ∃ G : Hp → Prop, Walk J n G (fun i H x H' => Ext H H' ∧ Ds K S' H' x (y i)) ∧ G H2 ∧ ∀ H3 H4, Keep S' H3 H4 → G H3 → G H4) → R J H2) → ti σ H R
section
variable {K : PySem.W.Frag} {γ : Gm} {ρ : Rho} {te ta tb : TE} {tt : TT} {x y z d : PyData} {r : R2} {n : Nat} {p : Addr} {xs : List PyData} {b : Bool}
theorem EvV.is {d' : PyData} (h : EvV K γ ρ te d) (e : d = d') : EvV K γ ρ te d' := e ▸ h
theorem evv_pure (h : Ev K γ te d) : EvV K γ ρ te d := fun S σ H st Q q => h S σ H st.fits st.frs Q q
theorem evvb_pure (h : EvB K γ tt b) : EvVB K γ ρ tt b := fun S σ H st Q q => h S σ H st.fits st.frs Q q
theorem evv_op (ha : EvV K γ ρ ta x) (hb : EvV K γ ρ tb y) (hr : EvO K r x y z) : EvV K γ ρ (tOp r ta tb) z := fun S σ H st Q q =>
  ha S σ H st _ fun v H2 e2 hv => hb S σ H2 (st.ext e2) _ fun w H3 e3 hw => hr S v w H3 ((st.frs.same e2).same e3) (hv.same e3) hw Q fun u H4 e4 hu => q u H4 ((e2.trans e3).trans e4) hu
/-- an item of an own list -/
theorem evv_ixOwn {i : Int} (hl : Ev K γ ta (rf p)) (hn : ρ[n]? = some (p, .lst xs)) (hj : Ev K γ tb (.int i)) (hz : L2.atI xs i = some z) : EvV K γ ρ (tOp (rIxU K) ta tb) z := fun S σ H st Q q =>
  hl S σ H st.fits st.frs _ fun v H1 e1 hv => hj S σ H1 (st.fits.same e1) (st.frs.same e1) _ fun w H2 e2 hw => by
    obtain ⟨_, ys, a1, a2⟩ := (st.ext (e1.trans e2)).own _ (List.mem_of_getElem? hn)
    obtain ⟨u, hu, hd⟩ := a2.atI hz
    rw [(hv.same e2).rf_inv]
    exact .inl ⟨p, ys, i, u, rfl, hw.int_inv, .inl (.inl a1), hu, q u H2 (e1.trans e2) hd⟩
theorem evv_lenOwn (hl : EvV K γ ρ ta (rf p)) (hn : ρ[n]? = some (p, .lst xs)) : EvV K γ ρ (tCB (rLenU K) (tCons ta tNil)) (.int (xs.length : Nat)) := fun S σ H st Q q => hl S σ H st _ fun v H2 e2 hv => by
  obtain ⟨_, ys, a1, a2⟩ := (st.ext e2).own _ (List.mem_of_getElem? hn)
  refine ⟨p, ys, by rw [hv.rf_inv], .inl (.inl (.inl a1)), ?_⟩
  rw [a2.len]
  exact q _ H2 e2 (.int _)
/-- a piece of an own list -/
theorem evv_slOwn {tl th : TO} {lo hi : Option Int} (h : EvV K γ ρ te (rf p)) (hn : ρ[n]? = some (p, .lst xs)) (hl : EvP K γ tl lo) (hh : EvP K γ th hi) : EvV K γ ρ (tSl (rSlL K) te tl th) (.list (cutD xs lo hi)) := fun S σ H st Q q =>
  h S σ H st _ fun v H2 e2 hv => hl S σ H2 (st.fits.same e2) (st.frs.same e2) _ fun H3 e3 => hh S σ H3 ((st.fits.same e2).same e3) ((st.frs.same e2).same e3) _ fun H4 e4 => by
    obtain ⟨_, ys, a1, a2⟩ := (st.ext ((e2.trans e3).trans e4)).own _ (List.mem_of_getElem? hn)
    rw [hv.rf_inv]
    exact ⟨p, ys, rfl, .inl (.inl a1), fun l hp => q _ _ (((e2.trans e3).trans e4).trans (same_new hp)) (.lst ((((st.frs.same e2).same e3).same e4).fresh l hp) (.inl upd_same) ((a2.cut lo hi).same (same_new hp)))⟩
theorem evva_nil : EvVA K γ ρ tNil [] := fun _ _ H _ _ q => q [] H (Ext.refl H) .nil
theorem evva_cons {tr : TA} {ds : List PyData} (ha : EvV K γ ρ ta x) (hr : EvVA K γ ρ tr ds) : EvVA K γ ρ (tCons ta tr) (x :: ds) := fun S σ H st Q q =>
  ha S σ H st _ fun v H2 e2 hv => hr S σ H2 (st.ext e2) _ fun vs H3 e3 hvs => q (v :: vs) H3 (e2.trans e3) (.cons (hv.same e3) hvs)
theorem evva_pure {tr : TA} {ds : List PyData} (h : EvA K γ tr ds) : EvVA K γ ρ tr ds := fun S σ H st Q q => h S σ H st.fits st.frs Q q
theorem evv_cb {r : List V → Hp → VK → Prop} {ta : TA} {xs : List PyData} (ha : EvVA K γ ρ ta xs) (hr : EvC K r xs z) : EvV K γ ρ (tCB r ta) z := fun S σ H st Q q =>
  ha S σ H st _ fun vs H2 e2 hv => hr S vs H2 (st.frs.same e2) hv Q fun u H3 e3 hu => q u H3 (e2.trans e3) hu
theorem evv_call {R : List PyData → PyData → Prop} {E : XK} {ta : TA} {ds : List PyData} {x : PyData} (ha : EvVA K γ ρ ta ds) (hr : R ds x) : EvV K γ ρ (tCall (spP K R) [] E ta) x := fun S σ H st Q q =>
  ha S σ H st _ fun vs H2 e2 hv => ⟨S, ds, x, by rw [List.append_nil]; exact hv, st.frs.same e2, hr, fun v H3 e3 hx => q v H3 (e2.trans e3) hx⟩
theorem EvRA.mono {ta : TA} {L L' : List PyData → Rho → Prop} (h : EvRA K γ ρ ta L) (w : ∀ x r, L x r → L' x r) : EvRA K γ ρ ta L' := fun S σ H st Q q => h S σ H st Q fun S' v x ρ' H' a => q S' v x ρ' H' (w x ρ' a)
theorem er_V (h : EvV K γ ρ te d) : EvR K γ ρ te (fun x r => x = d ∧ r = ρ) := fun S σ H st Q q => h S σ H st Q fun v H2 e hv => q S v d ρ H2 ⟨rfl, rfl⟩ hv (st.ext e) (.ext e)
theorem erb_V (h : EvVB K γ ρ tt b) : EvRB K γ ρ tt (fun x r => x = b ∧ r = ρ) := fun S σ H st Q q => h S σ H st Q fun H2 e => q S b ρ H2 ⟨rfl, rfl⟩ (st.ext e) (.ext e)
theorem wv_pure {ti : TI} {y : Nat → PyData} (h : EvW K γ ti n y) : EvWV K γ ρ ti n y := fun S σ H st R q => h S σ H st.fits st.frs R q
theorem wv_zip {ta : TA} {ds es : List PyData} (h : EvVA K γ ρ ta [.list ds, .list es]) (hl : ds.length = es.length) : EvWV K γ ρ (iZip K ta) ds.length (fun i => .tuple [ds.getD i .none, es.getD i .none]) := fun S σ H st R q => h S σ H st _ fun vs H2 e2 hv => by
  obtain ⟨v, w, rfl, h1, h2⟩ := hv.two
  obtain ⟨a, xs, rfl, s, hq, hall⟩ := h1.lst_inv
  obtain ⟨b, ys, rfl, s', hq', hall'⟩ := h2.lst_inv
  refine ⟨a, b, xs, ys, rfl, .inl hq, .inl hq', q (Itz K a b) H2 e2 fun S' w => ⟨fun H => (Rd H a (.lst xs) ∧ Rd H b (.lst ys)) ∧ DsAll K S' H xs ds ∧ DsAll K S' H ys es, ?_, ⟨⟨hq, hq'⟩, hall.res w, hall'.res w⟩, fun H3 H4 k g => ⟨⟨rd_keep k (w a s (rd_ntL hq)) g.1.1, rd_keep k (w b s' (rd_ntL hq')) g.1.2⟩, g.2.1.keep k, g.2.2.keep k⟩⟩⟩
  refine Walk.mono (walk_zip (K := K) (a := a) (b := b) (xs := xs) (ys := ys) (n := ds.length) (by rw [hall.len, hall'.len, hl, Nat.min_self])) (fun _ g => ⟨.inl g.1.1, .inl g.1.2⟩) fun i H x H' hi g y => ?_
  obtain ⟨T, p, r, rfl, hT, rfl, e1, e2⟩ := y
  obtain ⟨d, hd, hx⟩ := g.2.1.at' e1
  obtain ⟨d', hd', hx'⟩ := g.2.2.at' e2
  refine ⟨same_new hT, ?_⟩
  show Ds K S' _ _ (.tuple [ds.getD i .none, es.getD i .none])
  rw [List.getD_eq_getElem?_getD, hd, List.getD_eq_getElem?_getD, hd']
  exact .tup (SqT.of upd_same) (.cons (hx.same (same_new hT)) (.one (hx'.same (same_new hT))))
/-- a walk that reads own lists at its start -/
theorem rr_forV {t : TS} {A : PyData → Rho → Prop} {ti : TI} {g : TG} {n : Nat} {y : Nat → PyData} {γm : Nat → Gm → Gm} (I : Nat → Gm → Rho → Prop) (h : EvWV K γ ρ ti n y) (h0 : I 0 γ ρ) (hg : ∀ i γ' ρ', i < n → I i γ' ρ' → EvG K g γ' (y i) (γm i γ')) (hb : ∀ i γ' ρ', i < n → I i γ' ρ' → RunR K (γm i γ') ρ' t (I (i + 1)) A) : RunR K γ ρ (tFor ti g t) (I n) A := fun S σ H st D qn qr =>
  h S σ H st _ fun J H2 e2 W => by
    have st2 := st.ext e2
    have res : Res H2 S (fun a => S a ∧ ¬ Nt H2 a) := fun a s n => ⟨s, n⟩
    obtain ⟨G, wk, g0, gk⟩ := W _ res
    refine for_it wk (fun i σ' H' => ∃ S' γ' ρ', I i γ' ρ' ∧ Sta K S' γ' ρ' σ' H' ∧ Eff S ρ H2 S' ρ' H') ⟨S, γ, ρ, h0, st2, .refl⟩ (fun i σ' H' hi p => ?_) (fun i x σ' H3 H4 hi p yy => ?_) fun σ' H' p => ?_
    · obtain ⟨S', γ', ρ', p0, p1, p2⟩ := p
      exact gk H2 H' (p2.chg.keepS (fun a s => st2.ns a s.1) st2.nt) g0
    · obtain ⟨S', γ', ρ', p0, p1, p2⟩ := p
      have p1' := p1.ext yy.1
      have hx : Ds K S' H4 x (y i) := yy.2.res fun a s _ => p2.old a s.1 s.2
      have e4 : Eff S ρ H2 S' ρ' H4 := p2.trans st2.frs (.ext yy.1)
      refine hg i γ' ρ' hi p0 S' σ' x H4 p1'.fits hx _ fun σ2 f2 => ?_
      exact hb i γ' ρ' hi p0 S' _ H4 { p1' with fits := f2 } _ (fun S5 σ5 γ5 ρ5 H5 g5 s5 e5 => ⟨S5, γ5, ρ5, g5, s5, e4.trans st2.frs e5⟩) fun S5 v x ρ5 H5 ax hv r5 e5 => qr S5 v x ρ5 H5 ax hv r5 ((Eff.ext e2).trans st.frs (e4.trans st2.frs e5))
    · obtain ⟨S', γ', ρ', p0, p1, p2⟩ := p
      exact qn S' σ' γ' ρ' H' p0 p1 ((Eff.ext e2).trans st.frs p2)
/-- a list that is written out is one's own -/
theorem er_lst {ta : TA} {L : List PyData → Rho → Prop} (h : EvRA K γ ρ ta L) (hz : ∀ ds r, L ds r → ds.length ≤ 1000000) : EvR K γ ρ (tLst ta) (fun x r => ∃ p ds r0, L ds r0 ∧ x = rf p ∧ r = r0 ++ [(p, .lst ds)]) := fun S σ H st Q q => h S σ H st _ fun S' vs ds ρ' H' l hv st' e' => ⟨sz_of (by rw [hv.len]; exact hz ds ρ' l), fun p hp => by
  obtain ⟨r, e⟩ := st'.toStR.newO (c := .lst ds) (u := .lst vs) hp trivial fun m => ⟨vs, upd_same, hv.move m⟩
  exact q _ _ _ _ _ ⟨p, ds, ρ', l, rfl, rfl⟩ (.rf p) { r with fits := st'.fits.move (e.mv st'.toStR) } (e'.trans st.frs e)⟩
theorem el_lst {ta : TA} {ds : List PyData} (ha : EvA K γ ta ds) (hz : ds.length ≤ 1000000 := by exact Nat.le_of_ble_eq_true rfl) : EvL K γ (tLst ta) ds := fun S σ H f fr Q q =>
  ha S σ H f fr _ fun vs H2 e2 hv => ⟨sz_of (by rw [hv.len]; exact hz), fun p hp => q p vs _ (e2.trans (same_new hp)) (e2.nt (.of hp)) upd_same ((hv.res (Res.ne hp)).same (same_new hp))⟩
theorem DsAll.rep {S : Addr → Prop} {H : Hp} {vs : List V} {ds : List PyData} (h : DsAll K S H vs ds) (k : Nat) : DsAll K S H (List.replicate k vs).flatten (List.replicate k ds).flatten := by
  induction k with
  | zero => exact .nil
  | succ k ih =>
    rw [List.replicate_succ, List.replicate_succ, List.flatten_cons, List.flatten_cons]
    exact h.app ih
/-- [x] * k -/
theorem el_rep {ds : List PyData} {k : Nat} (ha : EvL K γ ta ds) (hb : Ev K γ tb (.int (k : Int))) (hz : ds.length * k ≤ 1000000) (hk : k ≤ 1000000) : EvL K γ (tOp rRep ta tb) (List.replicate k ds).flatten := fun S σ H f fr Q q =>
  ha S σ H f fr _ fun l xs H2 e2 n at2 hall => hb S σ H2 (f.same e2) (fr.same e2) _ fun w H3 e3 hw => by
    refine ⟨l, (k : Int), xs, rfl, hw.int_inv, e3.lst at2, by omega, by omega, sz_of (by rw [hall.len, Int.toNat_natCast]; exact hz), fun p hp => ?_⟩
    rw [Int.toNat_natCast]
    have e : Ext H (upd H3 p (.lst (List.replicate k xs).flatten)) := (e2.trans e3).trans (same_new hp)
    have h3 : DsAll K (fun a => S a ∧ a ≠ l) H3 xs ds := hall.same e3
    exact q p _ _ e ((e2.trans e3).nt (.of hp)) upd_same (((h3.rep k).res fun a s n => ⟨s.1, fun z => n (z ▸ .of hp)⟩).same (same_new hp))
/-- .. appended to the last -/
theorem rr_appendL {tl : TE} {A : PyData → Rho → Prop} {B : PyData → Rho → Prop} {ρ0 : Rho} (hl : Ev K γ tl (rf p)) (h : EvR K γ (ρ0 ++ [(p, .lst xs)]) te (fun x r => B x r ∧ r = ρ0 ++ [(p, .lst xs)])) (hz : xs.length ≤ 900000) : RunR K γ (ρ0 ++ [(p, .lst xs)]) (tDrop (tBM K "list" rAppend tl (tCons te tNil))) (fun g r => ∃ x, B x (ρ0 ++ [(p, .lst xs)]) ∧ g = γ ∧ r = ρ0 ++ [(p, .lst (xs ++ [x]))]) A := rr_mono (rr_append (n := ρ0.length) hl (by rw [List.getElem?_append_right (Nat.le_refl _), Nat.sub_self]; rfl) h hz) (fun g r ⟨x, b, e1, e2⟩ => ⟨x, b, e1, by rw [e2, List.set_append_right _ _ (Nat.le_refl _), Nat.sub_self]; rfl⟩) fun _ _ h => h
end
/-! ### a new matrix, made of own lists -/
/-- x stands for a matrix of own lists -/
def MatR (rows : Rows) (x : PyData) (r : Rho) : Prop := ∃ (p : Addr) (as : List Addr), x = rf p ∧ (p, Ct.lst (as.map rf)) ∈ r ∧ as.length = rows.length ∧ (∀ (i : Nat) (a : Addr) (row : List Int), as[i]? = some a → rows[i]? = some row → (a, Ct.lst (row.map .int)) ∈ r) ∧ ((r.map (·.1)).Nodup → (p :: as).Nodup)
section
variable {P : Program} {w : World} {K : PySem.W.Frag} {mg : Str → Option Value} {base : Heap}
theorem DsAll.refs {S : Addr → Prop} {H : Hp} {as : List Addr} {vs : List V} (h : DsAll K S H vs (as.map rf)) : vs = as.map V.ref := by
  induction as generalizing vs with
  | nil =>
    cases h
    rfl
  | cons a as ih =>
    cases h with
    | cons h1 h2 =>
      rw [h1.rf_inv, ih h2]
      rfl
theorem Fun.matR {x qual : Str} {st : Stmt} {f : Addr} {fd : FuncData} {N ps : List Str} {k : Nat} {R : List PyData → Rows → Prop} (F : Fun K x qual st f fd) (Sc : FnScope N ps (defScope st)) (len : ∀ ds x, R ds x → ds.length = ps.length)
    (hbody : ∀ (cdv : Value) (A : Around) (outer : List Env) (s : Shared) (H : Hp) (E : XK), Room k (A.deeper (envOfC qual (defScope st) s.heap.objs.size f cdv)) →
      ∃ t, PSs (cxOf CX0 P w K mg base N qual (defScope st) f cdv A outer s H E).nox (defBody st) t ∧ ∀ ds rows, R ds rows → RunR K (startG N.length ds) [] t (fun _ _ => False) (MatR rows)) : FnOk P w K mg base CX0 (k + 1) f fd ps (spM K R) := by
  refine F.ok Sc (fun vs H Q E h => ?_) (fun cdv A outer s H vs Q E hr h => ?_)
  · obtain ⟨S, ds, x, h1, _, h3, _⟩ := h
    rw [h1.len]
    exact len ds x h3
  · obtain ⟨S, ds, rows, h1, h2, h3, q⟩ := h
    obtain ⟨t, ht, hR⟩ := hbody cdv A outer s H E hr
    refine ⟨t, ht, ?_⟩
    have st0 : Sta K S (startG N.length ds) [] (L2.start N vs) H := { frs := h2, own := fun q hq => (List.not_mem_nil hq).elim, nd := List.nodup_nil, fits := fits_start h1 }
    refine hR ds rows h3 S _ H st0 _ (fun _ _ _ _ _ z => z.elim) fun S' v x r H' m hv s' e' => ?_
    obtain ⟨p, as, rfl, m1, m2, m3, m4⟩ := m
    rw [hv.rf_inv]
    have ex : Ext H H' := ⟨fun b o h n => e'.chg.keep b o (fun z => List.not_mem_nil z) h n, e'.chg.tabs⟩
    have new : ∀ a c, (a, c) ∈ r → Nt H a := fun a c h => (e'.new a (List.mem_map.mpr ⟨_, h, rfl⟩)).resolve_left fun z => List.not_mem_nil z
    have row : ∀ (i : Nat) (a : Addr) (row : List Int), as[i]? = some a → rows[i]? = some row → H' a = some (.lst (row.map V.int)) := fun i a row h1 h2 => by
      obtain ⟨_, ys, a1, a2⟩ := s'.own _ (m3 i a row h1 h2)
      rw [a2.ofInts] at a1
      exact a1
    refine q p as H' ex ⟨?_, m2, row, m4 s'.nd, fun a ha => ?_⟩
    · obtain ⟨_, ys, a1, a2⟩ := s'.own _ m1
      rw [a2.refs] at a1
      exact a1
    · rcases List.mem_cons.mp ha with rfl | ha
      · exact new _ _ m1
      · obtain ⟨i, hi, rfl⟩ := List.getElem_of_mem ha
        exact new _ _ (m3 i _ _ (List.getElem?_eq_getElem hi) (List.getElem?_eq_getElem (by rw [← m2]; exact hi)))
end
end LK
namespace LK
open PySem PySem.Spec PyProof.Rows L2
variable [Tbs]
/-! ### bodies that may go on with the next turn -/
def RunRC (K : PySem.W.Frag) (γ : Gm) (ρ : Rho) (ts : TS) (N C : Gm → Rho → Prop) (A : PyData → Rho → Prop) : Prop :=
  ∀ (S : Addr → Prop) (σ : L2.St) (H : Hp), Sta K S γ ρ σ H → ∀ D : Ends, (∀ S' σ' γ' ρ' H', N γ' ρ' → Sta K S' γ' ρ' σ' H' → Eff S ρ H S' ρ' H' → D.nx σ' H') →
    (∀ S' σ' γ' ρ' H', C γ' ρ' → Sta K S' γ' ρ' σ' H' → Eff S ρ H S' ρ' H' → D.ct σ' H') →
    (∀ S' v x ρ' H', A x ρ' → Ds K S' H' v x → StR K S' ρ' H' → Eff S ρ H S' ρ' H' → D.rt v H') → ts D σ H
section
variable {K : PySem.W.Frag} {γ : Gm} {ρ : Rho} {t u : TS} {tt : TT} {N N' C : Gm → Rho → Prop} {A : PyData → Rho → Prop}
theorem rc_of (h : RunR K γ ρ t N A) : RunRC K γ ρ t N C A := fun S σ H st D qn _ qr => h S σ H st D qn qr
theorem rc_cont (h : C γ ρ) : RunRC K γ ρ tCont N C A := fun S σ H st D _ qc _ => qc S σ γ ρ H h st .refl
theorem rc_seq (h : RunRC K γ ρ t N C A) (k : ∀ γ' ρ', N γ' ρ' → RunRC K γ' ρ' u N' C A) : RunRC K γ ρ (tSeq t u) N' C A := fun S σ H st D qn qc qr =>
  h S σ H st { D with nx := u D } (fun S1 σ1 γ1 ρ1 H1 n st1 e1 => k γ1 ρ1 n S1 σ1 H1 st1 D (fun S2 σ2 γ2 ρ2 H2 n2 st2 e2 => qn S2 σ2 γ2 ρ2 H2 n2 st2 (e1.trans st.frs e2)) (fun S2 σ2 γ2 ρ2 H2 n2 st2 e2 => qc S2 σ2 γ2 ρ2 H2 n2 st2 (e1.trans st.frs e2)) fun S2 v x ρ2 H2 a hv st2 e2 => qr S2 v x ρ2 H2 a hv st2 (e1.trans st.frs e2)) qc qr
theorem rc_if {B : Bool → Rho → Prop} (h : EvRB K γ ρ tt B) (h1 : ∀ ρ', B true ρ' → RunRC K γ ρ' t N C A) (h2 : ∀ ρ', B false ρ' → RunRC K γ ρ' u N C A) : RunRC K γ ρ (tIfS tt t u) N C A := fun S σ H st D qn qc qr => h S σ H st _ fun S1 b ρ1 H1 bb st1 e1 => by
  cases b with
  | true => exact h1 ρ1 bb S1 σ H1 st1 D (fun S2 σ2 γ2 ρ2 H2 n2 st2 e2 => qn S2 σ2 γ2 ρ2 H2 n2 st2 (e1.trans st.frs e2)) (fun S2 σ2 γ2 ρ2 H2 n2 st2 e2 => qc S2 σ2 γ2 ρ2 H2 n2 st2 (e1.trans st.frs e2)) fun S2 v x ρ2 H2 a hv st2 e2 => qr S2 v x ρ2 H2 a hv st2 (e1.trans st.frs e2)
  | false => exact h2 ρ1 bb S1 σ H1 st1 D (fun S2 σ2 γ2 ρ2 H2 n2 st2 e2 => qn S2 σ2 γ2 ρ2 H2 n2 st2 (e1.trans st.frs e2)) (fun S2 σ2 γ2 ρ2 H2 n2 st2 e2 => qc S2 σ2 γ2 ρ2 H2 n2 st2 (e1.trans st.frs e2)) fun S2 v x ρ2 H2 a hv st2 e2 => qr S2 v x ρ2 H2 a hv st2 (e1.trans st.frs e2)
theorem rc_mono (h : RunRC K γ ρ t N C A) (w : ∀ g r, N g r → N' g r) : RunRC K γ ρ t N' C A := fun S σ H st D qn qc qr => h S σ H st D (fun S' σ' γ' ρ' H' n => qn S' σ' γ' ρ' H' (w γ' ρ' n)) qc qr
/-- a walk whose turns may end early -/
theorem rr_forC {ti : TI} {g : TG} {n : Nat} {y : Nat → PyData} {γm : Nat → Gm → Gm} (I : Nat → Gm → Rho → Prop) (h : EvW K γ ti n y) (h0 : I 0 γ ρ) (hg : ∀ i γ' ρ', i < n → I i γ' ρ' → EvG K g γ' (y i) (γm i γ')) (hb : ∀ i γ' ρ', i < n → I i γ' ρ' → RunRC K (γm i γ') ρ' t (I (i + 1)) (I (i + 1)) A) : RunR K γ ρ (tFor ti g t) (I n) A := fun S σ H st D qn qr =>
  h S σ H st.fits st.frs _ fun J H2 e2 W => by
    have st2 := st.ext e2
    have res : Res H2 S (fun a => S a ∧ ¬ Nt H2 a) := fun a s n => ⟨s, n⟩
    obtain ⟨G, wk, g0, gk⟩ := W _ res
    refine for_it wk (fun i σ' H' => ∃ S' γ' ρ', I i γ' ρ' ∧ Sta K S' γ' ρ' σ' H' ∧ Eff S ρ H2 S' ρ' H') ⟨S, γ, ρ, h0, st2, .refl⟩ (fun i σ' H' hi p => ?_) (fun i x σ' H3 H4 hi p yy => ?_) fun σ' H' p => ?_
    · obtain ⟨S', γ', ρ', p0, p1, p2⟩ := p
      exact gk H2 H' (p2.chg.keepS (fun a s => st2.ns a s.1) st2.nt) g0
    · obtain ⟨S', γ', ρ', p0, p1, p2⟩ := p
      have p1' := p1.ext yy.1
      have hx : Ds K S' H4 x (y i) := yy.2.res fun a s _ => p2.old a s.1 s.2
      have e4 : Eff S ρ H2 S' ρ' H4 := p2.trans st2.frs (.ext yy.1)
      refine hg i γ' ρ' hi p0 S' σ' x H4 p1'.fits hx _ fun σ2 f2 => ?_
      exact hb i γ' ρ' hi p0 S' _ H4 { p1' with fits := f2 } _ (fun S5 σ5 γ5 ρ5 H5 g5 s5 e5 => ⟨S5, γ5, ρ5, g5, s5, e4.trans st2.frs e5⟩) (fun S5 σ5 γ5 ρ5 H5 g5 s5 e5 => ⟨S5, γ5, ρ5, g5, s5, e4.trans st2.frs e5⟩) fun S5 v x ρ5 H5 ax hv r5 e5 => qr S5 v x ρ5 H5 ax hv r5 ((Eff.ext e2).trans st.frs (e4.trans st2.frs e5))
    · obtain ⟨S', γ', ρ', p0, p1, p2⟩ := p
      exact qn S' σ' γ' ρ' H' p0 p1 ((Eff.ext e2).trans st.frs p2)
/-- i, j = a, b -/
theorem run_par {ta tb : TE} {x y : PyData} {i j : Nat} (ha : Ev K γ ta x) (hb : Ev K γ tb y) : Run K γ (tPar i j (tCons ta (tCons tb tNil))) (.nx ((γ.set i (some x)).set j (some y))) := fun S σ H f fr D k =>
  ea_cons ha (ea_cons hb ea_nil) S σ H f fr _ fun vs H2 e2 hv => by
    obtain ⟨v, w, rfl, h1, h2⟩ := hv.two
    exact ⟨v, w, rfl, k _ H2 e2 (((f.same e2).set i h1).set j h2)⟩
end
section
variable {P : Program} {w : World} {K : PySem.W.Frag} {mg : Str → Option Value} {base : Heap}
theorem ext_own {S S' : Addr → Prop} {ρ' : Rho} {H H' : Hp} (e : Eff S [] H S' ρ' H') : Ext H H' := ⟨fun b o h n => e.chg.keep b o (fun z => List.not_mem_nil z) h n, e.chg.tabs⟩
theorem ds_own {S S' : Addr → Prop} {ρ' : Rho} {H H' : Hp} {v : V} {x : PyData} (e : Eff S [] H S' ρ' H') (h : Ds K S' H' v x) : Ds K S H' v x := h.res fun a s _ => (e.sub a s).resolve_right fun z => List.not_mem_nil z
/-- a def that makes lists of its own on its way and hands back data -/
theorem Fun.pureR {x qual : Str} {st : Stmt} {f : Addr} {fd : FuncData} {N ps : List Str} {k : Nat} {R : List PyData → PyData → Prop} (F : Fun K x qual st f fd) (Sc : FnScope N ps (defScope st)) (len : ∀ ds x, R ds x → ds.length = ps.length)
    (hbody : ∀ (cdv : Value) (A : Around) (outer : List Env) (s : Shared) (H : Hp) (E : XK), Room k (A.deeper (envOfC qual (defScope st) s.heap.objs.size f cdv)) →
      ∃ t, PSs (cxOf CX0 P w K mg base N qual (defScope st) f cdv A outer s H E).nox (defBody st) t ∧ ∀ ds x, R ds x → RunR K (startG N.length ds) [] t (fun _ _ => x = .none) (fun y _ => y = x)) : FnOk P w K mg base CX0 (k + 1) f fd ps (spP K R) := by
  refine F.ok Sc (fun vs H Q E h => ?_) (fun cdv A outer s H vs Q E hr h => ?_)
  · obtain ⟨S, ds, x, h1, _, h3, _⟩ := h
    rw [h1.len]
    exact len ds x h3
  · obtain ⟨S, ds, x, h1, h2, h3, q⟩ := h
    obtain ⟨t, ht, hR⟩ := hbody cdv A outer s H E hr
    refine ⟨t, ht, ?_⟩
    have st0 : Sta K S (startG N.length ds) [] (L2.start N vs) H := { frs := h2, own := fun q hq => (List.not_mem_nil hq).elim, nd := List.nodup_nil, fits := fits_start h1 }
    refine hR ds x h3 S _ H st0 _ (fun S' σ' γ' ρ' H' z s' e' => ?_) fun S' v y r H' m hv s' e' => ?_
    · subst z
      exact q .non H' (ext_own e') .non
    · subst m
      exact q v H' (ext_own e') (ds_own e' hv)
end
end LK
namespace LK
open PySem PySem.Spec PyProof.Rows L2
variable [Tbs]
/-! ### new lists made of what is one's own; walks over an own list -/
section
variable {K : PySem.W.Frag} {S S' : Addr → Prop} {H H' : Hp} {γ γv : Gm} {ρ : Rho} {te tl td : TE} {v v' : V} {d : PyData} {ds : List PyData} {n : Nat} {p : Addr} {xs : List PyData}
theorem DsAll.atoms : ∀ {vs : List V} {ds : List PyData}, DsAll K S H vs ds → (∀ d ∈ ds, atomD d = true) → DsAll K S' H' vs ds
  | _, _, .nil, _ => .nil
  | _, _, .cons h t, a => .cons (h.atom (a _ List.mem_cons_self) _ _) (t.atoms fun d hd => a d (List.mem_cons_of_mem _ hd))
theorem Ds.det (h : Ds K S H v d) (h' : Ds K S' H' v' d) (a : atomD d = true) : v = v' := by
  cases h <;> first | (cases h'; rfl) | cases a
theorem DsAll.det : ∀ {vs vs' : List V} {ds : List PyData}, DsAll K S H vs ds → DsAll K S' H' vs' ds → (∀ d ∈ ds, atomD d = true) → vs = vs'
  | _, _, _, .nil, h, _ => by cases h; rfl
  | _, _, _, .cons h t, h', a => by
    cases h' with
    | cons h1 t1 => rw [h.det h1 (a _ List.mem_cons_self), t.det t1 fun d hd => a d (List.mem_cons_of_mem _ hd)]
/-- a new list of plain items, made while own lists are read as data -/
theorem er_viewL {P : List Addr} (V : View K γ ρ P γv) (h : EvL K γv te ds) (hd : ∀ d ∈ ds, atomD d = true) : EvR K γ ρ te (fun x r => x = .list ds ∧ r = ρ) := fun S σ H st Q q =>
  h _ σ H (V S σ H st) (frs_or st.frs) Q fun p ys H2 e n at2 hall => q S (.ref p) (.list ds) ρ H2 ⟨rfl, rfl⟩ (.lst (st.frs.new p n) (.inl at2) (hall.atoms hd)) (st.ext e) (.ext e)
/-- plain data, or a tuple of plain data -/
def flatD : PyData → Bool
  | .tuple xs => xs.all atomD
  | d => atomD d
theorem Ds.flat (h : Ds K S H v d) (e : flatD d = true) (S' : Addr → Prop) : Ds K S' H v d := by
  cases h with
  | tup hq hall => exact .tup hq (hall.atoms fun d hd => List.all_eq_true.mp e d hd)
  | non => exact .non
  | bl b => exact .bl b
  | int i => exact .int i
  | str x => exact .str x
  | _ => cases e
theorem er_viewT {P : List Addr} (V : View K γ ρ P γv) (h : Ev K γv te d) (hd : flatD d = true := by rfl) : EvR K γ ρ te (fun x r => x = d ∧ r = ρ) := fun S σ H st Q q => h _ σ H (V S σ H st) (frs_or st.frs) Q fun v H2 e hv => q S v d ρ H2 ⟨rfl, rfl⟩ (hv.flat hd _) (st.ext e) (.ext e)
/-- a walk over an own list of plain items, which stays as it is -/
theorem rr_forOwn {t : TS} {A : PyData → Rho → Prop} {j : Nat} (I : Nat → Gm → Rho → Prop) (h : EvV K γ ρ te (rf p)) (h0 : I 0 γ ρ) (hat : ∀ d ∈ xs, atomD d = true) (hI : ∀ i γ' ρ', I i γ' ρ' → ρ'[n]? = some (p, .lst xs)) (hb : ∀ i γ' ρ', i < xs.length → I i γ' ρ' → RunR K (γ'.set j (some (xs.getD i .none))) ρ' t (I (i + 1)) A) : RunR K γ ρ (tFor (iList K te) (gName j) t) (I xs.length) A := fun S σ H st D qn qr =>
  h S σ H st _ fun v H2 e2 hv => by
    have st2 := st.ext e2
    obtain ⟨_, ys, a1, a2⟩ := st2.own _ (List.mem_of_getElem? (hI 0 γ ρ h0))
    rw [hv.rf_inv]
    refine ⟨p, rfl, ⟨ys, .inl (.inl a1)⟩, ?_⟩
    have wk : Walk (Itl K p) ys.length (fun H => H p = some (.lst ys)) (fun i H x H' => H' = H ∧ ys[i]? = some x) := Walk.mono (walk_list (K := K) (a := p) (xs := ys)) (fun _ g => .inl (.inl g)) fun i H x H' hi g y => y
    rw [a2.len] at wk
    refine for_it wk (fun i σ' H' => ∃ S' γ' ρ', I i γ' ρ' ∧ Sta K S' γ' ρ' σ' H' ∧ Eff S ρ H2 S' ρ' H') ⟨S, γ, ρ, h0, st2, .refl⟩ (fun i σ' H' hi q => ?_) (fun i x σ' H3 H4 hi q yy => ?_) fun σ' H' q => ?_
    · obtain ⟨S', γ', ρ', p0, p1, p2⟩ := q
      obtain ⟨_, zs, b1, b2⟩ := p1.own _ (List.mem_of_getElem? (hI _ _ _ p0))
      rw [b2.det a2 hat] at b1
      exact b1
    · obtain ⟨S', γ', ρ', p0, p1, p2⟩ := q
      obtain ⟨rfl, hx⟩ := yy
      show t _ (σ'.set j (some x)) H4
      obtain ⟨d, hd, hx⟩ := a2.at' hx
      have ed : xs.getD i .none = d := by rw [List.getD_eq_getElem?_getD, hd]; rfl
      have hx' : Ds K S' H4 x (xs.getD i .none) := by
        rw [ed]
        exact hx.atom (hat _ (List.mem_of_getElem? hd)) _ _
      exact hb i γ' ρ' hi p0 S' _ H4 (p1.set j hx') _ (fun S5 σ5 γ5 ρ5 H5 g5 s5 e5 => ⟨S5, γ5, ρ5, g5, s5, p2.trans st2.frs e5⟩) fun S5 v x ρ5 H5 ax hv r5 e5 => qr S5 v x ρ5 H5 ax hv r5 ((Eff.ext e2).trans st.frs (p2.trans st2.frs e5))
    · obtain ⟨S', γ', ρ', p0, p1, p2⟩ := q
      exact qn S' σ' γ' ρ' H' p0 p1 ((Eff.ext e2).trans st.frs p2)
/-- xs.clear(), where the list is reached by reading -/
theorem rr_clearV {A : PyData → Rho → Prop} (hl : EvV K γ ρ tl (rf p)) (hn : ρ[n]? = some (p, .lst xs)) : RunR K γ ρ (tDrop (tBM0 K "list" rClear tl)) (fun g r => g = γ ∧ r = ρ.set n (p, .lst [])) A := fun S σ H st D qn qr => by
  refine hl S σ H st _ fun v1 H1 e1 hv1 => ?_
  rw [hv1.rf_inv]
  have st1 := st.ext e1
  obtain ⟨_, ys, a1, a2⟩ := st1.own _ (List.mem_of_getElem? hn)
  obtain ⟨r3, e3⟩ := st1.toStR.put (u := .lst []) (c' := .lst []) hn a1 trivial trivial fun m => ⟨_, upd_same, .nil⟩
  exact ⟨.inl ⟨rfl, _, .inl (.inl a1)⟩, p, ys, rfl, rfl, a1, qn S σ γ _ _ ⟨rfl, rfl⟩ { r3 with fits := st1.fits.move (e3.mv st1.toStR) } ((Eff.ext e1).trans st.frs e3)⟩
/-- d.clear() -/
theorem rr_clearD {A : PyData → Rho → Prop} {es : List (PyData × PyData)} (hl : EvV K γ ρ td (rf p)) (hn : ρ[n]? = some (p, .dct es)) : RunR K γ ρ (tDrop (tBM0 K "dict" rDClear td)) (fun g r => g = γ ∧ r = ρ.set n (p, .dct [])) A := fun S σ H st D qn qr => by
  refine hl S σ H st _ fun v1 H1 e1 hv1 => ?_
  rw [hv1.rf_inv]
  have st1 := st.ext e1
  obtain ⟨_, kvs, a1, a2⟩ := st1.own _ (List.mem_of_getElem? hn)
  obtain ⟨r3, e3⟩ := st1.toStR.put (u := .dK []) (c' := .dct []) hn a1 trivial trivial fun m => ⟨[], upd_same, .nil⟩
  exact ⟨.inr (.inr (.inl ⟨rfl, .inl ⟨kvs, a1⟩⟩)), p, kvs, rfl, rfl, a1, qn S σ γ _ _ ⟨rfl, rfl⟩ { r3 with fits := st1.fits.move (e3.mv st1.toStR) } ((Eff.ext e1).trans st.frs e3)⟩
/-- an item of a tuple -/
theorem evv_ixT {ta tb : TE} {i : Int} {z : PyData} (hl : EvV K γ ρ ta (.tuple xs)) (hj : EvV K γ ρ tb (.int i)) (hz : L2.atI xs i = some z) : EvV K γ ρ (tOp (rIxU K) ta tb) z := evv_op hl hj (eo_ixUT hz)
end
/-! ### dict(xs) -/
section
variable {K : PySem.W.Frag} {γ : Gm} {te : TE}
def rDictP (K : PySem.W.Frag) : List V → Hp → VK → Prop := fun xs H Q => ∃ (a : Addr) (ps : List Addr) (kvs : List (Key × V)), xs = [.ref a] ∧ SqL K H a (ps.map V.ref) ∧ Paired (fun p kv => SqT K H p [kV kv.1, kv.2]) ps kvs ∧ ∀ p, H p = none → Q (.ref p) (upd H p (.dK (mergeK [] kvs)))
theorem cr_dictPK {X : Cx} (h : X.K = K) (hc : X.calm = true) : CallR X (.type "dict") (rDictP K) := by
  subst h
  exact call_dictP hc
theorem mergeK_nodup : ∀ {more kvs : List (Key × V)}, ((kvs ++ more).map (·.1)).Nodup → mergeK kvs more = kvs ++ more
  | [], kvs, _ => (List.append_nil kvs).symm
  | kv :: more, kvs, h => by
    have e : putK kvs kv.1 kv.2 = kvs ++ [kv] := by
      unfold putK
      rw [if_neg fun z => ?_]
      obtain ⟨q, hq, e⟩ := List.any_eq_true.mp z
      rw [List.map_append, List.nodup_append] at h
      exact h.2.2 _ (List.mem_map.mpr ⟨q, hq, rfl⟩) _ (List.mem_map.mpr ⟨kv, List.mem_cons_self, rfl⟩) (of_decide_eq_true e)
    show mergeK (putK kvs kv.1 kv.2) more = _
    rw [e, mergeK_nodup (by rw [List.append_assoc]; exact h), List.append_assoc]
    rfl
theorem pairs_of {S : Addr → Prop} {H : Hp} : ∀ {es : List (Key × PyData)} {vs : List V}, DsAll K S H vs (es.map fun p => .tuple [kD p.1, p.2]) → ∃ (ps : List Addr) (kvs : List (Key × V)), vs = ps.map V.ref ∧ Paired (fun p kv => SqT K H p [kV kv.1, kv.2]) ps kvs ∧ kvs.map (·.1) = es.map (·.1) ∧ DsP K S H (kvs.map fun p => (kD p.1, p.2)) (es.map fun p => (kD p.1, p.2))
  | [], _, h => by
    cases h
    exact ⟨[], [], rfl, .nil, rfl, .nil⟩
  | e :: es, _, h => by
    cases h with
    | cons h1 h2 =>
      obtain ⟨ps, kvs, rfl, h3, h4, h5⟩ := pairs_of h2
      obtain ⟨a, ys, rfl, hq, hall⟩ := h1.tup_inv
      obtain ⟨x, y, rfl, hx, hy⟩ := hall.two
      rw [ds_key hx] at hq
      exact ⟨a :: ps, (e.1, y) :: kvs, rfl, .cons hq h3, by rw [List.map_cons, List.map_cons, h4], .cons hy h5⟩
theorem ev_dictOf {es : List (Key × PyData)} (h : Ev K γ te (.list (es.map fun p => .tuple [kD p.1, p.2]))) (nd : (es.map (·.1)).Nodup) : Ev K γ (tCB (rDictP K) (tCons te tNil)) (.dict (es.map fun p => (kD p.1, p.2))) := fun S σ H f fr Q q => h S σ H f fr _ fun v H2 e2 hv => by
  obtain ⟨a, xs, rfl, s, hq, hall⟩ := hv.lst_inv
  obtain ⟨ps, kvs, rfl, h3, h4, h5⟩ := pairs_of hall
  refine ⟨a, ps, kvs, rfl, .inl hq, h3, fun p hp => ?_⟩
  rw [mergeK_nodup (by rw [List.nil_append, h4]; exact nd), List.nil_append]
  exact q _ _ (e2.trans (same_new hp)) (.dct ((fr.same e2).fresh p hp) (.inl upd_same) (h5.keep (Keep.of (same_new hp))))
end
end LK
namespace LK
open PySem PySem.Spec PyProof.Rows L2
variable [Tbs]
/-! ### comprehensions over the keys of a dict -/
def EvWx (K : PySem.W.Frag) (γ : Gm) (ti : TI) (n : Nat) (y : Nat → PyData) : Prop :=
  ∀ (S : Addr → Prop) (σ : L2.St) (H : Hp), Fits K S γ σ H → Frs S H → ∀ R : It → Hp → Prop,
    (∀ (J : It) (H2 : Hp), Ext H H2 → (∀ S', Res H2 S S' → ∃ G : Hp → Prop, Walk J n G (fun i H x H' => Ext H H' ∧ Ds K S' H' x (y i)) ∧ G H2 ∧ ∀ H3 H4, Ext H3 H4 → G H3 → G H4) → R J H2) → ti σ H R
def tMay (t : TE) : TE := fun σ H Q => t σ H Q ∨ tLockE t σ H Q
theorem pe_may {X : Cx} {e : Expr} {t : TE} (h : PE X e t) : PE X e (tMay t) := ⟨fun pins s σ H Q I hh => hh.elim (h.run pins s σ H Q I) ((pe_lock h).run pins s σ H Q I)⟩
def keysW (i : Nat) : TI := fun σ H R => (∃ a o kvs, σ[i]? = some (some (V.ref a)) ∧ H a = some (.frz o (.dK kvs))) → iKeys (tVar i) σ H R
theorem tabs_frz {H : Hp} {p : Addr} {od : Obj} {o u : HO} (hp : H p = some (.frz od o)) {P : Addr} {q : Str} (t : LamX.TabS H P q) : LamX.TabS (upd H p u) P q := by
  obtain ⟨ps, h1, h2, h3⟩ := t
  refine ⟨ps, by rw [upd_ne (ne_of h1 hp fun z => by cases z)]; exact h1, h2, fun pos cv hc => ?_⟩
  obtain ⟨c, e1, e2⟩ := h3 pos cv hc
  exact ⟨c, e1, by rw [upd_ne (ne_of e2 hp fun z => by unfold LamX.CodeO at z; cases z)]; exact e2⟩
section
variable {K : PySem.W.Frag} {S : Addr → Prop} {σ : L2.St} {H : Hp} {γ : Gm} {t : TT} {te : TE}
theorem ev_lcX {ti : TI} {g : TG} {vs : List Nat} {n : Nat} {y : Nat → PyData} {b : Nat → Bool} {f : Nat → PyData} {γ' : Nat → Gm}
    (h : EvWx K γ ti n y) (hz : n ≤ 1000000) (hv : GIn g vs) (hg : ∀ i, i < n → EvG K g (wipeG γ vs) (y i) (γ' i))
    (ht : ∀ i, i < n → EvB K (γ' i) t (b i)) (he : ∀ i, i < n → b i = true → Ev K (γ' i) te (f i)) : Ev K γ (tLc ti g t te vs) (.list (given n b f)) := fun S σ H fi fr Q q =>
  h S σ H fi fr _ fun J H2 e2 W D hD => by
    have fr2 := fr.same e2
    have res : Res H2 S (fun a => S a ∧ a ≠ D) := Res.ne hD
    obtain ⟨G, wk, g0, gk⟩ := W _ res
    have fi2 : Fits K (fun a => S a ∧ a ≠ D) (wipeG γ vs) (L2.wipe σ vs) H2 := ((fi.same e2).res res).wipe vs
    refine lc_it wk (fun i H' => ∃ acc, Ext H2 H' ∧ H' D = some (.lst acc) ∧ DsAll K (fun a => S a ∧ a ≠ D) H' acc (given i b f)) ⟨[], same_new hD, upd_same, .nil⟩ (fun i H' hi p => ?_) (fun i x H3 H4 hi p yy => ?_) (fun H' p => ?_)
    · obtain ⟨acc, p1, p2, p3⟩ := p
      exact gk H2 H' p1 g0
    · obtain ⟨acc, p1, p2, p3⟩ := p
      obtain ⟨y1, y2⟩ := yy
      have k24 : Ext H2 H4 := p1.trans y1
      refine hv x σ H4 _ (hg i hi _ _ x H4 (fi2.same k24) y2 _ fun σ' fi' => ?_)
      have dis : ∀ {H' : Hp}, Ext H4 H' → Frs (fun a => S a ∧ a ≠ D) H' := fun e => ⟨fun p hp => ⟨fr2.new p ((k24.trans e).nt hp), fun z => by
        subst z
        exact hp.lst (e.lst (y1.lst p2))⟩, (fr2.same (k24.trans e)).tabs⟩
      refine ht i hi _ σ' H4 fi' (dis (Ext.refl _)) _ fun H6 e6 => ?_
      have k26 : Ext H2 H6 := k24.trans e6
      have accs : DsAll K (fun a => S a ∧ a ≠ D) H6 acc (given i b f) := p3.same (y1.trans e6)
      have atD : H6 D = some (.lst acc) := e6.lst (y1.lst p2)
      cases hb : b i with
      | true =>
        show te _ H6 _
        refine he i hi hb _ σ' H6 (fi'.same e6) (dis e6) _ fun v H7 e7 hv => ⟨acc, e7.lst atD, sz_lt ?_, acc ++ [v], ?_, upd_same, ?_⟩
        · rw [accs.len]
          exact Nat.lt_of_le_of_lt (given_len i b f) (by omega)
        · exact same_mut (k26.trans e7) (.of hD) (e7.lst atD)
        · rw [given_succ, if_pos hb]
          have kk : Keep (fun a => S a ∧ a ≠ D) H7 (upd H7 D (.lst (acc ++ [v]))) := Keep.upd (e7.lst atD) (fun z => z.2 rfl)
          exact ((accs.same e7).app (.one hv)).keep kk
      | false =>
        refine ⟨acc, k26, atD, ?_⟩
        rw [given_succ, if_neg (by rw [hb]; exact Bool.false_ne_true), List.append_nil]
        exact accs
    · obtain ⟨acc, p1, p2, p3⟩ := p
      exact q (.ref D) H' (e2.trans p1) (.lst (fr2.fresh D hD) (.inl p2) (p3.res fun a s _ => s.1))

theorem DsP.keyAt : ∀ {kvs : List (Key × V)} {es : List (PyData × PyData)} {i : Nat} {k : Key} {v : V}, DsP K S H (kvs.map fun p => (kD p.1, p.2)) es → kvs[i]? = some (k, v) → (es.getD i (.none, .none)).1 = kD k
  | [], _, _, _, _, _, h => by cases h
  | kv :: kvs, es, 0, k, v, hp, h => by
    cases h
    cases hp
    rfl
  | kv :: kvs, es, i + 1, k, v, hp, h => by
    cases hp with
    | cons h1 h2 => exact h2.keyAt h
theorem wx_keys {i : Nat} {es : List (PyData × PyData)} (hg : γ[i]? = some (some (.dict es))) (o : isOb (.dict es) = false) : EvWx K γ (keysW i) es.length (fun j => (es.getD j (.none, .none)).1) := fun S σ H fi fr R q ⟨a, od, kvs, hs, ha⟩ => by
  obtain ⟨v, hv, hd⟩ := fi.get i _ hg
  rw [hs] at hv
  cases hv
  obtain ⟨a', kvs', ea, s, hq, hP⟩ := hd.dct_inv o
  cases ea
  have ek : kvs' = kvs := by
    rcases hq with hq | ⟨o', hq⟩
    · rw [ha] at hq
      cases hq
    · rw [ha] at hq
      cases hq
      rfl
  subst ek
  refine ⟨_, hs, a, od, rfl, .inl ⟨kvs', ha, q _ H (Ext.refl H) fun S' w => ⟨fun H => H a = some (.frz od (.dK kvs')), ?_, ha, fun H3 H4 e g => e.keep a _ g fun _ z => nomatch z⟩⟩⟩
  have wk := walk_keys (d := a) (o := od) (kvs := kvs')
  have hl : kvs'.length = es.length := by have := hP.len; rwa [List.length_map] at this
  rw [hl] at wk
  refine Walk.mono wk (fun _ g => g) fun j H x H' hj g y => ?_
  obtain ⟨rfl, k, v, hkv, rfl⟩ := y
  refine ⟨Ext.refl _, ?_⟩
  show Ds K S' _ _ (es.getD j (.none, .none)).1
  rw [hP.keyAt hkv]
  cases k with
  | inl i => exact .int i
  | inr z => exact .str z
/-- what asks all keys of a dict -/
theorem ev_mayKeys {i : Nat} {r : List V → Hp → VK → Prop} {g : TG} {vs : List Nat} {x : PyData} {es : List (PyData × PyData)} (hg : γ[i]? = some (some (.dict es))) (o : isOb (.dict es) = false) (hb : Ev K γ (tCB r (tCons (tLc (keysW i) g t te vs) tNil)) x) (hx : atomD x = true := by rfl) : Ev K γ (tMay (tCB r (tCons (tLc (iKeys (tVar i)) g t te vs) tNil))) x := fun S σ H fi fr Q q => by
  obtain ⟨v, hv, hd⟩ := fi.get i _ hg
  obtain ⟨a, kvs, rfl, s, hq, hP⟩ := hd.dct_inv o
  rcases hq with ha | ⟨od, ha⟩
  · refine .inr ⟨a, .dK kvs, ha, trivial, fun od => ?_⟩
    have ch : Chg (fun b => b = a) H (upd H a (.frz od (.dK kvs))) := Chg.upd ha trivial
    have kp : Keep S H (upd H a (.frz od (.dK kvs))) := ⟨fun b u sb h n => by
      by_cases e : b = a
      · subst e
        rcases h with h | ⟨o', h⟩
        · rw [ha] at h
          cases h
          exact .inr ⟨od, upd_same⟩
        · rw [ha] at h
          cases h
      · rcases h with h | ⟨o', h⟩
        · exact .inl (by rw [upd_ne e]; exact h)
        · exact .inr ⟨o', by rw [upd_ne e]; exact h⟩, fun b C d f sb h => by
      have e : b ≠ a := fun z => by
        subst z
        rw [ha] at h
        cases h
      rw [upd_ne e]
      exact h, fun b xs h => by
      have e : b ≠ a := fun z => by
        subst z
        rcases h with h | ⟨o', h⟩ <;> (rw [ha] at h; cases h)
      rcases h with h | ⟨o', h⟩
      · exact .inl (by rw [upd_ne e]; exact h)
      · exact .inr ⟨o', by rw [upd_ne e]; exact h⟩⟩
    have f1 : Fits K S γ σ (upd H a (.frz od (.dK kvs))) := fi.move (.keep kp)
    have fr1 : Frs S (upd H a (.frz od (.dK kvs))) := ⟨fun p hp => fr.new p (fun u hu => by
      have e : p ≠ a := fun z => by
        subst z
        obtain ⟨ps, z⟩ := hp _ upd_same
        cases z
      exact hp u (by rw [upd_ne e]; exact hu)), ch.tabs fr.tabs⟩
    refine hb S σ _ f1 fr1 _ (fun v H2 e2 hv2 => ?_) ⟨a, od, kvs, hv, upd_same⟩
    have h2 : H2 a = some (.frz od (.dK kvs)) := e2.keep a _ upd_same fun _ z => nomatch z
    refine ⟨h2, q v _ ⟨fun b u hu n => ?_, fun tb => ?_⟩ (hv2.atom hx _ _)⟩
    · by_cases e : b = a
      · subst e
        rw [ha] at hu
        cases hu
        exact upd_same
      · rw [upd_ne e]
        exact e2.keep b u (by rw [upd_ne e]; exact hu) n
    · exact fun w hw => tabs_frz h2 (e2.tabs (ch.tabs tb) w hw)
  · exact .inl (hb S σ H fi fr Q q ⟨a, od, kvs, hv, ha⟩)
end
end LK
namespace LK
open PySem PySem.Spec PyProof.Rows L2
variable [Tbs]
/-! ### len of what may be a list, a tuple or a dict -/
def rLenA (K : PySem.W.Frag) : List V → Hp → VK → Prop := fun xs H Q => rLenU K xs H Q ∨ ∃ a kvs, xs = [V.ref a] ∧ Rd H a (.dK kvs) ∧ Q (.int kvs.length) H
theorem cr_lenA {X : Cx} {K : PySem.W.Frag} (h : X.K = K) : CallR X (.builtin "len") (rLenA K) := by
  subst h
  intro pins s σ H xs us Q I r q
  rcases q with q | ⟨a, kvs, rfl, ha, q⟩
  · exact cr_lenU pins s σ H xs us Q I r q
  · cases r with
    | cons r1 r2 =>
      cases r2
      cases r1
      exact d_len I ha fun t s' I' => ⟨.int kvs.length, H, I', ⟨t, rfl⟩, q⟩
section
variable {K : PySem.W.Frag}
theorem ec_lenAL {ds : List PyData} : EvC K (rLenA K) [.list ds] (.int ds.length) := fun S vs H f hv Q q => .inl (ec_lenL S vs H f hv Q q)
theorem ec_lenAT {ds : List PyData} : EvC K (rLenA K) [.tuple ds] (.int ds.length) := fun S vs H f hv Q q => .inl (ec_lenT S vs H f hv Q q)
theorem ec_lenAD {es : List (PyData × PyData)} (o : isOb (.dict es) = false) : EvC K (rLenA K) [.dict es] (.int es.length) := fun S vs H f hv Q q => by
  obtain ⟨v, rfl, h1⟩ := hv.one_inv
  obtain ⟨a, kvs, rfl, s, hq, hP⟩ := h1.dct_inv o
  refine .inr ⟨a, kvs, rfl, hq, ?_⟩
  have := hP.len
  rw [List.length_map] at this
  rw [this]
  exact q _ H (Ext.refl H) (.int _)
end
end LK
namespace LK
open PySem PySem.Spec PyProof.Rows L2
/-! ### the end of a law in whose program several defs hold lambdas -/
/-- Ls: (the def's name, its code object, the code object's table, the def's record) -/
theorem law_tabN {l : PySem.W.OpenLaw} {w : World} {K : PySem.W.Frag} {CX : CXT} {k n : Nat} {x : Str} {mg mb : Str → Option Value} {fa : Addr} {h : Heap} {fd : FuncData} {sp : Sp} {p : Program} {ls : List Str} {mean : ExcName → Option Value} (Ls : List (Str × Addr × Addr × DefRec))
    (T : Top p ls mean mg mb h) (KX : K.In h) (hr : ∀ e ∈ Ls, (recsOf p).find? (fun r => r.name == e.1) = some e.2.2.2) (ht : ∀ e ∈ Ls, PySem.W.tabIn K e.1 = some (e.2.1, e.2.2.1)) (nK : ∀ e ∈ Ls, K.lookup e.2.2.1 = none)
    (hb : ∀ (s : Shared) (u : Value), BindsTo s fd ⟨[u], []⟩ [(x, u)])
    (hsp : ∀ (H : Hp) (a : Addr) (ns : List Int), ns.length ≤ n → (∀ e ∈ Ls, ∀ q, LamX.TabS H e.2.2.1 q) → SqL K H a (ns.map V.int) → sp [.ref a] H (fun v _ => v = .bl true) fun _ _ _ => False)
    (hF : ∀ base : Heap, K.In base → base.Ns mainGlobals mg → (∀ e ∈ Ls, LamX.TabB base mg e.2.1 e.2.2.1) → FnOk l.prog w K mg base CX k fa fd [x] sp) : LamX.LawAtS l w K CX k n x mg fa h := by
  have mem : ∀ {p : Addr × Addr}, p ∈ Ls.map (fun e => (e.2.1, e.2.2.1)) → ∃ e ∈ Ls, (e.2.1, e.2.2.1) = p := fun h => List.mem_map.mp h
  have up : ∀ {e : Str × Addr × Addr × DefRec}, e ∈ Ls → (e.2.1, e.2.2.1) ∈ Ls.map (fun e => (e.2.1, e.2.2.1)) := fun h => List.mem_map.mpr ⟨_, h, rfl⟩
  refine ⟨fd, Ls.map fun e => (e.2.1, e.2.2.1), sp, fun p hp => ?_, fun p hp => ?_, fun p hp => ?_, hb, fun H a ns hl _ hT hS => hsp H a ns hl (fun e he q => .nil (hT _ (up he))) hS, fun base h1 h2 hT => hF base h1 h2 fun e he => hT _ (up he)⟩
  · obtain ⟨e, he, rfl⟩ := mem hp
    exact (PySem.W.tab_of T KX (hr e he) (ht e he)).2
  · obtain ⟨e, he, rfl⟩ := mem hp
    exact nK e he
  · obtain ⟨e, he, rfl⟩ := mem hp
    exact (PySem.W.tab_of T KX (hr e he) (ht e he)).1
end LK
namespace LK
open PySem PySem.Spec PyProof.Rows L2
variable [Tbs]
/-! ### new data: its lists at places of their own -/
mutual
inductive DsU (K : PySem.W.Frag) (H : Hp) : V → PyData → List Addr → Prop
  | atom {v : V} {d : PyData} : atomD d = true → Ds K (fun _ => False) H v d → DsU K H v d []
  | lst {a : Addr} {xs : List V} {ds : List PyData} {L : List Addr} : H a = some (.lst xs) → DsUA K H xs ds L → DsU K H (.ref a) (.list ds) (a :: L)
  | tup {a : Addr} {xs : List V} {ds : List PyData} {L : List Addr} : SqT K H a xs → DsUA K H xs ds L → DsU K H (.ref a) (.tuple ds) L
inductive DsUA (K : PySem.W.Frag) (H : Hp) : List V → List PyData → List Addr → Prop
  | nil : DsUA K H [] [] []
  | cons {v : V} {vs : List V} {d : PyData} {ds : List PyData} {L1 L2 : List Addr} : DsU K H v d L1 → DsUA K H vs ds L2 → DsUA K H (v :: vs) (d :: ds) (L1 ++ L2)
end
section
variable {K : PySem.W.Frag} {S S' : Addr → Prop} {H H' H0 : Hp}
mutual
theorem DsU.ds : ∀ {v : V} {d : PyData} {L : List Addr}, DsU K H v d L → (∀ a ∈ L, S a) → Ds K S H v d
  | _, _, _, .atom e h, _ => h.atom e _ _
  | _, _, _, .lst e h, s => .lst (s _ List.mem_cons_self) (.inl e) (h.ds fun a ha => s a (List.mem_cons_of_mem _ ha))
  | _, _, _, .tup e h, s => .tup e (h.ds s)
theorem DsUA.ds : ∀ {vs : List V} {ds : List PyData} {L : List Addr}, DsUA K H vs ds L → (∀ a ∈ L, S a) → DsAll K S H vs ds
  | _, _, _, .nil, _ => .nil
  | _, _, _, .cons h t, s => .cons (h.ds fun a ha => s a (List.mem_append_left _ ha)) (t.ds fun a ha => s a (List.mem_append_right _ ha))
end
mutual
theorem DsU.keep : ∀ {v : V} {d : PyData} {L : List Addr}, DsU K H v d L → (∀ a ∈ L, ∀ xs, H a = some (.lst xs) → H' a = some (.lst xs)) → (∀ a xs, SqT K H a xs → SqT K H' a xs) → DsU K H' v d L
  | _, _, _, .atom e h, _, _ => .atom e (h.atom e _ _)
  | _, _, _, .lst e h, s, t => .lst (s _ List.mem_cons_self _ e) (h.keep (fun a ha => s a (List.mem_cons_of_mem _ ha)) t)
  | _, _, _, .tup e h, s, t => .tup (t _ _ e) (h.keep s t)
theorem DsUA.keep : ∀ {vs : List V} {ds : List PyData} {L : List Addr}, DsUA K H vs ds L → (∀ a ∈ L, ∀ xs, H a = some (.lst xs) → H' a = some (.lst xs)) → (∀ a xs, SqT K H a xs → SqT K H' a xs) → DsUA K H' vs ds L
  | _, _, _, .nil, _, _ => .nil
  | _, _, _, .cons h t, s, u => .cons (h.keep (fun a ha => s a (List.mem_append_left _ ha)) u) (t.keep (fun a ha => s a (List.mem_append_right _ ha)) u)
end
theorem DsU.same (e : Ext H H') {v : V} {d : PyData} {L : List Addr} (h : DsU K H v d L) : DsU K H' v d L := h.keep (fun a _ xs h => e.lst h) fun a xs h => sqT_keep (S := fun _ => True) (Keep.of e) h
theorem DsUA.same (e : Ext H H') {v : List V} {d : List PyData} {L : List Addr} (h : DsUA K H v d L) : DsUA K H' v d L := h.keep (fun a _ xs h => e.lst h) fun a xs h => sqT_keep (S := fun _ => True) (Keep.of e) h
mutual
theorem DsU.trk : ∀ {v : V} {d : PyData} {L : List Addr}, DsU K H v d L → ∀ a ∈ L, ∃ xs, H a = some (.lst xs)
  | _, _, _, .atom e h, _, z => (List.not_mem_nil z).elim
  | _, _, _, .lst e h, a, z => by
    rcases List.mem_cons.mp z with z | z
    · subst z
      exact ⟨_, e⟩
    · exact h.trk a z
  | _, _, _, .tup e h, a, z => h.trk a z
theorem DsUA.trk : ∀ {vs : List V} {ds : List PyData} {L : List Addr}, DsUA K H vs ds L → ∀ a ∈ L, ∃ xs, H a = some (.lst xs)
  | _, _, _, .nil, _, z => (List.not_mem_nil z).elim
  | _, _, _, .cons h t, a, z => by
    rcases List.mem_append.mp z with z | z
    · exact h.trk a z
    · exact t.trk a z
end
theorem DsUA.app : ∀ {vs ws : List V} {ds es : List PyData} {L M : List Addr}, DsUA K H vs ds L → DsUA K H ws es M → DsUA K H (vs ++ ws) (ds ++ es) (L ++ M)
  | _, _, _, _, _, _, .nil, h => h
  | _, _, _, _, _, _, .cons a t, h => by
    rw [List.append_assoc]
    exact .cons a (t.app h)
theorem DsUA.one {v : V} {d : PyData} {L : List Addr} (h : DsU K H v d L) : DsUA K H [v] [d] L := by
  have := DsUA.cons h (DsUA.nil (K := K) (H := H))
  rwa [List.append_nil] at this
theorem DsUA.len : ∀ {vs : List V} {ds : List PyData} {L : List Addr}, DsUA K H vs ds L → vs.length = ds.length
  | _, _, _, .nil => rfl
  | _, _, _, .cons _ t => by rw [List.length_cons, List.length_cons, t.len]
end
def EvU (K : PySem.W.Frag) (γ : Gm) (te : TE) (d : PyData) : Prop :=
  ∀ (S : Addr → Prop) (σ : L2.St) (H : Hp), Fits K S γ σ H → Frs S H → ∀ Q : VK, (∀ v L H2, Ext H H2 → L.Nodup → (∀ a ∈ L, Nt H a) → DsU K H2 v d L → Q v H2) → te σ H Q
/-- called with data it hands back new data -/
def spU (K : PySem.W.Frag) (R : List PyData → PyData → Prop) : Sp := fun vs H Q _ => ∃ (S : Addr → Prop) (ds : List PyData) (x : PyData), DsAll K S H vs ds ∧ Frs S H ∧ R ds x ∧ ∀ v L H2, Ext H H2 → L.Nodup → (∀ a ∈ L, Nt H a) → DsU K H2 v x L → Q v H2
/-- a body, new data at its end -/
def RunU (K : PySem.W.Frag) (γ : Gm) (ρ : Rho) (ts : TS) (x : PyData) : Prop :=
  ∀ (S : Addr → Prop) (σ : L2.St) (H : Hp), Sta K S γ ρ σ H → ∀ D : Ends, (∀ v L H', Chg (dom ρ) H H' → (∀ p, Nt H' p → Nt H p) → L.Nodup → (∀ a ∈ L, Nt H a) → DsU K H' v x L → D.rt v H') → ts D σ H
section
variable {K : PySem.W.Frag} {γ γ' : Gm} {ρ ρ' : Rho} {te ta tb : TE} {tt : TT} {t u : TS} {x y d : PyData} {R : List PyData → PyData → Prop} {E : XK}
theorem EvU.is {d' : PyData} (h : EvU K γ te d) (e : d = d') : EvU K γ te d' := e ▸ h
theorem EvU.ev (h : EvU K γ te d) : Ev K γ te d := fun S σ H f fr Q q => h S σ H f fr Q fun v L H2 e nd nt hv => q v H2 e (hv.ds fun a ha => fr.new a (nt a ha))
theorem eu_atom (h : Ev K γ te d) (a : atomD d = true := by rfl) : EvU K γ te d := fun S σ H f fr Q q => h S σ H f fr Q fun v H2 e hv => q v [] H2 e List.nodup_nil (fun a h => (List.not_mem_nil h).elim) (.atom a (hv.atom a _ _))
theorem eu_tup2 (ha : EvU K γ ta x) (hb : EvU K γ tb y) : EvU K γ (tTup (tCons ta (tCons tb tNil))) (.tuple [x, y]) := fun S σ H f fr Q q =>
  ha S σ H f fr _ fun v L H2 e2 nd2 nt2 hv => hb S σ H2 (f.same e2) (fr.same e2) _ fun w M H3 e3 nd3 nt3 hw => ⟨sz_of (Nat.le_of_ble_eq_true rfl), fun p hp => by
    have e4 := same_new (o := .tup [v, w]) hp
    refine q (.ref p) (L ++ M) _ (e2.trans (e3.trans e4)) (List.nodup_append.mpr ⟨nd2, nd3, fun a h1 b h2 z => ?_⟩) (fun a h => ?_) (.tup (.inl (.inl upd_same)) ?_)
    · subst z
      obtain ⟨xs, h⟩ := hv.trk a h1
      exact (nt3 a h2).lst h
    · rcases List.mem_append.mp h with h | h
      · exact nt2 a h
      · exact e2.nt (nt3 a h)
    · exact .cons ((hv.same e3).same e4) (.one (hw.same e4))⟩
theorem eu_lcG {ti : TI} {g : TG} {vs : List Nat} {n : Nat} {y : Nat → PyData} {f : Nat → PyData} {γ' : Nat → Gm}
    (h : EvW K γ ti n y) (hz : n ≤ 1000000) (hv : GIn g vs) (hg : ∀ i, i < n → EvG K g (wipeG γ vs) (y i) (γ' i))
    (he : ∀ i, i < n → EvU K (γ' i) te (f i)) : EvU K γ (tLc ti g tYes te vs) (.list ((List.range n).map f)) := fun S σ H fi fr Q q =>
  h S σ H fi fr _ fun J H2 e2 W D hD => by
    have fr2 := fr.same e2
    have res : Res H2 S (fun a => S a ∧ a ≠ D) := Res.ne hD
    obtain ⟨G, wk, g0, gk⟩ := W _ res
    have fi2 : Fits K (fun a => S a ∧ a ≠ D) (wipeG γ vs) (L2.wipe σ vs) H2 := ((fi.same e2).res res).wipe vs
    refine lc_it wk (fun i H' => ∃ acc L, Ext H2 H' ∧ H' D = some (.lst acc) ∧ DsUA K H' acc ((List.range i).map f) L ∧ (D :: L).Nodup ∧ ∀ a ∈ L, Nt H2 a) ⟨[], [], same_new hD, upd_same, .nil, by simp, fun a h => (List.not_mem_nil h).elim⟩ (fun i H' hi p => ?_) (fun i x H3 H4 hi p yy => ?_) (fun H' p => ?_)
    · obtain ⟨acc, L, p1, p2, p3⟩ := p
      exact gk H2 H' (.of p1) g0
    · obtain ⟨acc, L, p1, p2, p3, p4, p5⟩ := p
      obtain ⟨y1, y2⟩ := yy
      have k24 : Ext H2 H4 := p1.trans y1
      refine hv x σ H4 _ (hg i hi _ _ x H4 (fi2.same k24) y2 _ fun σ' fi' => ?_)
      have dis : Frs (fun a => S a ∧ a ≠ D) H4 := ⟨fun p hp => ⟨fr2.new p (k24.nt hp), fun z => by
        subst z
        exact hp.lst (y1.lst p2)⟩, (fr2.same k24).tabs⟩
      have accs := p3.same y1
      show te _ H4 _
      refine he i hi _ σ' H4 fi' dis _ fun v M H7 e7 nd nt hv => ⟨acc, e7.lst (y1.lst p2), sz_lt ?_, acc ++ [v], L ++ M, ?_, upd_same, ?_, ?_, ?_⟩
      · rw [accs.len, List.length_map, List.length_range]
        omega
      · exact same_mut (k24.trans e7) (.of hD) (e7.lst (y1.lst p2))
      · rw [List.range_succ, List.map_append]
        have kk : Keep (fun a => a ≠ D) H7 (upd H7 D (.lst (acc ++ [v]))) := Keep.upd (e7.lst (y1.lst p2)) (fun z => z rfl)
        have nl : ∀ a ∈ L, a ≠ D := fun a ha z => (List.nodup_cons.mp p4).1 (z ▸ ha)
        have nm : ∀ a ∈ M, a ≠ D := fun a ha z => by
          subst z
          exact (nt a ha).lst (y1.lst p2)
        exact ((accs.same e7).keep (fun a ha xs h => by rw [upd_ne (nl a ha)]; exact h) fun a xs h => sqT_keep kk h).app (.one (hv.keep (fun a ha xs h => by rw [upd_ne (nm a ha)]; exact h) fun a xs h => sqT_keep kk h))
      · have := List.nodup_cons.mp p4
        refine List.nodup_cons.mpr ⟨fun z => ?_, List.nodup_append.mpr ⟨this.2, nd, fun a h1 b h2 z => ?_⟩⟩
        · rcases List.mem_append.mp z with z | z
          · exact this.1 z
          · exact (nt D z).lst (y1.lst p2)
        · subst z
          obtain ⟨xs, hx⟩ := accs.trk a h1
          exact (nt a h2).lst hx
      · intro a ha
        rcases List.mem_append.mp ha with h | h
        · exact p5 a h
        · exact k24.nt (nt a h)
    · obtain ⟨acc, L, p1, p2, p3, p4, p5⟩ := p
      refine q _ (D :: L) H' (e2.trans p1) p4 (fun a ha => ?_) (.lst p2 p3)
      rcases List.mem_cons.mp ha with h | h
      · subst h
        exact e2.nt (.of hD)
      · exact e2.nt (p5 a h)
theorem eu_lcM {α : Type} {g f : α → PyData} {rs : List α} {tl : TE} {j : Nat} {vs : List Nat} (h : Ev K γ tl (.list (rs.map g))) (hz : rs.length ≤ 1000000) (hj : j ∈ vs) (he : ∀ r, r ∈ rs → EvU K ((wipeG γ vs).set j (some (g r))) te (f r)) : EvU K γ (tLc (iList K tl) (gName j) tYes te vs) (.list (rs.map f)) := by
  have hl : (rs.map g).length = rs.length := List.length_map ..
  have w := ew_list h
  rw [hl] at w
  refine EvU.is (eu_lcG (f := fun i => (rs[i]?.map f).getD .none) w hz (gin_name hj) (fun i hi => eg_name) fun i hi => ?_) (congrArg PyData.list (map_getD rs g f _ fun i r hr => by rw [hr]; rfl))
  have hr : rs[i]? = some rs[i] := List.getElem?_eq_getElem hi
  have e1 : (rs.map g).getD i .none = g rs[i] := by rw [List.getD_eq_getElem?_getD, List.getElem?_map, hr]; rfl
  rw [e1, hr]
  exact he _ (List.getElem_mem hi)
theorem eu_call {ta : TA} {ds : List PyData} (ha : EvA K γ ta ds) (hr : R ds x) : EvU K γ (tCall (spU K R) [] E ta) x := fun S σ H f fr Q q =>
  ha S σ H f fr _ fun vs H2 e2 hv => ⟨S, ds, x, by rw [List.append_nil]; exact hv, fr.same e2, hr, fun v L H3 e3 nd nt hx => q v L H3 (e2.trans e3) nd (fun a ha => e2.nt (nt a ha)) hx⟩
theorem ru_seq {N : Gm → Rho → Prop} (h : RunR K γ ρ t N fun _ _ => False) (k : ∀ γ' ρ', N γ' ρ' → RunU K γ' ρ' u x) : RunU K γ ρ (tSeq t u) x := fun S σ H st D q =>
  h S σ H st _ (fun S1 σ1 γ1 ρ1 H1 n s1 e1 => k γ1 ρ1 n S1 σ1 H1 s1 D fun v L H2 c2 a2 nd nt hv => q v L H2 (Chg.mk (fun b o nb hb ho => c2.keep b o (fun z => by
    rcases e1.new b z with z | z
    · exact nb z
    · obtain ⟨ps, e⟩ := z o hb
      exact ho ps e) (e1.chg.keep b o nb hb ho) ho) fun t => c2.tabs (e1.chg.tabs t)) (fun p hp => e1.al p (a2 p hp)) nd (fun a ha => e1.al a (nt a ha)) hv) fun S1 v y ρ1 H1 z _ _ _ => z.elim
theorem ru_step (hs : Step K γ ρ γ' ρ') (h : RunU K γ' ρ' t x) : RunU K γ ρ t x := fun S σ H st D q => by
  obtain ⟨S1, st1, e1⟩ := hs S σ H st
  refine h S1 σ H st1 D fun v L H2 c2 a2 nd nt hv => q v L H2 (Chg.mk (fun b o nb hb ho => c2.keep b o (fun z => ?_) hb ho) c2.tabs) a2 nd nt hv
  rcases e1.new b z with z | z
  · exact nb z
  · obtain ⟨ps, e⟩ := z o hb
    exact ho ps e
theorem ru_ret (h : EvU K γ te x) : RunU K γ ρ (tRet te) x := fun S σ H st D q => h S σ H st.fits st.frs _ fun v L H2 e nd nt hv => q v L H2 (.of e) (fun p hp => e.nt hp) nd nt hv
theorem ru_if1 (h : EvB K γ tt true) (k : RunU K γ ρ t x) : RunU K γ ρ (tIfS tt t u) x := fun S σ H st D q => by
  refine h S σ H st.fits st.frs _ fun H2 e => iteT ?_
  exact k S σ H2 (st.ext e) D fun v L H3 c a nd nt hv => q v L H3 (Chg.mk (fun b o nb hb ho => c.keep b o nb (e.keep b o hb ho) ho) fun t => c.tabs (e.tabs t)) (fun p hp => e.nt (a p hp)) nd (fun p hp => e.nt (nt p hp)) hv
theorem ru_seqR (h : RunU K γ ρ t x) : RunU K γ ρ (tSeq t u) x := fun S σ H st D q => h S σ H st _ q
end
end LK
namespace LK
open PySem PySem.Spec PyProof.Rows L2
variable [Tbs]
/-! ### several are given up at once; a dict of own lists; sorted(d) -/
section
variable {K : PySem.W.Frag} {S : Addr → Prop} {H : Hp} {γ γv : Gm} {ρ ρ0 : Rho} {σ : L2.St} {te td ty ta tb tx : TE} {x d y : PyData} {p : Addr} {n : Nat} {A : PyData → Rho → Prop}
theorem step_freezeTail {ρ2 : Rho} (V : View K γ (ρ0 ++ ρ2) (ρ2.map (·.1)) γv) : Step K γ (ρ0 ++ ρ2) γv ρ0 := fun S σ H st => by
  have hsub : ∀ q ∈ ρ0, q ∈ ρ0 ++ ρ2 := fun q hq => List.mem_append_left _ hq
  have nd := st.nd
  rw [List.map_append, List.nodup_append] at nd
  refine ⟨fun a => S a ∨ a ∈ ρ2.map (·.1), { frs := frs_or st.frs, own := fun q hq => ⟨fun z => ?_, Ct.move (Mv.res (.of fun a s => .inl s)) (fun o h _ => h) (st.own q (hsub q hq)).2⟩, nd := nd.1, fits := V S σ H st }, ⟨⟨fun b o _ h _ => h, fun t => t⟩, fun a d => .inl ?_, fun a s => ?_, fun a s _ => .inl s, fun a h => h⟩⟩
  · rcases z with z | z
    · exact (st.own q (hsub q hq)).1 z
    · exact nd.2.2 _ (List.mem_map.mpr ⟨q, hq, rfl⟩) _ z rfl
  · obtain ⟨q, hq, e⟩ := List.mem_map.mp d
    exact List.mem_map.mpr ⟨q, hsub q hq, e⟩
  · rcases s with s | s
    · exact .inl s
    · exact .inr (by unfold dom; rw [List.map_append]; exact List.mem_append_right _ s)
/-! a dict of own lists, its keys numbers -/
abbrev Gp := List (Int × Addr × List PyData)
def grpE (G : Gp) : List (PyData × PyData) := G.map fun g => (.int g.1, rf g.2.1)
def grpL (G : Gp) : Rho := G.map fun g => (g.2.1, .lst g.2.2)
def grpR (p : Addr) (G : Gp) : Rho := (p, .dct (grpE G)) :: grpL G
def grpD (G : Gp) : List (PyData × PyData) := G.map fun g => (.int g.1, .list g.2.2)
def GStep (z : Int) (x : PyData) (G G' : Gp) : Prop :=
  (∃ pre a xs post, G = pre ++ (z, a, xs) :: post ∧ G' = pre ++ (z, a, xs ++ [x]) :: post) ∨ (z ∉ G.map (·.1) ∧ ∃ a, G' = G ++ [(z, a, [x])])
theorem lk_grpE (z : Int) (post : Gp) (a : Addr) (xs : List PyData) : ∀ (pre : Gp), ((pre ++ (z, a, xs) :: post).map (·.1)).Nodup → lkD (grpE (pre ++ (z, a, xs) :: post)) (.inl z) = some (rf a)
  | [], nd => lkD_pos (decide_eq_true rfl)
  | q :: pre, nd => by
    rw [List.cons_append, List.map_cons, List.nodup_cons] at nd
    have ne : q.1 ≠ z := fun e => nd.1 (by rw [e, List.map_append, List.map_cons]; exact List.mem_append_right _ List.mem_cons_self)
    exact (lkD_neg (k := .int q.1) (show kEq (.int q.1) (.inl z) = false from decide_eq_false ne)).trans (lk_grpE z post a xs pre nd.2)
theorem lk_grpE0 : ∀ {G : Gp} {z : Int}, z ∉ G.map (·.1) → lkD (grpE G) (.inl z) = none
  | [], z, _ => rfl
  | q :: G, z, h => (lkD_neg (k := .int q.1) (show kEq (.int q.1) (.inl z) = false from decide_eq_false fun e => h (by rw [← e]; exact List.mem_cons_self))).trans (lk_grpE0 fun m => h (List.mem_cons_of_mem _ m))
theorem grp_split : ∀ {G : Gp} {z : Int}, z ∈ G.map (·.1) → ∃ pre a xs post, G = pre ++ (z, a, xs) :: post
  | q :: G, z, h => by
    by_cases e : z = q.1
    · subst e
      exact ⟨[], q.2.1, q.2.2, G, rfl⟩
    · rcases List.mem_cons.mp h with h | h
      · exact absurd h e
      · obtain ⟨pre, a, xs, post, rfl⟩ := grp_split h
        exact ⟨q :: pre, a, xs, post, rfl⟩
theorem grp_set {pre post : Gp} {z : Int} {a : Addr} {xs ys : List PyData} {ρ0 : Rho} : (ρ0 ++ grpR p (pre ++ (z, a, xs) :: post)).set (ρ0.length + (1 + pre.length)) (a, .lst ys) = ρ0 ++ grpR p (pre ++ (z, a, ys) :: post) := by
  rw [List.set_append_right _ _ (by omega), Nat.add_sub_cancel_left]
  congr 1
  unfold grpR grpE grpL
  rw [Nat.add_comm 1 pre.length, List.set_cons_succ]
  simp only [List.map_append, List.map_cons]
  congr 1
  rw [List.set_append_right _ _ (by rw [List.length_map]; exact Nat.le_refl _), List.length_map, Nat.sub_self]
  rfl
theorem grp_at {pre post : Gp} {z : Int} {a : Addr} {xs : List PyData} {ρ0 : Rho} : (ρ0 ++ grpR p (pre ++ (z, a, xs) :: post))[ρ0.length + (1 + pre.length)]? = some (a, .lst xs) := by
  rw [List.getElem?_append_right (by omega), Nat.add_sub_cancel_left]
  unfold grpR grpL
  rw [Nat.add_comm 1 pre.length, List.getElem?_cons_succ, List.map_append, List.getElem?_append_right (by rw [List.length_map]; exact Nat.le_refl _), List.length_map, Nat.sub_self]
  rfl
theorem rr_setdApp {G : Gp} {z : Int} (hd : Ev K γ td (rf p)) (hk : Ev K γ ty (.int z)) (hx : Ev K γ te x) (nd : (G.map (·.1)).Nodup) (hl : G.length ≤ 1000) (hz : ∀ g ∈ G, g.2.2.length ≤ 900000) :
    RunR K γ (ρ0 ++ grpR p G) (tDrop (tBM K "list" rAppend (tDSetd td ty (tLst tNil)) (tCons te tNil))) (fun g r => g = γ ∧ ∃ G', GStep z x G G' ∧ r = ρ0 ++ grpR p G') A := fun S σ H st D qn qr => by
  have hp : (ρ0 ++ grpR p G)[ρ0.length]? = some (p, .dct (grpE G)) := by
    rw [List.getElem?_append_right (Nat.le_refl _), Nat.sub_self]
    rfl
  refine hd S σ H st.fits st.frs _ fun v1 H1 e1 hv1 => ?_
  rw [hv1.rf_inv]
  have st1 := st.ext e1
  obtain ⟨_, kvs1, k1, _⟩ := st1.own _ (List.mem_of_getElem? hp)
  refine ⟨p, rfl, .inl ⟨kvs1, .inl k1⟩, ?_⟩
  refine hk S σ H1 st1.fits st1.frs _ fun v2 H2 e2 hv2 => ?_
  rw [hv2.int_inv]
  have st2 := st1.ext e2
  refine ⟨Nat.zero_le _, fun l hl0 => ?_⟩
  by_cases hm : z ∈ G.map (·.1)
  · obtain ⟨pre, a, xs, post, rfl⟩ := grp_split hm
    have e3 := same_new (o := .lst []) hl0
    have st3 := st2.ext e3
    obtain ⟨_, kvs, a1, a2⟩ := st3.own _ (List.mem_of_getElem? hp)
    obtain ⟨u, hu, hu2⟩ := a2.get (k := .inl z) (lk_grpE z post a xs pre nd)
    rw [hu2.rf_inv] at hu
    have hlen : kvs.length < sizeLine := sz_lt (by
      have := a2.len
      unfold grpE at this
      rw [List.length_map, List.length_map] at this
      omega)
    refine ⟨kvs, .inl z, a1, rfl, hlen, fun v hv => ?_, fun hv => ?_⟩
    · rw [hu] at hv
      injection hv with hv
      subst hv
      obtain ⟨_, ys, b1, b2⟩ := st3.own _ (List.mem_of_getElem? (grp_at (p := p) (pre := pre) (post := post) (z := z) (a := a) (xs := xs) (ρ0 := ρ0)))
      refine ⟨.inl ⟨rfl, _, .inl (.inl b1)⟩, ?_⟩
      refine hx S σ _ st3.fits st3.frs _ fun v4 H4 e4 hv4 => ?_
      have st4 := st3.ext e4
      obtain ⟨_, acc, c1, c2⟩ := st4.own _ (List.mem_of_getElem? (grp_at (p := p) (pre := pre) (post := post) (z := z) (a := a) (xs := xs) (ρ0 := ρ0)))
      obtain ⟨r5, e5⟩ := st4.toStR.put (u := .lst (acc ++ [v4])) (c' := .lst (xs ++ [x])) (grp_at (p := p) (pre := pre) (post := post) (z := z) (a := a) (xs := xs) (ρ0 := ρ0)) c1 trivial trivial fun m => ⟨_, upd_same, (c2.move m).app (.one (hv4.move m))⟩
      have hz' := hz (z, a, xs) (by simp)
      refine ⟨a, acc, v4, rfl, rfl, c1, sz_lt (by rw [c2.len]; dsimp only at hz'; omega), ?_⟩
      refine qn S σ γ _ _ ⟨rfl, pre ++ (z, a, xs ++ [x]) :: post, .inl ⟨pre, a, xs, post, rfl, rfl⟩, grp_set⟩ { r5 with fits := st4.fits.move (e5.mv st4.toStR) } ((Eff.ext (e1.trans (e2.trans (e3.trans e4)))).trans st.frs e5)
    · rw [hu] at hv
      cases hv
  · obtain ⟨r3, e3⟩ := st2.toStR.newO (c := .lst []) (u := .lst []) hl0 trivial fun _ => ⟨[], upd_same, .nil⟩
    have st3 : Sta K (fun a => S a ∧ a ≠ l) γ (ρ0 ++ grpR p G ++ [(l, Ct.lst [])]) σ (upd H2 l (.lst [])) := { r3 with fits := st2.fits.move (e3.mv st2.toStR) }
    have hp3 : (ρ0 ++ grpR p G ++ [(l, Ct.lst [])])[ρ0.length]? = some (p, .dct (grpE G)) := by
      rw [List.getElem?_append_left (by rw [List.length_append]; exact Nat.lt_add_of_pos_right (Nat.zero_lt_succ _))]
      exact hp
    obtain ⟨_, kvs, a1, a2⟩ := st3.own _ (List.mem_of_getElem? hp3)
    have hlen : kvs.length < sizeLine := sz_lt (by
      have := a2.len
      unfold grpE at this
      rw [List.length_map, List.length_map] at this
      omega)
    have no := a2.no (k := .inl z) (lk_grpE0 hm)
    refine ⟨kvs, .inl z, a1, rfl, hlen, fun v hv => ?_, fun _ => ?_⟩
    · rw [no] at hv
      cases hv
    · obtain ⟨r4, e4⟩ := st3.toStR.put (u := .dK (putK kvs (.inl z) (.ref l))) (c' := .dct (putD (grpE G) (.inl z) (rf l))) hp3 a1 trivial trivial fun m => ⟨_, upd_same, (a2.put (.rf l)).move m⟩
      have st4 : Sta K (fun a => S a ∧ a ≠ l) γ ((ρ0 ++ grpR p G ++ [(l, Ct.lst [])]).set ρ0.length (p, .dct (putD (grpE G) (.inl z) (rf l)))) σ _ := { r4 with fits := st3.fits.move (e4.mv st3.toStR) }
      have ep : putD (grpE G) (.inl z) (rf l) = grpE (G ++ [(z, l, [])]) := by
        unfold putD
        rw [if_neg fun h => ?_]
        · unfold grpE
          rw [List.map_append]
          rfl
        · obtain ⟨q, hq, e⟩ := List.any_eq_true.mp h
          obtain ⟨g, hg, rfl⟩ := List.mem_map.mp hq
          exact hm (List.mem_map.mpr ⟨g, hg, of_decide_eq_true e⟩)
      have er : ((ρ0 ++ grpR p G ++ [(l, Ct.lst [])]).set ρ0.length (p, .dct (putD (grpE G) (.inl z) (rf l)))) = ρ0 ++ grpR p (G ++ [(z, l, [])]) := by
        rw [ep, List.append_assoc, List.set_append_right _ _ (Nat.le_refl _), Nat.sub_self]
        unfold grpR grpL
        rw [List.map_append]
        rfl
      rw [er] at st4 e4
      obtain ⟨_, ys, b1, b2⟩ := st4.own _ (List.mem_of_getElem? (grp_at (p := p) (pre := G) (post := []) (z := z) (a := l) (xs := []) (ρ0 := ρ0)))
      refine ⟨.inl ⟨rfl, _, .inl (.inl b1)⟩, ?_⟩
      refine hx _ σ _ st4.fits st4.frs _ fun v5 H5 e5 hv5 => ?_
      have st5 := st4.ext e5
      obtain ⟨_, acc, c1, c2⟩ := st5.own _ (List.mem_of_getElem? (grp_at (p := p) (pre := G) (post := []) (z := z) (a := l) (xs := []) (ρ0 := ρ0)))
      obtain ⟨r6, e6⟩ := st5.toStR.put (u := .lst (acc ++ [v5])) (c' := .lst ([] ++ [x])) (grp_at (p := p) (pre := G) (post := []) (z := z) (a := l) (xs := []) (ρ0 := ρ0)) c1 trivial trivial fun m => ⟨_, upd_same, (c2.move m).app (.one (hv5.move m))⟩
      refine ⟨l, acc, v5, rfl, rfl, c1, sz_lt (by rw [c2.len]; exact Nat.zero_lt_succ _), ?_⟩
      rw [grp_set] at r6 e6
      refine qn _ σ γ _ _ ⟨rfl, G ++ [(z, l, [x])], .inr ⟨hm, l, rfl⟩, rfl⟩ { r6 with fits := st5.fits.move (e6.mv st5.toStR) } ((Eff.ext (e1.trans e2)).trans st.frs (e3.trans st2.frs (e4.trans st3.frs ((Eff.ext e5).trans st4.frs e6))))
/-- the dict and its lists are given up -/
theorem view_grp {G : Gp} {i : Nat} (hi : γ[i]? = some (some (rf p))) : View K γ (ρ0 ++ grpR p G) ((grpR p G).map (·.1)) (γ.set i (some (.dict (grpD G)))) := View.refl.set i hi fun S H v r hv => by
  rw [hv.rf_inv]
  have hp : (p, Ct.dct (grpE G)) ∈ ρ0 ++ grpR p G := List.mem_append_right _ List.mem_cons_self
  obtain ⟨_, kvs, a1, a2⟩ := r.own _ hp
  refine .dct (.inr List.mem_cons_self) (.inl a1) ?_
  have key : ∀ (G' : Gp) (vs : List (PyData × V)), (∀ g ∈ G', (g.2.1, Ct.lst g.2.2) ∈ grpR p G) → DsP K S H vs (grpE G') → DsP K (fun a => S a ∨ a ∈ (grpR p G).map (·.1)) H vs (grpD G') := by
    intro G'
    induction G' with
    | nil =>
      intro vs _ h
      cases h
      exact .nil
    | cons g G' ih =>
      intro vs hm h
      unfold grpE at h
      rw [List.map_cons] at h
      cases h with
      | cons h1 h2 =>
        refine .cons ?_ (ih _ (fun g hg => hm g (List.mem_cons_of_mem _ hg)) h2)
        rw [h1.rf_inv]
        have hg := hm g List.mem_cons_self
        obtain ⟨_, ys, b1, b2⟩ := r.own _ (List.mem_append_right ρ0 hg)
        exact .lst (.inr (List.mem_map.mpr ⟨_, hg, rfl⟩)) (.inl b1) (b2.res (.of fun a s => .inl s))
  exact key G _ (fun g hg => List.mem_cons_of_mem _ (List.mem_map.mpr ⟨g, hg, rfl⟩)) a2
/-! sorted(d), its keys numbers -/
def rSortDI : List V → Hp → VK → Prop := fun xs H Q => ∃ (a : Addr) (kvs : List (Key × V)) (ks : List Int), xs = [.ref a] ∧ Rd H a (.dK kvs) ∧ kvs.map (·.1) = ks.map Sum.inl ∧ ks.length < 64 ∧ ∀ (ys : List Int) (p : Addr), ys.Perm ks → ys.Pairwise (· ≤ ·) → H p = none → Q (.ref p) (upd H p (.lst (ys.map V.int)))
theorem cr_sortDI {X : Cx} (hc : X.calm = true) : CallR X (.builtin "sorted") rSortDI := call_sortedDI hc
/-- strictly rising, the numbers of a list -/
def insD1 (z : Int) : List Int → List Int
  | [] => [z]
  | y :: r => if z < y then z :: y :: r else if z = y then y :: r else y :: insD1 z r
def rise (l : List Int) : List Int := l.foldr insD1 []
theorem mem_insD1 {z a : Int} : ∀ {l : List Int}, a ∈ insD1 z l ↔ a = z ∨ a ∈ l
  | [] => by simp [insD1]
  | y :: r => by
    unfold insD1
    split
    · simp
    · split
      · rename_i h
        subst h
        simp
      · rw [List.mem_cons, mem_insD1, List.mem_cons]
        constructor
        · rintro (h | h | h)
          · exact .inr (.inl h)
          · exact .inl h
          · exact .inr (.inr h)
        · rintro (h | h | h)
          · exact .inr (.inl h)
          · exact .inl h
          · exact .inr (.inr h)
theorem mem_rise {a : Int} : ∀ {l : List Int}, a ∈ rise l ↔ a ∈ l
  | [] => by simp [rise]
  | y :: r => by
    show a ∈ insD1 y (rise r) ↔ _
    rw [mem_insD1, mem_rise, List.mem_cons]
theorem insD1_lt {z : Int} : ∀ {l : List Int}, l.Pairwise (· < ·) → (insD1 z l).Pairwise (· < ·)
  | [], _ => List.pairwise_singleton _ _
  | y :: r, h => by
    have h2 := List.pairwise_cons.mp h
    unfold insD1
    split
    · rename_i hz
      refine List.pairwise_cons.mpr ⟨fun a ha => ?_, h⟩
      rcases List.mem_cons.mp ha with e | e
      · omega
      · have := h2.1 a e
        omega
    · split
      · exact h
      · refine List.pairwise_cons.mpr ⟨fun a ha => ?_, insD1_lt h2.2⟩
        rcases mem_insD1.mp ha with e | e
        · omega
        · exact h2.1 a e
theorem rise_lt : ∀ {l : List Int}, (rise l).Pairwise (· < ·)
  | [] => .nil
  | _ :: _ => insD1_lt rise_lt
theorem lt_uniq : ∀ {l m : List Int}, l.Pairwise (· < ·) → m.Pairwise (· < ·) → (∀ a, a ∈ l ↔ a ∈ m) → l = m
  | [], [], _, _, _ => rfl
  | [], b :: m, _, _, h => by
    have := (h b).mpr List.mem_cons_self
    cases this
  | a :: l, [], _, _, h => by
    have := (h a).mp List.mem_cons_self
    cases this
  | a :: l, b :: m, hl, hm, h => by
    have h1 := List.pairwise_cons.mp hl
    have h2 := List.pairwise_cons.mp hm
    have e : a = b := by
      rcases List.mem_cons.mp ((h a).mp List.mem_cons_self) with e | e
      · exact e
      · rcases List.mem_cons.mp ((h b).mpr List.mem_cons_self) with f | f
        · exact f.symm
        · have := h1.1 b f
          have := h2.1 a e
          omega
    subst e
    refine congrArg _ (lt_uniq h1.2 h2.2 fun c => ⟨fun hc => ?_, fun hc => ?_⟩)
    · have := h1.1 c hc
      rcases List.mem_cons.mp ((h c).mp (List.mem_cons_of_mem _ hc)) with e | e
      · omega
      · exact e
    · have := h2.1 c hc
      rcases List.mem_cons.mp ((h c).mpr (List.mem_cons_of_mem _ hc)) with e | e
      · omega
      · exact e
theorem sort_rise {ys ks l : List Int} (hp : ys.Perm ks) (hs : ys.Pairwise (· ≤ ·)) (nd : ks.Nodup) (hm : ∀ a, a ∈ ks ↔ a ∈ l) : ys = rise l := by
  have nd' : ys.Nodup := hp.nodup_iff.mpr nd
  refine lt_uniq ?_ rise_lt fun a => by rw [mem_rise, ← hm, hp.mem_iff]
  have := hs.and nd'
  exact this.imp fun {a b} h => by
    have h1 := h.1
    have h2 := h.2
    omega
theorem el_sortDI {es : List (PyData × PyData)} {ks l : List Int} (h : Ev K γ td (.dict es)) (o : isOb (.dict es) = false) (he : es.map (·.1) = ks.map PyData.int) (nd : ks.Nodup) (hm : ∀ a, a ∈ ks ↔ a ∈ l) (h64 : ks.length < 64) : EvL K γ (tCB rSortDI (tCons td tNil)) ((rise l).map PyData.int) := fun S σ H f fr Q q => h S σ H f fr _ fun v H2 e2 hv => by
  obtain ⟨a, kvs, rfl, s, hr, hall⟩ := hv.dct_inv o
  have hk : kvs.map (·.1) = ks.map Sum.inl := by
    have key : ∀ (kvs : List (Key × V)) (es : List (PyData × PyData)) (ks : List Int), DsP K S H2 (kvs.map fun p => (kD p.1, p.2)) es → es.map (·.1) = ks.map PyData.int → kvs.map (·.1) = ks.map Sum.inl := by
      intro kvs
      induction kvs with
      | nil =>
        intro es ks h e
        cases h
        cases ks with
        | nil => rfl
        | cons k ks => cases e
      | cons kv kvs ih =>
        intro es ks h e
        cases h with
        | cons h1 h2 =>
          cases ks with
          | nil => cases e
          | cons k ks =>
            rw [List.map_cons, List.map_cons] at e
            injection e with e1 e2
            rw [List.map_cons, List.map_cons, ih _ _ h2 e2]
            congr 1
            obtain ⟨k', v'⟩ := kv
            cases k' with
            | inl i =>
              injection e1 with e1
              rw [e1]
            | inr z => cases e1
    exact key kvs es ks hall he
  refine ⟨a, kvs, ks, rfl, hr, hk, h64, fun ys p hp hs np => ?_⟩
  rw [sort_rise hp hs nd hm]
  have e3 := same_new (o := .lst ((rise l).map V.int)) np
  exact q p _ _ (e2.trans e3) (e2.nt (.of np)) upd_same ((DsAll.ints (K := K) (rise l)))
/-! d.get(k, e) of an own dict -/
theorem evv_dget2 {es : List (PyData × PyData)} {k : Key} (hd : EvV K γ ρ td (rf p)) (hn : ρ[n]? = some (p, .dct es)) (hk : Ev K γ ty (kD k)) (hx : Ev K γ tx x) : EvV K γ ρ (tDGet2 td ty tx) ((lkD es k).getD x) := fun S σ H st Q q => hd S σ H st _ fun v H1 e1 hv => by
  rw [hv.rf_inv]
  have st1 := st.ext e1
  obtain ⟨_, kvs1, k1, _⟩ := st1.own _ (List.mem_of_getElem? hn)
  refine ⟨p, rfl, .inl ⟨kvs1, .inl k1⟩, ?_⟩
  refine hk S σ H1 st1.fits st1.frs _ fun w H2 e2 hw => ?_
  have st2 := st1.ext e2
  refine hx S σ H2 st2.fits st2.frs _ fun u H3 e3 hu => ?_
  have st3 := st2.ext e3
  obtain ⟨_, kvs, a1, a2⟩ := st3.own _ (List.mem_of_getElem? hn)
  rw [ds_key hw]
  refine ⟨valV kvs k, DGet.k a1, ?_⟩
  have e := e1.trans (e2.trans e3)
  cases hl : lkD es k with
  | some d =>
    obtain ⟨v, hv, hd⟩ := a2.get hl
    rw [hl] at q
    rw [hv]
    exact q _ _ e hd
  | none =>
    rw [hl] at q
    rw [a2.no hl]
    exact q _ _ e hu
end
end LK
namespace LK
open PySem PySem.Spec PyProof.Rows L2
variable [Tbs]
/-! ### a walk that holds its list; defs that hand back new data -/
section
variable {K : PySem.W.Frag} {S : Addr → Prop} {H : Hp} {γ : Gm} {ρ : Rho} {σ : L2.St} {te : TE} {t : TS} {x d : PyData} {p : Addr} {n : Nat} {xs : List PyData} {R : List PyData → PyData → Prop} {E : XK}
theorem erase_ne {c : Ct} (nd : (ρ.map (·.1)).Nodup) (hn : ρ[n]? = some (p, c)) : ∀ q ∈ ρ.eraseIdx n, q.1 ≠ p := fun q hq z => by
  have l := (List.getElem?_eq_some_iff.mp hn).1
  obtain ⟨i, hi, e⟩ := List.mem_eraseIdx_iff_getElem.mp hq
  obtain ⟨hne, e2⟩ := e
  have h1 : (ρ.map (·.1))[n]? = some p := by rw [List.getElem?_map, hn]; rfl
  have h2 : (ρ.map (·.1))[i]? = some p := by rw [List.getElem?_map, List.getElem?_eq_getElem hi, e2]; exact congrArg some z
  exact hne ((List.getElem?_inj (by rw [List.length_map]; exact l) nd).mp (h1.trans h2.symm)).symm
/-- what was done while p was held -/
theorem hold_back {c : Ct} {S' : Addr → Prop} {ρ' : Rho} {H' : Hp} (r : StR K S ρ H) (hn : ρ[n]? = some (p, c)) (r' : StR K S' ρ' H') (e : Eff S (ρ.eraseIdx n) H S' ρ' H') : StR K S' ((p, c) :: ρ') H' ∧ Eff S ρ H S' ((p, c) :: ρ') H' := by
  have hm := List.mem_of_getElem? hn
  have ne := erase_ne r.nd hn
  have own := r.own _ hm
  have trk : ¬ Nt H p := Ct.nnt own.2
  have ndp : ¬ dom (ρ.eraseIdx n) p := fun z => by
    obtain ⟨q, hq, e⟩ := List.mem_map.mp z
    exact ne q hq e
  have sub : ∀ a, dom (ρ.eraseIdx n) a → dom ρ a := fun a h => by
    obtain ⟨q, hq, e⟩ := List.mem_map.mp h
    exact List.mem_map.mpr ⟨q, List.mem_of_mem_eraseIdx hq, e⟩
  have nsp : ¬ S' p := fun z => by
    rcases e.sub p z with z | z
    · exact own.1 z
    · exact ndp z
  have ndp' : ¬ dom ρ' p := fun z => by
    rcases e.new p z with z | z
    · exact ndp z
    · exact trk z
  have rE : StR K S (ρ.eraseIdx n) H := r.sub (fun q hq => List.mem_of_mem_eraseIdx hq) ((List.Sublist.map _ (List.eraseIdx_sublist ρ n)).nodup r.nd)
  refine ⟨{ frs := r'.frs, own := fun q hq => ?_, nd := ?_ }, ⟨e.chg.mono sub, fun a h => ?_, fun a h => ?_, e.old, e.al⟩⟩
  · rcases List.mem_cons.mp hq with z | z
    · subst z
      exact ⟨nsp, Ct.move (e.mv rE) (fun o h1 h2 => e.chg.keep _ _ ndp h1 h2.ntup.2.2.1) own.2⟩
    · exact r'.own q z
  · exact List.nodup_cons.mpr ⟨ndp', r'.nd⟩
  · rcases List.mem_cons.mp h with z | z
    · exact .inl (List.mem_map.mpr ⟨_, hm, z.symm⟩)
    · rcases e.new a z with z | z
      · exact .inl (sub a z)
      · exact .inr z
  · rcases e.sub a h with z | z
    · exact .inl z
    · exact .inr (sub a z)
/-- a walk over an own list, which is out of reach while it is walked -/
theorem rr_forHold {g : TG} {A A' : PyData → Rho → Prop} {γm : Nat → Gm → Gm} (I : Nat → Gm → Rho → Prop) (h : EvV K γ ρ te (rf p)) (hn : ρ[n]? = some (p, .lst xs)) (h0 : I 0 γ (ρ.eraseIdx n)) (hg : ∀ i γ' ρ', i < xs.length → I i γ' ρ' → EvG K g γ' (xs.getD i .none) (γm i γ')) (hb : ∀ i γ' ρ', i < xs.length → I i γ' ρ' → RunR K (γm i γ') ρ' t (I (i + 1)) A') (hA : ∀ x r, A' x r → A x ((p, .lst xs) :: r)) : RunR K γ ρ (tFor (iList K te) g t) (fun g' r => ∃ r', I xs.length g' r' ∧ r = (p, .lst xs) :: r') A := fun S σ H st D qn qr =>
  h S σ H st _ fun v H2 e2 hv => by
    have st2 := st.ext e2
    have hm := List.mem_of_getElem? hn
    obtain ⟨np, ys, a1, a2⟩ := st2.own _ hm
    have ne := erase_ne st2.nd hn
    have ndp : ¬ dom (ρ.eraseIdx n) p := fun z => by
      obtain ⟨q, hq, e⟩ := List.mem_map.mp z
      exact ne q hq e
    have rE : StR K S (ρ.eraseIdx n) H2 := st2.toStR.sub (fun q hq => List.mem_of_mem_eraseIdx hq) ((List.Sublist.map _ (List.eraseIdx_sublist ρ n)).nodup st2.nd)
    have stE : Sta K S γ (ρ.eraseIdx n) σ H2 := { rE with fits := st2.fits }
    rw [hv.rf_inv]
    refine ⟨p, rfl, ⟨ys, .inl (.inl a1)⟩, ?_⟩
    have wk : Walk (Itl K p) ys.length (fun H => H p = some (.lst ys)) (fun i H x H' => H' = H ∧ ys[i]? = some x) := Walk.mono (walk_list (K := K) (a := p) (xs := ys)) (fun _ g => .inl (.inl g)) fun i H x H' hi g y => y
    rw [a2.len] at wk
    refine for_it wk (fun i σ' H' => ∃ S' γ' ρ', I i γ' ρ' ∧ Sta K S' γ' ρ' σ' H' ∧ Eff S (ρ.eraseIdx n) H2 S' ρ' H') ⟨S, γ, _, h0, stE, .refl⟩ (fun i σ' H' hi q => ?_) (fun i x σ' H3 H4 hi q yy => ?_) fun σ' H' q => ?_
    · obtain ⟨S', γ', ρ', p0, p1, p2⟩ := q
      exact p2.chg.keep p _ ndp a1 (fun ps => HO.noConfusion)
    · obtain ⟨S', γ', ρ', p0, p1, p2⟩ := q
      obtain ⟨rfl, hx⟩ := yy
      obtain ⟨d, hd, hx⟩ := a2.at' hx
      have ed : xs.getD i .none = d := by rw [List.getD_eq_getElem?_getD, hd]; rfl
      have hx' : Ds K S' H4 x (xs.getD i .none) := by
        rw [ed]
        exact hx.move (p2.mv rE)
      refine hg i γ' ρ' hi p0 S' σ' x H4 p1.fits hx' _ fun σ2 f2 => ?_
      refine hb i γ' ρ' hi p0 S' σ2 H4 { p1.toStR with fits := f2 } _ (fun S5 σ5 γ5 ρ5 H5 g5 s5 e5 => ⟨S5, γ5, ρ5, g5, s5, p2.trans stE.frs e5⟩) fun S5 v x ρ5 H5 ax hv r5 e5 => ?_
      obtain ⟨k1, k2⟩ := hold_back st2.toStR hn r5 (p2.trans stE.frs e5)
      exact qr S5 v x _ H5 (hA _ _ ax) hv k1 ((Eff.ext e2).trans st.frs k2)
    · obtain ⟨S', γ', ρ', p0, p1, p2⟩ := q
      obtain ⟨k1, k2⟩ := hold_back st2.toStR hn p1.toStR p2
      exact qn S' σ' γ' _ H' ⟨ρ', p0, rfl⟩ { k1 with fits := p1.fits } ((Eff.ext e2).trans st.frs k2)
theorem eu_meth {m : Str} {tr : TA} {ds : List PyData} {C : Addr} {es : List (PyData × PyData)} (h : Ev K γ te (insD C es)) (nm : lkD es (.inr m) = none) (ha : EvA K γ tr ds) (hr : R (insD C es :: ds) x) : EvU K γ (tMeth C m (spU K R) [] E te tr) x := fun S σ H f fr Q q =>
  h S σ H f fr _ fun v H2 e2 hv => by
    obtain ⟨a, dx, fs, rfl, s, hq, r⟩ := hv.ins_inv
    refine ⟨a, dx, fs, rfl, hq, r.fnone nm, ha S σ H2 (f.same e2) (fr.same e2) _ fun vs H3 e3 hvs => ⟨S, _, x, ?_, (fr.same e2).same e3, hr, fun v L H4 e4 nd nt hv => q v L H4 ((e2.trans e3).trans e4) nd (fun a ha => (e2.trans e3).nt (nt a ha)) hv⟩⟩
    rw [List.append_nil]
    exact .cons (hv.same e3) hvs
end
theorem FnOk.absurdU {P : Program} {w : World} {K : PySem.W.Frag} {mg : Str → Option Value} {base : Heap} {CX : CXT} {k : Nat} {f : Addr} {fd : FuncData} {ps : List Str} : FnOk P w K mg base CX k f fd ps (spU K fun _ _ => False) :=
  ⟨fun _ _ _ _ ⟨_, _, _, _, _, h, _⟩ => h.elim, fun _ _ _ _ _ _ _ _ _ _ _ _ _ ⟨_, _, _, _, _, h, _⟩ => h.elim⟩
theorem FnOk.absurdW {P : Program} {w : World} {K : PySem.W.Frag} {mg : Str → Option Value} {base : Heap} {CX : CXT} {k : Nat} {f : Addr} {fd : FuncData} {ps : List Str} {R : List PyData → Rho → PyData → Rho → Prop} : FnOk P w K mg base CX k f fd ps (spW K (fun _ _ => False) R) :=
  ⟨fun _ _ _ _ ⟨_, _, _, _, _, h, _⟩ => h.elim, fun _ _ _ _ _ _ _ _ _ _ _ _ _ ⟨_, _, _, _, _, h, _⟩ => h.elim⟩
section
variable {P : Program} {w : World} {K : PySem.W.Frag} {mg : Str → Option Value} {base : Heap}
theorem Fun.fresh {x qual : Str} {st : Stmt} {f : Addr} {fd : FuncData} {N ps : List Str} {k : Nat} {R : List PyData → PyData → Prop} (F : Fun K x qual st f fd) (Sc : FnScope N ps (defScope st)) (len : ∀ ds x, R ds x → ds.length = ps.length)
    (hbody : ∀ (cdv : Value) (A : Around) (outer : List Env) (s : Shared) (H : Hp) (E : XK), Room k (A.deeper (envOfC qual (defScope st) s.heap.objs.size f cdv)) →
      ∃ t, PSs (cxOf CX0 P w K mg base N qual (defScope st) f cdv A outer s H E).nox (defBody st) t ∧ ∀ ds x, R ds x → RunU K (startG N.length ds) [] t x) : FnOk P w K mg base CX0 (k + 1) f fd ps (spU K R) := by
  refine F.ok Sc (fun vs H Q E h => ?_) (fun cdv A outer s H vs Q E hr h => ?_)
  · obtain ⟨S, ds, x, h1, _, h3, _⟩ := h
    rw [h1.len]
    exact len ds x h3
  · obtain ⟨S, ds, x, h1, h2, h3, q⟩ := h
    obtain ⟨t, ht, hR⟩ := hbody cdv A outer s H E hr
    refine ⟨t, ht, ?_⟩
    have st0 : Sta K S (startG N.length ds) [] (L2.start N vs) H := { frs := h2, own := fun q hq => (List.not_mem_nil hq).elim, nd := List.nodup_nil, fits := fits_start h1 }
    exact hR ds x h3 S _ H st0 _ fun v L H' c a nd nt hv => q v L H' ⟨fun b o hb ho => c.keep b o (fun z => (List.not_mem_nil z).elim) hb ho, c.tabs⟩ nd nt hv
end
section
variable {K : PySem.W.Frag}
theorem DsU.atom_inv {H : Hp} {v : V} {d : PyData} {L : List Addr} (h : DsU K H v d L) (e : atomD d = true) : L = [] ∧ ∀ S, Ds K S H v d := by
  cases h with
  | atom _ h => exact ⟨rfl, fun S => h.atom e _ _⟩
  | _ => cases e
theorem DsU.tup_inv {H : Hp} {v : V} {ds : List PyData} {L : List Addr} (h : DsU K H v (.tuple ds) L) : ∃ a xs, v = .ref a ∧ SqT K H a xs ∧ DsUA K H xs ds L := by
  cases h with
  | atom e _ => cases e
  | tup h1 h2 => exact ⟨_, _, rfl, h1, h2⟩
theorem DsU.lst_inv {H : Hp} {v : V} {ds : List PyData} {L : List Addr} (h : DsU K H v (.list ds) L) : ∃ a xs L', v = .ref a ∧ L = a :: L' ∧ H a = some (.lst xs) ∧ DsUA K H xs ds L' := by
  cases h with
  | atom e _ => cases e
  | lst h1 h2 => exact ⟨_, _, _, rfl, rfl, h1, h2⟩
theorem DsUA.two {H : Hp} {vs : List V} {d e : PyData} {L : List Addr} (h : DsUA K H vs [d, e] L) : ∃ v u L1 L2, vs = [v, u] ∧ L = L1 ++ L2 ∧ DsU K H v d L1 ∧ DsU K H u e L2 := by
  cases h with
  | cons h1 h2 =>
    cases h2 with
    | cons h2 h3 =>
      cases h3
      exact ⟨_, _, _, _, rfl, by rw [List.append_nil], h1, h2⟩
end
end LK
namespace LK
open PySem PySem.Spec PyProof.Rows L2
variable [Tbs]
/-! ### a walk over a range whose end is found while it is read -/
section
variable {K : PySem.W.Frag} {γ : Gm} {ρ : Rho} {j : Nat} {t : TS} {ta : TA} {A : PyData → Rho → Prop}
theorem rr_forN (I : Nat → Gm → Rho → Prop) (N : Gm → Rho → Prop) (M : Nat → Rho → Prop) (h : EvRA K γ ρ ta (fun xs r => ∃ m : Nat, xs = [.int (m : Int)] ∧ m ≤ 1000000 ∧ M m r)) (h0 : ∀ m r, M m r → I 0 γ r) (hb : ∀ m r, M m r → ∀ i γ' ρ', i < m → I i γ' ρ' → RunR K (γ'.set j (some (.int (i : Int)))) ρ' t (I (i + 1)) A) (hN : ∀ m r, M m r → ∀ g r', I m g r' → N g r') : RunR K γ ρ (tFor (iRng1 ta) (gName j) t) N A := fun S σ H st D qn qr =>
  h S σ H st _ fun S2 vs xs ρ2 H2 ⟨m, ex, hm, hM⟩ hv st2 e2 => by
    subst ex
    refine ⟨m, DsAll.ofInts (ns := [(m : Int)]) hv, by omega, by omega, ?_⟩
    refine for_it (walk_range (lo := 0) (n := (m : Int).toNat)) (fun i σ' H' => ∃ S' γ' ρ', I i γ' ρ' ∧ Sta K S' γ' ρ' σ' H' ∧ Eff S2 ρ2 H2 S' ρ' H') ⟨S2, γ, ρ2, h0 m ρ2 hM, st2, .refl⟩ (fun _ _ _ _ _ => trivial) (fun i x σ' H3 H4 hi pp yy => ?_) fun σ' H' pp => ?_
    · obtain ⟨e1, e2⟩ := yy
      subst e1 e2
      obtain ⟨S', γ', ρ', g, s3, e3⟩ := pp
      dsimp only
      rw [Int.zero_add]
      exact hb m ρ2 hM i γ' ρ' (by omega) g S' _ _ (s3.set j (.int _)) _ (fun S5 σ5 γ5 ρ5 H5 g5 s5 e5 => ⟨S5, γ5, ρ5, g5, s5, e3.trans st2.frs e5⟩) fun S5 v x ρ5 H5 ax hv r5 e5 => qr S5 v x ρ5 H5 ax hv r5 (e2.trans st.frs (e3.trans st2.frs e5))
    · obtain ⟨S', γ', ρ', g, s3, e3⟩ := pp
      exact qn S' σ' γ' ρ' H' (hN m ρ2 hM γ' ρ' g) s3 (e2.trans st.frs e3)
/-- for i in range(a draw below m): what each turn keeps -/
theorem rr_forOff {δ n : Nat} {d : Addr} {m : Nat} {E : XK} (D : DiceAt γ ρ δ n d) (I : Gm → Rho → Prop) (hm : 0 < m ∧ m ≤ 1000) (h0 : I γ ρ) (hb : ∀ (i : Nat) γ' ρ', I γ' ρ' → RunR K (γ'.set j (some (.int (i : Int)))) ρ' t I A) : RunR K γ ρ (tFor (iRng1 (tCons (tCall (spD K PreOff R_off) [] E (tCons (tVar δ) (tCons (tC (.int (m : Int))) tNil))) tNil)) (gName j) t) I A :=
  rr_forN (fun _ => I) I (fun _ r => r = ρ) (EvRA.mono (era_cons (er_N D (en_off (m := (m : Int)) ev_int (by omega) (by omega))) fun x r _ => era_nil) fun xs r ⟨x, ρ', ys, ⟨⟨k, ek, k0, k1⟩, e1⟩, ⟨e2, e3⟩, ex⟩ => by
    subst ek e1 e2 e3
    obtain ⟨k, rfl⟩ := Int.eq_ofNat_of_zero_le k0
    exact ⟨k, ex, by omega, rfl⟩) (fun m r e => by subst e; exact h0) (fun m r e i γ' ρ' _ h => hb i γ' ρ' h) fun m r e g r' h => h
end
end LK
namespace LK
open PySem PySem.Spec PyProof.Rows L2
variable [Tbs]
/-! ### sorting by a number, what is as great left in its order -/
def insF {α : Type} (f : α → Int) (x : α) : List α → List α
  | [] => [x]
  | y :: r => if f x ≤ f y then x :: y :: r else y :: insF f x r
def stab {α : Type} (f : α → Int) (l : List α) : List α := l.foldr (insF f) []
theorem insF_map {α β : Type} (f : β → Int) (h : α → β) (x : α) : ∀ l : List α, insF f (h x) (l.map h) = (insF (fun a => f (h a)) x l).map h
  | [] => rfl
  | y :: r => by
    show (if f (h x) ≤ f (h y) then _ else _) = (if f (h x) ≤ f (h y) then _ else _ : List α).map h
    split
    · rfl
    · rw [List.map_cons, insF_map f h x r]
theorem stab_map {α β : Type} (f : β → Int) (h : α → β) : ∀ l : List α, stab f (l.map h) = (stab (fun a => f (h a)) l).map h
  | [] => rfl
  | y :: r => by
    show insF f (h y) (stab f (r.map h)) = _
    rw [stab_map f h r, insF_map]
    rfl
theorem mem_insF {α : Type} {f : α → Int} {x a : α} : ∀ {l : List α}, a ∈ insF f x l ↔ a = x ∨ a ∈ l
  | [] => by simp [insF]
  | y :: r => by
    unfold insF
    split
    · simp
    · rw [List.mem_cons, mem_insF, List.mem_cons]
      constructor
      · rintro (h | h | h)
        · exact .inr (.inl h)
        · exact .inl h
        · exact .inr (.inr h)
      · rintro (h | h | h)
        · exact .inr (.inl h)
        · exact .inl h
        · exact .inr (.inr h)
theorem mem_stab {α : Type} {f : α → Int} {a : α} : ∀ {l : List α}, a ∈ stab f l ↔ a ∈ l
  | [] => Iff.rfl
  | y :: r => by
    show a ∈ insF f y (stab f r) ↔ _
    rw [mem_insF, mem_stab, List.mem_cons]
theorem len_insF {α : Type} {f : α → Int} {x : α} : ∀ {l : List α}, (insF f x l).length = l.length + 1
  | [] => rfl
  | y :: r => by
    unfold insF
    split
    · rfl
    · rw [List.length_cons, len_insF, List.length_cons]
theorem len_stab {α : Type} {f : α → Int} : ∀ {l : List α}, (stab f l).length = l.length
  | [] => rfl
  | y :: r => by
    show (insF f y (stab f r)).length = _
    rw [len_insF, len_stab, List.length_cons]
theorem insF_le {α : Type} {f : α → Int} {x : α} : ∀ {l : List α}, l.Pairwise (fun a b => f a ≤ f b) → (insF f x l).Pairwise (fun a b => f a ≤ f b)
  | [], _ => List.pairwise_singleton _ _
  | y :: r, h => by
    have h2 := List.pairwise_cons.mp h
    unfold insF
    split
    · rename_i hx
      refine List.pairwise_cons.mpr ⟨fun a ha => ?_, h⟩
      rcases List.mem_cons.mp ha with e | e
      · rw [e]
        exact hx
      · exact Int.le_trans hx (h2.1 a e)
    · rename_i hx
      refine List.pairwise_cons.mpr ⟨fun a ha => ?_, insF_le h2.2⟩
      rcases mem_insF.mp ha with e | e
      · rw [e]
        omega
      · exact h2.1 a e
theorem stab_le {α : Type} {f : α → Int} : ∀ {l : List α}, (stab f l).Pairwise (fun a b => f a ≤ f b)
  | [] => .nil
  | _ :: _ => insF_le stab_le
theorem insF_filter {α : Type} {f : α → Int} {x : α} (c : Int) : ∀ {l : List α}, l.Pairwise (fun a b => f a ≤ f b) → (insF f x l).filter (fun a => f a == c) = (x :: l).filter (fun a => f a == c)
  | [], _ => rfl
  | y :: r, h => by
    have h2 := List.pairwise_cons.mp h
    unfold insF
    split
    · rfl
    · rename_i hx
      rw [List.filter_cons, insF_filter c h2.2]
      by_cases hy : (f y == c) = true
      · have : ¬ (f x == c) = true := fun z => by
          have a := of_decide_eq_true hy
          have b := of_decide_eq_true z
          omega
        rw [if_pos hy, List.filter_cons, if_neg this, List.filter_cons, if_neg this, List.filter_cons, if_pos hy]
      · rw [if_neg hy, List.filter_cons, List.filter_cons, List.filter_cons (x := y), if_neg hy]
theorem stab_filter {α : Type} {f : α → Int} (c : Int) : ∀ {l : List α}, (stab f l).filter (fun a => f a == c) = l.filter (fun a => f a == c)
  | [] => rfl
  | y :: r => by
    show (insF f y (stab f r)).filter _ = _
    rw [insF_filter c stab_le, List.filter_cons, List.filter_cons, stab_filter c]
theorem stab_uniq {α : Type} {f : α → Int} : ∀ {l m : List α}, l.Pairwise (fun a b => f a ≤ f b) → m.Pairwise (fun a b => f a ≤ f b) → (∀ c, l.filter (fun a => f a == c) = m.filter (fun a => f a == c)) → l = m
  | [], [], _, _, _ => rfl
  | [], b :: m, _, _, h => by
    have := h (f b)
    rw [List.filter_nil, List.filter_cons, if_pos (by simp)] at this
    cases this
  | a :: l, [], _, _, h => by
    have := h (f a)
    rw [List.filter_nil, List.filter_cons, if_pos (by simp)] at this
    cases this
  | a :: l, b :: m, hl, hm, h => by
    have h1 := List.pairwise_cons.mp hl
    have h2 := List.pairwise_cons.mp hm
    have e : f a = f b := by
      have ma : a ∈ (b :: m).filter (fun x => f x == f a) := by
        rw [← h (f a)]
        simp
      have mb : b ∈ (a :: l).filter (fun x => f x == f b) := by
        rw [h (f b)]
        simp
      have ma := (List.mem_filter.mp ma).1
      have mb := (List.mem_filter.mp mb).1
      have le1 : f b ≤ f a := by
        rcases List.mem_cons.mp ma with z | z
        · rw [z]
          exact Int.le_refl _
        · exact h2.1 a z
      have le2 : f a ≤ f b := by
        rcases List.mem_cons.mp mb with z | z
        · rw [z]
          exact Int.le_refl _
        · exact h1.1 b z
      omega
    have ha := h (f a)
    rw [List.filter_cons, if_pos (by simp), List.filter_cons, if_pos (by simp [e])] at ha
    injection ha with ha _
    subst ha
    refine congrArg _ (stab_uniq h1.2 h2.2 fun c => ?_)
    have hc := h c
    rw [List.filter_cons, List.filter_cons] at hc
    split at hc
    · injection hc
    · exact hc
theorem obj_there {P : Program} {w : World} {H : Hp} {h : Heap} {a : Addr} {o : HO} (x : ObjOk P w H h a o) : ∃ o, h.get? a = some o := by
  cases o with
  | lst xs => obtain ⟨_, _, _, _, e⟩ := x; exact ⟨_, e⟩
  | tup xs => obtain ⟨_, _, _, o, e, _⟩ := x; exact ⟨_, e⟩
  | dK kvs => obtain ⟨_, _, _, _, o, _, _, e, _⟩ := x; exact ⟨_, e⟩
  | dT kvs => obtain ⟨_, _, _, _, o, _, _, e, _⟩ := x; exact ⟨_, e⟩
  | set S n => obtain ⟨o, _, _, _, e, _⟩ := x; exact ⟨_, e⟩
  | ins C dx fs => obtain ⟨_, _, _, e, _⟩ := x; exact ⟨_, e⟩
  | own y => obtain ⟨_, e⟩ := x; exact ⟨_, e⟩
  | xd fs => obtain ⟨_, ⟨_, _, _, e, _⟩, _⟩ := x; exact ⟨_, e⟩
  | rng lo hi => obtain ⟨_, _, _, e⟩ := x; exact ⟨_, e⟩
  | frz ob u => obtain ⟨e, _⟩ := x; exact ⟨_, e⟩
  | tbl ps => exact ⟨_, (show h.get? a = some _ from x)⟩
  | met f y => exact ⟨_, (show h.get? a = some _ from x)⟩
  | ext φ => obtain ⟨_, ⟨_, e⟩, _⟩ := x; exact ⟨_, e⟩
section
variable {X : Cx} {K : PySem.W.Frag} {e : Expr} {te : TE} {x : Str} {n : Nat} {c P : Addr} {p pos p0 p1 p2 p3 lpos kpos : Pos} {kk : Nat} {T : List (Addr × Str)}
/-- sorted(xs, key=lambda x: x[n]) -/
def tSrtLam (K : PySem.W.Frag) (T : List (Addr × Str)) (te : TE) (n : Nat) : TE := fun σ H Q => te σ H fun v H1 => ∃ (a : Addr) (xs : List V) (kf : Nat → Int), v = .ref a ∧ SqL K H1 a xs ∧ xs.length ≤ 1000000 ∧ LamX.Tabs T H1 ∧
  (∀ i v, xs[i]? = some v → ∃ t ys, v = .ref t ∧ SqT K H1 t ys ∧ ys[n]? = some (.int (kf i))) ∧
  ∀ p H2, LamX.ExtN H1 H2 → LamX.Tabs T H2 → H2 p = none → Q (.ref p) (upd H2 p (.lst ((stab kf (List.range xs.length)).map fun i => xs.getD i .non)))
theorem pe_sortLam (hk : X.K = K) (hr : Room 2 X.A) (hc : X.calm = true) (hg : Gl X "sorted") (hm : X.mg "sorted" = none) (TB : LamX.TabB X.base X.mg c P) (hcode : X.env.code = .ref c) (hT : (P, X.env.qual ++ "<lambda>") ∈ T) (hu : ∀ q ∈ T, q.1 = P → q.2 = X.env.qual ++ "<lambda>")
    (hb : LamB (X.env.qual ++ "<lambda>") x p0 (.Subscript (.Name x p1) (.Constant (.int (n : Int)) kk p2) p3) (lamScope x)) (hd : (x == ("__debug__" : Str)) = false) (he : PE X e te)
    (hs : backTo pos (starEach (e :: []) X.env) = (false, eval e X.env) :: backTo pos (starEach [] X.env) := by rfl) (hpl : (backTo pos (starEach (e :: []) X.env)).any (·.1) = false := by rfl) (hse : starEach [e] X.env = (false, eval e X.env) :: starEach [] X.env := by rfl) :
    PE X (.Call (.Name "sorted" p) [e] [⟨some "key", .Lambda (lamArgs x p0) (.Subscript (.Name x p1) (.Constant (.int (n : Int)) kk p2) p3) (lamScope x) lpos, kpos⟩] pos) (tSrtLam K T te n) := by
  subst hk
  refine ⟨fun pins s σ H Q I h => ?_⟩
  refine wpAny_Call_Name_kw (ld_blt I hg hm bt_sorted ?_)
  refine PyProof.Rows.callWith_kw (thn ((pa_cons he pa_nil hse).run pos pins s σ H (fun vs H1 => match vs with
    | [v] => ∃ (a : Addr) (xs : List V) (kf : Nat → Int), v = .ref a ∧ SqL X.K H1 a xs ∧ xs.length ≤ 1000000 ∧ LamX.Tabs T H1 ∧
      (∀ i v, xs[i]? = some v → ∃ t ys, v = .ref t ∧ SqT X.K H1 t ys ∧ ys[n]? = some (.int (kf i))) ∧
      ∀ p H2, LamX.ExtN H1 H2 → LamX.Tabs T H2 → H2 p = none → Q (.ref p) (upd H2 p (.lst ((stab kf (List.range xs.length)).map fun i => xs.getD i .non)))
    | _ => False) I h) fun us s1 ⟨vs, H1, I1, r1, q1⟩ => ?_) hs hpl rfl rfl
  obtain ⟨v, rfl⟩ : ∃ v, vs = [v] := by
    match vs, q1 with
    | [v], _ => exact ⟨v, rfl⟩
  obtain ⟨a, xs, kf, rfl, hS, hne, tb, hkey, q⟩ := q1
  obtain rfl := Vals.ref1 r1
  -- the lambda is made
  show wpAny _ _ (evalAll ((do let v ← eval (.Lambda (lamArgs x p0) (.Subscript (.Name x p1) (.Constant (.int (n : Int)) kk p2) p3) (lamScope x) lpos) X.env; standAt pos; pure v) :: [])) _ _ s1
  refine wpAny_evalAll_cons (wpAny_bind (LamX.lam_make2 (T := T) I1 TB hcode hT hu tb rfl (fun y hy e => ?_) fun f c' pm ctv H2 s2 I2 ext tb2 of nf nfr oc => wpAny_bind (wpAny_standAt (wpAny_pure ?_))))
  · have : y = (x, NameKind.local) := List.mem_singleton.mp hy
    subst this
    cases e
  refine wpAny_evalAll_nil ?_
  show wpAny _ X.A (call (.builtin "sorted") [.ref a] [(Str.ofString "key", .ref f)]) _ _ _
  have rdE : ∀ {b : Addr} {u : HO}, (∀ ps, u ≠ .tbl ps) → Rd H1 b u → Rd H2 b u := fun n r => by
    rcases r with r | ⟨o, r⟩
    · exact .inl (ext _ _ r n)
    · exact .inr ⟨o, ext _ _ r fun ps z => nomatch z⟩
  have hS2 : SqL X.K H2 a xs := hS.imp (rdE fun _ z => nomatch z) id
  obtain ⟨its, rv, pl, hz⟩ := I2.list hS2
  have hlen := rv.length
  have ln63 := line63
  obtain ⟨m, hnL, _⟩ := id I2.loc
  obtain ⟨oL, esL, epL, hoL, hdL, _⟩ := id hnL
  have neL : ∀ {b : Addr} {o : Obj}, s2.heap.get? b = some o → (∀ es ep, o.data ≠ .dict es ep) → b ≠ X.env.locals := fun e n z => by
    rw [z, hoL] at e
    cases e
    exact n _ _ hdL
  have N0 : News (Att.noObjs s2.heap) X.env.locals s2.heap (Att.ledger s2.heap X.env.locals X.env.locals) := fun q hq => by
    obtain ⟨b, o⟩ := q
    obtain ⟨n1, _, e⟩ := Att.mem_ledger.mp hq
    exact ⟨e, n1, Att.noObjs_get _ _⟩
  have kept : ∀ {h : Heap} {own : List (Addr × Obj)}, News (Att.noObjs s2.heap) X.env.locals h (Att.ledger s2.heap X.env.locals X.env.locals ++ own) → ∀ b o, b ≠ X.env.locals → s2.heap.get? b = some o → h.get? b = some o := fun N b o hb e =>
    (N (b, o) (List.mem_append_left _ (Att.mem_ledger.mpr ⟨hb, hb, e⟩))).1
  have kept0 : ∀ {h : Heap}, News (Att.noObjs s2.heap) X.env.locals h (Att.ledger s2.heap X.env.locals X.env.locals) → ∀ b o, b ≠ X.env.locals → s2.heap.get? b = some o → h.get? b = some o := fun N b o hb e => (N (b, o) (Att.mem_ledger.mpr ⟨hb, hb, e⟩)).1
  have listE : ∀ {h : Heap}, (∀ b o, b ≠ X.env.locals → s2.heap.get? b = some o → h.get? b = some o) → h.IsList a its.toArray := fun k => by
    obtain ⟨o, nn, e, hc, _, hdt⟩ := pl
    exact ⟨o, k a o (neL e fun es ep z => by rw [hdt] at z; cases z) e, hc, nn, hdt⟩
  have item : ∀ {i : Nat} {v : Value}, its[i]? = some v → ∃ x, xs[i]? = some x ∧ RelV x v := fun {i v} hv => by
    have hi : i < its.length := (List.getElem?_eq_some_iff.mp hv).1
    have hx : xs[i]? = some (xs[i]'(by omega)) := List.getElem?_eq_getElem (by omega)
    obtain ⟨u, hu, ru⟩ := rv.get hx
    rw [hv] at hu
    cases hu
    exact ⟨_, hx, ru⟩
  have frL : ∀ {h h' : Heap}, Fr (Att.noObjs s2.heap) X.env.locals h m → (∀ b o, h.get? b = some o → h'.get? b = some o) → Fr (Att.noObjs s2.heap) X.env.locals h' m := fun F' k => by
    obtain ⟨⟨o, es, ep, e, r⟩, _, _⟩ := F'
    exact ⟨⟨o, es, ep, k _ _ e, r⟩, fun b o e => (by rw [Att.noObjs_get] at e; cases e), Nat.zero_le _⟩
  have hzs : its.length ≤ sizeLine := by rw [← hlen]; exact sz_of hne
  refine ksk_sortedSt (L := X.env.locals) (m := m) (h₀ := Att.noObjs s2.heap) (news := Att.ledger s2.heap X.env.locals X.env.locals) (vs := its) (kz := (List.range its.length).map kf) (b := false) (Att.fr_all hnL) N0 (listE (kept0 N0)) (by rw [List.length_map, List.length_range]) hzs (ksk_s1 _ _) (fun x => ksk_l1 _ _) (fun x => ksk_t1 _ _) (fun i v k0 hv hk0 h tk own F' N' => ?_) fun D h' tk' out cc F' N' hD ko => ?_
  · have hi0 : i < its.length := (List.getElem?_eq_some_iff.mp hv).1
    obtain rfl : kf i = k0 := by
      rw [List.getElem?_map, List.getElem?_eq_getElem (by rw [List.length_range]; exact hi0), List.getElem_range] at hk0
      exact Option.some.inj hk0
    have k := kept N'
    obtain ⟨x1, hx1, rx⟩ := item hv
    obtain ⟨t, ys, rfl, hst, hkn⟩ := hkey i x1 hx1
    cases rx
    have hst2 : SqT X.K H2 t ys := hst.imp (rdE fun _ z => nomatch z) id
    obtain ⟨its2, rv2, pt, hz2⟩ := I2.tuple hst2
    obtain ⟨u, hu, ru⟩ := rv2.get hkn
    obtain ⟨tu, rfl⟩ := ru
    have hlen2 := rv2.length
    obtain ⟨⟨oc', vs', tq, hoc, hdc, hvc⟩, _, _⟩ := I2.hok c' _ oc
    have ptk : IsTup h t its2.toArray := by
      obtain ⟨o, e, hcl, nn, hdt⟩ := pt
      exact ⟨o, k t o (neL e fun es ep z => by rw [hdt] at z; cases z) e, hcl, nn, hdt⟩
    refine lam_item (s := { s2 with heap := h, toks := tk }) hb hd hr.in1.in1.depth (k f _ (neL of fun es ep z => by cases z) of) ⟨c', oc', vs', tq, rfl, k c' _ (neL hoc fun es ep z => by rw [hdc] at z; cases z) hoc, hdc, hvc⟩ (I2.ok.mod.nolimit.keeps fun b o e => k b o (fun z => ?_) (I2.bk b o e)) ptk (by simpa using hu) (by rw [List.size_toArray, ← hlen2]; exact hz2) fun h' tk' kp => ?_
    · obtain ⟨mm, hF⟩ := I2.fr
      rw [z] at e
      exact absurd (Nat.lt_of_lt_of_le (Heap.lt_size e) hF.above) (Nat.lt_irrefl _)
    · exact ⟨h', tk', tu, rfl, rfl, frL F' kp, fun p hp => ⟨kp _ _ (N' p hp).1, (N' p hp).2⟩⟩
  · have N'' : News (Att.noObjs s2.heap) X.env.locals h' (Att.ledger s2.heap X.env.locals X.env.locals) := fun p hp => N' p (List.mem_cons_of_mem _ hp)
    have k := kept0 N''
    obtain ⟨hDo, hDL, _⟩ := N' _ List.mem_cons_self
    have hDn : s2.heap.get? D = none := by
      cases hg : s2.heap.get? D with
      | none => rfl
      | some o => exact absurd (hD (D, o) (Att.mem_ledger.mpr ⟨hDL, hDL, hg⟩)) (Nat.lt_irrefl _)
    have hDH : H2 D = none := by
      cases hg : H2 D with
      | none => rfl
      | some u =>
        obtain ⟨o, ho⟩ := obj_there (I2.hok D u hg)
        rw [hDn] at ho
        cases ho
    obtain ⟨ps, hperm, hout, hpw, hfl⟩ := ko
    have ezip : ((List.range its.length).map kf).zip its = (List.range its.length).map fun i => (kf i, its.getD i .none) := by
      refine List.ext_getElem (by simp) fun i h1 h2 => ?_
      rw [List.length_map, List.length_range] at h2
      simp only [List.getElem_zip, List.getElem_map, List.getElem_range, List.getD_eq_getElem?_getD, List.getElem?_eq_getElem h2, Option.getD_some]
    have eps : ps = stab Prod.fst (((List.range its.length).map kf).zip its) := stab_uniq (f := Prod.fst) (hpw.imp fun h => h) stab_le fun cc => by rw [stab_filter]; exact hfl cc
    rw [ezip, stab_map] at eps
    have eout : out.toList = (stab kf (List.range its.length)).map fun i => its.getD i .none := by
      rw [hout, eps, List.map_map]
      rfl
    have hvals : Vals ((stab kf (List.range xs.length)).map fun i => xs.getD i .non) out.toList := by
      rw [eout, ← hlen]
      have hmem : ∀ i ∈ stab kf (List.range xs.length), i < xs.length := fun i hi => List.mem_range.mp (mem_stab.mp hi)
      revert hmem
      generalize stab kf (List.range xs.length) = is
      intro hmem
      induction is with
      | nil => exact .nil
      | cons i is ih =>
        have hi := hmem i List.mem_cons_self
        obtain ⟨u, hu, ru⟩ := rv.get (List.getElem?_eq_getElem hi)
        refine .cons ?_ (ih fun j hj => hmem j (List.mem_cons_of_mem _ hj))
        show RelV (xs.getD i .non) (its.getD i .none)
        rw [List.getD_eq_getElem?_getD, List.getElem?_eq_getElem hi, List.getD_eq_getElem?_getD, hu]
        exact ru
    refine ⟨.ref D, upd H2 D (.lst ((stab kf (List.range xs.length)).map fun i => xs.getD i .non)), ?_, rfl, q D H2 ext tb2 hDH⟩
    obtain ⟨o', es', ep', e', r'⟩ := id F'.ns
    have hne2 : ∀ b o, s2.heap.get? b = some o → b ≠ D := fun b o e z => by
      rw [z, hDn] at e
      cases e
    have hne3 : ∀ b o, H2 b = some o → b ≠ D := fun b o e z => by
      rw [z, hDH] at e
      cases e
    refine I2.step (g' := s2.gens) (d' := s2.drawn) (ch := []) (fun b z => nomatch z) (fun b o hb _ _ e _ => k b o hb e) (fun b o hb _ _ e _ => ⟨o.slots, k b o hb e⟩) (fun b o _ e n => by rw [upd_ne (hne2 b o e)]; exact n) (fun b o _ e => ?_) (fun b xs z => by rw [upd_ne (hne3 b _ z)]; exact z) (fun b _ _ z => by rw [upd_ne (hne3 b _ z)]; exact z) (fun b ps z => ⟨#[], by rw [upd_ne (hne3 b _ z), z]; simp⟩) (fun m' hm' => ?_) (fun b u hbu => ?_) I2.bare
    · by_cases hb : b = X.env.locals
      · rw [hb]
        exact ⟨_, e'⟩
      · exact ⟨o, k b o hb e⟩
    · rw [hm'.eq_nsMap.trans hnL.eq_nsMap.symm]
      exact F'.ns
    · by_cases hb : b = D
      · subst hb
        rw [upd_same] at hbu
        cases hbu
        exact ⟨by rw [List.length_map, len_stab, List.length_range]; exact sz_of hne, out.toList, cc, hvals, by rw [Array.toArray_toList]; exact hDo⟩
      · rw [upd_ne hb] at hbu
        exact (I2.hok b u hbu).stay (fun c v hc => k c v (fun z => by
          rw [z] at hc
          rcases hc with hc | hc
          · rw [← hc, I2.free] at hbu
            cases hbu
          · rw [I2.free] at hc
            cases hc)) (fun cc z => by rw [upd_ne (hne3 cc _ z)]; exact z) fun cc xs z => by rw [upd_ne (hne3 cc _ z)]; exact z
end
end LK
namespace LK
open PySem PySem.Spec PyProof.Rows L2
variable [Tbs]
section
variable {K : PySem.W.Frag} {S : Addr → Prop} {H : Hp} {γ : Gm} {te : TE} {n : Nat}
theorem range_getD {α : Type} (rs : List α) (r0 : α) : (List.range rs.length).map (fun i => rs.getD i r0) = rs := by
  refine List.ext_getElem (by simp) fun i h1 h2 => ?_
  rw [List.getElem_map, List.getElem_range, List.getD_eq_getElem?_getD, List.getElem?_eq_getElem h2]
  rfl
theorem DsAll.pick {vs : List V} {ds : List PyData} (h : DsAll K S H vs ds) : ∀ {is : List Nat}, (∀ i ∈ is, i < ds.length) → DsAll K S H (is.map fun i => vs.getD i .non) (is.map fun i => ds.getD i .none)
  | [], _ => .nil
  | i :: is, hi => by
    refine .cons ?_ (h.pick fun j hj => hi j (List.mem_cons_of_mem _ hj))
    have l := hi i List.mem_cons_self
    obtain ⟨v, e, hv⟩ := h.at (List.getElem?_eq_getElem l)
    show Ds K S H (vs.getD i .non) (ds.getD i .none)
    rw [List.getD_eq_getElem?_getD, e, List.getD_eq_getElem?_getD, List.getElem?_eq_getElem l]
    exact hv
/-- sorted(xs, key=lambda x: x[n]) -/
theorem el_sortLam {α : Type} {g : α → PyData} {key : α → Int} {rs : List α} (h : Ev K γ te (.list (rs.map g))) (hk : ∀ r ∈ rs, ∃ ys : List PyData, g r = .tuple ys ∧ ys[n]? = some (.int (key r))) (hz : rs.length ≤ 1000000) : EvL K γ (tSrtLam K Tbs.tabs te n) ((stab key rs).map g) := fun S σ H f fr Q q =>
  h S σ H f fr _ fun v H2 e2 hv => by
    obtain ⟨a, ws, rfl, s, hq, hall⟩ := hv.lst_inv
    have hl := hall.len
    rw [List.length_map] at hl
    cases rs with
    | nil =>
      have e0 : ws = [] := List.eq_nil_of_length_eq_zero hl
      subst e0
      refine ⟨a, [], fun _ => 0, rfl, .inl hq, Nat.zero_le _, (fr.same e2).tabs, fun j v hj => (by simp at hj), fun p H3 ext tb np => ?_⟩
      have e3 : Ext H2 H3 := ⟨ext, fun _ => tb⟩
      exact q p [] _ (e2.trans (e3.trans (same_new np))) ((e2.trans e3).nt (.of np)) upd_same .nil
    | cons r0 rt =>
      refine ⟨a, ws, fun i => key ((r0 :: rt).getD i r0), rfl, .inl hq, by rw [hl]; exact hz, (fr.same e2).tabs, fun j v hj => ?_, fun p H3 ext tb np => ?_⟩
      · obtain ⟨d, hd, hv⟩ := hall.at' hj
        rw [List.getElem?_map] at hd
        cases hr : (r0 :: rt)[j]? with
        | none =>
          rw [hr] at hd
          cases hd
        | some r =>
          rw [hr] at hd
          obtain rfl := Option.some.inj hd
          obtain ⟨ys, e, hy⟩ := hk r (List.mem_of_getElem? hr)
          rw [e] at hv
          obtain ⟨t, us, rfl, ht, hus⟩ := hv.tup_inv
          obtain ⟨u, hu, hdu⟩ := hus.at hy
          rw [hdu.int_inv] at hu
          refine ⟨t, us, rfl, ht, ?_⟩
          show us[n]? = some (.int (key ((r0 :: rt).getD j r0)))
          rw [List.getD_eq_getElem?_getD, hr]
          exact hu
      · have e3 : Ext H2 H3 := ⟨ext, fun _ => tb⟩
        have e4 := same_new (o := .lst ((stab (fun i => key ((r0 :: rt).getD i r0)) (List.range ws.length)).map fun i => ws.getD i .non)) np
        have er : ((stab key (r0 :: rt)).map g) = (stab (fun i => key ((r0 :: rt).getD i r0)) (List.range ws.length)).map fun i => ((r0 :: rt).map g).getD i .none := by
          rw [hl]
          have := stab_map key (fun i => (r0 :: rt).getD i r0) (List.range (r0 :: rt).length)
          rw [range_getD] at this
          rw [this, List.map_map]
          refine List.map_congr_left fun i hi => ?_
          have hi := List.mem_range.mp (mem_stab.mp hi)
          show g ((r0 :: rt).getD i r0) = ((r0 :: rt).map g).getD i .none
          rw [List.getD_eq_getElem?_getD, List.getElem?_eq_getElem hi, List.getD_eq_getElem?_getD, List.getElem?_map, List.getElem?_eq_getElem hi]
          rfl
        rw [er] at q
        refine q p _ _ (e2.trans (e3.trans e4)) ((e2.trans e3).nt (.of np)) upd_same ?_
        have hm : ∀ i ∈ stab (fun i => key ((r0 :: rt).getD i r0)) (List.range ws.length), i < ((r0 :: rt).map g).length := fun i hi => by
          rw [List.length_map, ← hl]
          exact List.mem_range.mp (mem_stab.mp hi)
        have k1 : DsAll K (fun a => S a ∧ a ≠ p) H3 ws ((r0 :: rt).map g) := (hall.same e3).res (Res.ne np)
        exact (k1.same e4).pick hm
end
end LK
namespace LK
open PySem PySem.Spec PyProof.Rows L2
variable [Tbs]
/-! ### data that no change reaches; walks found in any way; a dict locked while it is walked -/
mutual
/-- numbers, texts, names, and tuples of them -/
def stillD : PyData → Bool
  | .none | .bool _ | .int _ | .str _ => true
  | .tuple xs => stillAll xs
  | .dict es => isRf es
  | .list _ => false
def stillAll : List PyData → Bool
  | [] => true
  | x :: xs => stillD x && stillAll xs
def isRf : List (PyData × PyData) → Bool
  | [(.bool true, .int (.ofNat _))] => true
  | _ => false
end
section
variable {K : PySem.W.Frag} {S S' : Addr → Prop} {H H' : Hp}
theorem still_atom {d : PyData} (h : atomD d = true) : stillD d = true := by
  cases d <;> first | rfl | cases h
theorem DsP.fst : ∀ {vs : List (PyData × V)} {es : List (PyData × PyData)}, DsP K S H vs es → vs.map (·.1) = es.map (·.1)
  | _, _, .nil => rfl
  | _, _, .cons _ t => by rw [List.map_cons, List.map_cons, t.fst]
theorem dct_not_rf {kvs : List (Key × V)} {es : List (PyData × PyData)} (h : DsP K S H (kvs.map fun p => (kD p.1, p.2)) es) (e : isRf es = true) : False := by
  have f := h.fst
  unfold isRf at e
  split at e
  · cases kvs with
    | nil => cases f
    | cons kv r =>
      obtain ⟨k, v⟩ := kv
      cases k <;> cases f
  · cases e
mutual
theorem Ds.still : ∀ {v : V} {d : PyData}, Ds K S H v d → stillD d = true → (S' : Addr → Prop) → Ds K S' H v d
  | _, _, .non, _, _ => .non
  | _, _, .bl b, _, _ => .bl b
  | _, _, .int i, _, _ => .int i
  | _, _, .str x, _, _ => .str x
  | _, _, .lst _ _ _, e, _ => by cases e
  | _, _, .tup h1 h2, e, S' => .tup h1 (h2.still (by unfold stillD at e; exact e) S')
  | _, _, .dct h0 h1 h2, e, S' => by
    unfold stillD at e
    exact (dct_not_rf h2 e).elim
  | _, _, .ins _ _ _, e, _ => by cases e
  | _, _, .rf a, _, _ => .rf a
theorem DsAll.still : ∀ {vs : List V} {ds : List PyData}, DsAll K S H vs ds → stillAll ds = true → (S' : Addr → Prop) → DsAll K S' H vs ds
  | _, _, .nil, _, _ => .nil
  | _, _, .cons h t, e, S' => by
    unfold stillAll at e
    rw [Bool.and_eq_true] at e
    exact .cons (h.still e.1 S') (t.still e.2 S')
end
variable {γ γ' γv : Gm} {ρ ρ' : Rho} {σ : L2.St} {te td tl : TE} {tt : TT} {d : PyData} {ds : List PyData} {n : Nat} {p : Addr}
theorem er_viewS {P : List Addr} (V : View K γ ρ P γv) (h : Ev K γv te d) (hd : stillD d = true) : EvR K γ ρ te (fun x r => x = d ∧ r = ρ) := fun S σ H st Q q => h _ σ H (V S σ H st) (frs_or st.frs) Q fun v H2 e hv => q S v d ρ H2 ⟨rfl, rfl⟩ (hv.still hd _) (st.ext e) (.ext e)
/-- evaluates to a new list, with what is one's own beside -/
def EvRL (K : PySem.W.Frag) (γ : Gm) (ρ : Rho) (te : TE) (ds : List PyData) : Prop :=
  ∀ (S : Addr → Prop) (σ : L2.St) (H : Hp), Sta K S γ ρ σ H → ∀ Q : VK, (∀ p xs H2, Ext H H2 → Nt H p → H2 p = some (.lst xs) → DsAll K (fun a => S a ∧ a ≠ p) H2 xs ds → Q (.ref p) H2) → te σ H Q
theorem EvRL.is {es : List PyData} (h : EvRL K γ ρ te ds) (e : ds = es) : EvRL K γ ρ te es := e ▸ h
theorem erl_L (h : EvL K γ te ds) : EvRL K γ ρ te ds := fun S σ H st Q q => h S σ H st.fits st.frs Q q
theorem erl_view {P : List Addr} (V : View K γ ρ P γv) (h : EvL K γv te ds) (hd : stillAll ds = true) : EvRL K γ ρ te ds := fun S σ H st Q q =>
  h _ σ H (V S σ H st) (frs_or st.frs) Q fun p ys H2 e nt at2 hall => q p ys H2 e nt at2 (hall.still hd _)
theorem erl_v (h : EvRL K γ ρ te ds) : EvV K γ ρ te (.list ds) := fun S σ H st Q q => h S σ H st Q fun p xs H2 e n a hall => q _ H2 e (.lst (st.frs.new p n) (.inl a) (hall.res (.of fun a s => s.1)))
/-- it is one's own -/
theorem erl_new (h : EvRL K γ ρ te ds) : EvR K γ ρ te (fun x r => ∃ p, x = rf p ∧ r = ρ ++ [(p, .lst ds)]) := fun S σ H st Q q => h S σ H st Q fun p xs H2 e n at2 hall => by
  have mv : Mv S (fun a => S a ∧ a ≠ p) K H H2 := ⟨fun a x s q nt => ⟨⟨s, fun z => rd_nt q nt (z ▸ n)⟩, (Keep.of e).obj a x s q nt⟩, fun a C d f s q => ⟨⟨s, fun z => by
    subst z
    obtain ⟨ps, z⟩ := n _ q
    cases z⟩, (Keep.of e).ins a C d f s q⟩, fun _ _ q => sqT_keep (Keep.of (S := S) e) q⟩
  have nt : ∀ a, Nt H2 a → Nt H a ∧ a ≠ p := fun a h => ⟨e.nt h, fun z => by
    subst z
    exact h.lst at2⟩
  refine q (fun a => S a ∧ a ≠ p) (.ref p) (rf p) (ρ ++ [(p, .lst ds)]) H2 ⟨p, rfl, rfl⟩ (.rf p) { frs := ⟨fun a h => ⟨st.frs.new a (nt a h).1, (nt a h).2⟩, e.tabs st.frs.tabs⟩, own := fun q hq => ?_, nd := ?_, fits := st.fits.move mv } ⟨.of e, fun a d => ?_, fun a s => .inl s.1, fun a s nn => ⟨s, fun z => nn (z ▸ n)⟩, fun a h => (nt a h).1⟩
  · rcases List.mem_append.mp hq with h | h
    · obtain ⟨n1, n2⟩ := st.own q h
      exact ⟨fun z => n1 z.1, Ct.move mv (fun o h pl => e.keep _ _ h pl.ntup.2.2.1) n2⟩
    · rw [List.mem_singleton.mp h]
      exact ⟨fun z => z.2 rfl, xs, at2, hall⟩
  · rw [List.map_append]
    refine List.nodup_append.mpr ⟨st.nd, by simp, fun a ha b hb z => ?_⟩
    have hb : b = p := by simpa using hb
    subst hb z
    exact st.toStR.trk ha n
  · unfold dom at d
    rw [List.map_append] at d
    rcases List.mem_append.mp d with h | h
    · exact .inl h
    · have : a = p := by simpa using h
      exact .inr (this ▸ n)
/-- a new list of what is walked, from where the walk stands -/
theorem lc_run {g : TG} {vs : List Nat} {n : Nat} {y : Nat → PyData} {b : Nat → Bool} {f : Nat → PyData} {γ' : Nat → Gm} {J : It} {H2 : Hp} {D : Addr} {Qd : Hp → Prop} (fi : Fits K S γ σ H2) (fr : Frs S H2)
    (W : ∀ S', Res H2 S S' → ∃ G : Hp → Prop, Walk J n G (fun i H x H' => Ext H H' ∧ Ds K S' H' x (y i)) ∧ G H2 ∧ ∀ H3 H4, Ext H3 H4 → G H3 → G H4) (hD : H2 D = none) (hz : n ≤ 1000000) (hv : GIn g vs) (hg : ∀ i, i < n → EvG K g (wipeG γ vs) (y i) (γ' i))
    (ht : ∀ i, i < n → EvB K (γ' i) tt (b i)) (he : ∀ i, i < n → b i = true → Ev K (γ' i) te (f i)) (hq : ∀ acc H', Ext H2 H' → H' D = some (.lst acc) → DsAll K (fun a => S a ∧ a ≠ D) H' acc (given n b f) → Qd H') :
    ∃ W : Nat → Nat → Hp → Prop, (∃ m, W 0 m (upd H2 D (.lst []))) ∧ ∀ i m H, W i m H →
      (J.stop i H ∧ Qd H) ∨ (J.go i H ∧ ∃ Nx : Hp → Prop, (∀ H', Nx H' → ∃ m', m' < m ∧ W (i + 1) m' H') ∧ ∀ x H', J.yld i H x H' → g x (L2.wipe σ vs) H' fun σ2 H2 => L2.wipe σ2 vs = L2.wipe σ vs ∧ tt σ2 H2 fun b H3 =>
        if b = true then te σ2 H3 fun y H4 => ∃ acc, H4 D = some (.lst acc) ∧ acc.length < sizeLine ∧ Nx (upd H4 D (.lst (acc ++ [y]))) else Nx H3) := by
  have res : Res H2 S (fun a => S a ∧ a ≠ D) := Res.ne hD
  obtain ⟨G, wk, g0, gk⟩ := W _ res
  have fi2 : Fits K (fun a => S a ∧ a ≠ D) (wipeG γ vs) (L2.wipe σ vs) H2 := (fi.res res).wipe vs
  refine lc_it wk (fun i H' => ∃ acc, Ext H2 H' ∧ H' D = some (.lst acc) ∧ DsAll K (fun a => S a ∧ a ≠ D) H' acc (given i b f)) ⟨[], same_new hD, upd_same, .nil⟩ (fun i H' hi p => ?_) (fun i x H3 H4 hi p yy => ?_) (fun H' p => ?_)
  · obtain ⟨acc, p1, p2, p3⟩ := p
    exact gk H2 H' p1 g0
  · obtain ⟨acc, p1, p2, p3⟩ := p
    obtain ⟨y1, y2⟩ := yy
    have k24 : Ext H2 H4 := p1.trans y1
    refine hv x σ H4 _ (hg i hi _ _ x H4 (fi2.same k24) y2 _ fun σ' fi' => ?_)
    have dis : ∀ {H' : Hp}, Ext H4 H' → Frs (fun a => S a ∧ a ≠ D) H' := fun e => ⟨fun p hp => ⟨fr.new p ((k24.trans e).nt hp), fun z => by
      subst z
      exact hp.lst (e.lst (y1.lst p2))⟩, (fr.same (k24.trans e)).tabs⟩
    refine ht i hi _ σ' H4 fi' (dis (Ext.refl _)) _ fun H6 e6 => ?_
    have k26 : Ext H2 H6 := k24.trans e6
    have accs : DsAll K (fun a => S a ∧ a ≠ D) H6 acc (given i b f) := p3.same (y1.trans e6)
    have atD : H6 D = some (.lst acc) := e6.lst (y1.lst p2)
    cases hb : b i with
    | true =>
      show te _ H6 _
      refine he i hi hb _ σ' H6 (fi'.same e6) (dis e6) _ fun v H7 e7 hv => ⟨acc, e7.lst atD, sz_lt ?_, acc ++ [v], ?_, upd_same, ?_⟩
      · rw [accs.len]
        exact Nat.lt_of_le_of_lt (given_len i b f) (by omega)
      · exact same_mut (k26.trans e7) (.of hD) (e7.lst atD)
      · rw [given_succ, if_pos hb]
        have kk : Keep (fun a => S a ∧ a ≠ D) H7 (upd H7 D (.lst (acc ++ [v]))) := Keep.upd (e7.lst atD) (fun z => z.2 rfl)
        exact ((accs.same e7).app (.one hv)).keep kk
    | false =>
      refine ⟨acc, k26, atD, ?_⟩
      rw [given_succ, if_neg (by rw [hb]; exact Bool.false_ne_true), List.append_nil]
      exact accs
  · obtain ⟨acc, p1, p2, p3⟩ := p
    exact hq acc H' p1 p2 p3
/-- an own dict is locked -/
theorem sta_lock {od : Obj} {kvs : List (Key × V)} {es : List (PyData × PyData)} (st : Sta K S γ ρ σ H) (hn : ρ[n]? = some (p, .dct es)) (hp : H p = some (.dK kvs)) : Sta K S γ (ρ.eraseIdx n) σ (upd H p (.frz od (.dK kvs))) := by
  have hm := List.mem_of_getElem? hn
  have ns := (st.own _ hm).1
  have kp : Keep S H (upd H p (.frz od (.dK kvs))) := Keep.updP hp trivial ns
  have ne := erase_ne st.nd hn
  refine { frs := ⟨fun q hq => st.frs.new q (fun u hu => ?_), fun w hw => tabs_pl hp trivial (st.frs.tabs w hw)⟩, own := fun q hq => ?_, nd := (List.Sublist.map _ (List.eraseIdx_sublist ρ n)).nodup st.nd, fits := st.fits.keep kp }
  · have e : q ≠ p := fun z => by
      subst z
      obtain ⟨ps, z⟩ := hq _ upd_same
      cases z
    exact hq u (by rw [upd_ne e]; exact hu)
  · have o := st.own q (List.mem_of_mem_eraseIdx hq)
    exact ⟨o.1, Ct.move (Mv.keep kp) (fun u h _ => by rw [upd_ne (ne q hq)]; exact h) o.2⟩
/-- .. and unlocked: all stands as it stood -/
theorem unlock {od : Obj} {kvs : List (Key × V)} {H2 : Hp} (hp : H p = some (.dK kvs)) (e : Ext (upd H p (.frz od (.dK kvs))) H2) : H2 p = some (.frz od (.dK kvs)) ∧ Ext H (upd H2 p (.dK kvs)) := by
  have h2 : H2 p = some (.frz od (.dK kvs)) := e.keep p _ upd_same fun _ z => nomatch z
  refine ⟨h2, fun b u hu n => ?_, fun tb w hw => tabs_frz h2 (e.tabs (fun w hw => tabs_pl hp trivial (tb w hw)) w hw)⟩
  by_cases eb : b = p
  · subst eb
    rw [hp] at hu
    cases hu
    exact upd_same
  · rw [upd_ne eb]
    exact e.keep b u (by rw [upd_ne eb]; exact hu) n
theorem keep_unl {od : Obj} {kvs : List (Key × V)} {o : HO} (hp : H p = some (.frz od (.dK kvs))) (ns : ¬ S p) : Keep S H (upd H p o) := ⟨fun b u sb h n => by
  have e : b ≠ p := fun z => ns (z ▸ sb)
  rcases h with h | ⟨o', h⟩
  · exact .inl (by rw [upd_ne e]; exact h)
  · exact .inr ⟨o', by rw [upd_ne e]; exact h⟩, fun b C d f sb h => by
  have e : b ≠ p := fun z => ns (z ▸ sb)
  rw [upd_ne e]
  exact h, fun b xs h => by
  have e : b ≠ p := fun z => by
    subst z
    rcases h with h | ⟨o', h⟩
    · rw [hp] at h
      cases h
    · rw [hp] at h
      cases h
  rcases h with h | ⟨o', h⟩
  · exact .inl (by rw [upd_ne e]; exact h)
  · exact .inr ⟨o', by rw [upd_ne e]; exact h⟩⟩
theorem DsP.at : ∀ {kvs : List (Key × V)} {es : List (PyData × PyData)} {i : Nat} {k : Key} {v : V}, DsP K S H (kvs.map fun p => (kD p.1, p.2)) es → kvs[i]? = some (k, v) → Ds K S H v (es.getD i (.none, .none)).2 ∧ (es.getD i (.none, .none)).1 = kD k
  | [], _, _, _, _, _, e => by simp at e
  | kv :: kvs, _, i, k, v, h, e => by
    cases h with
    | cons h1 h2 =>
      cases i with
      | zero =>
        rw [List.getElem?_cons_zero] at e
        cases e
        exact ⟨h1, rfl⟩
      | succ i =>
        rw [List.getElem?_cons_succ] at e
        have t := DsP.at (kvs := kvs) (i := i) h2 e
        exact t
/-- [e for x in d.values()], d an own dict -/
theorem erl_lcVals {es : List (PyData × PyData)} {g : TG} {vs : List Nat} {b : Nat → Bool} {f : Nat → PyData} {γ' : Nat → Gm} (hd : Ev K γ td (rf p)) (hn : ρ[n]? = some (p, .dct es)) (hz : es.length ≤ 1000000) (hv : GIn g vs)
    (hg : ∀ i, i < es.length → EvG K g (wipeG γ vs) (es.getD i (.none, .none)).2 (γ' i)) (ht : ∀ i, i < es.length → EvB K (γ' i) tt (b i)) (he : ∀ i, i < es.length → b i = true → Ev K (γ' i) te (f i)) : EvRL K γ ρ (tLockE (tLc (iVals td) g tt te vs)) (given es.length b f) := fun S σ H st Q q => by
  obtain ⟨ns, kvs, a1, a2⟩ := st.own _ (List.mem_of_getElem? hn)
  have hl : kvs.length = es.length := by have := a2.len; rwa [List.length_map] at this
  refine ⟨p, .dK kvs, a1, trivial, fun od => ?_⟩
  have st1 := sta_lock (od := od) st hn a1
  refine hd S σ _ st1.fits st1.frs _ fun v H2 e2 hv2 => ?_
  rw [hv2.rf_inv]
  have h2 : H2 p = some (.frz od (.dK kvs)) := e2.keep p _ upd_same fun _ z => nomatch z
  refine ⟨p, od, kvs, rfl, h2, fun D hD => ?_⟩
  have st2 := st1.ext e2
  have a2' : DsP K S H2 (kvs.map fun p => (kD p.1, p.2)) es := (a2.keep (Keep.updP a1 trivial ns)).keep (.of e2)
  have np : D ≠ p := fun z => by
    subst z
    rw [h2] at hD
    cases hD
  refine lc_run st2.fits st2.frs (fun S' w => ⟨fun H => (H p = some (.frz od (.dK kvs)) ∧ Ext H2 H), ?_, ⟨h2, Ext.refl _⟩, fun H3 H4 e g => ⟨e.keep p _ g.1 (fun _ z => nomatch z), g.2.trans e⟩⟩) hD hz hv hg ht he fun acc H' e3 atD hall => ?_
  · have wk := walk_values (d := p) (o := od) (kvs := kvs)
    rw [hl] at wk
    refine Walk.mono wk (fun _ g => g.1) fun j H x H' hj g y => ?_
    obtain ⟨rfl, k, hkv⟩ := y
    exact ⟨Ext.refl _, ((DsP.at (kvs := kvs) a2' hkv).1.res w).same g.2⟩
  · obtain ⟨h3, e4⟩ := unlock a1 (e2.trans e3)
    refine ⟨h3, q D acc _ e4 (fun u hu => ?_) (by rw [upd_ne np]; exact atD) (hall.keep (keep_unl h3 fun z => ns z.1))⟩
    have : ¬ Nt H D → False := fun h => h (fun u hu => by
      have eD : (upd H p (.frz od (.dK kvs))) D = some u := by rw [upd_ne np]; exact hu
      exact e2.nt (.of hD) u eD)
    exact Classical.byContradiction fun h => this fun h' => h (h' u hu)
/-- .. where the walked thing is found with what is one's own changed -/
theorem er_lcR {g : TG} {vs : List Nat} {b : Nat → Bool} {f : Nat → PyData} {γ' : Nat → Gm} (h : EvR K γ ρ tl (fun x r => x = .list ds ∧ r = ρ')) (hz : ds.length ≤ 1000000) (hv : GIn g vs)
    (hg : ∀ i, i < ds.length → EvG K g (wipeG γ vs) (ds.getD i .none) (γ' i)) (ht : ∀ i, i < ds.length → EvB K (γ' i) tt (b i)) (he : ∀ i, i < ds.length → b i = true → Ev K (γ' i) te (f i)) : EvR K γ ρ (tLc (iList K tl) g tt te vs) (fun x r => x = .list (given ds.length b f) ∧ r = ρ') := fun S σ H st Q q =>
  h S σ H st _ fun S1 v x ρ1 H1 ⟨ex, er⟩ hx st1 e1 => by
    subst ex er
    obtain ⟨a, ws, rfl, s, hq, hall⟩ := hx.lst_inv
    refine ⟨a, rfl, ⟨ws, .inl hq⟩, fun D hD => ?_⟩
    have hl := hall.len
    refine lc_run st1.fits st1.frs (fun S' w => ⟨fun H => SqL K H a ws ∧ Ext H1 H, ?_, ⟨.inl hq, Ext.refl _⟩, fun H3 H4 e g => ⟨e.seq g.1, g.2.trans e⟩⟩) hD hz hv hg ht he fun acc H' e3 atD hall2 => ?_
    · have wk := walk_list (K := K) (a := a) (xs := ws)
      rw [hl] at wk
      refine Walk.mono wk (fun _ g => g.1) fun j H x H' hj g y => ?_
      obtain ⟨rfl, hx⟩ := y
      obtain ⟨d, hd, hv⟩ := hall.at' hx
      refine ⟨Ext.refl _, ?_⟩
      rw [List.getD_eq_getElem?_getD, hd]
      exact (hv.res w).same g.2
    · exact q S1 (.ref D) _ _ H' ⟨rfl, rfl⟩ (.lst (st1.frs.new D (.of hD)) (.inl atD) (hall2.res (.of fun a s => s.1))) (st1.ext e3) (e1.trans st.frs (.ext e3))
end
end LK
namespace LK
open PySem PySem.Spec PyProof.Rows L2
variable [Tbs]
/-! ### calls that are handed the last of what is one's own; lambdas in several defs -/
section
variable {K : PySem.W.Frag} {S : Addr → Prop} {H : Hp} {γ : Gm} {ρ ρa ρb : Rho} {te : TE} {A : PyData → Rho → Prop} {Pre : List PyData → Rho → Prop} {R : List PyData → Rho → PyData → Rho → Prop} {E : XK} {ds : List PyData} {m : Str} {C : Addr} {es : List (PyData × PyData)}
theorem tail_back {S' : Addr → Prop} {ρ' : Rho} {H' : Hp} {σ : L2.St} (st : Sta K S γ (ρa ++ ρb) σ H) (hd : ∀ p, dom ρb p → dom ρ' p) (r' : StR K S' ρ' H') (e' : Eff S ρb H S' ρ' H') : Sta K S' γ (ρa ++ ρ') σ H' ∧ Eff S (ρa ++ ρb) H S' (ρa ++ ρ') H' := by
  have nd := st.nd
  rw [List.map_append, List.nodup_append] at nd
  refine st.frame (fun q hq => List.mem_append_right _ hq) e' r' hd (fun q hq => ?_) ?_
  · rcases List.mem_append.mp hq with h | h
    · exact .inr ⟨List.mem_append_left _ h, fun z => nd.2.2 _ (List.mem_map.mpr ⟨q, h, rfl⟩) _ z rfl⟩
    · exact .inl h
  · rw [List.map_append, List.nodup_append]
    refine ⟨nd.1, r'.nd, fun a ha b hb z => ?_⟩
    subst z
    rcases e'.new a hb with z | z
    · exact nd.2.2 _ ha _ z rfl
    · obtain ⟨q, hq, e⟩ := List.mem_map.mp ha
      exact Ct.nnt (st.own q (List.mem_append_left _ hq)).2 (e ▸ z)
theorem er_callT {ta : TA} (ha : EvA K γ ta ds) (pre : Pre ds ρb) (hR : ∀ x ρ1, R ds ρb x ρ1 → A x (ρa ++ ρ1)) : EvR K γ (ρa ++ ρb) (tCall (spW K Pre R) [] E ta) A := fun S σ H st Q q =>
  ha S σ H st.fits st.frs _ fun vs H1 e1 hvs => by
    have st1 := st.ext e1
    have nd := st1.nd
    rw [List.map_append, List.nodup_append] at nd
    refine ⟨S, ds, ρb, by rw [List.append_nil]; exact hvs, st1.toStR.sub (fun q hq => List.mem_append_right _ hq) nd.2.1, pre, fun S' v x ρ' H' hr hd hv r' e' => ?_⟩
    obtain ⟨k1, k2⟩ := tail_back st1 hd r' e'
    exact q S' v x _ H' (hR x ρ' hr) hv k1 ((Eff.ext e1).trans st.frs k2)
theorem er_methT {t : TA} (h : Ev K γ te (insD C es)) (nm : lkD es (.inr m) = none) (ha : EvA K γ t ds) (pre : Pre (insD C es :: ds) ρb) (hR : ∀ x ρ1, R (insD C es :: ds) ρb x ρ1 → A x (ρa ++ ρ1)) : EvR K γ (ρa ++ ρb) (tMeth C m (spW K Pre R) [] E te t) A := fun S σ H st Q q =>
  h S σ H st.fits st.frs _ fun v H2 e2 hv => by
    obtain ⟨a, dx, fs, rfl, s, hq, r⟩ := hv.ins_inv
    have st2 := st.ext e2
    refine ⟨a, dx, fs, rfl, hq, r.fnone nm, ha S σ H2 st2.fits st2.frs _ fun vs H3 e3 hvs => ?_⟩
    have st3 := st2.ext e3
    have nd := st3.nd
    rw [List.map_append, List.nodup_append] at nd
    refine ⟨S, _, ρb, ?_, st3.toStR.sub (fun q hq => List.mem_append_right _ hq) nd.2.1, pre, fun S' v x ρ' H' hr hd hv r' e' => ?_⟩
    · rw [List.append_nil]
      exact .cons (hv.same e3) hvs
    · obtain ⟨k1, k2⟩ := tail_back st3 hd r' e'
      exact q S' v x _ H' (hR x ρ' hr) hv k1 ((Eff.ext (e2.trans e3)).trans st.frs k2)
/-- all is handed in -/
theorem er_methA {t : TA} (h : Ev K γ te (insD C es)) (nm : lkD es (.inr m) = none) (ha : EvA K γ t ds) (pre : Pre (insD C es :: ds) ρ) (hR : ∀ x ρ1, R (insD C es :: ds) ρ x ρ1 → A x ρ1) : EvR K γ ρ (tMeth C m (spW K Pre R) [] E te t) A := er_methT (ρa := []) h nm ha pre hR
theorem er_callA {ta : TA} (ha : EvA K γ ta ds) (pre : Pre ds ρ) (hR : ∀ x ρ1, R ds ρ x ρ1 → A x ρ1) : EvR K γ ρ (tCall (spW K Pre R) [] E ta) A := er_callT (ρa := []) ha pre hR
/-- a value is given up, or what lies in it -/
theorem er_frz {γ : Gm} {ρ : Rho} {te : TE} {A : PyData → Rho → Prop} (h : EvR K γ ρ te (fun x r => ∃ p n c d, r[n]? = some (p, c) ∧ A d (r.eraseIdx n) ∧ ∀ S H v, StR K S r H → Ds K S H v x → Ds K (fun a => S a ∨ a ∈ [p]) H v d)) : EvR K γ ρ te A := fun S σ H st Q q =>
  h S σ H st _ fun S1 v x ρ1 H1 ⟨p, n, c, d, hn, ad, hd⟩ hv st1 e1 => by
    obtain ⟨s2, e2⟩ := st1.freeze hn View.refl
    exact q _ v d _ H1 ad (hd S1 H1 v st1.toStR hv) s2 (e1.trans st.frs e2)
/-- a new list, the last of what is one's own, is data -/
theorem er_frzL {A : PyData → Rho → Prop} {xs : List PyData} {ρ1 : Rho} (h : EvR K γ ρ te (fun x r => ∃ p, x = rf p ∧ r = ρ1 ++ [(p, .lst xs)])) : EvR K γ ρ te (fun x r => x = .list xs ∧ r = ρ1) := er_frz (EvR.mono h fun x r ⟨p, ex, er⟩ => by
  subst ex er
  have hn : (ρ1 ++ [(p, Ct.lst xs)])[ρ1.length]? = some (p, .lst xs) := by
    rw [List.getElem?_append_right (Nat.le_refl _), Nat.sub_self]
    rfl
  refine ⟨p, ρ1.length, .lst xs, .list xs, hn, ⟨rfl, ?_⟩, fun S H v st hv => ds_lst hn (by simp) S H v st hv⟩
  rw [List.eraseIdx_append_of_length_le (Nat.le_refl _), Nat.sub_self]
  simp)
theorem gin_tup3 {a b c : Nat} {vs : List Nat} (h1 : a ∈ vs) (h2 : b ∈ vs) (h3 : c ∈ vs) : GIn (gTup K 3 (gCons (gName a) (gCons (gName b) (gCons (gName c) gNil)))) vs := fun v σ H Q q => by
  obtain ⟨p, xs, rfl, hq, hn, v, r, rfl, w, r', rfl, u, r2, rfl, rfl, q⟩ := q
  exact ⟨p, _, rfl, hq, hn, v, _, rfl, w, _, rfl, u, _, rfl, rfl, wipe_in3 h1 h2 h3 _ _ _, q⟩
end
section
variable {P : Program} {w : World} {K : PySem.W.Frag} {mg : Str → Option Value} {base : Heap}
/-- as Fun.own, the def's code object known -/
theorem Fun.ownC {x qual : Str} {st : Stmt} {f : Addr} {fd : FuncData} {N ps : List Str} {k : Nat} {Pre : List PyData → Rho → Prop} {R : List PyData → Rho → PyData → Rho → Prop} (F : Fun K x qual st f fd) (Sc : FnScope N ps (defScope st)) (len : ∀ ds ρ, Pre ds ρ → ds.length = ps.length)
    (hbody : ∀ (A : Around) (outer : List Env) (s : Shared) (H : Hp) (E : XK), Room k (A.deeper (envOfC qual (defScope st) s.heap.objs.size f fd.code)) →
      ∃ t, PSs (cxOf CX0 P w K mg base N qual (defScope st) f fd.code A outer s H E).nox (defBody st) t ∧ ∀ ds ρ, Pre ds ρ → RunR K (startG N.length ds) ρ t (fun _ r => ∃ r2, R ds ρ .none r2 ∧ r2.Sublist r ∧ ∀ p, dom ρ p → dom r2 p) (fun x r => ∃ r2, R ds ρ x r2 ∧ r2.Sublist r ∧ ∀ p, dom ρ p → dom r2 p)) : FnOk P w K mg base CX0 (k + 1) f fd ps (spW K Pre R) := by
  obtain ⟨oc, od, kV, doc, pm, an, cdv, ct, osl, rfl, lk, hcd⟩ := F.ex
  refine fn_of lk hcd Sc (fun vs H Q E h => ?_) fun A outer s H vs Q E hr h => ?_
  · obtain ⟨S, ds, ρ, h1, _, h3, _⟩ := h
    rw [h1.len]
    exact len ds ρ h3
  · obtain ⟨S, ds, ρ, h1, h2, h3, q⟩ := h
    obtain ⟨t, ht, hR⟩ := hbody A outer s H E hr
    refine ⟨t, ht.nox, ?_⟩
    have cut : ∀ {S' : Addr → Prop} {r r2 : Rho} {H' : Hp}, (∀ q ∈ r2, q ∈ r) → Eff S ρ H S' r H' → Eff S ρ H S' r2 H' := fun hs e => ⟨e.chg, fun p d => by
      obtain ⟨q, hq, e1⟩ := List.mem_map.mp d
      exact e.new p (List.mem_map.mpr ⟨q, hs q hq, e1⟩), e.sub, e.old, e.al⟩
    refine hR ds ρ h3 S _ H { h2 with fits := fits_start h1 } _ (fun S' σ' γ' r H' ⟨r2, a1, a2, a4⟩ s' e' => ?_) fun S' v x r H' ⟨r2, a1, a2, a4⟩ hv s' e' => ?_
    · exact q S' .non .none r2 H' a1 a4 .non (s'.toStR.sub (fun q hq => a2.subset hq) ((a2.map _).nodup s'.nd)) (cut (fun q hq => a2.subset hq) e')
    · exact q S' v x r2 H' a1 a4 hv (s'.sub (fun q hq => a2.subset hq) ((a2.map _).nodup s'.nd)) (cut (fun q hq => a2.subset hq) e')
/-- a def that holds one lambda: its code object, the table of that -/
structure Lm (K : PySem.W.Frag) (mg : Str → Option Value) (base : Heap) (fd : FuncData) (qual : Str) (c P : Addr) : Prop where
  tb : LamX.TabB base mg c P
  code : fd.code = .ref c
  tabs : (P, qual ++ ("<lambda>" : Str)) ∈ Tbs.tabs
  uniq : ∀ q ∈ Tbs.tabs, q.1 = P → q.2 = qual ++ ("<lambda>" : Str)
end
end LK
namespace LK
open PySem PySem.Spec PyProof.Rows L2
/-- the end of a law in whose program several defs, or methods, hold lambdas -/
theorem law_tabY {l : PySem.W.OpenLaw} {w : World} {K : PySem.W.Frag} {CX : CXT} {k n : Nat} {x : Str} {mg : Str → Option Value} {fa : Addr} {h : Heap} {fd : FuncData} {sp : Sp} (Ls : List (Addr × Addr))
    (hT : ∀ p ∈ Ls, h.get? p.2 = some { cls := .none, data := .fields #[] }) (nK : ∀ p ∈ Ls, K.lookup p.2 = none) (hC : ∀ p ∈ Ls, PySem.W.CodeHd h p.1 p.2) (hb : ∀ (s : Shared) (u : Value), BindsTo s fd ⟨[u], []⟩ [(x, u)])
    (hsp : ∀ (H : Hp) (a : Addr) (ns : List Int), ns.length ≤ n → (∀ p ∈ Ls, ∀ q, LamX.TabS H p.2 q) → SqL K H a (ns.map V.int) → sp [.ref a] H (fun v _ => v = .bl true) fun _ _ _ => False)
    (hF : ∀ base : Heap, K.In base → base.Ns mainGlobals mg → (∀ p ∈ Ls, LamX.TabB base mg p.1 p.2) → FnOk l.prog w K mg base CX k fa fd [x] sp) : LamX.LawAtS l w K CX k n x mg fa h :=
  ⟨fd, Ls, sp, hT, nK, hC, hb, fun H a ns hl _ hH hS => hsp H a ns hl (fun p hp q => .nil (hH p hp)) hS, hF⟩
end LK
namespace LK
open PySem PySem.Spec PyProof.Rows L2
variable [Tbs]
/-! ### promises with an index: the caller says which -/
def spI {ι : Type} (K : PySem.W.Frag) (Pre : ι → List PyData → Rho → Prop) (R : ι → PyData → Rho → Prop) : Sp := fun vs H Q E => ∃ i, spW K (Pre i) (fun _ _ x r => R i x r) vs H Q E
section
variable {ι : Type} {K : PySem.W.Frag} {γ : Gm} {ρ ρa ρb : Rho} {te : TE} {A : PyData → Rho → Prop} {Pre : ι → List PyData → Rho → Prop} {R : ι → PyData → Rho → Prop} {E : XK} {ds : List PyData} {m : Str} {C : Addr} {es : List (PyData × PyData)}
theorem er_callI {ta : TA} (i : ι) (ha : EvA K γ ta ds) (pre : Pre i ds ρb) (hR : ∀ x ρ1, R i x ρ1 → A x (ρa ++ ρ1)) : EvR K γ (ρa ++ ρb) (tCall (spI K Pre R) [] E ta) A := fun S σ H st Q q =>
  ha S σ H st.fits st.frs _ fun vs H1 e1 hvs => by
    have st1 := st.ext e1
    have nd := st1.nd
    rw [List.map_append, List.nodup_append] at nd
    refine ⟨i, S, ds, ρb, by rw [List.append_nil]; exact hvs, st1.toStR.sub (fun q hq => List.mem_append_right _ hq) nd.2.1, pre, fun S' v x ρ' H' hr hd hv r' e' => ?_⟩
    obtain ⟨k1, k2⟩ := tail_back st1 hd r' e'
    exact q S' v x _ H' (hR x ρ' hr) hv k1 ((Eff.ext e1).trans st.frs k2)
theorem er_methI {t : TA} (i : ι) (h : Ev K γ te (insD C es)) (nm : lkD es (.inr m) = none) (ha : EvA K γ t ds) (pre : Pre i (insD C es :: ds) ρb) (hR : ∀ x ρ1, R i x ρ1 → A x (ρa ++ ρ1)) : EvR K γ (ρa ++ ρb) (tMeth C m (spI K Pre R) [] E te t) A := fun S σ H st Q q =>
  h S σ H st.fits st.frs _ fun v H2 e2 hv => by
    obtain ⟨a, dx, fs, rfl, s, hq, r⟩ := hv.ins_inv
    have st2 := st.ext e2
    refine ⟨a, dx, fs, rfl, hq, r.fnone nm, ha S σ H2 st2.fits st2.frs _ fun vs H3 e3 hvs => ?_⟩
    have st3 := st2.ext e3
    have nd := st3.nd
    rw [List.map_append, List.nodup_append] at nd
    refine ⟨i, S, _, ρb, ?_, st3.toStR.sub (fun q hq => List.mem_append_right _ hq) nd.2.1, pre, fun S' v x ρ' H' hr hd hv r' e' => ?_⟩
    · rw [List.append_nil]
      exact .cons (hv.same e3) hvs
    · obtain ⟨k1, k2⟩ := tail_back st3 hd r' e'
      exact q S' v x _ H' (hR x ρ' hr) hv k1 ((Eff.ext (e2.trans e3)).trans st.frs k2)
/-- the first of what is one's own is handed in, and stands there again -/
theorem er_methI1 {t : TA} {p : Addr} {c : Ct} (i : ι) (h : Ev K γ te (insD C es)) (nm : lkD es (.inr m) = none) (ha : EvA K γ t ds) (pre : Pre i (insD C es :: ds) [(p, c)]) (hR : ∀ x ρ1, R i x ρ1 → ∃ c', ρ1 = [(p, c')] ∧ A x ((p, c') :: ρ)) : EvR K γ ((p, c) :: ρ) (tMeth C m (spI K Pre R) [] E te t) A := fun S σ H st Q q =>
  h S σ H st.fits st.frs _ fun v H2 e2 hv => by
    obtain ⟨a, dx, fs, rfl, s, hq, r⟩ := hv.ins_inv
    have st2 := st.ext e2
    refine ⟨a, dx, fs, rfl, hq, r.fnone nm, ha S σ H2 st2.fits st2.frs _ fun vs H3 e3 hvs => ?_⟩
    have st3 := st2.ext e3
    refine ⟨i, S, _, [(p, c)], ?_, st3.toStR.one (n := 0) rfl, pre, fun S' v x ρ' H' hr hd hv r' e' => ?_⟩
    · rw [List.append_nil]
      exact .cons (hv.same e3) hvs
    · obtain ⟨c', rfl, ax⟩ := hR x ρ' hr
      obtain ⟨f1, f2⟩ := frame1 (ρ := (p, c) :: ρ) (n := 0) (c' := c') st3.nd rfl
      obtain ⟨k1, k2⟩ := st3.frame (ρa' := (p, c') :: ρ) (fun q hq => by rw [List.mem_singleton.mp hq]; exact List.mem_cons_self) e' r' hd f1 f2
      exact q S' v x _ H' ax hv k1 ((Eff.ext (e2.trans e3)).trans st.frs k2)
end
theorem FnOk.absurdI {ι : Type} {P : Program} {w : World} {K : PySem.W.Frag} {mg : Str → Option Value} {base : Heap} {CX : CXT} {k : Nat} {f : Addr} {fd : FuncData} {ps : List Str} {R : ι → PyData → Rho → Prop} : FnOk P w K mg base CX k f fd ps (spI K (fun _ _ _ => False) R) :=
  ⟨fun _ _ _ _ ⟨_, _, _, _, _, _, h, _⟩ => h.elim, fun _ _ _ _ _ _ _ _ _ _ _ _ _ ⟨_, _, _, _, _, _, h, _⟩ => h.elim⟩
section
variable {ι : Type} {P : Program} {w : World} {K : PySem.W.Frag} {mg : Str → Option Value} {base : Heap}
theorem Fun.ownI {x qual : Str} {st : Stmt} {f : Addr} {fd : FuncData} {N ps : List Str} {k : Nat} {Pre : ι → List PyData → Rho → Prop} {R : ι → PyData → Rho → Prop} (F : Fun K x qual st f fd) (Sc : FnScope N ps (defScope st)) (len : ∀ i ds ρ, Pre i ds ρ → ds.length = ps.length)
    (hbody : ∀ (A : Around) (outer : List Env) (s : Shared) (H : Hp) (E : XK), Room k (A.deeper (envOfC qual (defScope st) s.heap.objs.size f fd.code)) →
      ∃ t, PSs (cxOf CX0 P w K mg base N qual (defScope st) f fd.code A outer s H E).nox (defBody st) t ∧ ∀ i ds ρ, Pre i ds ρ → RunR K (startG N.length ds) ρ t (fun _ r => ∃ r2, R i .none r2 ∧ r2.Sublist r ∧ ∀ p, dom ρ p → dom r2 p) (fun x r => ∃ r2, R i x r2 ∧ r2.Sublist r ∧ ∀ p, dom ρ p → dom r2 p)) : FnOk P w K mg base CX0 (k + 1) f fd ps (spI K Pre R) := by
  obtain ⟨oc, od, kV, doc, pm, an, cdv, ct, osl, rfl, lk, hcd⟩ := F.ex
  refine fn_of lk hcd Sc (fun vs H Q E h => ?_) fun A outer s H vs Q E hr h => ?_
  · obtain ⟨i, S, ds, ρ, h1, _, h3, _⟩ := h
    rw [h1.len]
    exact len i ds ρ h3
  · obtain ⟨i, S, ds, ρ, h1, h2, h3, q⟩ := h
    obtain ⟨t, ht, hR⟩ := hbody A outer s H E hr
    refine ⟨t, ht.nox, ?_⟩
    have cut : ∀ {S' : Addr → Prop} {r r2 : Rho} {H' : Hp}, (∀ q ∈ r2, q ∈ r) → Eff S ρ H S' r H' → Eff S ρ H S' r2 H' := fun hs e => ⟨e.chg, fun p d => by
      obtain ⟨q, hq, e1⟩ := List.mem_map.mp d
      exact e.new p (List.mem_map.mpr ⟨q, hs q hq, e1⟩), e.sub, e.old, e.al⟩
    refine hR i ds ρ h3 S _ H { h2 with fits := fits_start h1 } _ (fun S' σ' γ' r H' ⟨r2, a1, a2, a4⟩ s' e' => ?_) fun S' v x r H' ⟨r2, a1, a2, a4⟩ hv s' e' => ?_
    · exact q S' .non .none r2 H' a1 a4 .non (s'.toStR.sub (fun q hq => a2.subset hq) ((a2.map _).nodup s'.nd)) (cut (fun q hq => a2.subset hq) e')
    · exact q S' v x r2 H' a1 a4 hv (s'.sub (fun q hq => a2.subset hq) ((a2.map _).nodup s'.nd)) (cut (fun q hq => a2.subset hq) e')
end
end LK
namespace LK
open PySem PySem.Spec PyProof.Rows L2
variable [Tbs]
section
variable {K : PySem.W.Frag} {γ : Gm} {ρ ρ' : Rho} {te tl : TE} {tt : TT} {ds : List PyData} {t : TS}
theorem new_own {S : Addr → Prop} {σ : L2.St} {H H2 : Hp} {p : Addr} {xs : List V} {Q : VK} (st : Sta K S γ ρ σ H) (e : Ext H H2) (n : Nt H p) (at2 : H2 p = some (.lst xs)) (hall : DsAll K (fun a => S a ∧ a ≠ p) H2 xs ds) (q : ∀ S' v x ρ' H', (∃ p, x = rf p ∧ ρ' = ρ ++ [(p, .lst ds)]) → Ds K S' H' v x → Sta K S' γ ρ' σ H' → Eff S ρ H S' ρ' H' → Q v H') : Q (.ref p) H2 := by
  have mv : Mv S (fun a => S a ∧ a ≠ p) K H H2 := ⟨fun a x s q nt => ⟨⟨s, fun z => rd_nt q nt (z ▸ n)⟩, (Keep.of e).obj a x s q nt⟩, fun a C d f s q => ⟨⟨s, fun z => by
    subst z
    obtain ⟨ps, z⟩ := n _ q
    cases z⟩, (Keep.of e).ins a C d f s q⟩, fun _ _ q => sqT_keep (Keep.of (S := S) e) q⟩
  have nt : ∀ a, Nt H2 a → Nt H a ∧ a ≠ p := fun a h => ⟨e.nt h, fun z => by
    subst z
    exact h.lst at2⟩
  refine q (fun a => S a ∧ a ≠ p) (.ref p) (rf p) (ρ ++ [(p, .lst ds)]) H2 ⟨p, rfl, rfl⟩ (.rf p) { frs := ⟨fun a h => ⟨st.frs.new a (nt a h).1, (nt a h).2⟩, e.tabs st.frs.tabs⟩, own := fun q hq => ?_, nd := ?_, fits := st.fits.move mv } ⟨.of e, fun a d => ?_, fun a s => .inl s.1, fun a s nn => ⟨s, fun z => nn (z ▸ n)⟩, fun a h => (nt a h).1⟩
  · rcases List.mem_append.mp hq with h | h
    · obtain ⟨n1, n2⟩ := st.own q h
      exact ⟨fun z => n1 z.1, Ct.move mv (fun o h pl => e.keep _ _ h pl.ntup.2.2.1) n2⟩
    · rw [List.mem_singleton.mp h]
      exact ⟨fun z => z.2 rfl, xs, at2, hall⟩
  · rw [List.map_append]
    refine List.nodup_append.mpr ⟨st.nd, by simp, fun a ha b hb z => ?_⟩
    have hb : b = p := by simpa using hb
    subst hb z
    exact st.toStR.trk ha n
  · unfold dom at d
    rw [List.map_append] at d
    rcases List.mem_append.mp d with h | h
    · exact .inl h
    · have : a = p := by simpa using h
      exact .inr (this ▸ n)
/-- .. a comprehension's list is one's own -/
theorem er_lcRo {g : TG} {vs : List Nat} {b : Nat → Bool} {f : Nat → PyData} {γ' : Nat → Gm} (h : EvR K γ ρ tl (fun x r => x = .list ds ∧ r = ρ')) (hz : ds.length ≤ 1000000) (hv : GIn g vs)
    (hg : ∀ i, i < ds.length → EvG K g (wipeG γ vs) (ds.getD i .none) (γ' i)) (ht : ∀ i, i < ds.length → EvB K (γ' i) tt (b i)) (he : ∀ i, i < ds.length → b i = true → Ev K (γ' i) te (f i)) : EvR K γ ρ (tLc (iList K tl) g tt te vs) (fun x r => ∃ p, x = rf p ∧ r = ρ' ++ [(p, .lst (given ds.length b f))]) := fun S σ H st Q q =>
  h S σ H st _ fun S1 v x ρ1 H1 ⟨ex, er⟩ hx st1 e1 => by
    subst ex er
    obtain ⟨a, ws, rfl, s, hq, hall⟩ := hx.lst_inv
    refine ⟨a, rfl, ⟨ws, .inl hq⟩, fun D hD => ?_⟩
    have hl := hall.len
    refine lc_run st1.fits st1.frs (fun S' w => ⟨fun H => SqL K H a ws ∧ Ext H1 H, ?_, ⟨.inl hq, Ext.refl _⟩, fun H3 H4 e g => ⟨e.seq g.1, g.2.trans e⟩⟩) hD hz hv hg ht he fun acc H' e3 atD hall2 => ?_
    · have wk := walk_list (K := K) (a := a) (xs := ws)
      rw [hl] at wk
      refine Walk.mono wk (fun _ g => g.1) fun j H x H' hj g y => ?_
      obtain ⟨rfl, hx⟩ := y
      obtain ⟨d, hd, hv⟩ := hall.at' hx
      refine ⟨Ext.refl _, ?_⟩
      rw [List.getD_eq_getElem?_getD, hd]
      exact (hv.res w).same g.2
    · exact new_own st1 e3 (.of hD) atD hall2 fun S2 v x ρ2 H2 a hv st2 e2 => q S2 v x ρ2 H2 a hv st2 (e1.trans st.frs e2)
/-- what is one's own, told in another order -/
theorem step_perm (h : ρ.Perm ρ') : Step K γ ρ γ ρ' := fun S σ H st => ⟨S, { frs := st.frs, own := fun q hq => st.own q (h.mem_iff.mpr hq), nd := (h.map _).nodup_iff.mp st.nd, fits := st.fits }, ⟨⟨fun b o _ h _ => h, fun t => t⟩, fun p d => .inl (by
  obtain ⟨q, hq, e⟩ := List.mem_map.mp d
  exact List.mem_map.mpr ⟨q, h.mem_iff.mpr hq, e⟩), fun a s => .inl s, fun a s _ => s, fun a h => h⟩⟩
theorem er_tupR {ta : TA} {L : List PyData → Rho → Prop} (h : EvRA K γ ρ ta L) (hz : ∀ ds r, L ds r → ds.length ≤ 1000000) : EvR K γ ρ (tTup ta) (fun x r => ∃ xs, L xs r ∧ x = .tuple xs) := fun S σ H st Q q =>
  h S σ H st _ fun S1 vs xs ρ1 H1 l hv st1 e1 => ⟨by rw [hv.len]; exact sz_of (hz xs ρ1 l), fun p hp => by
    have e2 := same_new (o := .tup vs) hp
    exact q S1 (.ref p) (.tuple xs) ρ1 _ ⟨xs, l, rfl⟩ (.tup (.inl (.inl upd_same)) (hv.same e2)) (st1.ext e2) (e1.trans st.frs (.ext e2))⟩
end
end LK
namespace LK
open PySem PySem.Spec PyProof.Rows L2
/-- the table of a written code object -/
def codeTab (K : PySem.W.Frag) (c : Addr) : Option Addr := match K.lookup c with
  | some ⟨_, _, .fields vs, _⟩ => (match (vs[11]? : Option Value) with | some (.ref P) => some P | _ => none)
  | _ => none
end LK
namespace LK
open PySem PySem.Spec PyProof.Rows L2
variable [Tbs]
/-! ### sorted(xs) of data that are alike -/
/-- the places of the items, sorted -/
def sortD (ds : List PyData) : List Nat := (List.range ds.length).mergeSort (PySem.W.dataLe false fun i => ds.getD i .none)
def rSortDat (K : PySem.W.Frag) : List V → Hp → VK → Prop := fun vs H Q => ∃ (a : Addr) (xs : List V) (ds : List PyData), vs = [.ref a] ∧ SqL K H a xs ∧ DpAll K H xs ds ∧ PySem.W.AllAlike ds ∧ PySem.W.Sortable ds ∧ (∀ d ∈ ds, d.depth ≤ 60) ∧
  ∀ p, H p = none → Q (.ref p) (upd H p (.lst ((sortD ds).map fun i => xs.getD i .non)))
theorem dpAll_each {K : PySem.W.Frag} {H : Hp} : ∀ {xs : List V} {ds : List PyData}, DpAll K H xs ds → xs.length = ds.length ∧ ∀ (i : Nat) (v : V), xs[i]? = some v → ∃ d, ds[i]? = some d ∧ Dp K H v d
  | _, _, .nil => ⟨rfl, fun i v h => by simp at h⟩
  | _, _, .cons h t => by
    obtain ⟨a, b⟩ := dpAll_each t
    refine ⟨by rw [List.length_cons, List.length_cons, a], fun i v hv => ?_⟩
    cases i with
    | zero =>
      rw [List.getElem?_cons_zero] at hv
      obtain rfl := Option.some.inj hv
      exact ⟨_, rfl, h⟩
    | succ i => exact b i v hv
theorem cr_sortDatK {X : Cx} {K : PySem.W.Frag} (hk : X.K = K) (hu : X.A.units + 64 < cLine) : CallR X (.builtin "sorted") (rSortDat K) := by
  subst hk
  intro pins s σ H vs us Q I r h
  obtain ⟨a, xs, ds, rfl, hs, hd, hal, hso, hdep, q⟩ := h
  obtain ⟨its, rv, hl, hz⟩ := I.list hs
  rw [Vals.ref1 r]
  obtain ⟨hlen, hat⟩ := dpAll_each hd
  have hlv := rv.length
  have each : PySem.W.EachIs (fun v i => its[i]? = some v) its (List.range ds.length) := by
    have e : List.range ds.length = List.range its.length := by rw [← hlen, hlv]
    rw [e]
    refine PySem.W.EachIs.of_zip (by simp) fun p hp => ?_
    obtain ⟨i, hi, ep⟩ := List.getElem_of_mem hp
    rw [List.length_zip] at hi
    rw [← ep, List.getElem_zip, List.getElem_range]
    exact List.getElem?_eq_getElem (by omega)
  have mapD : (List.range ds.length).map (fun i => ds.getD i .none) = ds := range_getD ds .none
  refine PySem.W.sorted_data (enc := fun i => ds.getD i .none) (R := fun v i => its[i]? = some v) hl.isList each ?_ (by rw [mapD]; exact hal) (by rw [mapD]; exact hso) (by rw [List.length_range, ← hlen]; exact hz) (fun i hi => ?_) fun out ho he => ?_
  · refine each.mono fun v i hv => ?_
    have hi : i < its.length := (List.getElem?_eq_some_iff.mp hv).1
    have hx : xs[i]? = some (xs[i]'(by omega)) := List.getElem?_eq_getElem (by omega)
    obtain ⟨u, hu, ru⟩ := rv.get hx
    rw [hv] at hu
    cases hu
    obtain ⟨d, hd2, hdp⟩ := hat i _ hx
    show ∃ as, Reads s.heap v (ds.getD i .none) as
    rw [List.getD_eq_getElem?_getD, hd2]
    exact Dp.reads I d _ v hdp ru
  · have hi := List.mem_range.mp hi
    have := hdep _ (List.getElem_mem hi)
    show X.A.units + 2 + (ds.getD i .none).depth < cLine
    rw [List.getD_eq_getElem?_getD, List.getElem?_eq_getElem hi]
    show X.A.units + 2 + (ds[i]).depth < cLine
    omega
  · have key : ∀ (is : List Nat) (out : List Value), PySem.W.EachIs (fun v i => its[i]? = some v) out is → Vals (is.map fun i => xs.getD i .non) out := by
      intro is out e
      induction e with
      | nil => exact .nil
      | @cons v i vs is h t ih =>
        have hi : i < its.length := (List.getElem?_eq_some_iff.mp h).1
        have hx : xs[i]? = some (xs[i]'(by omega)) := List.getElem?_eq_getElem (by omega)
        obtain ⟨u, hu, ru⟩ := rv.get hx
        rw [h] at hu
        cases hu
        refine .cons ?_ ih
        show RelV (xs.getD i .non) v
        rw [List.getD_eq_getElem?_getD, hx]
        exact ru
    obtain ⟨ep, he'⟩ := PyProof.Rows.sortedAll_at s.heap its out.toArray
    have hlen2 : ((sortD ds).map fun i => xs.getD i .non).length ≤ sizeLine := by
      rw [List.length_map]
      unfold sortD
      rw [List.length_mergeSort, List.length_range, ← hlen]
      exact hz
    exact ⟨.ref _, upd H (s.heap.objs.size + 1) (.lst ((sortD ds).map fun i => xs.getD i .non)), I.laid (t' := s.toks) (fun _ _ => PyProof.Rows.sortedAll_old) (Nat.le_succ _) ⟨hlen2, out, ep, key _ _ he, he'⟩, rfl, q _ (I.hok.fresh (Nat.le_succ _))⟩
section
variable {K : PySem.W.Frag} {γ : Gm} {te : TE} {ds : List PyData}
theorem sortD_lt : ∀ i ∈ sortD ds, i < ds.length := fun i hi => by
  unfold sortD at hi
  exact List.mem_range.mp ((List.mergeSort_perm _ _).mem_iff.mp hi)
theorem el_sortDat (h : Ev K γ te (.list ds)) (hc : PyData.canLayAll0 ds = true) (hal : PySem.W.AllAlike ds) (hso : PySem.W.Sortable ds) (hdep : ∀ d ∈ ds, d.depth ≤ 60) : EvL K γ (tCB (rSortDat K) (tCons te tNil)) ((sortD ds).map fun i => ds.getD i .none) := fun S σ H f fr Q q =>
  h S σ H f fr _ fun v H2 e2 hv => by
    obtain ⟨a, ws, rfl, s, hq, hall⟩ := hv.lst_inv
    refine ⟨a, ws, ds, rfl, .inl hq, hall.dp hc, hal, hso, hdep, fun p np => ?_⟩
    have e4 := same_new (o := .lst ((sortD ds).map fun i => ws.getD i .non)) np
    have k1 : DsAll K (fun a => S a ∧ a ≠ p) H2 ws ds := hall.res (Res.ne np)
    exact q p _ _ (e2.trans e4) (e2.nt (.of np)) upd_same ((k1.same e4).pick sortD_lt)
end
end LK
namespace LK
open PySem PySem.Spec PyProof.Rows L2
variable [Tbs]
/-! ### targets of four; sorted(d) of texts; x in a list of texts -/
section
variable {K : PySem.W.Frag} {γ : Gm} {te td tl : TE} {S : Addr → Prop} {H : Hp}
theorem eg_tup4 {j k l m : Nat} {x y z u : PyData} : EvG K (gTup K 4 (gCons (gName j) (gCons (gName k) (gCons (gName l) (gCons (gName m) gNil))))) γ (.tuple [x, y, z, u]) ((((γ.set j (some x)).set k (some y)).set l (some z)).set m (some u)) := fun S σ v H f hv Q q => by
  obtain ⟨p, xs, rfl, hq, hall⟩ := hv.tup_inv
  obtain ⟨a, t, rfl, ha, hall⟩ := hall.cons_inv
  obtain ⟨b, c, d, rfl, hb, hc, hd⟩ := hall.three
  exact ⟨p, [a, b, c, d], rfl, hq, rfl, a, _, rfl, b, _, rfl, c, _, rfl, d, _, rfl, rfl, q _ ((((f.set j ha).set k hb).set l hc).set m hd)⟩
theorem wipe_in4 {σ : L2.St} {vs : List Nat} {a b c d : Nat} (h1 : a ∈ vs) (h2 : b ∈ vs) (h3 : c ∈ vs) (h4 : d ∈ vs) (x y z u : Option V) : L2.wipe (((((L2.wipe σ vs).set a x).set b y).set c z).set d u) vs = L2.wipe σ vs := by
  rw [wipe_set, if_pos h4, wipe_in3 h1 h2 h3]
theorem gin_tup4 {a b c d : Nat} {vs : List Nat} (h1 : a ∈ vs) (h2 : b ∈ vs) (h3 : c ∈ vs) (h4 : d ∈ vs) : GIn (gTup K 4 (gCons (gName a) (gCons (gName b) (gCons (gName c) (gCons (gName d) gNil))))) vs := fun v σ H Q q => by
  obtain ⟨p, xs, rfl, hq, hn, v, r, rfl, w, r', rfl, u, r2, rfl, t, r3, rfl, rfl, q⟩ := q
  exact ⟨p, _, rfl, hq, hn, v, _, rfl, w, _, rfl, u, _, rfl, t, _, rfl, rfl, wipe_in4 h1 h2 h3 h4 _ _ _ _, q⟩
/-- x in a list of texts -/
theorem strs_of : ∀ {xs : List V} {ns : List Str}, DsAll K S H xs (ns.map PyData.str) → xs = ns.map V.str
  | _, [], h => by cases h; rfl
  | _, n :: ns, h => by
    rw [List.map_cons] at h
    cases h with
    | cons h t =>
      rw [h.str_inv, strs_of t]
      rfl
theorem inV_strs {z : Str} : ∀ {ns : List Str}, inV (.str z) (ns.map V.str) = decide (z ∈ ns)
  | [] => rfl
  | n :: ns => by
    have h : inV (.str z) ((n :: ns).map V.str) = (eqV (.str n) (.str z) || inV (.str z) (ns.map V.str)) := rfl
    rw [h, inV_strs]
    have e : eqV (.str n) (.str z) = decide (n = z) := by first | rfl | (unfold eqV; simp)
    rw [e]
    by_cases hz : z = n
    · subst hz
      simp
    · have hz' : ¬ n = z := fun e => hz e.symm
      simp [hz, hz']
theorem eo_inStrs {neg : Bool} {z : Str} {ns : List Str} : EvO K (rIn K neg) (.str z) (.list (ns.map PyData.str)) (.bool (if neg then !decide (z ∈ ns) else decide (z ∈ ns))) := fun S v w H f hv hw Q q => by
  obtain ⟨p, xs, rfl, s, hq, hall⟩ := hw.lst_inv
  rw [strs_of hall] at hq
  rw [hv.str_inv]
  refine ⟨p, _, rfl, .inl (.inl hq), rfl, by simp [flatV], ?_⟩
  rw [inV_strs]
  exact q _ H (Ext.refl _) (.bl _)
end
end LK
namespace LK
open PySem PySem.Spec PyProof.Rows L2
variable [Tbs]
/-! ### texts, sorted -/
def leS (a b : Str) : Bool := !ltCps b.cps.toList a.cps.toList
theorem leS_iff {a b : Str} : leS a b = true ↔ a.cps.toList ≤ b.cps.toList := by
  unfold leS
  rw [ltCps_eq]
  by_cases h : b.cps.toList < a.cps.toList
  · rw [decide_eq_true h]
    exact ⟨fun z => (Bool.noConfusion z), fun z => absurd h (List.not_lt.mpr z)⟩
  · rw [decide_eq_false h]
    exact ⟨fun _ => List.not_lt.mp h, fun _ => rfl⟩
theorem leS_trans (a b c : Str) (h : leS a b = true) (g : leS b c = true) : leS a c = true := leS_iff.mpr (List.le_trans (leS_iff.mp h) (leS_iff.mp g))
theorem leS_total (a b : Str) : (leS a b || leS b a) = true := by
  rcases List.le_total a.cps.toList b.cps.toList with h | h
  · rw [leS_iff.mpr h]
    rfl
  · rw [leS_iff.mpr h, Bool.or_true]
theorem leS_anti {a b : Str} (h : leS a b = true) (g : leS b a = true) : a = b := by
  have e := List.le_antisymm (leS_iff.mp h) (leS_iff.mp g)
  obtain ⟨x⟩ := a
  obtain ⟨y⟩ := b
  exact congrArg Str.mk (Array.toList_inj.mp e)
theorem risingS_pw : ∀ {l : List Str} {p : Str}, risingS p l = true → (p :: l).Pairwise fun a b => leS a b = true
  | [], _, _ => List.pairwise_singleton _ _
  | x :: r, p, h => by
    have h : (leS p x && risingS x r) = true := h
    rw [Bool.and_eq_true] at h
    have ih := risingS_pw h.2
    refine List.pairwise_cons.mpr ⟨fun a ha => ?_, ih⟩
    rcases List.mem_cons.mp ha with e | ha
    · rw [e]
      exact h.1
    · exact leS_trans _ _ _ h.1 ((List.pairwise_cons.mp ih).1 a ha)
theorem sortedS_pw : ∀ {l : List Str}, sortedS l = true → l.Pairwise fun a b => leS a b = true
  | [], _ => .nil
  | _ :: _, h => risingS_pw h
noncomputable def srtS (l : List Str) : List Str := l.mergeSort leS
theorem srtS_perm {l : List Str} : (srtS l).Perm l := List.mergeSort_perm _ _
theorem srtS_pw {l : List Str} : (srtS l).Pairwise fun a b => leS a b = true := List.pairwise_mergeSort leS_trans leS_total l
theorem srtS_of {ys l : List Str} (h : sortedS ys = true) (p : ys.Perm l) : ys = srtS l := List.Perm.eq_of_pairwise (fun a b _ _ h g => leS_anti h g) (sortedS_pw h) srtS_pw (p.trans srtS_perm.symm)
theorem srtS_eq {l m : List Str} (p : l.Perm m) : srtS l = srtS m := List.Perm.eq_of_pairwise (fun a b _ _ h g => leS_anti h g) srtS_pw srtS_pw (srtS_perm.trans (p.trans srtS_perm.symm))
/-! sorted(d), its keys texts; sorted(xs) of texts -/
def rSortKS : List V → Hp → VK → Prop := fun xs H Q => ∃ (a : Addr) (kvs : List (Key × V)) (ks : List Str), xs = [.ref a] ∧ Rd H a (.dK kvs) ∧ kvs.map (·.1) = ks.map Sum.inr ∧ ks.length < 64 ∧ ∀ ys p, ys.Perm ks → sortedS ys = true → H p = none → Q (.ref p) (upd H p (.lst (ys.map V.str)))
theorem cr_sortKS {X : Cx} (hc : X.calm = true) : CallR X (.builtin "sorted") rSortKS := call_sortedD hc
section
variable {K : PySem.W.Frag} {γ : Gm} {te td : TE} {S : Addr → Prop} {H : Hp}
theorem DsAll.strs : ∀ (ns : List Str), DsAll K S H (ns.map V.str) (ns.map PyData.str)
  | [] => .nil
  | n :: r => .cons (.str n) (DsAll.strs r)
theorem keys_S : ∀ {kvs : List (Key × V)} {es : List (PyData × PyData)} {ks : List Str}, DsP K S H (kvs.map fun p => (kD p.1, p.2)) es → es.map (·.1) = ks.map PyData.str → kvs.map (·.1) = ks.map Sum.inr
  | [], es, ks, h, e => by
    cases h
    cases ks with
    | nil => rfl
    | cons k ks => cases e
  | kv :: kvs, es, ks, h, e => by
    cases h with
    | cons h1 h2 =>
      cases ks with
      | nil => cases e
      | cons k ks =>
        rw [List.map_cons, List.map_cons] at e
        injection e with e1 e2
        rw [List.map_cons, List.map_cons, keys_S h2 e2]
        congr 1
        obtain ⟨k', v'⟩ := kv
        cases k' with
        | inl i => cases e1
        | inr z =>
          injection e1 with e1
          rw [e1]
theorem el_sortKS {es : List (PyData × PyData)} {ks : List Str} (h : Ev K γ td (.dict es)) (o : isOb (.dict es) = false) (he : es.map (·.1) = ks.map PyData.str) (h64 : ks.length < 64) : EvL K γ (tCB rSortKS (tCons td tNil)) ((srtS ks).map PyData.str) := fun S σ H f fr Q q => h S σ H f fr _ fun v H2 e2 hv => by
  obtain ⟨a, kvs, rfl, s, hr, hall⟩ := hv.dct_inv o
  refine ⟨a, kvs, ks, rfl, hr, keys_S hall he, h64, fun ys p hp hs np => ?_⟩
  rw [srtS_of hs hp]
  have e3 := same_new (o := .lst ((srtS ks).map V.str)) np
  exact q p _ _ (e2.trans e3) (e2.nt (.of np)) upd_same (DsAll.strs (K := K) (srtS ks))
theorem el_sortS {ks : List Str} (h : Ev K γ te (.list (ks.map PyData.str))) (h64 : ks.length < 64) : EvL K γ (tCB (rSortedS K) (tCons te tNil)) ((srtS ks).map PyData.str) := fun S σ H f fr Q q => h S σ H f fr _ fun v H2 e2 hv => by
  obtain ⟨a, ws, rfl, s, hq, hall⟩ := hv.lst_inv
  rw [strs_of hall] at hq
  refine ⟨a, ks, rfl, .inl hq, h64, fun ys p hp hs np => ?_⟩
  rw [srtS_of hs hp]
  have e3 := same_new (o := .lst ((srtS ks).map V.str)) np
  exact q p _ _ (e2.trans e3) (e2.nt (.of np)) upd_same (DsAll.strs (K := K) (srtS ks))
/-- sorted(xs) == sorted(d): the same texts -/
theorem ev_sortEq {ks ms : List Str} {es : List (PyData × PyData)} (h : Ev K γ te (.list (ks.map PyData.str))) (g : Ev K γ td (.dict es)) (o : isOb (.dict es) = false) (he : es.map (·.1) = ms.map PyData.str) (p : ks.Perm ms) (h64 : ks.length < 64) (hk : ∀ k ∈ ks, Shp 1 (.str k)) : Ev K γ (tOp (rEqD K) (tCB (rSortedS K) (tCons te tNil)) (tCB rSortKS (tCons td tNil))) (.bool true) := by
  have a := (el_sortS h h64).ev
  have b := (el_sortKS g o he (by rw [← p.length_eq]; exact h64)).ev
  rw [← srtS_eq p] at b
  have sh : Shp 2 (.list ((srtS ks).map PyData.str)) := shp_lst (n := 1) fun d hd => by
    obtain ⟨k, h, rfl⟩ := List.mem_map.mp hd
    exact hk k (srtS_perm.mem_iff.mp h)
  exact (ev_op a b (eo_eqD (sh.shaped (by decide)) (sh.shaped (by decide)))).is (congrArg PyData.bool sh.eqv)
end
end LK
namespace LK
open PySem PySem.Spec PyProof.Rows L2
variable [Tbs]
theorem cr_sortedSK {X : Cx} {K : PySem.W.Frag} (hk : X.K = K) : CallR X (.builtin "sorted") (rSortedS K) := by
  subst hk
  exact cr_sortedS
/-- a text and a number, compared -/
theorem eqv_si {a b : Str} {i j : Int} : PyData.eqv (.tuple [.str a, .int i]) (.tuple [.str b, .int j]) = decide ((a, i) = (b, j)) := by
  rw [Bool.eq_iff_iff]
  simp [PyData.eqv, PyData.eqvAll]
end LK
namespace LK
open PySem PySem.Spec PyProof.Rows L2
variable [Tbs]
/-! ### min(xs, key=lambda x: x[n], default=None) -/
theorem argBest_lt {n : Nat} (kf : Nat → Int) : ∀ k, argBest (fun i j => decide (kf i < kf j)) k ≤ k ∧ ∀ j, j ≤ k → kf (argBest (fun i j => decide (kf i < kf j)) k) ≤ kf j ∧ (j < argBest (fun i j => decide (kf i < kf j)) k → kf (argBest (fun i j => decide (kf i < kf j)) k) < kf j)
  | 0 => ⟨Nat.le_refl _, fun j hj => by
    have : j = 0 := by omega
    subst this
    exact ⟨Int.le_refl _, fun z => absurd z (Nat.lt_irrefl _)⟩⟩
  | k + 1 => by
    obtain ⟨h1, h2⟩ := argBest_lt (n := n) kf k
    unfold argBest
    by_cases c : kf (k + 1) < kf (argBest (fun i j => decide (kf i < kf j)) k)
    · rw [if_pos (decide_eq_true c)]
      refine ⟨Nat.le_refl _, fun j hj => ?_⟩
      rcases Nat.lt_or_ge k j with q | q
      · have : j = k + 1 := by omega
        subst this
        exact ⟨Int.le_refl _, fun z => absurd z (Nat.lt_irrefl _)⟩
      · have := (h2 j q).1
        exact ⟨by omega, fun _ => by omega⟩
    · rw [if_neg (by simpa using c)]
      refine ⟨Nat.le_succ_of_le h1, fun j hj => ?_⟩
      rcases Nat.lt_or_ge k j with q | q
      · have : j = k + 1 := by omega
        subst this
        exact ⟨by omega, fun z => by omega⟩
      · exact h2 j q
section
variable {prog : Program} {w : World} {A : Around} {E : Value → Shared → Prop} {s : Shared}
theorem min_keyD {l q : Addr} {vs : Array Value} {d : Value} {Q : Value → Shared → Prop} (kf : Nat → Int) (hh : A.handled = none) (hl : s.heap.IsList l vs)
    (turn : ∀ (i : Nat) (v : Value) (h : Heap) (tk : Nat) (Q : Value → Shared → Prop) (E : Value → Shared → Prop), vs[i]? = some v → (∀ b o, s.heap.get? b = some o → h.get? b = some o) → (∀ t h' tk', (∀ b o, h.get? b = some o → h'.get? b = some o) → Q (.int (kf i) t) { s with heap := h', toks := tk' }) → wpAny (model prog w) A.in1 (call (.ref q) [v]) Q E { s with heap := h, toks := tk })
    (h0 : vs.size = 0 → ∀ h tk, (∀ b o, s.heap.get? b = some o → h.get? b = some o) → Q d { s with heap := h, toks := tk })
    (hQ : ∀ i v h tk, vs[i]? = some v → (∀ j, j < vs.size → kf i ≤ kf j ∧ (j < i → kf i < kf j)) → (∀ b o, s.heap.get? b = some o → h.get? b = some o) → Q v { s with heap := h, toks := tk }) :
    wpAny (model prog w) A (call (.builtin "min") [.ref l] [(Str.ofString "key", .ref q), (Str.ofString "default", d)]) Q E s := by
  refine PySem.call_min_walkKD (PySem.W.iter_listW (A := A.in1) hh hl fun s₂ e W st hfp hw hk => ?_)
  have hsz : s₂.heap.objs.size = s.heap.objs.size + 1 := by
    rw [e]
    exact Heap.size_push ..
  have stay : ∀ {wr : List Addr} {s' s'' : Shared} (hwr : ∀ b ∈ wr, b = s.heap.objs.size ∨ b = s.heap.objs.size + 1), (∃ h tk, s' = { s with heap := h, toks := tk } ∧ ∀ b o, s.heap.get? b = some o → h.get? b = some o) → Moved wr (fun a b => b = a) s' s'' → ∃ h tk, s'' = { s with heap := h, toks := tk } ∧ ∀ b o, s.heap.get? b = some o → h.get? b = some o := by
    rintro wr s' s'' hwr ⟨h, tk, rfl, hkp⟩ m
    refine ⟨s''.heap, s''.toks, ?_, fun b o eb => m.heap b o (fun hb => ?_) (hkp b o eb)⟩
    · obtain ⟨hp, g, d', tk', os⟩ := s''
      have h1 : g = s.gens := m.gens
      have h2 : d' = s.drawn := m.drawn
      have h3 : os = s.os := m.os
      subst h1 h2 h3
      rfl
    · have := Heap.lt_size eb
      rcases hwr b hb with z | z
      · rw [z] at this
        exact Nat.lt_irrefl _ this
      · rw [z] at this
        exact Nat.lt_irrefl _ (Nat.lt_of_succ_lt this)
  have hwr : ∀ b ∈ s₂.heap.objs.size :: [s.heap.objs.size], b = s.heap.objs.size ∨ b = s.heap.objs.size + 1 := fun b hb => by
    rcases List.mem_cons.mp hb with z | z
    · exact .inr (z.trans hsz)
    · exact .inl (List.mem_singleton.mp z)
  refine ⟨_, _, _, _, _, _, _, fun s' => ∃ h tk, s' = { s with heap := h, toks := tk } ∧ ∀ b o, s.heap.get? b = some o → h.get? b = some o, fun i k _ => ∃ t, k = .int (kf i) t, fun i j => decide (kf i < kf j), rfl, W, st, hfp, ⟨fun s' s'' hj m => stay hwr hj m, fun i k s' s'' v m => v, fun i v s' o Q' E' hi hP hJ hSt hS h => ?_, fun i j ki kj s' Q' E' hJ hi hj h => ?_⟩, ⟨s₂.heap, s.toks, by rw [e], hk⟩, fun hz s' hj => ?_, fun hp v s' hP hj => ?_⟩
  · obtain ⟨hp, tk, rfl, hkp⟩ := hJ
    refine turn i v hp tk Q' E' hP hkp fun t h' tk' kp => h _ _ ⟨h', tk', rfl, fun b o eb => kp b o (hkp b o eb)⟩ ?_ (kp _ _ hS) ⟨t, rfl⟩ fun j k' hv => hv
    obtain ⟨⟨o1, e1, c1, d1⟩, ⟨o2, e2, r2⟩⟩ := hSt
    exact ⟨⟨o1, kp _ _ e1, c1, d1⟩, ⟨o2, kp _ _ e2, r2⟩⟩
  · obtain ⟨t, rfl⟩ := hi
    obtain ⟨u, rfl⟩ := hj
    exact richCompare_gives (op := .Lt) (typeIs_int s' _ t) (typeIs_int s' _ u) F.slot_int_lt F.entry_int_lt (F.args_int_lt_2 _ _) (gives_int_lt _ _ t u) (fun x => nomatch x) h
  · obtain ⟨h, tk, rfl, hkp⟩ := hj
    exact h0 hz h tk hkp
  · obtain ⟨h, tk, rfl, hkp⟩ := hj
    obtain ⟨b1, b2⟩ := argBest_lt (n := 0) kf (vs.size - 1)
    exact hQ _ v h tk hP (fun j hj => b2 j (by omega)) hkp
end
end LK
namespace LK
open PySem PySem.Spec PyProof.Rows L2
variable [Tbs]
section
variable {X : Cx} {K : PySem.W.Frag} {e : Expr} {te : TE} {x : Str} {n : Nat} {c P : Addr} {p pos p0 p1 p2 p3 p4 lpos kpos dpos : Pos} {kk k4 : Nat} {T : List (Addr × Str)}
/-- the first of the least items, by the ints at place n; None where there is none -/
def tMinLamD (K : PySem.W.Frag) (T : List (Addr × Str)) (te : TE) (n : Nat) : TE := fun σ H Q => te σ H fun v H1 => ∃ (a : Addr) (xs : List V) (kf : Nat → Int), v = .ref a ∧ SqL K H1 a xs ∧ LamX.Tabs T H1 ∧
  (∀ i v, xs[i]? = some v → ∃ t ys, v = .ref t ∧ SqT K H1 t ys ∧ ys[n]? = some (.int (kf i))) ∧
  (xs = [] → ∀ H2, LamX.ExtN H1 H2 → LamX.Tabs T H2 → Q .non H2) ∧
  ∀ i v H2, xs[i]? = some v → (∀ j, j < xs.length → kf i ≤ kf j ∧ (j < i → kf i < kf j)) → LamX.ExtN H1 H2 → LamX.Tabs T H2 → Q v H2
theorem pe_minLamD (hk : X.K = K) (hr : Room 1 X.A) (hc : X.calm = true) (hg : Gl X "min") (hm : X.mg "min" = none) (TB : LamX.TabB X.base X.mg c P) (hcode : X.env.code = .ref c) (hT : (P, X.env.qual ++ "<lambda>") ∈ T) (hu : ∀ q ∈ T, q.1 = P → q.2 = X.env.qual ++ "<lambda>")
    (hb : LamB (X.env.qual ++ "<lambda>") x p0 (.Subscript (.Name x p1) (.Constant (.int (n : Int)) kk p2) p3) (lamScope x)) (hd : (x == ("__debug__" : Str)) = false) (he : PE X e te)
    (hs : backTo pos (starEach (e :: []) X.env) = (false, eval e X.env) :: backTo pos (starEach [] X.env) := by rfl) (hpl : (backTo pos (starEach (e :: []) X.env)).any (·.1) = false := by rfl) (hse : starEach [e] X.env = (false, eval e X.env) :: starEach [] X.env := by rfl) :
    PE X (.Call (.Name "min" p) [e] [⟨some "key", .Lambda (lamArgs x p0) (.Subscript (.Name x p1) (.Constant (.int (n : Int)) kk p2) p3) (lamScope x) lpos, kpos⟩, ⟨some "default", .Constant .none k4 p4, dpos⟩] pos) (tMinLamD K T te n) := by
  subst hk
  refine ⟨fun pins s σ H Q I h => ?_⟩
  refine wpAny_Call_Name_kw (ld_blt I hg hm bt_min ?_)
  refine PyProof.Rows.callWith_kw (thn ((pa_cons he pa_nil hse).run pos pins s σ H (fun vs H1 => match vs with
    | [v] => ∃ (a : Addr) (xs : List V) (kf : Nat → Int), v = .ref a ∧ SqL X.K H1 a xs ∧ LamX.Tabs T H1 ∧
      (∀ i v, xs[i]? = some v → ∃ t ys, v = .ref t ∧ SqT X.K H1 t ys ∧ ys[n]? = some (.int (kf i))) ∧
      (xs = [] → ∀ H2, LamX.ExtN H1 H2 → LamX.Tabs T H2 → Q .non H2) ∧
      ∀ i v H2, xs[i]? = some v → (∀ j, j < xs.length → kf i ≤ kf j ∧ (j < i → kf i < kf j)) → LamX.ExtN H1 H2 → LamX.Tabs T H2 → Q v H2
    | _ => False) I h) fun us s1 ⟨vs, H1, I1, r1, q1⟩ => ?_) hs hpl rfl rfl
  obtain ⟨v, rfl⟩ : ∃ v, vs = [v] := by
    match vs, q1 with
    | [v], _ => exact ⟨v, rfl⟩
  obtain ⟨a, xs, kf, rfl, hS, tb, hkey, q0, q⟩ := q1
  obtain rfl := Vals.ref1 r1
  -- the lambda is made
  show wpAny _ _ (evalAll ((do let v ← eval (.Lambda (lamArgs x p0) (.Subscript (.Name x p1) (.Constant (.int (n : Int)) kk p2) p3) (lamScope x) lpos) X.env; standAt pos; pure v) :: (do let v ← eval (.Constant .none k4 p4) X.env; standAt pos; pure v) :: [])) _ _ s1
  refine wpAny_evalAll_cons (wpAny_bind (LamX.lam_make2 (T := T) I1 TB hcode hT hu tb rfl (fun y hy e => ?_) fun f c' pm ctv H2 s2 I2 ext tb2 of nf nfr oc => wpAny_bind (wpAny_standAt (wpAny_pure ?_))))
  · have : y = (x, NameKind.local) := List.mem_singleton.mp hy
    subst this
    cases e
  refine wpAny_evalAll_cons (wpAny_bind (wpAny_Constant_none (wpAny_bind (wpAny_standAt (wpAny_pure ?_)))))
  refine wpAny_evalAll_nil ?_
  show wpAny _ X.A (call (.builtin "min") [.ref a] [(Str.ofString "key", .ref f), (Str.ofString "default", .none)]) _ _ _
  have rdE : ∀ {b : Addr} {u : HO}, (∀ ps, u ≠ .tbl ps) → Rd H1 b u → Rd H2 b u := fun n r => by
    rcases r with r | ⟨o, r⟩
    · exact .inl (ext _ _ r n)
    · exact .inr ⟨o, ext _ _ r fun ps z => nomatch z⟩
  have hS2 : SqL X.K H2 a xs := hS.imp (rdE fun _ z => nomatch z) id
  obtain ⟨its, rv, pl, hz⟩ := I2.list hS2
  have hlen := rv.length
  have item : ∀ {i : Nat} {v : Value}, its.toArray[i]? = some v → ∃ x, xs[i]? = some x ∧ RelV x v := fun {i v} hv => by
    have hv : its[i]? = some v := by simpa using hv
    have hi : i < its.length := (List.getElem?_eq_some_iff.mp hv).1
    have hx : xs[i]? = some (xs[i]'(by omega)) := List.getElem?_eq_getElem (by omega)
    obtain ⟨u, hu, ru⟩ := rv.get hx
    rw [hv] at hu
    cases hu
    exact ⟨_, hx, ru⟩
  refine min_keyD kf (I2.ok.hd hc) pl.isList (fun i v h tk Q' E' hv k hq => ?_) (fun h0 h tk k => ?_) fun i v h tk hv hmin k => ?_
  · obtain ⟨x1, hx1, rx⟩ := item hv
    obtain ⟨t, ys, rfl, hst, hkn⟩ := hkey i x1 hx1
    cases rx
    have hst2 : SqT X.K H2 t ys := hst.imp (rdE fun _ z => nomatch z) id
    obtain ⟨its2, rv2, pt, hz2⟩ := I2.tuple hst2
    obtain ⟨u, hu, ru⟩ := rv2.get hkn
    obtain ⟨tu, rfl⟩ := ru
    have hlen2 := rv2.length
    obtain ⟨⟨oc', vs', tq, hoc, hdc, hvc⟩, _, _⟩ := I2.hok c' _ oc
    have ptk : IsTup h t its2.toArray := by
      obtain ⟨o, e, r⟩ := pt
      exact ⟨o, k t o e, r⟩
    refine lam_item (s := { s2 with heap := h, toks := tk }) hb hd hr.in1.depth (k f _ of) ⟨c', oc', vs', tq, rfl, k c' _ hoc, hdc, hvc⟩ (I2.ok.mod.nolimit.keeps fun b o e => k b o (I2.bk b o e)) ptk (by simpa using hu) (by rw [List.size_toArray, ← hlen2]; exact hz2) fun h' tk' kp => hq tu h' tk' kp
  · have e0 : xs = [] := List.eq_nil_of_length_eq_zero (by
      rw [List.size_toArray] at h0
      omega)
    exact ⟨.non, H2, I2.kept k, rfl, q0 e0 H2 ext tb2⟩
  · obtain ⟨x1, hx1, rx⟩ := item hv
    exact ⟨x1, H2, I2.kept k, rx, q i x1 H2 hx1 (fun j hj => hmin j (by rw [List.size_toArray]; omega)) ext tb2⟩
end
section
variable {K : PySem.W.Frag} {γ : Gm} {te : TE}
theorem ev_minLamD {n : Nat} {xs : List PyData} {kf : Nat → Int} {i : Nat} {z : PyData} (h : Ev K γ te (.list xs)) (hk : ∀ j x, xs[j]? = some x → ∃ ys : List PyData, x = PyData.tuple ys ∧ ys[n]? = some (.int (kf j))) (hi : xs[i]? = some z) (hm : FirstMin xs.length kf i) : Ev K γ (tMinLamD K Tbs.tabs te n) z := fun S σ H f fr Q q =>
  h S σ H f fr _ fun v H2 e2 hv => by
    obtain ⟨a, ws, rfl, s, hq, hall⟩ := hv.lst_inv
    have hl := hall.len
    refine ⟨a, ws, kf, rfl, .inl hq, (fr.same e2).tabs, fun j v hj => ?_, fun e => ?_, fun j v H3 hj hmj ext tb => ?_⟩
    · obtain ⟨d, hd, hv⟩ := hall.at' hj
      obtain ⟨ys, rfl, hy⟩ := hk j d hd
      obtain ⟨t, us, rfl, ht, hus⟩ := hv.tup_inv
      obtain ⟨u, hu, hdu⟩ := hus.at hy
      rw [hdu.int_inv] at hu
      exact ⟨t, us, rfl, ht, hu⟩
    · have := hm.1
      rw [← hl, e] at this
      exact absurd this (Nat.not_lt_zero _)
    · have hjn : j < xs.length := by rw [← hl]; exact (List.getElem?_eq_some_iff.mp hj).1
      have e : j = i := FirstMin.uniq ⟨hjn, fun k hk => hmj k (by rw [hl]; exact hk)⟩ hm
      subst e
      obtain ⟨d, hd, hv⟩ := hall.at' hj
      rw [hi] at hd
      cases hd
      have e3 : Ext H2 H3 := ⟨ext, fun _ => tb⟩
      exact q v H3 (e2.trans e3) (hv.same e3)
theorem ev_minLamD0 {n : Nat} (h : Ev K γ te (.list [])) : Ev K γ (tMinLamD K Tbs.tabs te n) .none := fun S σ H f fr Q q =>
  h S σ H f fr _ fun v H2 e2 hv => by
    obtain ⟨a, ws, rfl, s, hq, hall⟩ := hv.lst_inv
    have hl : ws = [] := List.eq_nil_of_length_eq_zero hall.len
    subst hl
    exact ⟨a, [], fun _ => 0, rfl, .inl hq, (fr.same e2).tabs, fun j v hj => by simp at hj, fun _ H3 ext tb => q .non H3 (e2.trans ⟨ext, fun _ => tb⟩) .non, fun j v H3 hj => by simp at hj⟩
end
end LK
namespace LK
open PySem PySem.Spec PyProof.Rows L2
variable [Tbs]
/-! ### a new dict; {k: v for .. in ..} -/
def EvDc (K : PySem.W.Frag) (γ : Gm) (te : TE) (es : List (PyData × PyData)) : Prop :=
  ∀ (S : Addr → Prop) (σ : L2.St) (H : Hp), Fits K S γ σ H → Frs S H → ∀ Q : VK, (∀ p kvs H2, Ext H H2 → Nt H p → H2 p = some (.dK kvs) → DsP K (fun a => S a ∧ a ≠ p) H2 (kvs.map fun q => (kD q.1, q.2)) es → Q (.ref p) H2) → te σ H Q
def dcs (k : Nat → Key) (f : Nat → PyData) : Nat → List (PyData × PyData)
  | 0 => []
  | n + 1 => putD (dcs k f n) (k n) (f n)
theorem putD_len {es : List (PyData × PyData)} {k : Key} {d : PyData} : (putD es k d).length ≤ es.length + 1 := by
  unfold putD
  split
  · rw [List.length_map]
    exact Nat.le_succ _
  · rw [List.length_append]
    exact Nat.le_refl _
theorem dcs_len {k : Nat → Key} {f : Nat → PyData} : ∀ n, (dcs k f n).length ≤ n
  | 0 => Nat.le_refl _
  | n + 1 => Nat.le_trans putD_len (Nat.succ_le_succ (dcs_len n))
theorem dc_it {J : It} {n : Nat} {G : Hp → Prop} {Y : Nat → Hp → V → Hp → Prop} (w : Walk J n G Y) {g : TG} {tt : TT} {tk tv : TE} {vs : List Nat} {σ : L2.St} {H1 : Hp} {D : Addr} {Qd : Hp → Prop} (Pv : Nat → Hp → Prop) (h0 : Pv 0 (upd H1 D (.dK []))) (hG : ∀ i H, i ≤ n → Pv i H → G H)
    (hs : ∀ i x H H', i < n → Pv i H → Y i H x H' → g x (L2.wipe σ vs) H' fun σ2 H2 => L2.wipe σ2 vs = L2.wipe σ vs ∧ tt σ2 H2 fun b H3 =>
      if b = true then tk σ2 H3 fun y H4 => tv σ2 H4 fun z H5 => ∃ kvs k, y = kV k ∧ H5 D = some (.dK kvs) ∧ kvs.length < sizeLine ∧ Pv (i + 1) (upd H5 D (.dK (putK kvs k z))) else Pv (i + 1) H3) (hd : ∀ H, Pv n H → Qd H) :
    ∃ W : Nat → Nat → Hp → Prop, (∃ m, W 0 m (upd H1 D (.dK []))) ∧ ∀ i m H, W i m H →
      (J.stop i H ∧ Qd H) ∨ (J.go i H ∧ ∃ Nx : Hp → Prop, (∀ H', Nx H' → ∃ m', m' < m ∧ W (i + 1) m' H') ∧ ∀ x H', J.yld i H x H' → g x (L2.wipe σ vs) H' fun σ2 H2 => L2.wipe σ2 vs = L2.wipe σ vs ∧ tt σ2 H2 fun b H3 =>
        if b = true then tk σ2 H3 fun y H4 => tv σ2 H4 fun z H5 => ∃ kvs k, y = kV k ∧ H5 D = some (.dK kvs) ∧ kvs.length < sizeLine ∧ Nx (upd H5 D (.dK (putK kvs k z))) else Nx H3) := by
  refine ⟨fun i m H => m = n - i ∧ i ≤ n ∧ Pv i H, ⟨n, by simp, Nat.zero_le _, h0⟩, ?_⟩
  rintro i m H ⟨rfl, hi, p⟩
  have q := hG i H hi p
  rcases Nat.lt_or_ge i n with hlt | hge
  · exact .inr ⟨w.goes i H hlt q, Pv (i + 1), fun H' p' => ⟨n - (i + 1), by omega, rfl, hlt, p'⟩, fun x H' y => hs i x H H' hlt p (w.yields i H x H' hlt q y)⟩
  · have e : i = n := by omega
    subst e
    exact .inl ⟨w.stops H q, hd H p⟩
theorem same_mutP {H H' : Hp} {p : Addr} {o u : HO} (e : Ext H H') (h : Nt H p) (hp : H' p = some o) (ho : Plain o) : Ext H (upd H' p u) := ⟨fun a x ha n => by
  have ne : a ≠ p := fun z => by
    subst z
    obtain ⟨ps, z⟩ := h x ha
    exact n ps z
  rw [upd_ne ne]
  exact e.keep a x ha n, fun t q hq => tabs_pl hp ho (e.tabs t q hq)⟩
section
variable {K : PySem.W.Frag} {γ : Gm} {te tk tv : TE}
theorem ek_dcG {ti : TI} {g : TG} {vs : List Nat} {n : Nat} {y : Nat → PyData} {k : Nat → Key} {f : Nat → PyData} {γ' : Nat → Gm}
    (h : EvW K γ ti n y) (hz : n ≤ 900000) (hv : GIn g vs) (hg : ∀ i, i < n → EvG K g (wipeG γ vs) (y i) (γ' i))
    (hk : ∀ i, i < n → Ev K (γ' i) tk (kD (k i))) (he : ∀ i, i < n → Ev K (γ' i) tv (f i)) : EvDc K γ (tDc ti g tYes tk tv vs) (dcs k f n) := fun S σ H fi fr Q q =>
  h S σ H fi fr _ fun J H2 e2 W D hD => by
    have fr2 := fr.same e2
    have res : Res H2 S (fun a => S a ∧ a ≠ D) := Res.ne hD
    obtain ⟨G, wk, g0, gk⟩ := W _ res
    have fi2 : Fits K (fun a => S a ∧ a ≠ D) (wipeG γ vs) (L2.wipe σ vs) H2 := ((fi.same e2).res res).wipe vs
    have dk : ∀ {H H' : Hp} {kvs : List (Key × V)}, Ext H H' → H D = some (.dK kvs) → H' D = some (.dK kvs) := fun e h => e.keep _ _ h fun ps z => nomatch z
    refine dc_it wk (fun i H' => ∃ kvs, Ext H2 H' ∧ H' D = some (.dK kvs) ∧ DsP K (fun a => S a ∧ a ≠ D) H' (kvs.map fun q => (kD q.1, q.2)) (dcs k f i)) ⟨[], same_new hD, upd_same, .nil⟩ (fun i H' hi p => ?_) (fun i x H3 H4 hi p yy => ?_) (fun H' p => ?_)
    · obtain ⟨acc, p1, p2, p3⟩ := p
      exact gk H2 H' (.of p1) g0
    · obtain ⟨acc, p1, p2, p3⟩ := p
      obtain ⟨y1, y2⟩ := yy
      have k24 : Ext H2 H4 := p1.trans y1
      refine hv x σ H4 _ (hg i hi _ _ x H4 (fi2.same k24) y2 _ fun σ' fi' => ?_)
      have dis : ∀ {H' : Hp}, Ext H4 H' → Frs (fun a => S a ∧ a ≠ D) H' := fun e => ⟨fun p hp => ⟨fr2.new p ((k24.trans e).nt hp), fun z => by
        subst z
        obtain ⟨ps, z⟩ := hp _ (dk e (dk y1 p2))
        cases z⟩, (fr2.same (k24.trans e)).tabs⟩
      refine eb_yes (γ := γ' i) _ σ' H4 fi' (dis (Ext.refl _)) _ fun H6 e6 => ?_
      show tk _ H6 _
      refine hk i hi _ σ' H6 (fi'.same e6) (dis e6) _ fun w H7 e7 hw => he i hi _ σ' H7 ((fi'.same e6).same e7) (dis (e6.trans e7)) _ fun v H8 e8 hv => ?_
      have accs : DsP K (fun a => S a ∧ a ≠ D) H8 (acc.map fun q => (kD q.1, q.2)) (dcs k f i) := p3.keep (.of (((y1.trans e6).trans e7).trans e8))
      have atD : H8 D = some (.dK acc) := dk e8 (dk e7 (dk e6 (dk y1 p2)))
      refine ⟨acc, k i, ds_key hw, atD, sz_lt ?_, putK acc (k i) v, ?_, upd_same, ?_⟩
      · have := accs.len
        rw [List.length_map] at this
        have := dcs_len (k := k) (f := f) i
        omega
      · exact same_mutP (((k24.trans e6).trans e7).trans e8) (.of hD) atD trivial
      · have kk : Keep (fun a => S a ∧ a ≠ D) H8 (upd H8 D (.dK (putK acc (k i) v))) := Keep.updP atD trivial (fun z => z.2 rfl)
        exact (accs.put hv).keep kk
    · obtain ⟨acc, p1, p2, p3⟩ := p
      exact q D acc H' (e2.trans p1) (e2.nt (.of hD)) p2 p3
/-- it is an own dict -/
theorem er_newDc {ρ : Rho} {es : List (PyData × PyData)} (h : EvDc K γ te es) : EvR K γ ρ te (fun x r => ∃ p, x = rf p ∧ r = ρ ++ [(p, .dct es)]) := fun S σ H st Q q => h S σ H st.fits st.frs Q fun p kvs H2 e n at2 hall => by
  have dkN : ∀ {a : Addr}, Nt H2 a → a ≠ p := fun h z => by
    subst z
    obtain ⟨ps, z⟩ := h _ at2
    cases z
  have mv : Mv S (fun a => S a ∧ a ≠ p) K H H2 := ⟨fun a x s q nt => ⟨⟨s, fun z => rd_nt q nt (z ▸ n)⟩, (Keep.of e).obj a x s q nt⟩, fun a C d f s q => ⟨⟨s, fun z => by
    subst z
    obtain ⟨ps, z⟩ := n _ q
    cases z⟩, (Keep.of e).ins a C d f s q⟩, fun _ _ q => sqT_keep (Keep.of (S := S) e) q⟩
  have nt : ∀ a, Nt H2 a → Nt H a ∧ a ≠ p := fun a h => ⟨e.nt h, dkN h⟩
  refine q (fun a => S a ∧ a ≠ p) (.ref p) (rf p) (ρ ++ [(p, .dct es)]) H2 ⟨p, rfl, rfl⟩ (.rf p) { frs := ⟨fun a h => ⟨st.frs.new a (nt a h).1, (nt a h).2⟩, e.tabs st.frs.tabs⟩, own := fun q hq => ?_, nd := ?_, fits := st.fits.move mv } ⟨.of e, fun a d => ?_, fun a s => .inl s.1, fun a s nn => ⟨s, fun z => nn (z ▸ n)⟩, fun a h => (nt a h).1⟩
  · rcases List.mem_append.mp hq with h | h
    · obtain ⟨n1, n2⟩ := st.own q h
      exact ⟨fun z => n1 z.1, Ct.move mv (fun o h pl => e.keep _ _ h pl.ntup.2.2.1) n2⟩
    · rw [List.mem_singleton.mp h]
      exact ⟨fun z => z.2 rfl, kvs, at2, hall⟩
  · rw [List.map_append]
    refine List.nodup_append.mpr ⟨st.nd, by simp, fun a ha b hb z => ?_⟩
    have hb : b = p := by simpa using hb
    subst hb z
    exact st.toStR.trk ha n
  · unfold dom at d
    rw [List.map_append] at d
    rcases List.mem_append.mp d with h | h
    · exact .inl h
    · right
      have : a = p := by simpa using h
      rw [this]
      exact n
end
end LK
namespace LK
open PySem PySem.Spec PyProof.Rows L2
variable [Tbs]
section
variable {X : Cx}
/-- a name bound to a dict comprehension -/
theorem ps_setDc {i : Nat} {y : Str} {py : Pos} {kx vx tg iter : Expr} {ifs : List Expr} {scope : Scope} {own : List (Str × Nat)} {pos spos : Pos} {wi : TI} {g : TG} {tt : TT} {tk tv : TE} (hc : X.calm = true) (hN : X.N.Nodup) (hy : X.N[i]? = some y) (hyl : X.env.scope.names.lookup y = some .local)
    (hsw : swapsWith (.DictComp kx vx [⟨tg, iter, ifs, 0⟩] scope pos) (some (.Name y py)) spos.line X.env = pure true) (hi : PI X tg iter wi) (ok : BlkOk X.N X.env.scope scope own)
    (hg : ∀ (s : Shared) (H : Hp) (C : Addr) (cl : List (Str × Addr)) (fp : List Addr), PG (X.blk s H scope (compEnvC scope cl C X.env) fp) tg g) (ht : ∀ (s : Shared) (H : Hp) (C : Addr) (cl : List (Str × Addr)) (fp : List Addr), PTs (X.blk s H scope (compEnvC scope cl C X.env) fp) ifs tt)
    (hk : ∀ (s : Shared) (H : Hp) (C : Addr) (cl : List (Str × Addr)) (fp : List Addr), PE (X.blk s H scope (compEnvC scope cl C X.env) fp) kx tk)
    (he : ∀ (s : Shared) (H : Hp) (C : Addr) (cl : List (Str × Addr)) (fp : List Addr), PE (X.blk s H scope (compEnvC scope cl C X.env) fp) vx tv) (hs : ∀ x, foldedSetIterable iter X.env x = pure x := by intro _; rfl) :
    PS X (.Assign [.Name y py] (.DictComp kx vx [⟨tg, iter, ifs, 0⟩] scope pos) spos) (tAsg (tDc wi g tt tk tv (own.map (·.2))) (gName i)) := by
  refine ⟨fun pins s σ H D I h => ?_⟩
  rw [exec_Assign_Name_used _ _ _ _ hsw]
  refine wpAny_bind (wpAny_standAt (wpAny_bind ?_))
  show wpAny _ X.A (do let _ ← comprehension (.DictComp kx vx [⟨tg, iter, ifs, 0⟩] scope pos) scope X.env (firstIterPos [⟨tg, iter, ifs, 0⟩] pos) newDict false (eval iter X.env) (some (assign (.Name y py) X.env))) _ _ s
  have h : tDc wi g tt tk tv (own.map (·.2)) σ H (fun x H1 => gName i x σ H1 D.nx) := h
  refine wpAny_bind (thn (dc_core (Qf := fun _ s' => SP X pins D .next s') hc hN I hi ok hg ht hk he hs h fun L C s' m H' I' q hn f => ?_) fun _ s' hq => wpAny_pure (wpAny_pure hq))
  show wpAny _ _ (assign (.Name y py) X.env (.ref L)) _ _ _
  refine wpAny_assign_Name (store_ok2 (v := V.ref L) I' hN hy (.inl hyl) rfl (fun s2 I2 ⟨a, sb, ha⟩ => ?_) (.inr hyl))
  obtain ⟨f0, f1, f2, f3, f4, f5⟩ := f
  have haC : C ≠ a := by
    rcases ha with z | z
    · rw [z]; exact f1
    · exact fun e => f4 y a z e.symm
  refine ⟨m, hn.sameBut sb haC, fun h3 sb3 => ?_⟩
  exact ⟨_, H', I2.turned (t' := s2.toks) (fun b o hb e => (sb3.2 b hb).trans e) f0 f1 f3 f4 f5, q⟩
theorem sw_dc {kx vx : Expr} {gs : List Comprehension} {scope : Scope} {pos py : Pos} {y : Str} {l : Nat} {env : Env} (hk : env.scope.kind = .function) (hy : env.scope.names.lookup y = some .local) (hl : (py.line == pos.line) = true)
    (ha : (scope.names.any fun (n, k) => n == y && (k == .local || k == .cell)) = false) : swapsWith (.DictComp kx vx gs scope pos) (some (.Name y py)) l env = pure true := by
  have ky : env.kindOf y = some .local := hy
  have hb : env.blockKind = .function := by unfold Env.blockKind; rw [hk]; rfl
  unfold swapsWith
  simp only [hb, ky, ha, Expr.pos, hl]
  rfl
end
end LK
namespace LK
open PySem PySem.Spec PyProof.Rows L2
variable [Tbs]
section
variable {K : PySem.W.Frag} {γ : Gm} {ρ : Rho} {te td ty tv : TE} {p : Addr} {n : Nat} {A : PyData → Rho → Prop}
/-- d[k] op= e of an own dict -/
theorem rr_daug {rd : V → V → Hp → VK → Prop} {es : List (PyData × PyData)} {k : Key} {x y z : PyData} (hd : Ev K γ td (rf p)) (hk : Ev K γ ty (kD k)) (hn : ρ[n]? = some (p, .dct es)) (hl : lkD es k = some x) (hv : Ev K γ tv y) (ho : EvO K rd x y z) (hz : es.length ≤ 900000) :
    RunR K γ ρ (sDAug td ty tv rd) (fun g r => g = γ ∧ r = ρ.set n (p, .dct (putD es k z))) A := fun S σ H st D qn qr =>
  hd S σ H st.fits st.frs _ fun v1 H1 e1 hv1 => by
    have st1 := st.ext e1
    refine hk S σ H1 st1.fits st1.frs _ fun w H2 e2 hw => ?_
    have st2 := st1.ext e2
    rw [hv1.rf_inv, ds_key hw]
    obtain ⟨_, kvs, a1, a2⟩ := st2.own _ (List.mem_of_getElem? hn)
    obtain ⟨v, hv2, hvx⟩ := a2.get hl
    refine ⟨p, v, rfl, by rw [← hv2]; exact DGet.k a1, ?_⟩
    refine hv S σ H2 st2.fits st2.frs _ fun u H3 e3 hu => ?_
    have st3 := st2.ext e3
    refine ho S v u H3 st3.frs (hvx.res (.of fun a s => s) |>.same e3) hu _ fun v4 H4 e4 hz4 => ?_
    have st4 := st3.ext e4
    obtain ⟨_, kvs4, b1, b2⟩ := st4.own _ (List.mem_of_getElem? hn)
    obtain ⟨r5, e5⟩ := st4.toStR.put (u := .dK (putK kvs4 k v4)) (c' := .dct (putD es k z)) hn b1 trivial trivial fun m => ⟨_, upd_same, (b2.put hz4).move m⟩
    have hlen : kvs4.length < sizeLine := sz_lt (by
      have := b2.len
      rw [List.length_map] at this
      omega)
    exact ⟨_, DPut.k b1 hlen, qn S σ γ _ _ ⟨rfl, rfl⟩ { r5 with fits := st4.fits.move (e5.mv st4.toStR) } ((Eff.ext (((e1.trans e2).trans e3).trans e4)).trans st.frs e5)⟩
/-- list(d.items()) of an own dict -/
theorem items_ds {S : Addr → Prop} {H : Hp} : ∀ {ts : List Addr} {kvs : List (Key × V)} {es : List (PyData × PyData)}, Paired (fun (t : Addr) (q : Key × V) => H t = some (.tup [kV q.1, q.2])) ts kvs → DsP K S H (kvs.map fun q => (kD q.1, q.2)) es → DsAll K S H (ts.map V.ref) (es.map fun q => .tuple [q.1, q.2])
  | _, _, _, .nil, h => by
    cases h
    exact .nil
  | _, _, _, .cons (a := t) (b := q) e r, h => by
    cases h with
    | cons h1 h2 =>
      refine .cons (.tup (.inl (.inl e)) (.cons ?_ (.one h1))) (items_ds r h2)
      obtain ⟨k, v⟩ := q
      cases k with
      | inl i => exact .int i
      | inr z => exact .str z
theorem evv_items {es : List (PyData × PyData)} (hd : Ev K γ td (rf p)) (hn : ρ[n]? = some (p, .dct es)) : EvV K γ ρ (LiI.tListItems td) (.list (es.map fun q => .tuple [q.1, q.2])) := fun S σ H st Q q => hd S σ H st.fits st.frs _ fun v1 H1 e1 hv1 => by
  have st1 := st.ext e1
  rw [hv1.rf_inv]
  obtain ⟨_, kvs, a1, a2⟩ := st1.own _ (List.mem_of_getElem? hn)
  refine ⟨p, kvs, rfl, a1, fun H' l ts k0 nl nts nin hl pr => ?_⟩
  have e2 : Ext H1 H' := .of k0
  exact q _ H' (e1.trans e2) (.lst (st1.frs.new l (.of nl)) (.inl hl) (items_ds pr (a2.keep (.of e2))))
end
end LK
namespace LK
open PySem PySem.Spec PyProof.Rows L2
variable [Tbs]
/-! ### min(xs) of alike data -/
def rMinDat (K : PySem.W.Frag) : List V → Hp → VK → Prop := fun vs H Q => ∃ (a : Addr) (xs : List V) (d : PyData) (ds : List PyData), vs = [V.ref a] ∧ SqL K H a xs ∧ DpAll K H xs (d :: ds) ∧ PySem.W.AlikeAll (d :: ds) ∧ PyData.depthAll (d :: ds) ≤ 60 ∧
  ∀ (i : Nat) (x : V), xs[i]? = some x → (d :: ds)[i]? = some (PySem.W.minD d ds) → Q x H
theorem cr_minDat {X : Cx} {K : PySem.W.Frag} (hk : X.K = K) (hc : X.calm = true) (hu : X.A.units + 64 < cLine) : CallR X (.builtin "min") (rMinDat K) := by
  subst hk
  intro pins s σ H vs us Q I r h
  obtain ⟨a, xs, d, ds, rfl, hs, hd, hal, hdep, q⟩ := h
  obtain ⟨its, rv, hl, _⟩ := I.list hs
  rw [Vals.ref1 r]
  obtain ⟨as, hr⟩ := Dp.readsAll I (d :: ds) xs its hd rv
  have hlen := rv.length
  refine PySem.W.min_list_data (x := d) (xs := ds) (as := as) (I.ok.hd hc) hl.isList (by simpa using hr) hal (by omega) fun i v h' tk bs hv hm hkp => ?_
  have hv : its[i]? = some v := by simpa using hv
  obtain ⟨cs, hc1, hc2, _, _⟩ := PySem.W.readsAll_at hr i v hv
  obtain ⟨e1, _⟩ := Reads.unique (PySem.W.reads_keeps hkp hc1) _ _ hm
  have hi : i < its.length := (List.getElem?_eq_some_iff.mp hv).1
  have hx : xs[i]? = some (xs[i]'(by omega)) := List.getElem?_eq_getElem (by omega)
  obtain ⟨u, hu2, ru⟩ := rv.get hx
  rw [hv] at hu2
  cases hu2
  refine ⟨_, H, I.kept hkp, ru, q i _ hx ?_⟩
  rw [List.getD_eq_getElem?_getD] at e1
  rw [List.getElem?_eq_getElem hc2]
  rw [List.getElem?_eq_getElem hc2] at e1
  exact congrArg some e1
section
variable {K : PySem.W.Frag} {γ : Gm} {ρ : Rho} {te ti : TE}
theorem ev_minDat {d z : PyData} {ds : List PyData} (h : Ev K γ te (.list (d :: ds))) (hc : PyData.canLayAll0 (d :: ds) = true) (hal : PySem.W.AlikeAll (d :: ds)) (hdep : PyData.depthAll (d :: ds) ≤ 60) (hz : PySem.W.minD d ds = z) : Ev K γ (tCB (rMinDat K) (tCons te tNil)) z := fun S σ H f fr Q q =>
  h S σ H f fr _ fun v H2 e2 hv => by
    obtain ⟨a, ws, rfl, s, hq, hall⟩ := hv.lst_inv
    refine ⟨a, ws, d, ds, rfl, .inl hq, hall.dp hc, hal, hdep, fun i x hx hi => ?_⟩
    obtain ⟨d', hd', hv'⟩ := hall.at' hx
    rw [hi] at hd'
    cases hd'
    exact q x H2 e2 (hz ▸ hv')
/-- xs.index(m) of numbers -/
theorem eqV_int {i j : Int} : eqV (.int i) (.int j) = decide (i = j) := by first | rfl | (unfold eqV; simp)
theorem ev_indexI {ns : List Int} {m : Int} {j : Nat} (h : Ev K γ te (.list (ns.map .int))) (hm : Ev K γ ti (.int m)) (hj : ns[j]? = some m) (hno : ∀ k, k < j → ns[k]? ≠ some m) : Ev K γ (tBM K "list" (rIndex K) te (tCons ti tNil)) (.int (j : Nat)) := fun S σ H f fr Q q =>
  h S σ H f fr _ fun v H2 e2 hv => by
    obtain ⟨a, ws, rfl, s, hq, hall⟩ := hv.lst_inv
    rw [hall.ofInts] at hq
    refine ⟨.inl ⟨rfl, _, .inl hq⟩, ?_⟩
    refine hm S σ H2 (f.same e2) (fr.same e2) _ fun w H3 e3 hw => ?_
    rw [hw.int_inv]
    refine ⟨a, ns.map V.int, .int m, j, .int m, rfl, rfl, .inl (e3.rdL hq), rfl, by simp [flatV], by rw [List.getElem?_map, hj]; rfl, by rw [eqV_int, decide_eq_true rfl], fun k z' hk hz => ?_, q _ H3 (e2.trans e3) (.int _)⟩
    rw [List.getElem?_map] at hz
    cases hn : ns[k]? with
    | none =>
      rw [hn] at hz
      cases hz
    | some i =>
      rw [hn] at hz
      obtain rfl := Option.some.inj hz
      rw [eqV_int]
      exact decide_eq_false fun e => hno k hk (by rw [hn, e])
/-- min with key and default, what is asked reads what is own -/
theorem evv_minLamD {n : Nat} {xs : List PyData} {kf : Nat → Int} {i : Nat} {z : PyData} (h : EvV K γ ρ te (.list xs)) (hk : ∀ j x, xs[j]? = some x → ∃ ys : List PyData, x = PyData.tuple ys ∧ ys[n]? = some (.int (kf j))) (hi : xs[i]? = some z) (hm : FirstMin xs.length kf i) : EvV K γ ρ (tMinLamD K Tbs.tabs te n) z := fun S σ H st Q q =>
  h S σ H st _ fun v H2 e2 hv => by
    obtain ⟨a, ws, rfl, s, hq, hall⟩ := hv.lst_inv
    have hl := hall.len
    refine ⟨a, ws, kf, rfl, .inl hq, (st.frs.same e2).tabs, fun j v hj => ?_, fun e => ?_, fun j v H3 hj hmj ext tb => ?_⟩
    · obtain ⟨d, hd, hv⟩ := hall.at' hj
      obtain ⟨ys, rfl, hy⟩ := hk j d hd
      obtain ⟨t, us, rfl, ht, hus⟩ := hv.tup_inv
      obtain ⟨u, hu, hdu⟩ := hus.at hy
      rw [hdu.int_inv] at hu
      exact ⟨t, us, rfl, ht, hu⟩
    · have := hm.1
      rw [← hl, e] at this
      exact absurd this (Nat.not_lt_zero _)
    · have hjn : j < xs.length := by rw [← hl]; exact (List.getElem?_eq_some_iff.mp hj).1
      have e : j = i := FirstMin.uniq ⟨hjn, fun k hk => hmj k (by rw [hl]; exact hk)⟩ hm
      subst e
      obtain ⟨d, hd, hv⟩ := hall.at' hj
      rw [hi] at hd
      cases hd
      have e3 : Ext H2 H3 := ⟨ext, fun _ => tb⟩
      exact q v H3 (e2.trans e3) (hv.same e3)
theorem evv_minLamD0 {n : Nat} (h : EvV K γ ρ te (.list [])) : EvV K γ ρ (tMinLamD K Tbs.tabs te n) .none := fun S σ H st Q q =>
  h S σ H st _ fun v H2 e2 hv => by
    obtain ⟨a, ws, rfl, s, hq, hall⟩ := hv.lst_inv
    have hl : ws = [] := List.eq_nil_of_length_eq_zero hall.len
    subst hl
    exact ⟨a, [], fun _ => 0, rfl, .inl hq, (st.frs.same e2).tabs, fun j v hj => by simp at hj, fun _ H3 ext tb => q .non H3 (e2.trans ⟨ext, fun _ => tb⟩) .non, fun j v H3 hj => by simp at hj⟩
end
end LK
namespace LK
open PySem PySem.Spec PyProof.Rows L2
variable [Tbs]
theorem mt_indexK {X : Cx} {K : PySem.W.Frag} (hk : X.K = K) : MtR X "list.index" (rIndex K) := by
  subst hk
  exact mt_index
end LK
namespace LK
open PySem PySem.Spec PyProof.Rows L2
variable [Tbs]
/-! ### own dicts of own lists, the keys texts (made by mkyi.py from LB_y2) -/
section
variable {K : PySem.W.Frag} {γ : Gm} {ρ ρ0 : Rho} {te td ty : TE} {p : Addr} {x : PyData} {A : PyData → Rho → Prop}
abbrev GpT := List (Str × Addr × List PyData)
def grpET (G : GpT) : List (PyData × PyData) := G.map fun g => (.str g.1, rf g.2.1)
def grpLT (G : GpT) : Rho := G.map fun g => (g.2.1, .lst g.2.2)
def grpRT (p : Addr) (G : GpT) : Rho := (p, .dct (grpET G)) :: grpLT G
def grpDT (G : GpT) : List (PyData × PyData) := G.map fun g => (.str g.1, .list g.2.2)
def GStepT (z : Str) (x : PyData) (G G' : GpT) : Prop :=
  (∃ pre a xs post, G = pre ++ (z, a, xs) :: post ∧ G' = pre ++ (z, a, xs ++ [x]) :: post) ∨ (z ∉ G.map (·.1) ∧ ∃ a, G' = G ++ [(z, a, [x])])
theorem lk_grpET (z : Str) (post : GpT) (a : Addr) (xs : List PyData) : ∀ (pre : GpT), ((pre ++ (z, a, xs) :: post).map (·.1)).Nodup → lkD (grpET (pre ++ (z, a, xs) :: post)) (.inr z) = some (rf a)
  | [], nd => lkD_pos (decide_eq_true rfl)
  | q :: pre, nd => by
    rw [List.cons_append, List.map_cons, List.nodup_cons] at nd
    have ne : q.1 ≠ z := fun e => nd.1 (by rw [e, List.map_append, List.map_cons]; exact List.mem_append_right _ List.mem_cons_self)
    exact (lkD_neg (k := .str q.1) (show kEq (.str q.1) (.inr z) = false from decide_eq_false ne)).trans (lk_grpET z post a xs pre nd.2)
theorem lk_grpE0T : ∀ {G : GpT} {z : Str}, z ∉ G.map (·.1) → lkD (grpET G) (.inr z) = none
  | [], z, _ => rfl
  | q :: G, z, h => (lkD_neg (k := .str q.1) (show kEq (.str q.1) (.inr z) = false from decide_eq_false fun e => h (by rw [← e]; exact List.mem_cons_self))).trans (lk_grpE0T fun m => h (List.mem_cons_of_mem _ m))
theorem grp_splitT : ∀ {G : GpT} {z : Str}, z ∈ G.map (·.1) → ∃ pre a xs post, G = pre ++ (z, a, xs) :: post
  | q :: G, z, h => by
    by_cases e : z = q.1
    · subst e
      exact ⟨[], q.2.1, q.2.2, G, rfl⟩
    · rcases List.mem_cons.mp h with h | h
      · exact absurd h e
      · obtain ⟨pre, a, xs, post, rfl⟩ := grp_splitT h
        exact ⟨q :: pre, a, xs, post, rfl⟩
theorem grp_setT {pre post : GpT} {z : Str} {a : Addr} {xs ys : List PyData} {ρ0 : Rho} : (ρ0 ++ grpRT p (pre ++ (z, a, xs) :: post)).set (ρ0.length + (1 + pre.length)) (a, .lst ys) = ρ0 ++ grpRT p (pre ++ (z, a, ys) :: post) := by
  rw [List.set_append_right _ _ (by omega), Nat.add_sub_cancel_left]
  congr 1
  unfold grpRT grpET grpLT
  rw [Nat.add_comm 1 pre.length, List.set_cons_succ]
  simp only [List.map_append, List.map_cons]
  congr 1
  rw [List.set_append_right _ _ (by rw [List.length_map]; exact Nat.le_refl _), List.length_map, Nat.sub_self]
  rfl
theorem grp_atT {pre post : GpT} {z : Str} {a : Addr} {xs : List PyData} {ρ0 : Rho} : (ρ0 ++ grpRT p (pre ++ (z, a, xs) :: post))[ρ0.length + (1 + pre.length)]? = some (a, .lst xs) := by
  rw [List.getElem?_append_right (by omega), Nat.add_sub_cancel_left]
  unfold grpRT grpLT
  rw [Nat.add_comm 1 pre.length, List.getElem?_cons_succ, List.map_append, List.getElem?_append_right (by rw [List.length_map]; exact Nat.le_refl _), List.length_map, Nat.sub_self]
  rfl
theorem rr_setdAppT {G : GpT} {z : Str} (hd : Ev K γ td (rf p)) (hk : Ev K γ ty (.str z)) (hx : Ev K γ te x) (nd : (G.map (·.1)).Nodup) (hl : G.length ≤ 1000) (hz : ∀ g ∈ G, g.2.2.length ≤ 900000) :
    RunR K γ (ρ0 ++ grpRT p G) (tDrop (tBM K "list" rAppend (tDSetd td ty (tLst tNil)) (tCons te tNil))) (fun g r => g = γ ∧ ∃ G', GStepT z x G G' ∧ r = ρ0 ++ grpRT p G') A := fun S σ H st D qn qr => by
  have hp : (ρ0 ++ grpRT p G)[ρ0.length]? = some (p, .dct (grpET G)) := by
    rw [List.getElem?_append_right (Nat.le_refl _), Nat.sub_self]
    rfl
  refine hd S σ H st.fits st.frs _ fun v1 H1 e1 hv1 => ?_
  rw [hv1.rf_inv]
  have st1 := st.ext e1
  obtain ⟨_, kvs1, k1, _⟩ := st1.own _ (List.mem_of_getElem? hp)
  refine ⟨p, rfl, .inl ⟨kvs1, .inl k1⟩, ?_⟩
  refine hk S σ H1 st1.fits st1.frs _ fun v2 H2 e2 hv2 => ?_
  rw [hv2.str_inv]
  have st2 := st1.ext e2
  refine ⟨Nat.zero_le _, fun l hl0 => ?_⟩
  by_cases hm : z ∈ G.map (·.1)
  · obtain ⟨pre, a, xs, post, rfl⟩ := grp_splitT hm
    have e3 := same_new (o := .lst []) hl0
    have st3 := st2.ext e3
    obtain ⟨_, kvs, a1, a2⟩ := st3.own _ (List.mem_of_getElem? hp)
    obtain ⟨u, hu, hu2⟩ := a2.get (k := .inr z) (lk_grpET z post a xs pre nd)
    rw [hu2.rf_inv] at hu
    have hlen : kvs.length < sizeLine := sz_lt (by
      have := a2.len
      unfold grpET at this
      rw [List.length_map, List.length_map] at this
      omega)
    refine ⟨kvs, .inr z, a1, rfl, hlen, fun v hv => ?_, fun hv => ?_⟩
    · rw [hu] at hv
      injection hv with hv
      subst hv
      obtain ⟨_, ys, b1, b2⟩ := st3.own _ (List.mem_of_getElem? (grp_atT (p := p) (pre := pre) (post := post) (z := z) (a := a) (xs := xs) (ρ0 := ρ0)))
      refine ⟨.inl ⟨rfl, _, .inl (.inl b1)⟩, ?_⟩
      refine hx S σ _ st3.fits st3.frs _ fun v4 H4 e4 hv4 => ?_
      have st4 := st3.ext e4
      obtain ⟨_, acc, c1, c2⟩ := st4.own _ (List.mem_of_getElem? (grp_atT (p := p) (pre := pre) (post := post) (z := z) (a := a) (xs := xs) (ρ0 := ρ0)))
      obtain ⟨r5, e5⟩ := st4.toStR.put (u := .lst (acc ++ [v4])) (c' := .lst (xs ++ [x])) (grp_atT (p := p) (pre := pre) (post := post) (z := z) (a := a) (xs := xs) (ρ0 := ρ0)) c1 trivial trivial fun m => ⟨_, upd_same, (c2.move m).app (.one (hv4.move m))⟩
      have hz' := hz (z, a, xs) (by simp)
      refine ⟨a, acc, v4, rfl, rfl, c1, sz_lt (by rw [c2.len]; dsimp only at hz'; omega), ?_⟩
      refine qn S σ γ _ _ ⟨rfl, pre ++ (z, a, xs ++ [x]) :: post, .inl ⟨pre, a, xs, post, rfl, rfl⟩, grp_setT⟩ { r5 with fits := st4.fits.move (e5.mv st4.toStR) } ((Eff.ext (e1.trans (e2.trans (e3.trans e4)))).trans st.frs e5)
    · rw [hu] at hv
      cases hv
  · obtain ⟨r3, e3⟩ := st2.toStR.newO (c := .lst []) (u := .lst []) hl0 trivial fun _ => ⟨[], upd_same, .nil⟩
    have st3 : Sta K (fun a => S a ∧ a ≠ l) γ (ρ0 ++ grpRT p G ++ [(l, Ct.lst [])]) σ (upd H2 l (.lst [])) := { r3 with fits := st2.fits.move (e3.mv st2.toStR) }
    have hp3 : (ρ0 ++ grpRT p G ++ [(l, Ct.lst [])])[ρ0.length]? = some (p, .dct (grpET G)) := by
      rw [List.getElem?_append_left (by rw [List.length_append]; exact Nat.lt_add_of_pos_right (Nat.zero_lt_succ _))]
      exact hp
    obtain ⟨_, kvs, a1, a2⟩ := st3.own _ (List.mem_of_getElem? hp3)
    have hlen : kvs.length < sizeLine := sz_lt (by
      have := a2.len
      unfold grpET at this
      rw [List.length_map, List.length_map] at this
      omega)
    have no := a2.no (k := .inr z) (lk_grpE0T hm)
    refine ⟨kvs, .inr z, a1, rfl, hlen, fun v hv => ?_, fun _ => ?_⟩
    · rw [no] at hv
      cases hv
    · obtain ⟨r4, e4⟩ := st3.toStR.put (u := .dK (putK kvs (.inr z) (.ref l))) (c' := .dct (putD (grpET G) (.inr z) (rf l))) hp3 a1 trivial trivial fun m => ⟨_, upd_same, (a2.put (.rf l)).move m⟩
      have st4 : Sta K (fun a => S a ∧ a ≠ l) γ ((ρ0 ++ grpRT p G ++ [(l, Ct.lst [])]).set ρ0.length (p, .dct (putD (grpET G) (.inr z) (rf l)))) σ _ := { r4 with fits := st3.fits.move (e4.mv st3.toStR) }
      have ep : putD (grpET G) (.inr z) (rf l) = grpET (G ++ [(z, l, [])]) := by
        unfold putD
        rw [if_neg fun h => ?_]
        · unfold grpET
          rw [List.map_append]
          rfl
        · obtain ⟨q, hq, e⟩ := List.any_eq_true.mp h
          obtain ⟨g, hg, rfl⟩ := List.mem_map.mp hq
          exact hm (List.mem_map.mpr ⟨g, hg, of_decide_eq_true e⟩)
      have er : ((ρ0 ++ grpRT p G ++ [(l, Ct.lst [])]).set ρ0.length (p, .dct (putD (grpET G) (.inr z) (rf l)))) = ρ0 ++ grpRT p (G ++ [(z, l, [])]) := by
        rw [ep, List.append_assoc, List.set_append_right _ _ (Nat.le_refl _), Nat.sub_self]
        unfold grpRT grpLT
        rw [List.map_append]
        rfl
      rw [er] at st4 e4
      obtain ⟨_, ys, b1, b2⟩ := st4.own _ (List.mem_of_getElem? (grp_atT (p := p) (pre := G) (post := []) (z := z) (a := l) (xs := []) (ρ0 := ρ0)))
      refine ⟨.inl ⟨rfl, _, .inl (.inl b1)⟩, ?_⟩
      refine hx _ σ _ st4.fits st4.frs _ fun v5 H5 e5 hv5 => ?_
      have st5 := st4.ext e5
      obtain ⟨_, acc, c1, c2⟩ := st5.own _ (List.mem_of_getElem? (grp_atT (p := p) (pre := G) (post := []) (z := z) (a := l) (xs := []) (ρ0 := ρ0)))
      obtain ⟨r6, e6⟩ := st5.toStR.put (u := .lst (acc ++ [v5])) (c' := .lst ([] ++ [x])) (grp_atT (p := p) (pre := G) (post := []) (z := z) (a := l) (xs := []) (ρ0 := ρ0)) c1 trivial trivial fun m => ⟨_, upd_same, (c2.move m).app (.one (hv5.move m))⟩
      refine ⟨l, acc, v5, rfl, rfl, c1, sz_lt (by rw [c2.len]; exact Nat.zero_lt_succ _), ?_⟩
      rw [grp_setT] at r6 e6
      refine qn _ σ γ _ _ ⟨rfl, G ++ [(z, l, [x])], .inr ⟨hm, l, rfl⟩, rfl⟩ { r6 with fits := st5.fits.move (e6.mv st5.toStR) } ((Eff.ext (e1.trans e2)).trans st.frs (e3.trans st2.frs (e4.trans st3.frs ((Eff.ext e5).trans st4.frs e6))))
/-- the dict and its lists are given up -/
theorem view_grpT {G : GpT} {i : Nat} (hi : γ[i]? = some (some (rf p))) : View K γ (ρ0 ++ grpRT p G) ((grpRT p G).map (·.1)) (γ.set i (some (.dict (grpDT G)))) := View.refl.set i hi fun S H v r hv => by
  rw [hv.rf_inv]
  have hp : (p, Ct.dct (grpET G)) ∈ ρ0 ++ grpRT p G := List.mem_append_right _ List.mem_cons_self
  obtain ⟨_, kvs, a1, a2⟩ := r.own _ hp
  refine .dct (.inr List.mem_cons_self) (.inl a1) ?_
  have key : ∀ (G' : GpT) (vs : List (PyData × V)), (∀ g ∈ G', (g.2.1, Ct.lst g.2.2) ∈ grpRT p G) → DsP K S H vs (grpET G') → DsP K (fun a => S a ∨ a ∈ (grpRT p G).map (·.1)) H vs (grpDT G') := by
    intro G'
    induction G' with
    | nil =>
      intro vs _ h
      cases h
      exact .nil
    | cons g G' ih =>
      intro vs hm h
      unfold grpET at h
      rw [List.map_cons] at h
      cases h with
      | cons h1 h2 =>
        refine .cons ?_ (ih _ (fun g hg => hm g (List.mem_cons_of_mem _ hg)) h2)
        rw [h1.rf_inv]
        have hg := hm g List.mem_cons_self
        obtain ⟨_, ys, b1, b2⟩ := r.own _ (List.mem_append_right ρ0 hg)
        exact .lst (.inr (List.mem_map.mpr ⟨_, hg, rfl⟩)) (.inl b1) (b2.res (.of fun a s => .inl s))
  exact key G _ (fun g hg => List.mem_cons_of_mem _ (List.mem_map.mpr ⟨g, hg, rfl⟩)) a2
end
end LK
namespace LK
open PySem PySem.Spec PyProof.Rows L2
variable [Tbs]
/-! ### {k: v for a, b in d.items()}, d an own dict -/
section
variable {K : PySem.W.Frag} {γ : Gm} {ρ : Rho} {te tk tv td : TE} {S : Addr → Prop} {σ : L2.St} {H : Hp} {p : Addr} {n : Nat} {A : PyData → Rho → Prop}
theorem dc_run {g : TG} {vs : List Nat} {m : Nat} {y : Nat → PyData} {k : Nat → Key} {f : Nat → PyData} {γ' : Nat → Gm} {J : It} {H2 : Hp} {D : Addr} {Qd : Hp → Prop} (fi : Fits K S γ σ H2) (fr : Frs S H2)
    (W : ∀ S', Res H2 S S' → ∃ G : Hp → Prop, Walk J m G (fun i H x H' => Ext H H' ∧ Ds K S' H' x (y i)) ∧ G H2 ∧ ∀ H3 H4, Ext H3 H4 → G H3 → G H4) (hD : H2 D = none) (hz : m ≤ 900000) (hv : GIn g vs) (hg : ∀ i, i < m → EvG K g (wipeG γ vs) (y i) (γ' i))
    (hk : ∀ i, i < m → Ev K (γ' i) tk (kD (k i))) (he : ∀ i, i < m → Ev K (γ' i) tv (f i)) (hq : ∀ kvs H', Ext H2 H' → H' D = some (.dK kvs) → DsP K (fun a => S a ∧ a ≠ D) H' (kvs.map fun q => (kD q.1, q.2)) (dcs k f m) → Qd H') :
    ∃ W : Nat → Nat → Hp → Prop, (∃ m, W 0 m (upd H2 D (.dK []))) ∧ ∀ i m H, W i m H →
      (J.stop i H ∧ Qd H) ∨ (J.go i H ∧ ∃ Nx : Hp → Prop, (∀ H', Nx H' → ∃ m', m' < m ∧ W (i + 1) m' H') ∧ ∀ x H', J.yld i H x H' → g x (L2.wipe σ vs) H' fun σ2 H2 => L2.wipe σ2 vs = L2.wipe σ vs ∧ tYes σ2 H2 fun b H3 =>
        if b = true then tk σ2 H3 fun y H4 => tv σ2 H4 fun z H5 => ∃ kvs k, y = kV k ∧ H5 D = some (.dK kvs) ∧ kvs.length < sizeLine ∧ Nx (upd H5 D (.dK (putK kvs k z))) else Nx H3) := by
  have res : Res H2 S (fun a => S a ∧ a ≠ D) := Res.ne hD
  obtain ⟨G, wk, g0, gk⟩ := W _ res
  have fi2 : Fits K (fun a => S a ∧ a ≠ D) (wipeG γ vs) (L2.wipe σ vs) H2 := (fi.res res).wipe vs
  have dk : ∀ {H H' : Hp} {kvs : List (Key × V)}, Ext H H' → H D = some (.dK kvs) → H' D = some (.dK kvs) := fun e h => e.keep _ _ h fun ps z => nomatch z
  refine dc_it wk (fun i H' => ∃ kvs, Ext H2 H' ∧ H' D = some (.dK kvs) ∧ DsP K (fun a => S a ∧ a ≠ D) H' (kvs.map fun q => (kD q.1, q.2)) (dcs k f i)) ⟨[], same_new hD, upd_same, .nil⟩ (fun i H' hi p => ?_) (fun i x H3 H4 hi p yy => ?_) (fun H' p => ?_)
  · obtain ⟨acc, p1, p2, p3⟩ := p
    exact gk H2 H' p1 g0
  · obtain ⟨acc, p1, p2, p3⟩ := p
    obtain ⟨y1, y2⟩ := yy
    have k24 : Ext H2 H4 := p1.trans y1
    refine hv x σ H4 _ (hg i hi _ _ x H4 (fi2.same k24) y2 _ fun σ' fi' => ?_)
    have dis : ∀ {H' : Hp}, Ext H4 H' → Frs (fun a => S a ∧ a ≠ D) H' := fun e => ⟨fun p hp => ⟨fr.new p ((k24.trans e).nt hp), fun z => by
      subst z
      obtain ⟨ps, z⟩ := hp _ (dk e (dk y1 p2))
      cases z⟩, (fr.same (k24.trans e)).tabs⟩
    refine eb_yes (γ := γ' i) _ σ' H4 fi' (dis (Ext.refl _)) _ fun H6 e6 => ?_
    show tk _ H6 _
    refine hk i hi _ σ' H6 (fi'.same e6) (dis e6) _ fun w H7 e7 hw => he i hi _ σ' H7 ((fi'.same e6).same e7) (dis (e6.trans e7)) _ fun v H8 e8 hv => ?_
    have accs : DsP K (fun a => S a ∧ a ≠ D) H8 (acc.map fun q => (kD q.1, q.2)) (dcs k f i) := p3.keep (.of (((y1.trans e6).trans e7).trans e8))
    have atD : H8 D = some (.dK acc) := dk e8 (dk e7 (dk e6 (dk y1 p2)))
    refine ⟨acc, k i, ds_key hw, atD, sz_lt ?_, putK acc (k i) v, ?_, upd_same, ?_⟩
    · have := accs.len
      rw [List.length_map] at this
      have := dcs_len (k := k) (f := f) i
      omega
    · exact same_mutP (((k24.trans e6).trans e7).trans e8) (.of hD) atD trivial
    · have kk : Keep (fun a => S a ∧ a ≠ D) H8 (upd H8 D (.dK (putK acc (k i) v))) := Keep.updP atD trivial (fun z => z.2 rfl)
      exact (accs.put hv).keep kk
  · obtain ⟨acc, p1, p2, p3⟩ := p
    exact hq acc H' p1 p2 p3
/-- a new dict, its making reads what is one's own -/
def EvRDc (K : PySem.W.Frag) (γ : Gm) (ρ : Rho) (te : TE) (es : List (PyData × PyData)) : Prop :=
  ∀ (S : Addr → Prop) (σ : L2.St) (H : Hp), Sta K S γ ρ σ H → ∀ Q : VK, (∀ p kvs H2, Ext H H2 → Nt H p → H2 p = some (.dK kvs) → DsP K (fun a => S a ∧ a ≠ p) H2 (kvs.map fun q => (kD q.1, q.2)) es → Q (.ref p) H2) → te σ H Q
theorem erd_dcItems {es : List (PyData × PyData)} {g : TG} {vs : List Nat} {k : Nat → Key} {f : Nat → PyData} {γ' : Nat → Gm} (hd : Ev K γ td (rf p)) (hn : ρ[n]? = some (p, .dct es)) (hz : es.length ≤ 900000) (hv : GIn g vs)
    (hg : ∀ i, i < es.length → EvG K g (wipeG γ vs) (.tuple [(es.getD i (.none, .none)).1, (es.getD i (.none, .none)).2]) (γ' i)) (hk : ∀ i, i < es.length → Ev K (γ' i) tk (kD (k i))) (he : ∀ i, i < es.length → Ev K (γ' i) tv (f i)) : EvRDc K γ ρ (tLockE (tDc (iItems td) g tYes tk tv vs)) (dcs k f es.length) := fun S σ H st Q q => by
  obtain ⟨ns, kvs, a1, a2⟩ := st.own _ (List.mem_of_getElem? hn)
  have hl : kvs.length = es.length := by have := a2.len; rwa [List.length_map] at this
  refine ⟨p, .dK kvs, a1, trivial, fun od => ?_⟩
  have st1 := sta_lock (od := od) st hn a1
  refine hd S σ _ st1.fits st1.frs _ fun v H2 e2 hv2 => ?_
  rw [hv2.rf_inv]
  have h2 : H2 p = some (.frz od (.dK kvs)) := e2.keep p _ upd_same fun _ z => nomatch z
  refine ⟨p, od, kvs, rfl, h2, fun D hD => ?_⟩
  have st2 := st1.ext e2
  have a2' : DsP K S H2 (kvs.map fun p => (kD p.1, p.2)) es := (a2.keep (Keep.updP a1 trivial ns)).keep (.of e2)
  have np : D ≠ p := fun z => by
    subst z
    rw [h2] at hD
    cases hD
  refine dc_run st2.fits st2.frs (y := fun i => .tuple [(es.getD i (.none, .none)).1, (es.getD i (.none, .none)).2]) (fun S' w => ⟨fun H => (H p = some (.frz od (.dK kvs)) ∧ Ext H2 H), ?_, ⟨h2, Ext.refl _⟩, fun H3 H4 e g => ⟨e.keep p _ g.1 (fun _ z => nomatch z), g.2.trans e⟩⟩) hD hz hv hg hk he fun acc H' e3 atD hall => ?_
  · have wk := walk_items (d := p) (o := od) (kvs := kvs)
    rw [hl] at wk
    refine Walk.mono wk (fun _ g => g.1) fun j H x H' hj g y => ?_
    obtain ⟨T, x1, y1, rfl, hT, rfl, h3, h4⟩ := y
    have e5 : Ext H (upd H T (.tup [x1, y1])) := same_new hT
    refine ⟨e5, .tup (.inl (.inl upd_same)) ?_⟩
    have hj2 : j < kvs.length := by omega
    have hkv : kvs[j]? = some ((kvs[j]'hj2).1, (kvs[j]'hj2).2) := List.getElem?_eq_getElem hj2
    have h3 : (kvs[j]?).map (fun kv => kV kv.1) = some x1 := h3
    have h4 : (kvs[j]?).map Prod.snd = some y1 := h4
    rw [hkv] at h3 h4
    obtain rfl := Option.some.inj h3
    obtain rfl := Option.some.inj h4
    obtain ⟨d1, d2⟩ := DsP.at (kvs := kvs) a2' hkv
    refine .cons ?_ (.one (((d1.res w).same g.2).same e5))
    rw [d2]
    generalize (kvs[j]'hj2).1 = kk
    cases kk with
    | inl i => exact .int i
    | inr z => exact .str z
  · obtain ⟨h3, e4⟩ := unlock a1 (e2.trans e3)
    refine ⟨h3, q D acc _ e4 (fun u hu => ?_) (by rw [upd_ne np]; exact atD) (hall.keep (keep_unl h3 fun z => ns z.1))⟩
    have : ¬ Nt H D → False := fun h => h (fun u hu => by
      have eD : (upd H p (.frz od (.dK kvs))) D = some u := by rw [upd_ne np]; exact hu
      exact e2.nt (.of hD) u eD)
    exact Classical.byContradiction fun h => this fun h' => h (h' u hu)
end
end LK
namespace LK
open PySem PySem.Spec PyProof.Rows L2
variable [Tbs]
section
variable {K : PySem.W.Frag} {γ : Gm} {ρ : Rho} {te : TE} {A B : PyData → Rho → Prop}
theorem erd_new {es : List (PyData × PyData)} (h : EvRDc K γ ρ te es) : EvR K γ ρ te (fun x r => ∃ p, x = rf p ∧ r = ρ ++ [(p, .dct es)]) := fun S σ H st Q q => h S σ H st Q fun p kvs H2 e n at2 hall => by
  have dkN : ∀ {a : Addr}, Nt H2 a → a ≠ p := fun h z => by
    subst z
    obtain ⟨ps, z⟩ := h _ at2
    cases z
  have mv : Mv S (fun a => S a ∧ a ≠ p) K H H2 := ⟨fun a x s q nt => ⟨⟨s, fun z => rd_nt q nt (z ▸ n)⟩, (Keep.of e).obj a x s q nt⟩, fun a C d f s q => ⟨⟨s, fun z => by
    subst z
    obtain ⟨ps, z⟩ := n _ q
    cases z⟩, (Keep.of e).ins a C d f s q⟩, fun _ _ q => sqT_keep (Keep.of (S := S) e) q⟩
  have nt : ∀ a, Nt H2 a → Nt H a ∧ a ≠ p := fun a h => ⟨e.nt h, dkN h⟩
  refine q (fun a => S a ∧ a ≠ p) (.ref p) (rf p) (ρ ++ [(p, .dct es)]) H2 ⟨p, rfl, rfl⟩ (.rf p) { frs := ⟨fun a h => ⟨st.frs.new a (nt a h).1, (nt a h).2⟩, e.tabs st.frs.tabs⟩, own := fun q hq => ?_, nd := ?_, fits := st.fits.move mv } ⟨.of e, fun a d => ?_, fun a s => .inl s.1, fun a s nn => ⟨s, fun z => nn (z ▸ n)⟩, fun a h => (nt a h).1⟩
  · rcases List.mem_append.mp hq with h | h
    · obtain ⟨n1, n2⟩ := st.own q h
      exact ⟨fun z => n1 z.1, Ct.move mv (fun o h pl => e.keep _ _ h pl.ntup.2.2.1) n2⟩
    · rw [List.mem_singleton.mp h]
      exact ⟨fun z => z.2 rfl, kvs, at2, hall⟩
  · rw [List.map_append]
    refine List.nodup_append.mpr ⟨st.nd, by simp, fun a ha b hb z => ?_⟩
    have hb : b = p := by simpa using hb
    subst hb z
    exact st.toStR.trk ha n
  · unfold dom at d
    rw [List.map_append] at d
    rcases List.mem_append.mp d with h | h
    · exact .inl h
    · right
      have : a = p := by simpa using h
      rw [this]
      exact n
/-- x = e, what e walks held meanwhile -/
theorem rr_lockSet {i : Nat} (h : EvR K γ ρ (tLockE te) B) : RunR K γ ρ (tLock (tAsg te (gName i))) (fun g r => ∃ x, B x r ∧ g = γ.set i (some x)) A := fun S σ H st D qn qr =>
  h S σ H st (fun v H' => D.nx (σ.set i (some v)) H') fun S1 v x ρ1 H1 bx hv st1 e1 => qn S1 _ _ ρ1 H1 ⟨x, bx, rfl⟩ (st1.set i hv) e1
end
end LK
namespace LK
open PySem PySem.Spec PyProof.Rows L2
variable [Tbs]
section
variable {K : PySem.W.Frag} {γ γ' : Gm} {ρ ρ' : Rho} {td : TE} {S S' : Addr → Prop} {σ σ' : L2.St} {H H2 H' : Hp} {p : Addr} {n : Nat} {A : PyData → Rho → Prop}
theorem lock_back {od : Obj} {kvs : List (Key × V)} {es : List (PyData × PyData)} (st : Sta K S γ ρ σ H2) (hn : ρ[n]? = some (p, .dct es)) (a1 : H2 p = some (.dK kvs)) (a2 : DsP K S H2 (kvs.map fun q => (kD q.1, q.2)) es) (e : Eff S (ρ.eraseIdx n) (upd H2 p (.frz od (.dK kvs))) S' ρ' H') (s' : Sta K S' γ' ρ' σ' H') :
    H' p = some (.frz od (.dK kvs)) ∧ Sta K S' γ' ((p, .dct es) :: ρ') σ' (upd H' p (.dK kvs)) ∧ Eff S ρ H2 S' ((p, .dct es) :: ρ') (upd H' p (.dK kvs)) := by
  have hm := List.mem_of_getElem? hn
  have own := st.own _ hm
  have ne := erase_ne st.nd hn
  have ndp : ¬ dom (ρ.eraseIdx n) p := fun z => by
    obtain ⟨q, hq, e⟩ := List.mem_map.mp z
    exact ne q hq e
  have sub : ∀ a, dom (ρ.eraseIdx n) a → dom ρ a := fun a h => by
    obtain ⟨q, hq, e⟩ := List.mem_map.mp h
    exact List.mem_map.mpr ⟨q, List.mem_of_mem_eraseIdx hq, e⟩
  have dp : dom ρ p := List.mem_map.mpr ⟨_, hm, rfl⟩
  have h2 : H' p = some (.frz od (.dK kvs)) := e.chg.keep p _ ndp upd_same fun _ z => nomatch z
  have ntL : ∀ a, Nt (upd H2 p (.frz od (.dK kvs))) a → Nt H2 a := fun a h o ho => by
    have ea : a ≠ p := fun z => by
      subst z
      obtain ⟨ps, z⟩ := h _ upd_same
      cases z
    exact h o (by rw [upd_ne ea]; exact ho)
  have ntR : ∀ a, Nt H2 a → Nt (upd H2 p (.frz od (.dK kvs))) a := fun a h o ho => by
    have ea : a ≠ p := fun z => by
      subst z
      obtain ⟨ps, z⟩ := h _ a1
      cases z
    exact h o (by rw [upd_ne ea] at ho; exact ho)
  have nsp : ¬ S' p := fun z => by
    rcases e.sub p z with z | z
    · exact own.1 z
    · exact ndp z
  have ndp' : ¬ dom ρ' p := fun z => by
    rcases e.new p z with z | z
    · exact ndp z
    · obtain ⟨ps, z⟩ := z _ upd_same
      cases z
  have ntU : ∀ a, Nt (upd H' p (.dK kvs)) a → Nt H' a := fun a h o ho => by
    have ea : a ≠ p := fun z => by
      subst z
      obtain ⟨ps, z⟩ := h _ upd_same
      cases z
    exact h o (by rw [upd_ne ea]; exact ho)
  have e' : Eff S ρ H2 S' ((p, .dct es) :: ρ') (upd H' p (.dK kvs)) := ⟨⟨fun b x nd hb nt => by
    have eb : b ≠ p := fun z => nd (z ▸ dp)
    rw [upd_ne eb]
    exact e.chg.keep b x (fun z => nd (sub b z)) (by rw [upd_ne eb]; exact hb) nt, fun tb w hw => tabs_frz h2 (e.chg.tabs (fun w hw => tabs_pl a1 trivial (tb w hw)) w hw)⟩, fun a h => by
    rcases List.mem_cons.mp h with z | z
    · exact .inl (z ▸ dp)
    · rcases e.new a z with z | z
      · exact .inl (sub a z)
      · exact .inr (ntL a z), fun a h => by
    rcases e.sub a h with z | z
    · exact .inl z
    · exact .inr (sub a z), fun a s nn => e.old a s fun z => nn (ntL a z), fun a h => ntL a (e.al a (ntU a h))⟩
  have kp : Keep S' H' (upd H' p (.dK kvs)) := keep_unl h2 nsp
  refine ⟨h2, { frs := ⟨fun q hq => s'.frs.new q (ntU q hq), fun w hw => tabs_frz h2 (s'.frs.tabs w hw)⟩, own := fun q hq => ?_, nd := List.nodup_cons.mpr ⟨ndp', s'.nd⟩, fits := s'.fits.keep kp }, e'⟩
  rcases List.mem_cons.mp hq with z | z
  · subst z
    exact ⟨nsp, kvs, upd_same, a2.move (e'.mv st.toStR)⟩
  · have o := s'.own q z
    have eq : q.1 ≠ p := fun y => ndp' (List.mem_map.mpr ⟨q, z, y⟩)
    exact ⟨o.1, Ct.move (Mv.keep kp) (fun u h _ => by rw [upd_ne eq]; exact h) o.2⟩
/-- a walk over an own dict's items, the dict out of reach meanwhile; nothing is handed back within -/
theorem rr_forItems {g : TG} {t : TS} {γm : Nat → Gm → Gm} {es : List (PyData × PyData)} (I : Nat → Gm → Rho → Prop) (hd : Ev K γ td (rf p)) (hn : ρ[n]? = some (p, .dct es)) (h0 : I 0 γ (ρ.eraseIdx n)) (hg : ∀ i γ' ρ', i < es.length → I i γ' ρ' → EvG K g γ' (.tuple [(es.getD i (.none, .none)).1, (es.getD i (.none, .none)).2]) (γm i γ')) (hb : ∀ i γ' ρ', i < es.length → I i γ' ρ' → RunR K (γm i γ') ρ' t (I (i + 1)) fun _ _ => False) :
    RunR K γ ρ (tLock (tFor (iItems td) g t)) (fun g' r => ∃ r', I es.length g' r' ∧ r = (p, .dct es) :: r') A := fun S σ H st D qn qr => by
  obtain ⟨ns, kvs, a1, a2⟩ := st.own _ (List.mem_of_getElem? hn)
  have hl : kvs.length = es.length := by have := a2.len; rwa [List.length_map] at this
  refine ⟨p, .dK kvs, a1, trivial, fun od => ?_⟩
  have st1 := sta_lock (od := od) st hn a1
  have hm := List.mem_of_getElem? hn
  have ne := erase_ne st.nd hn
  have ndp : ¬ dom (ρ.eraseIdx n) p := fun z => by
    obtain ⟨q, hq, e⟩ := List.mem_map.mp z
    exact ne q hq e
  refine hd S σ _ st1.fits st1.frs _ fun v H2 e2 hv2 => ?_
  rw [hv2.rf_inv]
  have h2 : H2 p = some (.frz od (.dK kvs)) := e2.keep p _ upd_same fun _ z => nomatch z
  refine ⟨p, od, kvs, rfl, h2, ?_⟩
  have st2 := st1.ext e2
  have a2' : DsP K S H2 (kvs.map fun p => (kD p.1, p.2)) es := (a2.keep (Keep.updP a1 trivial ns)).keep (.of e2)
  have wk := walk_items (d := p) (o := od) (kvs := kvs)
  rw [hl] at wk
  refine for_it wk (fun i σ' H' => ∃ S' γ' ρ', I i γ' ρ' ∧ Sta K S' γ' ρ' σ' H' ∧ Eff S (ρ.eraseIdx n) H2 S' ρ' H') ⟨S, γ, _, h0, st2, .refl⟩ (fun i σ' H' hi q => ?_) (fun i x σ' H3 H4 hi q yy => ?_) fun σ' H' q => ?_
  · obtain ⟨S', γ', ρ', p0, p1, p2⟩ := q
    exact p2.chg.keep p _ ndp h2 (fun ps => HO.noConfusion)
  · obtain ⟨S', γ', ρ', p0, p1, p2⟩ := q
    obtain ⟨T, x1, y1, rfl, hT, rfl, h3, h4⟩ := yy
    have e5 : Ext H3 (upd H3 T (.tup [x1, y1])) := same_new hT
    have p1' := p1.ext e5
    have p2' : Eff S (ρ.eraseIdx n) H2 S' ρ' (upd H3 T (.tup [x1, y1])) := p2.trans st2.frs (Eff.ext e5)
    have hj2 : i < kvs.length := by omega
    have hkv : kvs[i]? = some ((kvs[i]'hj2).1, (kvs[i]'hj2).2) := List.getElem?_eq_getElem hj2
    have h3 : (kvs[i]?).map (fun kv => kV kv.1) = some x1 := h3
    have h4 : (kvs[i]?).map Prod.snd = some y1 := h4
    rw [hkv] at h3 h4
    obtain rfl := Option.some.inj h3
    obtain rfl := Option.some.inj h4
    obtain ⟨d1, d2⟩ := DsP.at (kvs := kvs) a2' hkv
    have hx : Ds K S' (upd H3 T (.tup [kV (kvs[i]'hj2).1, (kvs[i]'hj2).2])) (.ref T) (.tuple [(es.getD i (.none, .none)).1, (es.getD i (.none, .none)).2]) := by
      refine .tup (.inl (.inl upd_same)) (.cons ?_ (.one (d1.move (p2'.mv st2.toStR))))
      rw [d2]
      generalize (kvs[i]'hj2).1 = kk
      cases kk with
      | inl i => exact .int i
      | inr z => exact .str z
    refine hg i γ' ρ' hi p0 S' σ' _ _ p1'.fits hx _ fun σ2 f2 => ?_
    refine hb i γ' ρ' hi p0 S' σ2 _ { p1'.toStR with fits := f2 } _ (fun S5 σ5 γ5 ρ5 H5 g5 s5 e5 => ⟨S5, γ5, ρ5, g5, s5, p2'.trans st2.frs e5⟩) fun S5 v x ρ5 H5 ax hv r5 e5 => ax.elim
  · obtain ⟨S', γ', ρ', p0, p1, p2⟩ := q
    have eL : Eff S (ρ.eraseIdx n) (upd H p (.frz od (.dK kvs))) S' ρ' H' := (Eff.ext e2).trans st1.frs p2
    obtain ⟨k0, k1, k2⟩ := lock_back st hn a1 a2 eL p1
    exact ⟨k0, qn S' σ' γ' _ _ ⟨ρ', p0, rfl⟩ k1 k2⟩
end
end LK
namespace LK
open PySem PySem.Spec PyProof.Rows L2
variable [Tbs]
/-! ### while -/
section
variable {K : PySem.W.Frag} {γ : Gm} {ρ : Rho} {tt : TT} {t : TS} {N : Gm → Rho → Prop} {A : PyData → Rho → Prop}
/-- m bounds what is left to do -/
theorem rr_while (I : Nat → Gm → Rho → Prop) {m0 : Nat} (h0 : I m0 γ ρ) (ht : ∀ m γ' ρ', I m γ' ρ' → EvRB K γ' ρ' tt fun b r => r = ρ' ∧ ((b = true ∧ RunR K γ' ρ' t (fun g r => ∃ m', m' < m ∧ I m' g r) A) ∨ (b = false ∧ N γ' ρ'))) : RunR K γ ρ (tWhile tt t) N A := fun S σ H st D qn qr => by
  refine ⟨fun m σ' H' => ∃ S' γ' ρ', I m γ' ρ' ∧ Sta K S' γ' ρ' σ' H' ∧ Eff S ρ H S' ρ' H', ⟨m0, S, γ, ρ, h0, st, .refl⟩, ?_⟩
  rintro m σ1 H1 ⟨S1, γ1, ρ1, i1, s1, e1⟩
  refine ht m γ1 ρ1 i1 S1 σ1 H1 s1 _ fun S2 b ρ2 H2 hb s2 e2 => ?_
  obtain ⟨rfl, hb⟩ := hb
  have e12 := e1.trans st.frs e2
  rcases hb with ⟨rfl, hr⟩ | ⟨rfl, hn⟩
  · show ∃ N : L2.St → Hp → Prop, _
    refine ⟨fun σ' H' => ∃ m', m' < m ∧ ∃ S' γ' ρ', I m' γ' ρ' ∧ Sta K S' γ' ρ' σ' H' ∧ Eff S ρ H S' ρ' H', fun σ' H' ⟨m', h1, h2⟩ => ⟨m', h1, h2⟩, ?_⟩
    refine hr S2 σ1 H2 s2 _ (fun S3 σ3 γ3 ρ3 H3 ⟨m', hm, i3⟩ s3 e3 => ⟨m', hm, S3, γ3, ρ3, i3, s3, e12.trans st.frs e3⟩) fun S3 v x ρ3 H3 ax hv r3 e3 => qr S3 v x ρ3 H3 ax hv r3 (e12.trans st.frs e3)
  · exact qn S2 σ1 γ1 _ H2 hn s2 e12
end
end LK
namespace LK
open PySem PySem.Spec PyProof.Rows L2
variable [Tbs]
/-! ### list(d.values()) -/
def rValsL : V → Hp → VK → Prop := fun x H Q => ∃ (d : Addr) (kvs : List (Key × V)), x = .ref d ∧ H d = some (.dK kvs) ∧ ∀ p, H p = none → Q (.ref p) (upd H p (.lst (kvs.map (·.2))))
def tListVals (te : TE) : TE := fun σ H Q => te σ H fun x H1 => rValsL x H1 Q
section
variable {X : Cx} {e : Expr} {te : TE} {p apos cpos pos : Pos}
theorem vals_at : ∀ {kvs : List (Key × V)} {vs : List (Key × Value)} {i : Nat} {k : Key} {u : Value}, KV kvs vs → vs[i]? = some (k, u) → ∃ v, (kvs.map (·.2))[i]? = some v ∧ RelV v u
  | _, _, i, k, u, .nil, h => by simp at h
  | _, _, 0, k, u, .cons (a := q) (b := r) h t, e => by
    rw [List.getElem?_cons_zero] at e
    obtain rfl := Option.some.inj e
    exact ⟨_, rfl, h.2⟩
  | _ :: kvs, _ :: vs, i + 1, k, u, .cons h t, e => by
    rw [List.getElem?_cons_succ] at e
    obtain ⟨v, h1, h2⟩ := vals_at (kvs := kvs) (vs := vs) t e
    exact ⟨v, by rw [List.map_cons, List.getElem?_cons_succ]; exact h1, h2⟩
theorem vals_of : ∀ {xs : List V} {us : List Value}, xs.length = us.length → (∀ (i : Nat) (u : Value), us[i]? = some u → ∃ x, xs[i]? = some x ∧ RelV x u) → Vals xs us
  | [], [], _, _ => .nil
  | [], _ :: _, h, _ => by cases h
  | _ :: _, [], h, _ => by cases h
  | x :: xs, u :: us, h, a => by
    obtain ⟨y, h1, h2⟩ := a 0 u rfl
    obtain rfl := Option.some.inj h1
    exact .cons h2 (vals_of (Nat.succ.inj h) fun i v hv => a (i + 1) v hv)
theorem pe_listVals (hc : X.calm = true) (he : PE X e te) (hg : Gl X "list") (hm : X.mg "list" = none) (hv : bootBuiltins "list" = some (.type "list")) (hbase : attributeBase e "values" X.env (eval e X.env) = eval e X.env := by rfl) (hline : (apos.endLine == cpos.line) = true := by rfl)
    (hs : starEach [.Call (.Attribute e "values" apos) [] [] cpos] X.env = (false, eval (.Call (.Attribute e "values" apos) [] [] cpos) X.env) :: starEach [] X.env := by rfl) :
    PE X (.Call (.Name "list" p) [.Call (.Attribute e "values" apos) [] [] cpos] [] pos) (tListVals te) := by
  refine ⟨fun pins s σ H Q I hq => ?_⟩
  refine wpAny_Call_Name_kw (ld_blt I hg hm hv ?_)
  refine PyProof.Rows.callWith_type1 ?_ hs rfl
  rw [hs]
  show wpAny _ _ (spliced ((false, eval (.Call (.Attribute e "values" apos) [] [] cpos) X.env) :: backTo pos (starEach [] X.env))) _ _ s
  refine Calls.spliced_cons ?_
  refine wpAny_Call_method (T := "dict") (id := "dict.values") hbase rfl hline F.plainAttrs_dict F.slot_dict_values F.type_dict_values (thn (he.run pins s σ H _ I hq) fun u s1 ⟨x, H1, I1, rx, d, kvs, ex, hd, q⟩ => ?_)
  subst ex
  obtain rfl : u = Value.ref d := rx
  obtain ⟨hz, hs0, vs, kv, hdo⟩ := I1.hok d _ hd
  obtain ⟨ep, hat⟩ := hdo.dictAt
  have lk : kvs.length = vs.length := Paired.length kv
  have I2 : Inv X pins σ H1 { s1 with heap := s1.heap.push { cls := .type "dict_values", data := .fields #[.ref d] } } := I1.kept (t' := s1.toks) fun b ob q => Heap.get?_push_of_some _ q
  refine ⟨hdo.typeIs, hdo.mapOf.noDict, ?_⟩
  show wpAny _ _ (callWith cpos (.builtin "dict.values") [.ref d] [] []) _ X.xe s1
  refine method_meetsIn F.slot_dict_values F.entry_dict_values rfl (PySem.evalArgs_none ⟨rfl, hdo.typeIs, F.args_dict_values_1 _, _, meets_dict_values (mixKind X.prog X.w) d hs0, ⟨vs, hdo⟩, ?_⟩)
  refine Calls.spliced_nil ?_
  refine PySem.W.kdl_call (PySem.W.kdl_values (knd := mixKind X.prog X.w) (kvs := vs) (ep := ep)) (I1.ok.hd hc) ⟨⟨_, Heap.get?_push_size _ rfl, rfl, rfl⟩, hat.push _⟩ (by omega) fun h' tk acc c hk hS hacc => ?_
  obtain ⟨hsz, hat2⟩ := hacc
  have hvals : Vals (kvs.map (·.2)) acc.toList := vals_of (by rw [List.length_map, lk, ← hsz]; rfl) fun i u hu => by
    obtain ⟨k, hk2⟩ := hat2 i u (by rw [← Array.getElem?_toList]; exact hu)
    exact vals_at kv hk2
  exact ⟨.ref _, upd H1 _ (.lst (kvs.map (·.2))), I2.laid (t' := tk) hk (Nat.le_refl _) ⟨by rw [List.length_map]; exact hz, acc.toList, c, hvals, by rw [Array.toArray_toList]; exact hS⟩, rfl, q _ (I2.hok.fresh (Nat.le_refl _))⟩
end
section
variable {K : PySem.W.Frag} {γ : Gm} {ρ : Rho} {td : TE} {p : Addr} {n : Nat}
theorem DsP.snd {S : Addr → Prop} {H : Hp} : ∀ {kvs : List (Key × V)} {es : List (PyData × PyData)}, DsP K S H (kvs.map fun q => (kD q.1, q.2)) es → DsAll K S H (kvs.map (·.2)) (es.map (·.2))
  | [], _, h => by
    cases h
    exact .nil
  | q :: kvs, _, h => by
    cases h with
    | cons h1 h2 => exact .cons h1 (DsP.snd h2)
/-- list(d.values()) of an own dict -/
theorem evv_vals {es : List (PyData × PyData)} (hd : Ev K γ td (rf p)) (hn : ρ[n]? = some (p, .dct es)) : EvV K γ ρ (tListVals td) (.list (es.map (·.2))) := fun S σ H st Q q => hd S σ H st.fits st.frs _ fun v1 H1 e1 hv1 => by
  have st1 := st.ext e1
  rw [hv1.rf_inv]
  obtain ⟨_, kvs, a1, a2⟩ := st1.own _ (List.mem_of_getElem? hn)
  refine ⟨p, kvs, rfl, a1, fun l nl => ?_⟩
  have e2 : Ext H1 (upd H1 l (.lst (kvs.map (·.2)))) := same_new nl
  exact q _ _ (e1.trans e2) (.lst (st1.frs.new l (.of nl)) (.inl upd_same) (DsP.snd (a2.keep (.of e2))))
end
end LK
namespace LK
open PySem PySem.Spec PyProof.Rows L2
variable [Tbs]
section
variable {K : PySem.W.Frag} {S : Addr → Prop} {H : Hp} {γ : Gm} {ρ ρ0 : Rho} {σ : L2.St} {te : TE} {A : PyData → Rho → Prop}
/-- a tail of one's own is given up -/
theorem sta_freezeTail {ρ2 : Rho} (st : Sta K S γ (ρ0 ++ ρ2) σ H) : Sta K (fun a => S a ∨ a ∈ ρ2.map (·.1)) γ ρ0 σ H ∧ Eff S (ρ0 ++ ρ2) H (fun a => S a ∨ a ∈ ρ2.map (·.1)) ρ0 H := by
  have hsub : ∀ q ∈ ρ0, q ∈ ρ0 ++ ρ2 := fun q hq => List.mem_append_left _ hq
  have nd := st.nd
  rw [List.map_append, List.nodup_append] at nd
  refine ⟨{ frs := frs_or st.frs, own := fun q hq => ⟨fun z => ?_, Ct.move (Mv.res (.of fun a s => .inl s)) (fun o h _ => h) (st.own q (hsub q hq)).2⟩, nd := nd.1, fits := (View.refl (ρ := ρ0 ++ ρ2) (P := ρ2.map (·.1))) S σ H st }, ⟨⟨fun b o _ h _ => h, fun t => t⟩, fun a d => .inl ?_, fun a s => ?_, fun a s _ => .inl s, fun a h => h⟩⟩
  · rcases z with z | z
    · exact (st.own q (hsub q hq)).1 z
    · exact nd.2.2 _ (List.mem_map.mpr ⟨q, hq, rfl⟩) _ z rfl
  · obtain ⟨q, hq, e⟩ := List.mem_map.mp d
    exact List.mem_map.mpr ⟨q, hsub q hq, e⟩
  · rcases s with s | s
    · exact .inl s
    · exact .inr (by unfold dom; rw [List.map_append]; exact List.mem_append_right _ s)
/-- what is handed back becomes data, with a tail of one's own -/
theorem er_frzTail (h : EvR K γ ρ te (fun x r => ∃ ρ2 d, r = ρ0 ++ ρ2 ∧ A d ρ0 ∧ ∀ S H v, StR K S r H → Ds K S H v x → Ds K (fun a => S a ∨ a ∈ ρ2.map (·.1)) H v d)) : EvR K γ ρ te A := fun S σ H st Q q =>
  h S σ H st _ fun S1 v x ρ1 H1 ⟨ρ2, d, er, ad, hd⟩ hv st1 e1 => by
    subst er
    obtain ⟨s2, e2⟩ := sta_freezeTail st1
    exact q _ v d ρ0 H1 ad (hd S1 H1 v st1.toStR hv) s2 (e1.trans st.frs e2)
end
end LK
namespace LK
open PySem PySem.Spec PyProof.Rows L2
variable [Tbs]
section
variable {K : PySem.W.Frag} {γ : Gm} {te : TE} {ds : List PyData}
/-- p.extend(new list) -/
theorem rr_extend {ρ : Rho} {tl : TE} {p : Addr} {n : Nat} {xs : List PyData} {A : PyData → Rho → Prop} (hl : Ev K γ tl (rf p)) (hn : ρ[n]? = some (p, .lst xs)) (h : EvL K γ te ds) (hz : xs.length + ds.length ≤ 900000) : RunR K γ ρ (tDrop (tBM K "list" rExtend tl (tCons te tNil))) (fun g r => g = γ ∧ r = ρ.set n (p, .lst (xs ++ ds))) A := fun S σ H st D qn qr => by
  refine hl S σ H st.fits st.frs _ fun v1 H1 e1 hv1 => ?_
  rw [hv1.rf_inv]
  have st1 := st.ext e1
  obtain ⟨_, acc0, a0, _⟩ := st1.own _ (List.mem_of_getElem? hn)
  refine ⟨.inl ⟨rfl, _, .inl (.inl a0)⟩, ?_⟩
  refine h S σ H1 st1.fits st1.frs _ fun b ys H2 e2 nb hb hall => ?_
  have st2 := st1.ext e2
  obtain ⟨nsp, acc, a1, a2⟩ := st2.own _ (List.mem_of_getElem? hn)
  obtain ⟨r3, e3⟩ := st2.toStR.put (u := .lst (acc ++ ys)) (c' := .lst (xs ++ ds)) hn a1 trivial trivial fun m => ⟨_, upd_same, (a2.move m).app ((hall.res (.of fun a s => s.1)).move m)⟩
  refine ⟨p, b, acc, ys, rfl, rfl, a1, hb, ?_, qn S σ γ _ _ ⟨rfl, rfl⟩ { r3 with fits := st2.fits.move (e3.mv st2.toStR) } ((Eff.ext (e1.trans e2)).trans st.frs e3)⟩
  rw [a2.len, hall.len]
  exact sz_of (Nat.le_trans hz (by decide))
end
end LK
namespace LK
open PySem PySem.Spec PyProof.Rows L2
variable [Tbs]
/-! ### dicts with tuple keys, of one's own -/
section
variable {X : Cx} {pins : List (Addr × Obj)} {σ : L2.St} {H : Hp} {s : Shared} {a b : Addr} {A : Around} {E : Value → Shared → Prop} {o i : Expr} {pos : Pos} {td ty : TE} {K : PySem.W.Frag}
theorem sqT_at' {P : Program} {w : World} {h : Heap} {xs : List V} (hok : HOk P w H h) (KX : K.In h) (q : SqT K H a xs) : ∃ (its : List Value) (o : Obj) (n : Nat), Vals xs its ∧ h.get? a = some o ∧ o.cls = .type "tuple" ∧ o.data = .seq its.toArray n := by
  rcases q with q | ⟨o, its, n, e, hc, hd, _, hv⟩
  · obtain ⟨_, its, hv, o, e, hc, n, hd⟩ := (show ObjOk P w H h a (.tup xs) from q.ok hok)
    exact ⟨its, o, n, hv, e, hc, hd⟩
  · exact ⟨its.toList, o, n, hv, KX _ _ e, hc, by simp [hd]⟩
theorem key_sq {ks : List Key} (hk : X.K = K) (I : Inv X pins σ H s) (e : SqT K H b (ks.map kV)) : (tupleKind (mixKind X.prog X.w)).is s.heap ks b := by
  subst hk
  obtain ⟨its, o, n, hv, ho, hc, hd⟩ := sqT_at' I.hok I.kIn e
  exact ⟨o, its.toArray, n, ho, hc, by simpa using hd, by simpa using items_are hv⟩
def tDGetS (K : PySem.W.Frag) (td ty : TE) : TE := fun σ H Q => td σ H fun x H1 => ty σ H1 fun y H2 => ∃ (a b : Addr) (kvs : List (List Key × V)) (k : List Key) (v : V), x = .ref a ∧ y = .ref b ∧ H2 a = some (.dT kvs) ∧ SqT K H2 b (k.map kV) ∧ valV kvs k = some v ∧ Q v H2
def tDNotInS (K : PySem.W.Frag) (ty td : TE) : TE := fun σ H Q => ty σ H fun y H1 => td σ H1 fun x H2 => ∃ (a b : Addr) (kvs : List (List Key × V)) (k : List Key), x = .ref a ∧ y = .ref b ∧ H2 a = some (.dT kvs) ∧ SqT K H2 b (k.map kV) ∧ Q (.bl (!(valV kvs k).isSome)) H2
theorem pe_dgetS (hk : X.K = K) (hu : X.A.units + 1 < cLine) (ho : PE X o td) (hi : PE X i ty) (hs : NoSl i) : PE X (.Subscript o i pos) (tDGetS K td ty) := by
  refine ⟨fun pins s σ H Q I h => ?_⟩
  refine subD_of PySem.F.slot_dict_getitem.lookup hs (thn (ho.run pins s σ H _ I h) fun u s1 ⟨x, H1, I1, rx, q1⟩ => thn (hi.run pins s1 σ H1 _ I1 q1) fun iv s2 ⟨y, H2, I2, ry, a, b, kvs, k, v, ex, ey, e, sq, l, q2⟩ => ?_)
  subst ex ey
  obtain rfl : u = Value.ref a := rx
  cases (show iv = Value.ref b from ry)
  obtain ⟨z, hd, xs, rel, dd⟩ := dt_of I2.hok e
  refine ⟨dd.typeIs, ?_⟩
  obtain ⟨w', hw, rw'⟩ := RelO.some_of (v := v) (o := (atKey xs k).map (·.2)) (by rw [← l]; exact rel.val k)
  obtain ⟨p, hp, hp2⟩ := Option.map_eq_some_iff.mp hw
  refine wpAny_getItem_heap (tupleKind_room_in1 hu) (key_sq hk I2 sq) dd hp ?_
  rw [hp2]
  exact ⟨v, H2, I2.tok _, rw', q2⟩
theorem pc_dnotinS (hk : X.K = K) (hu : X.A.units + 1 < cLine) (hi : PE X i ty) (ho : PE X o td) : PC X .NotIn i o (tDNotInS K ty td) := by
  refine ⟨fun pins s σ H Q I h => ?_⟩
  refine thn (hi.run pins s σ H _ I h) fun iv s1 ⟨y, H1, I1, ry, q1⟩ => thn (ho.run pins s1 σ H1 _ I1 q1) fun u s2 ⟨x, H2, I2, rx, a, b, kvs, k, ex, ey, e, sq, q2⟩ => ?_
  subst ex ey
  obtain rfl : u = Value.ref a := rx
  cases (show iv = Value.ref b from ry)
  obtain ⟨z, hd, xs, rel, dd⟩ := dt_of I2.hok e
  refine wpAny_notIn_heap (tupleKind_room_in1 hu) (key_sq hk I2 sq) hd dd ?_
  have q := (rel.val k).isSome_eq
  rw [Option.isSome_map] at q
  rw [← q]
  exact ⟨.bl _, H2, I2.tok _, rfl, q2⟩
end
def lkT (es : List (List Key × PyData)) (k : List Key) : Option PyData := (es.find? fun p => decide (p.1 = k)).map (·.2)
def putT (es : List (List Key × PyData)) (k : List Key) (d : PyData) : List (List Key × PyData) :=
  if (es.any fun p => decide (p.1 = k)) = true then es.map (fun p => if p.1 = k then (p.1, d) else p) else es ++ [(k, d)]
section
variable {K : PySem.W.Frag} {S : Addr → Prop} {H : Hp}
theorem dtu_get {k : List Key} : ∀ {kvs : List (List Key × V)} {es : List (List Key × PyData)}, kvs.map (·.1) = es.map (·.1) → DsAll K S H (kvs.map (·.2)) (es.map (·.2)) → (∀ d, lkT es k = some d → ∃ v, valV kvs k = some v ∧ Ds K S H v d) ∧ (valV kvs k).isSome = (lkT es k).isSome
  | [], [], _, _ => ⟨fun d h => (nomatch h), rfl⟩
  | [], e :: es, h, _ => by cases h
  | kv :: kvs, [], h, _ => by cases h
  | kv :: kvs, e :: es, h, r => by
    rw [List.map_cons, List.map_cons] at h
    injection h with h1 h2
    rw [List.map_cons, List.map_cons] at r
    cases r with
    | cons r1 r2 =>
      obtain ⟨i1, i2⟩ := dtu_get (k := k) h2 r2
      by_cases c : kv.1 = k
      · have c2 : e.1 = k := h1 ▸ c
        have l : lkT (e :: es) k = some e.2 := by
          unfold lkT
          rw [List.find?_cons_of_pos (by exact decide_eq_true c2)]
          rfl
        rw [valV_pos c, l]
        exact ⟨fun d h => ⟨_, rfl, by injection h with h; exact h ▸ r1⟩, rfl⟩
      · have c2 : ¬ e.1 = k := h1 ▸ c
        have l : lkT (e :: es) k = lkT es k := by
          unfold lkT
          rw [List.find?_cons_of_neg (by rw [decide_eq_false c2]; exact Bool.false_ne_true)]
        rw [valV_neg c, l]
        exact ⟨i1, i2⟩
theorem dtu_any {k : List Key} : ∀ {kvs : List (List Key × V)} {es : List (List Key × PyData)}, kvs.map (·.1) = es.map (·.1) → (kvs.any fun p => decide (p.1 = k)) = es.any fun p => decide (p.1 = k)
  | [], [], _ => rfl
  | [], e :: es, h => by cases h
  | kv :: kvs, [], h => by cases h
  | kv :: kvs, e :: es, h => by
    rw [List.map_cons, List.map_cons] at h
    injection h with h1 h2
    rw [List.any_cons, List.any_cons, h1, dtu_any h2]
theorem dtu_set {k : List Key} {v : V} {d : PyData} (hv : Ds K S H v d) : ∀ {kvs : List (List Key × V)} {es : List (List Key × PyData)}, kvs.map (·.1) = es.map (·.1) → DsAll K S H (kvs.map (·.2)) (es.map (·.2)) →
    (kvs.map fun p => if p.1 = k then (p.1, v) else p).map (·.1) = (es.map fun p => if p.1 = k then (p.1, d) else p).map (·.1) ∧ DsAll K S H ((kvs.map fun p => if p.1 = k then (p.1, v) else p).map (·.2)) ((es.map fun p => if p.1 = k then (p.1, d) else p).map (·.2))
  | [], [], _, _ => ⟨rfl, .nil⟩
  | [], e :: es, h, _ => by cases h
  | kv :: kvs, [], h, _ => by cases h
  | kv :: kvs, e :: es, h, r => by
    rw [List.map_cons, List.map_cons] at h
    injection h with h1 h2
    rw [List.map_cons, List.map_cons] at r
    cases r with
    | cons r1 r2 =>
      obtain ⟨i1, i2⟩ := dtu_set hv h2 r2
      by_cases c : kv.1 = k
      · have c2 : e.1 = k := h1 ▸ c
        rw [List.map_cons, List.map_cons, List.map_cons, List.map_cons, List.map_cons, List.map_cons, if_pos c, if_pos c2, i1]
        exact ⟨by rw [h1], .cons hv i2⟩
      · have c2 : ¬ e.1 = k := h1 ▸ c
        rw [List.map_cons, List.map_cons, List.map_cons, List.map_cons, List.map_cons, List.map_cons, if_neg c, if_neg c2, i1]
        exact ⟨by rw [h1], .cons r1 i2⟩
theorem dtu_put {k : List Key} {v : V} {d : PyData} {kvs : List (List Key × V)} {es : List (List Key × PyData)} (hv : Ds K S H v d) (h : kvs.map (·.1) = es.map (·.1)) (r : DsAll K S H (kvs.map (·.2)) (es.map (·.2))) : (putK kvs k v).map (·.1) = (putT es k d).map (·.1) ∧ DsAll K S H ((putK kvs k v).map (·.2)) ((putT es k d).map (·.2)) := by
  unfold putK putT
  rw [dtu_any h]
  by_cases c : (es.any fun p => decide (p.1 = k)) = true
  · rw [if_pos c, if_pos c]
    exact dtu_set hv h r
  · rw [if_neg c, if_neg c, List.map_append, List.map_append, List.map_append, List.map_append, h]
    exact ⟨rfl, r.app (.one hv)⟩
theorem keys_kV {ks : List Key} : ∀ {us : List V}, DsAll K S H us (ks.map kD) → us = ks.map kV := by
  induction ks with
  | nil =>
    intro us h
    cases h
    rfl
  | cons k ks ih =>
    intro us h
    rw [List.map_cons] at h
    cases h with
    | cons h1 h2 => rw [ds_key h1, ih h2]; rfl
end
section
variable {K : PySem.W.Frag} {γ : Gm} {ρ : Rho} {p : Addr} {n : Nat} {td ty tv : TE} {d x : PyData} {B : PyData → Rho → Prop} {A : PyData → Rho → Prop} {es : List (List Key × PyData)} {k : List Key}
theorem rr_newDT (i : Nat) : RunR K γ ρ (tAsg tDNewT (gName i)) (fun g r => ∃ p, g = γ.set i (some (rf p)) ∧ r = ρ ++ [(p, .dtu [])]) A := fun S σ H st D qn qr => fun p hp => by
  obtain ⟨r, e⟩ := st.toStR.newO (c := .dtu []) (u := .dT []) hp trivial fun _ => ⟨[], upd_same, rfl, .nil⟩
  exact qn _ _ _ _ _ ⟨p, rfl, rfl⟩ { r with fits := (st.fits.move (e.mv st.toStR)).set i (.rf p) } e
/-- d[(a, b)] = x -/
theorem rr_dputT {ta tb : TE} {k1 k2 : Key} (hx : Ev K γ tv x) (hd : Ev K γ td (rf p)) (ha : Ev K γ ta (kD k1)) (hb : Ev K γ tb (kD k2)) (hn : ρ[n]? = some (p, .dtu es)) (hz : es.length ≤ 900000) : RunR K γ ρ (sDPut td (tTup (tCons ta (tCons tb tNil))) tv) (fun g r => g = γ ∧ r = ρ.set n (p, .dtu (putT es [k1, k2] x))) A := fun S σ H st D qn qr => by
  refine hx S σ H st.fits st.frs _ fun v H1 e1 hv => ?_
  have st1 := st.ext e1
  refine hd S σ H1 st1.fits st1.frs _ fun v1 H2 e2 hv1 => ?_
  have st2 := st1.ext e2
  rw [hv1.rf_inv]
  refine ha S σ H2 st2.fits st2.frs _ fun w1 H3 e3 hw1 => ?_
  have st3 := st2.ext e3
  refine hb S σ H3 st3.fits st3.frs _ fun w2 H4 e4 hw2 => ?_
  have st4 := st3.ext e4
  rw [ds_key hw1, ds_key hw2]
  refine ⟨Nat.le_of_ble_eq_true rfl, fun q hq => ?_⟩
  have e5 : Ext H4 (upd H4 q (.tup [kV k1, kV k2])) := same_new hq
  have st5 := st4.ext e5
  obtain ⟨_, kvs, a1, a2, a3⟩ := st5.own _ (List.mem_of_getElem? hn)
  have hv5 : Ds K S (upd H4 q (.tup [kV k1, kV k2])) v x := (((hv.same e2).same e3).same e4).same e5
  obtain ⟨r6, e6⟩ := st5.toStR.put (u := .dT (putK kvs [k1, k2] v)) (c' := .dtu (putT es [k1, k2] x)) hn a1 trivial trivial fun m => ⟨_, upd_same, (dtu_put hv5 a2 a3).1, (dtu_put hv5 a2 a3).2.move m⟩
  have hl : kvs.length < sizeLine := sz_lt (by
    have := congrArg List.length a2
    rw [List.length_map, List.length_map] at this
    omega)
  exact ⟨p, _, rfl, DPut.t a1 upd_same hl, qn S σ γ _ _ ⟨rfl, rfl⟩ { r6 with fits := st5.fits.move (e6.mv st5.toStR) } ((Eff.ext ((((e1.trans e2).trans e3).trans e4).trans e5)).trans st.frs e6)⟩
theorem evv_dgetS (hd : Ev K γ td (rf p)) (hk : Ev K γ ty (.tuple (k.map kD))) (hn : ρ[n]? = some (p, .dtu es)) (l : lkT es k = some d) : EvV K γ ρ (tDGetS K td ty) d := fun S σ H st Q q => hd S σ H st.fits st.frs _ fun v1 H1 e1 hv1 => by
  have st1 := st.ext e1
  rw [hv1.rf_inv]
  refine hk S σ H1 st1.fits st1.frs _ fun w H2 e2 hw => ?_
  have st2 := st1.ext e2
  obtain ⟨b, us, rfl, sq, hus⟩ := hw.tup_inv
  rw [keys_kV hus] at sq
  obtain ⟨_, kvs, a1, a2, a3⟩ := st2.own _ (List.mem_of_getElem? hn)
  obtain ⟨v, l2, hv⟩ := (dtu_get (k := k) a2 a3).1 d l
  exact ⟨p, b, kvs, k, v, rfl, rfl, a1, sq, l2, q v H2 (e1.trans e2) hv⟩
theorem evv_dnotinS (hd : Ev K γ td (rf p)) (hk : Ev K γ ty (.tuple (k.map kD))) (hn : ρ[n]? = some (p, .dtu es)) : EvV K γ ρ (tDNotInS K ty td) (.bool (!(lkT es k).isSome)) := fun S σ H st Q q => hk S σ H st.fits st.frs _ fun w H1 e1 hw => by
  have st1 := st.ext e1
  refine hd S σ H1 st1.fits st1.frs _ fun v1 H2 e2 hv1 => ?_
  have st2 := st1.ext e2
  rw [hv1.rf_inv]
  obtain ⟨b, us, rfl, sq, hus⟩ := (hw.same e2).tup_inv
  rw [keys_kV hus] at sq
  obtain ⟨_, kvs, a1, a2, a3⟩ := st2.own _ (List.mem_of_getElem? hn)
  refine ⟨p, b, kvs, k, rfl, rfl, a1, sq, ?_⟩
  rw [(dtu_get (k := k) a2 a3).2]
  exact q _ H2 (e1.trans e2) (.bl _)
end
end LK
namespace LKH
open PySem PySem.Spec PyProof.Rows L2 HotX L2H PySem.W
abbrev St := L2.St
/-! ### lists walked while an exception is handled -/
section
variable {prog : Program} {w : World} {A : Around} {E : Value → Shared → Prop} {s : Shared}
theorem pyNext_list_end_hot {it l x1 : Addr} {i : Nat} {items : Array Value} {Q : Option Value → Shared → Prop} (hot : HotAt A x1 s.heap)
    (hit : s.heap.IsListIter it l i) (hl : s.heap.IsList l items) (hx : items[i]? = none)
    (hQ : ∀ h', Heap.ExtBut it s.heap h' → Q none { s with heap := h' }) : wpAny (model prog w) A (pyNext (.ref it)) Q E s := by
  obtain ⟨o, ho, hc, hd⟩ := id hit
  obtain ⟨ol, hol, _, nl, hdl⟩ := hl
  obtain ⟨hh, o1, vs1, h1, d1, c1⟩ := hot
  have hne : x1 ≠ it := fun z => by
    subst z
    rw [ho] at h1
    cases h1
    rw [hd] at d1
    injection d1 with d1
    rw [← d1] at c1
    cases c1
  unfold pyNext
  refine wpAny_bind (wpAny_attempt (wpAny_callSpecial?_slot (name := Str.ofString "__next__") hit.typeIs slot_listiter_next
    (wpAny_call_entry slot_listiter_next hit.typeIs entry_listiter_next ?_ (args_listiter_next _))))
  show wpAny _ _ (field (.ref it) 0 >>= _) _ _ s
  refine wpAny_bind (wpAny_field ho hd (x := .ref l) rfl ?_)
  show wpAny _ _ (if (Value.ref l == Value.none) = true then _ else _) _ _ s
  rw [if_neg (show ¬ ((Value.ref l == Value.none) = true) from Bool.false_ne_true)]
  show wpAny _ _ (field (.ref it) 1 >>= _) _ _ s
  refine wpAny_bind (wpAny_field ho hd (x := .int i 0) rfl ?_)
  show wpAny _ _ (seqItems? (.ref l) >>= _) _ _ s
  refine wpAny_bind (wpAny_seqItems hol hdl ?_)
  simp only [Int.toNat_natCast, hx]
  refine wpAny_bind (wpAny_rule (wpAny_bind (wpAny_setField ho hd (by simp) ?_)))
  show wpAny _ _ (newExc (.type "StopIteration") [] >>= _) _ _ _
  refine wpAny_bind ?_
  simp only [newExc, newTuple]
  refine wpAny_bind (wpAny_newObj_type ?_ (by size_fits))
  refine wpAny_bind (m := firstArgMember _ _) (wpAny_of_eq (a := Value.none) (by first | rfl | (simp only [firstArgMember]; rfl)) ?_)
  refine wpAny_newObj_type ?_ (by size_fits)
  have g1 : ∀ (u : Obj → Obj), (s.heap.update it u).get? x1 = some o1 := fun u => by rw [Heap.get?_update_other _ _ (Ne.symm hne)]; exact h1
  refine raiseNew_hot ⟨hh, o1, vs1, Heap.get?_push_of_some _ (Heap.get?_push_of_some _ (g1 _)), d1, c1⟩ (Nat.ne_of_lt (Heap.lt_size (Heap.get?_push_of_some _ (g1 _)))) (Heap.get?_push_size _ rfl) rfl (by first | (simp; done) | (simp; omega) | (simp only [Array.size_append]; simp; omega)) ?_
  refine wpAny_bind (wpAny_isInstance (T := "StopIteration") (b := true) ⟨_, Heap.get?_update_self _ (Heap.get?_push_size _ rfl) rfl, rfl⟩ isSubtype_stop ?_)
  refine wpAny_pure (hQ _ fun b o' hb e => ?_)
  have e0 : ∀ (u : Obj → Obj), (s.heap.update it u).get? b = some o' := fun u => by rw [Heap.get?_update_other _ _ (Ne.symm hb)]; exact e
  rw [Heap.get?_update_other _ _ (Nat.ne_of_gt (Heap.lt_size (Heap.get?_push_of_some _ (e0 _))))]
  exact Heap.get?_push_of_some _ (Heap.get?_push_of_some _ (e0 _))
end
/-- what handles p -/
abbrev HotP (A : Around) (p : Addr × Obj) : Prop := Hot1 A p
structure TurnG (P : Program) (w : World) (K : PySem.W.Frag) (tg : Expr) (J : It) (fp : List Addr) (it : Addr) (tn : Nat → Heap → Prop) : Prop where
  mem : it ∈ fp
  obj : ∀ i h, tn i h → ∀ b ∈ fp, ∃ o, h.get? b = some o ∧ ∀ v, o.data ≠ .cell v
  keep : ∀ i h h', tn i h → (∀ b ∈ fp, ∀ o, h.get? b = some o → h'.get? b = some o) → tn i h'
  item : ∀ (X : Cx), X.prog = P → X.w = w → X.K = K → ∀ (i : Nat) (pins : List (Addr × Obj)) (s : Shared) (σ : St) (H : Hp) (E : Value → Shared → Prop), Inv X pins σ H s → (∀ b ∈ fp, FpOk X pins H b) → tn i s.heap → J.go i H →
    wpAny (model P w) X.A (pyNext (.ref it)) (fun r s1 => ∃ u, r = some u ∧
      wpAny (model P w) X.A (letOwnedTupleGo tg (.ref it) u) (fun _ s2 => ∃ x H', Inv X pins σ H' s2 ∧ RelV x u ∧ J.yld i H x H' ∧ tn (i + 1) s2.heap ∧ ∀ b ∈ fp, H' b = none) E s1) E s
  done : ∀ (X : Cx), X.prog = P → X.w = w → X.K = K → ∀ (i : Nat) (pins : List (Addr × Obj)) (s : Shared) (σ : St) (H : Hp) (E : Value → Shared → Prop), (∃ x1, HotAt X.A x1 s.heap) → Inv X pins σ H s → (∀ b ∈ fp, FpOk X pins H b) → tn i s.heap → J.stop i H →
    wpAny (model P w) X.A (pyNext (.ref it)) (fun r s1 => r = none ∧ Inv X pins σ H s1) E s
  self : ∀ (A : Around) (i : Nat) (s : Shared) (Q : Value → Shared → Prop) (E : Value → Shared → Prop), tn i s.heap → Q (.ref it) s → wpAny (model P w) A (pyIter (.ref it)) Q E s
def PIEG (X : Cx) (pins : List (Addr × Obj)) (σ : St) (tg : Expr) (R : It → Hp → Prop) (itv : Value) (s2 : Shared) : Prop :=
  ∃ (it : Addr) (fp : List Addr) (tn : Nat → Heap → Prop) (J : It) (H' : Hp), itv = .ref it ∧ Inv X pins σ H' s2 ∧ TurnG X.prog X.w X.K tg J fp it tn ∧ tn 0 s2.heap ∧ (∀ b ∈ fp, FpOk X pins H' b) ∧ R J H'
structure PIG (X : Cx) (tg iter : Expr) (wi : TI) : Prop where
  run : ∀ (pins : List (Addr × Obj)) (s : Shared) (σ : St) (H : Hp) (R : It → Hp → Prop), Inv X pins σ H s → wi σ H R →
    wpAny (model X.prog X.w) X.A (eval iter X.env) (fun v s1 => wpAny (model X.prog X.w) X.A (pyIter v) (PIEG X pins σ tg R) X.xe s1) X.xe s
theorem turn_listG {P : Program} {w : World} {K : PySem.W.Frag} {tg : Expr} (a it : Addr) : TurnG P w K tg (Itl K a) [it] it (fun i h => h.IsListIter it a i) where
  mem := by simp
  obj := fun i h st b hb => by
    have e : b = it := by simpa using hb
    subst e
    obtain ⟨o, e, c, d⟩ := st
    exact ⟨o, e, fun v z => by rw [d] at z; cases z⟩
  keep := fun i h h' st k => st.at fun o e => k it (by simp) o e
  item := by
    intro X hP hw hK i pins s σ H E I hf st hg
    subst hP hw hK
    obtain ⟨xs, x, hq, hx⟩ := hg
    obtain ⟨its, rv, p, hz⟩ := I.list hq
    obtain ⟨u, hu, ru⟩ := rv.get hx
    obtain ⟨f0, f1, f2, f3, f4, f5⟩ := hf it (by simp)
    refine wpAny_pyNext_list_item st p.isList (x := u) (by simpa using hu) fun h' st' sb => ?_
    have I1 : Inv X pins σ H { s with heap := h' } := I.turned (t' := s.toks) (fun b o hb e => (sb.2 b hb).trans e) f0 f1 f3 f4 f5
    obtain ⟨o, e, c, d⟩ := id st'
    exact ⟨u, rfl, go_of (s := { s with heap := h' }) e c d (by decide) ⟨x, H, I1, ru, ⟨rfl, fun ys hy => by rw [I.list_inj hy hq]; exact hx⟩, st', fun b hb => (hf b hb).1⟩⟩
  done := by
    intro X hP hw hK i pins s σ H E hot I hf st hg
    subst hP hw hK
    obtain ⟨xs, hq, hx⟩ := hg
    obtain ⟨its, rv, p, hz⟩ := I.list hq
    obtain ⟨f0, f1, f2, f3, f4, f5⟩ := hf it (by simp)
    have hl := rv.length
    obtain ⟨x1, hot⟩ := hot
    exact pyNext_list_end_hot hot st p.isList (by simp; omega) fun h' eb => ⟨rfl, I.turned (t' := s.toks) (fun b o hb e => eb b o hb e) f0 f1 f3 f4 f5⟩
  self := fun _ _ _ _ _ st h => wpAny_pyIter_listiter st h
theorem pi_listG {X : Cx} {tg l : Expr} {tl : TE} (hl : PE X l tl) : PIG X tg l (iList X.K tl) := by
  refine ⟨fun pins s σ H R I h => ?_⟩
  refine thn (hl.run pins s σ H _ I h) fun v s1 ⟨x, H1, I1, r1, q1⟩ => ?_
  obtain ⟨a, e, ⟨xs, hq⟩, q⟩ := q1
  subst e
  cases r1
  obtain ⟨its, rv, p, hz⟩ := I1.list hq
  refine wpAny_pyIter_list p.isList ?_
  refine ⟨s1.heap.objs.size, [s1.heap.objs.size], _, _, H1, rfl, I1.kept (t' := s1.toks) fun b o e => Heap.get?_push_of_some _ e, turn_listG a _, ⟨_, Heap.get?_push_size _ rfl, rfl, rfl⟩, fun b hb => ?_, q⟩
  have e : b = s1.heap.objs.size := by simpa using hb
  subst e
  exact I1.fpOk (Nat.le_refl _) (I1.hok.fresh (Nat.le_refl _))
section
variable {X : Cx}
theorem lc_coreG {pins : List (Addr × Obj)} {s : Shared} {σ : St} {H : Hp} {Q : VK} {elt tg iter : Expr} {ifs : List Expr} {scope : Scope} {own : List (Str × Nat)} {pos pos' : Pos} {wi : TI} {g : TG} {tt : TT} {te : TE} {use : Option (Value → Sem Unit)} {Qf : Value → Shared → Prop}
    {p : Addr × Obj} (hot : HotP X.A p) (hpn : p ∈ X.pn) (hN : X.N.Nodup) (I : Inv X pins σ H s) (hi : PIG X tg iter wi) (ok : BlkOk X.N X.env.scope scope own)
    (hg : ∀ (s : Shared) (H : Hp) (C : Addr) (cl : List (Str × Addr)) (fp : List Addr), PG (X.blk s H scope (compEnvC scope cl C X.env) fp) tg g) (ht : ∀ (s : Shared) (H : Hp) (C : Addr) (cl : List (Str × Addr)) (fp : List Addr), PTs (X.blk s H scope (compEnvC scope cl C X.env) fp) ifs tt)
    (he : ∀ (s : Shared) (H : Hp) (C : Addr) (cl : List (Str × Addr)) (fp : List Addr), PE (X.blk s H scope (compEnvC scope cl C X.env) fp) elt te) (hs : ∀ x, foldedSetIterable iter X.env x = pure x)
    (h : tLc wi g tt te (own.map (·.2)) σ H Q)
    (hRR : ∀ D C s' m H', Inv X pins σ H' s' → Q (.ref D) H' → s'.heap.Ns C m → FpOk X pins H' C → compPost (model X.prog X.w) X.A X.xe use Qf (.ref D) C (.ok .next) s') :
    wpAny (model X.prog X.w) X.A (comprehension (.ListComp elt [⟨tg, iter, ifs, 0⟩] scope pos) scope X.env pos' (newList []) false (eval iter X.env) use) Qf X.xe s := by
  have hfree : ∀ y ∈ scope.names, y.2 = .free → ∃ c, X.env.cells.lookup y.1 = some c := fun y hy e => by
    rcases ok.free y hy e with k | k
    · exact I.ok.has _ (.inl k)
    · exact I.ok.has _ (.inr k)
  refine wpAny_comprehension_free (use := use) rfl hs (closure_ok hfree) ok.kind (fun y hy e => by rw [ok.uniq y hy, e])
    (thn (hi.run pins s σ H _ I h) fun xv s1 hx => thn hx fun itv s2 h2 => ?_)
  obtain ⟨it, fp, tn, J, H2, e, I2, T, st2, f2, q⟩ := h2
  subst e
  refine wpAny_newObj_type (newEnv_comp ?_) (by show 0 ≤ sizeLine; decide)
  generalize hD : s2.heap.objs.size = D
  have hDn : H2 D = none := I2.hok.fresh (Nat.le_of_eq hD)
  obtain ⟨W, ⟨m0, w0⟩, turn⟩ := q D hDn
  -- the new list
  generalize hs3 : ({ s2 with heap := s2.heap.push { cls := .type "list", data := .seq ([] : List Value).toArray } } : Shared) = s3
  have I3 : Inv X pins σ (upd H2 D (.lst [])) s3 := by
    rw [← hs3]
    refine I2.laid (t' := s2.toks) (fun b o e => Heap.get?_push_of_some _ e) (Nat.le_of_eq hD) ⟨Nat.zero_le _, [], 0, .nil, ?_⟩
    rw [← hD]
    exact Heap.get?_push_size _ rfl
  have h3 : s3.heap = s2.heap.push { cls := .type "list", data := .seq ([] : List Value).toArray } := by rw [← hs3]
  have sz : ∀ b ∈ fp, b < s2.heap.objs.size := fun b hb => by
    obtain ⟨o, e, _⟩ := T.obj _ _ st2 b hb
    exact Heap.lt_size e
  have f3 : ∀ b ∈ fp, FpOk X pins (upd H2 D (.lst [])) b ∧ b < s3.heap.objs.size := fun b hb => by
    have hlt := sz b hb
    refine ⟨⟨?_, (f2 b hb).2⟩, by rw [h3, Heap.size_push]; exact Nat.lt_succ_of_lt hlt⟩
    rw [upd_ne (by rw [← hD]; exact Nat.ne_of_lt hlt)]
    exact (f2 b hb).1
  have st3 : tn 0 s3.heap := T.keep _ _ _ st2 fun b _ o e => by rw [h3]; exact Heap.get?_push_of_some _ e
  have I4 := block_start I3 ok hN f3
  have pg := hg s3 (upd H2 D (.lst [])) s3.heap.objs.size (cellsFrom (s3.heap.objs.size + 1) scope.names (cloFrom X.env.cells scope.names [])) fp
  have pt := ht s3 (upd H2 D (.lst [])) s3.heap.objs.size (cellsFrom (s3.heap.objs.size + 1) scope.names (cloFrom X.env.cells scope.names [])) fp
  have pe := he s3 (upd H2 D (.lst [])) s3.heap.objs.size (cellsFrom (s3.heap.objs.size + 1) scope.names (cloFrom X.env.cells scope.names [])) fp
  show codeAny _ _ (.compStart (.ListComp elt [⟨tg, iter, ifs, 0⟩] scope pos) 0 (.ref it) (.ref D) (compEnvC scope (cellsFrom (s3.heap.objs.size + 1) scope.names (cloFrom X.env.cells scope.names [])) s3.heap.objs.size X.env)) (compPost (model X.prog X.w) X.A X.xe use Qf (.ref D) s3.heap.objs.size) { s3 with heap := pushCells (s3.heap.push { cls := .type "dict", data := .dict #[] }) scope.names }
  have nfp : ∀ b ∈ fp, (upd H2 D (.lst [])) b = none := fun b hb => (f3 b hb).1.1
  generalize hce : compEnvC scope (cellsFrom (s3.heap.objs.size + 1) scope.names (cloFrom X.env.cells scope.names [])) s3.heap.objs.size X.env = ce at I4 pg pt pe ⊢
  have cL : ce.locals = s3.heap.objs.size := by subst hce; rfl
  generalize hH3 : upd H2 D (.lst []) = H3 at I3 I4 pg pt pe w0 nfp f3
  generalize hs4 : ({ s3 with heap := pushCells (s3.heap.push { cls := .type "dict", data := .dict #[] }) scope.names } : Shared) = s4 at I4 ⊢
  have st4 : tn 0 s4.heap := T.keep _ _ _ st3 fun b _ o e => by rw [← hs4]; exact pushCells_keeps _ _ _ _ (Heap.get?_push_of_some _ e)
  have stat : ∀ {σ' : St} {H' : Hp} {s' : Shared}, Inv (X.blk s3 H3 scope ce fp) [] σ' H' s' → (∀ b ∈ fp, H' b = none) → ∀ b ∈ fp, FpOk (X.blk s3 H3 scope ce fp) [] H' b := fun {σ' H' s'} I' hn b hb =>
    ⟨hn b hb, (I'.ok.exf b hb).1, I'.ok.exfs b hb, .inl hb, fun x c e => (I'.ok.exf b hb).2 x c e, fun p hp => absurd (show p ∈ ([] : List (Addr × Obj)) ++ [] from hp) (by simp)⟩
  have loop : codeAny (model X.prog X.w) X.A (.compLoop (.ListComp elt [⟨tg, iter, ifs, 0⟩] scope pos) 0 (.ref it) (.ref D) ce) (compPost (model X.prog X.w) X.A X.xe use Qf (.ref D) s3.heap.objs.size) s4 := by
    refine compLoop_any (fun n s' => ∃ i H', Inv (X.blk s3 H3 scope ce fp) [] (wipe σ (own.map (·.2))) H' s' ∧ tn i s'.heap ∧ (∀ b ∈ fp, H' b = none) ∧ W i n H') ?_ m0 ⟨0, H3, I4, st4, nfp, w0⟩
    rintro n s5 ⟨i, H5, I5, st5, n5, w5⟩
    rcases turn i n H5 w5 with ⟨stop, qq⟩ | ⟨go, Nx, hNx, step⟩
    · have P3 := I3.pin p (List.mem_append_left _ hpn)
      have hot5 : HotX.HotAt X.A p.1 s5.heap := by
        obtain ⟨hh, v1, e1, c1⟩ := hot
        obtain ⟨sl, g⟩ := I5.base.any P3.1 P3.2.1 (fun z => (f3 p.1 z).1.2.2.2.2.2 p (List.mem_append_left _ hpn) rfl)
        exact ⟨hh, _, v1, g, e1, c1⟩
      have td := T.done (X.blk s3 H3 scope ce fp) rfl rfl rfl i [] s5 _ H5 (fun _ _ => False) ⟨p.1, hot5⟩ I5 (stat I5 n5) st5 stop
      refine thnF td fun r s6 ⟨hr, I6⟩ => ?_
      subst hr
      -- back in the def's context
      have I7 : Inv X pins σ H5 s6 := I3.call' (ch := fp) I6.os I6.base I6.hok I6.bare fun b hb => ⟨(f3 b hb).1.2.2.2.1, (f3 b hb).1.2.1, (f3 b hb).1.2.2.2.2.1, (f3 b hb).1.2.2.2.2.2⟩
      have nC : H5 s3.heap.objs.size = none := by
        have z : H5 ce.locals = none := I6.free
        rw [cL] at z
        exact z
      obtain ⟨m, hn, _⟩ := I6.loc
      have hn : s6.heap.Ns ce.locals m := hn
      rw [cL] at hn
      exact hRR D s3.heap.objs.size s6 m H5 I7 qq hn (I3.fpOk (Nat.le_refl _) nC)
    · have ti := T.item (X.blk s3 H3 scope ce fp) rfl rfl rfl i [] s5 _ H5 (fun _ _ => False) I5 (stat I5 n5) st5 go
      refine thnF ti fun r s6 ⟨u, hr, h6⟩ => ?_
      subst hr
      refine thnF h6 fun _ s7 ⟨x, H7, I7, r7, y7, st7, n7⟩ => ?_
      have I7' := I7.pinned (stat I7 n7) (T.obj _ _ st7)
      refine thnF (pg.run _ s7 _ H7 x u _ I7' r7 (step x H7 y7)) fun _ s8 ⟨σ8, H8, I8, hw8, q8⟩ => ?_
      refine thnF (pt.run _ s8 σ8 H8 _ I8 q8) fun b s9 ⟨H9, I9, q9⟩ => ?_
      -- the turn's end
      have fin : ∀ {s' : Shared} {H' : Hp}, Inv (X.blk s3 H3 scope ce fp) ([] ++ pinsAt fp s7.heap) σ8 H' s' → Nx H' → ∃ m, m < n ∧ ∃ i H', Inv (X.blk s3 H3 scope ce fp) [] (wipe σ (own.map (·.2))) H' s' ∧ tn i s'.heap ∧ (∀ b ∈ fp, H' b = none) ∧ W i m H' := fun {s' H'} I' nx => by
        obtain ⟨m', hm, w'⟩ := hNx H' nx
        have pin' : ∀ b ∈ fp, ∀ o, s7.heap.get? b = some o → s'.heap.get? b = some o ∧ H' b = none := fun b hb o e =>
          let z := I'.pin (b, o) (List.mem_append_right _ (List.mem_append_right _ (mem_pinsAt hb e)))
          ⟨z.1, z.2.1⟩
        have hl : (wipe σ (own.map (·.2))).length = σ8.length := by rw [← hw8, wipe_length]
        refine ⟨m', hm, i + 1, H', (I'.unpinned (pins := [])).weak hl (fun j v e => ?_), T.keep _ _ _ st7 fun b hb o e => (pin' b hb o e).1, fun b hb => ?_, w'⟩
        · rw [← hw8] at e
          exact (wipe_some e).1
        · obtain ⟨o, e, _⟩ := T.obj _ _ st7 b hb
          exact (pin' b hb o e).2
      cases b with
      | false =>
        simp only [Bool.false_eq_true, if_false] at q9 ⊢
        exact fin I9 q9
      | true =>
        simp only [if_true] at q9 ⊢
        refine thnF (pe.run _ s9 σ8 H9 _ I9 q9) fun z s10 ⟨yv, H10, I10, r10, acc, hD10, hz10, nx⟩ => ?_
        exact app_ok (X := X.blk s3 H3 scope ce fp) I10 hD10 hz10 r10 fun s11 I11 => fin I11 nx
  exact codeAny_compStart_list loop (T.self X.A 0 _ _ _ st4 loop)
theorem pe_lcG {elt tg iter : Expr} {ifs : List Expr} {scope : Scope} {own : List (Str × Nat)} {pos : Pos} {wi : TI} {g : TG} {tt : TT} {te : TE} {p : Addr × Obj} (hot : HotP X.A p) (hpn : p ∈ X.pn) (hN : X.N.Nodup) (hi : PIG X tg iter wi) (ok : BlkOk X.N X.env.scope scope own)
    (hg : ∀ (s : Shared) (H : Hp) (C : Addr) (cl : List (Str × Addr)) (fp : List Addr), PG (X.blk s H scope (compEnvC scope cl C X.env) fp) tg g) (ht : ∀ (s : Shared) (H : Hp) (C : Addr) (cl : List (Str × Addr)) (fp : List Addr), PTs (X.blk s H scope (compEnvC scope cl C X.env) fp) ifs tt)
    (he : ∀ (s : Shared) (H : Hp) (C : Addr) (cl : List (Str × Addr)) (fp : List Addr), PE (X.blk s H scope (compEnvC scope cl C X.env) fp) elt te) (hs : ∀ x, foldedSetIterable iter X.env x = pure x := by intro _; rfl) :
    PE X (.ListComp elt [⟨tg, iter, ifs, 0⟩] scope pos) (tLc wi g tt te (own.map (·.2))) := by
  refine ⟨fun pins s σ H Q I h => ?_⟩
  rw [eval_ListComp]
  refine lc_coreG hot hpn hN I hi ok hg ht he hs h fun D C s' m H' I' q hn f => ⟨m, hn, fun h'' sb => ?_⟩
  obtain ⟨f0, f1, f2, f3, f4, f5⟩ := f
  exact ⟨.ref D, H', I'.turned (t' := s'.toks) (fun b o hb e => (sb.2 b hb).trans e) f0 f1 f3 f4 f5, rfl, q⟩
end
/-! ### defs called there: their promise knows the handled error -/
structure FnP (P : Program) (w : World) (K : PySem.W.Frag) (mg : Str → Option Value) (base : Heap) (CX : CXT) (k : Nat) (f : Addr) (fd : FuncData) (ps : List Str) (sp : Addr → Value → Option Addr → Sp) : Prop where
  len : ∀ a cls d vs H Q E, sp a cls d vs H Q E → vs.length = ps.length
  run : ∀ (A : Around) (outer : List Env) (s : Shared) (H : Hp) (args : Args) (us : List Value) (vs : List V) (Q : VK) (E : XK) (p : Addr × Obj) (cls : Value) (d : Option Addr), RoomH k A → Hot1 A p → Zc cls d p.2 → (∃ vs, p.2.data = .fields vs) → PinOk outer H s p → Env0 P w K mg base A outer s H → BindsTo s fd args (ps.zip us) → Vals vs us → sp p.1 cls d vs H Q E →
    codeAny (model P w) A (.call (.ref f) args) (CR CX outer P w H s Q E) s
theorem fn_ofP {CX : CXT} {P : Program} {w : World} {K : PySem.W.Frag} {mg : Str → Option Value} {base : Heap} {k : Nat} {f : Addr} {name qual : Str} {params : Arguments} {body : List Stmt} {scope : Scope} {dV kV doc pm cdv ct oc : Value} {an od : Option Addr}
    {osl : Array (Option Value)} {N ps : List Str} {sp : Addr → Value → Option Addr → Sp} (lk : K.lookup f = some ⟨oc, od, .func (PySem.W.fnOf name qual params body scope dV kV doc pm an cdv ct), osl⟩) (hcd : PySem.W.codeIn K cdv qual = true) (S : FnScope N ps scope)
    (len : ∀ a cls d vs H Q E, sp a cls d vs H Q E → vs.length = ps.length)
    (hbody : ∀ (A : Around) (outer : List Env) (s : Shared) (H : Hp) (vs : List V) (Q : VK) (E : XK) (p : Addr × Obj) (cls : Value) (d : Option Addr), Hot1 A p → Zc cls d p.2 → (∃ vs, p.2.data = .fields vs) → RoomH k (A.deeper (envOfC qual scope s.heap.objs.size f cdv)) → sp p.1 cls d vs H Q E →
      ∃ t, PSs (cxH CX P w K mg base N qual scope f cdv A outer s H E p) body t ∧ t { nx := fun _ H' => Q .non H', rt := Q } (L2.start N vs) H) :
    FnP P w K mg base CX (k + 1) f (PySem.W.fnOf name qual params body scope dV kV doc pm an cdv ct) ps sp := by
  refine ⟨len, fun A outer s H args us vs Q E p cls d hr hot hz hf hpin e0 hb r hsp => ?_⟩
  have hl := len _ _ _ _ _ _ _ hsp
  have KX : K.In s.heap := e0.mod.kin.keeps fun b o e => (e0.bs b o e).1
  have lim : s.heap.NoLimit := e0.mod.nolimit.keeps fun b o e => (e0.bs b o e).1
  have hkind : ∀ y ∈ ps.zip us, scope.names.lookup y.1 = some .local ∨ (scope.names.lookup y.1 = some .cell ∧ ((cellsFrom (s.heap.objs.size + 1) scope.names []).lookup y.1).isSome = true) := fun ⟨n, v⟩ hy => by
    rcases S.par n (List.of_mem_zip hy).1 with q | q
    · exact .inl q
    · exact .inr ⟨q, PySem.W.cellsFrom_some _ _ _ (.inl q)⟩
  refine codeAny_call_function hr.depth (KX _ _ lk) rfl S.co S.gen rfl (PySem.W.codeRec_of KX hcd) (hb _ _ _ _ ?_)
  refine wpAny_newFunctionEnv_cells S.kind hkind fun env he s1 x => ?_
  subst he
  refine ⟨lim.keeps x.toInCall.keep, codeAny_func ?_⟩
  obtain ⟨t, ht, hq⟩ := hbody A outer s H vs Q E p cls d hot hz hf (hr.deeper _) hsp
  have I : Inv (cxH CX P w K mg base N qual scope f cdv A outer s H E p) [] (L2.start N vs) H s1 := inv_startH S hpin e0 hl r x
  refine wpAny_mono (ht.run [] s1 (L2.start N vs) H _ I hq) (fun fl s' hs => ?_) fun e s' hs => hs
  have fin : ∀ {σ' : St} {H' : Hp} {v : V} {u : Value}, Inv (cxH CX P w K mg base N qual scope f cdv A outer s H E p) [] σ' H' s' → RelV v u → Q v H' → CE outer P w H s Q u s' :=
    fun {σ' H' v u} J rv q => ⟨v, H', J.os, J.bare, J.base, J.hok, rv, q⟩
  cases fl with
  | ret u =>
    obtain ⟨v, σ', H', J, rv, q⟩ := hs
    exact fin J rv q
  | next =>
    obtain ⟨σ', H', J, q⟩ := hs
    exact fin (v := V.non) (u := Value.none) J rfl q
  | brk =>
    obtain ⟨_, _, _, q⟩ := hs
    exact False.elim q
  | cont =>
    obtain ⟨_, _, _, q⟩ := hs
    exact False.elim q

section
variable {X : Cx} {CX : CXT} {k : Nat} {f C : Addr} {fd : FuncData} {ps : List Str} {sp : Addr → Value → Option Addr → Sp} {E : St → XK} {x m : Str} {q pos apos : Pos} {e o : Expr} {es : List Expr} {ta : TE} {t : TA}
theorem run_fnP {pins : List (Addr × Obj)} {σ : St} {H : Hp} {s : Shared} {Q : VK} {us : List Value} {vs : List V} (F : FnP X.prog X.w X.K X.mg X.base CX k f fd ps sp) (hr : RoomH k X.A) {p : Addr × Obj} {cls : Value} {d : Option Addr} (hot : Hot1 X.A p) (hp : p ∈ X.pn) (hz : Zc cls d p.2) (hf : ∃ vs, p.2.data = .fields vs) (hb : Binds X.K fd ps []) (hx : PassesAt CX X σ (E σ))
    (I : Inv X pins σ H s) (r : Vals vs us) (h : sp p.1 cls d vs H Q (E σ)) : wpAny (model X.prog X.w) X.A (call (.ref f) us) (EP X pins σ Q) X.xe s := by
  have hl : us.length = ps.length := by rw [← r.length]; exact F.len _ _ _ _ _ _ _ h
  have b := hb s us I.kIn (by rw [List.append_nil]; exact hl)
  rw [List.append_nil] at b
  have P1 := I.pin p (List.mem_append_left _ hp)
  have hpin : PinOk X.stack H s p := ⟨P1.1, P1.2.1, fun hm => (List.mem_cons.mp (I.stkSub p.1 hm)).elim P1.2.2.1 P1.2.2.2.1, P1.2.2.2.2⟩
  refine wpAny_call (codeAny_mono (F.run X.A X.stack s H ⟨us, []⟩ us vs Q (E σ) p cls d hr hot hz hf hpin I.env0 b r h) fun r s' hq => ?_)
  cases r with
  | error e => exact hx pins H s e s' I hq
  | ok fl =>
    cases fl with
    | ret u => exact I.after hq
    | next => exact False.elim hq
    | brk => exact False.elim hq
    | cont => exact False.elim hq
theorem pe_callP (F : FnP X.prog X.w X.K X.mg X.base CX k f fd ps sp) (hr : RoomH k X.A) {p : Addr × Obj} {cls : Value} {d : Option Addr} (hot : Hot1 X.A p) (hp : p ∈ X.pn) (hz : Zc cls d p.2) (hf : ∃ vs, p.2.data = .fields vs) (hg : Gl X x) (hm : X.mg x = some (.ref f)) (hk : PySem.W.keepIn X.K (.ref f) = true) (hb : Binds X.K fd ps []) (hx : ∀ σ, PassesAt CX X σ (E σ))
    (ha : PA X (e :: es) t) (hdb : (x == ("__debug__" : Str)) = false := by decide) (he : starEach (e :: es) X.env = (false, eval e X.env) :: starEach es X.env := by rfl) (hpl : (backTo pos (starEach es X.env)).any (·.1) = false := by rfl) :
    PE X (.Call (.Name x q) (e :: es) [] pos) (tCallS (sp p.1 cls d) E t) := by
  refine ⟨fun pins s σ H Q I h => ?_⟩
  refine wpAny_Call_Name_kw (ld_glob I hg hm ?_ hdb)
  refine PySem.W.callWith_K (h₀ := X.base) I.ok.mod.kin hk (thn (ha.run pos pins s σ H _ I h) fun us s1 ⟨vs, H1, I1, r, q⟩ => ⟨I1.kIn, ?_⟩) he hpl
  exact run_fnP F hr hot hp hz hf hb (hx σ) I1 r q
end
/-- isinstance of the handled error -/
def rIsP (K : PySem.W.Frag) (a : Addr) (cls : Value) (d : Option Addr) : List V → Hp → VK → Prop := fun xs H Q => ∃ (D : Addr) (c : V) (cv : Value) (b : Bool), cls = .ref D ∧ d = none ∧ ExcC K D ∧ xs = [.ref a, c] ∧ (∀ u, RelV c u → u = cv) ∧ PySem.W.kitOne K (.ref D) cv = some b ∧ Q (.bl b) H
theorem call_isP {X : Cx} {p : Addr × Obj} {cls : Value} {d : Option Addr} (hp : p ∈ X.pn) (hz : Zc cls d p.2) (hf : ∃ vs, p.2.data = .fields vs) : CallR X (.builtin "isinstance") (rIsP X.K p.1 cls d) := by
  intro pins s σ H xs us Q I r h
  obtain ⟨D, c, cv, b, ecls, ed, C, rfl, hcv, e, q⟩ := h
  subst ecls ed
  cases r with
  | cons rx rr =>
    cases rr with
    | cons rt rr =>
      cases rr
      cases rx
      have ec := hcv _ rt
      subst ec
      obtain ⟨hget, _⟩ := I.pin p (List.mem_append.mpr (.inl hp))
      obtain ⟨vs, hv⟩ := hf
      have J : PySem.W.InstAt s.heap p.1 p.2 D none := by
        obtain ⟨a, oe⟩ := p
        obtain ⟨oc, od, oda, osl⟩ := oe
        obtain ⟨h1, h2⟩ := hz
        dsimp only at h1 h2 hv
        subst h1 h2 hv
        exact ⟨hget, rfl, rfl, trivial⟩
      exact PySem.W.kia_one (PySem.W.handS_kitx_exc C.hg C.hk C.hs C.hd C.ha C.hn C.ht C.hm) I.kIn J e (fun z => nomatch z) fun tk => ⟨.bl b, H, I.kept (t' := tk) fun _ _ z => z, rfl, q⟩
end LKH
namespace LKH
open PySem PySem.Spec PyProof.Rows L2 HotX L2H PySem.W
section
variable {X : Cx}
/-- X(e, ..), an own error -/
theorem pmk_ownN {C : Addr} {bmB : List Value} {B newId initId : String} {x : Str} {p : Pos} {e : Expr} {es : List Expr} {t : TA} (F : ExcBaseFacts B newId initId bmB) (q : PySem.W.excIn X.K C bmB newId = true) (gC : X.mg x = some (.ref C))
    (kC : PySem.W.keepIn X.K (.ref C) = true) (r : Raises X (.ref C)) (hg : Gl X x) (ha : PA X (e :: es) t) (hdb : (x == ("__debug__" : Str)) = false := by decide)
    (he : starEach (e :: es) X.env = (false, eval e X.env) :: starEach es X.env := by rfl) (hpl : (backTo p (starEach es X.env)).any (·.1) = false := by rfl) {pos : Pos} (hpl2 : (backTo pos (starEach es X.env)).any (·.1) = false := by rfl) :
    L2N.PMk X (.Call (.Name x p) (e :: es) [] pos) (fun σ H Q => t σ H fun vs H1 => vs.length ≤ sizeLine ∧ Q (.ref C) none H1) := by
  intro pins s σ H Q I h
  refine wpAny_Call_Name_kw (ld_glob I hg gC ?_ hdb)
  refine PySem.W.callWith_K (h₀ := X.base) I.ok.mod.kin kC (thn (ha.run pos pins s σ H _ I h) fun us s1 ⟨vs, H1, I1, r1, hz, q1⟩ => ⟨I1.kIn, ?_⟩) he hpl2
  show wpAny _ _ (call (.ref C) us) _ _ _
  obtain ⟨bm, N, nm, qn, bs, hdct, sn, sub, ab, col, dd, k0, k1, k2, k3, k5, mN, hC, hN, hni, T⟩ := exc_obj I1.kIn q
  refine wpAny_call_exc_subT F T hC hN hni (fun h' e hm => ?_) (by rw [← r1.length]; exact hz)
  exact L2N.mk_of I1 hm r q1 (I1.hok.gone hm.new)
theorem pi_listGK {K : PySem.W.Frag} {tg l : Expr} {tl : TE} (h : X.K = K) (hl : PE X l tl) : PIG X tg l (iList K tl) := h ▸ pi_listG hl
theorem call_isPK {K : PySem.W.Frag} (h : X.K = K) {p : Addr × Obj} {cls : Value} {d : Option Addr} (hp : p ∈ X.pn) (hz : Zc cls d p.2) (hf : ∃ vs, p.2.data = .fields vs) : CallR X (.builtin "isinstance") (rIsP K p.1 cls d) := h ▸ call_isP hp hz hf
theorem passN : Passes (L2N.CX X.prog X.w) X E0 := fun _ _ _ _ _ _ _ h => by
  obtain ⟨_, _, _, _, _, _, _, _, _, _, _, _, z⟩ := h
  exact z.elim
theorem pass0H (σ : St) : PassesAt CX0 X σ E0 := fun pins H s e s' I c => pass0 pins σ H s e s' I c
/-- try: body, except x as n: suite -/
def tTry (K : PySem.W.Frag) (c : Value) (i : Nat) (ts : Addr → Value → Option Addr → TS) (Wout : WX) (tb : WX → TS) : TS := fun D σ H => tb (wAs K c i ts Wout D) D σ H
theorem ps_tryK {K : PySem.W.Frag} {x n : Str} {c : Value} {i : Nat} {body suite : List Stmt} {b₀ : Stmt} {np pos pos' : Pos} {tb : WX → TS} {ts : Addr → Value → Option Addr → TS} {Wout : WX} (hk : X.K = K) (hs : X.stack = X.env :: X.outer) (hf : X.env.frame = some X.env.locals) (hN : X.N.Nodup) (hi : X.N[i]? = some n) (hln : X.env.kindOf n = some .local) (hc : Names X x c) (tk : L2N.Takes X Wout)
    (hb : ∀ (W : WX) (pn : List (Addr × Obj)) (xe : Value → Shared → Prop), L2N.Takes (X.tr pn xe) W → PassesOwn (model X.prog X.w) X.A X.env xe → PSs (X.tr pn xe) body (tb W))
    (hsu : ∀ (a : Addr) (oe : Obj) (cls : Value) (d : Option Addr) (pn : List (Addr × Obj)), L2N.Zn cls d oe → (∃ vs, oe.data = .fields vs) → PSs (X.suite a ((a, oe) :: pn)) (b₀ :: suite) (ts a cls d)) :
    PS X (.Try body [.ExceptHandler (some (.Name x np)) (some n) (b₀ :: suite) pos'] [] [] pos) (tTry K c i ts Wout tb) := by
  subst hk
  exact L2N.ps_try_as hs hf hN hi hln hc tk hb hsu
theorem takes0N {X : Cx} : L2N.Takes X (fun _ _ _ _ => False) := fun _ _ x => by
  obtain ⟨_, _, _, _, _, _, _, _, _, _, _, _, _, _, _, _, z⟩ := x
  exact z.elim
theorem hot_suite {a : Addr} {oe : Obj} {cls : Value} {d : Option Addr} {pn : List (Addr × Obj)} (hz : L2N.Zn cls d oe) (hf : ∃ vs, oe.data = .fields vs) : Hot1 (X.suite a ((a, oe) :: pn)).A (a, oe) := by
  obtain ⟨vs, e⟩ := hf
  exact ⟨rfl, vs, e, hz.2.2 vs e⟩
end
section
variable {P : Program} {w : World} {K : PySem.W.Frag} {mg : Str → Option Value} {base : Heap}
theorem Fun.okP {x qual : Str} {st : Stmt} {f : Addr} {fd : FuncData} {N ps : List Str} {k : Nat} {sp : Addr → Value → Option Addr → Sp} (F : Fun K x qual st f fd) (S : FnScope N ps (defScope st)) (len : ∀ a cls d vs H Q E, sp a cls d vs H Q E → vs.length = ps.length)
    (hbody : ∀ (cdv : Value) (A : Around) (outer : List Env) (s : Shared) (H : Hp) (vs : List V) (Q : VK) (E : XK) (p : Addr × Obj) (cls : Value) (d : Option Addr), Hot1 A p → Zc cls d p.2 → (∃ vs, p.2.data = .fields vs) → RoomH k (A.deeper (envOfC qual (defScope st) s.heap.objs.size f cdv)) → sp p.1 cls d vs H Q E →
      ∃ t, PSs (cxH CX0 P w K mg base N qual (defScope st) f cdv A outer s H E p) (defBody st) t ∧ t { nx := fun _ H' => Q .non H', rt := Q } (L2.start N vs) H) : FnP P w K mg base CX0 (k + 1) f fd ps sp := by
  obtain ⟨oc, od, kV, doc, pm, an, cdv, ct, osl, rfl, lk, hcd⟩ := F.ex
  exact fn_ofP lk hcd S len fun A outer s H vs Q E p cls d h1 h2 h3 hr hsp => hbody cdv A outer s H vs Q E p cls d h1 h2 h3 hr hsp
theorem Fun.okN {x qual : Str} {st : Stmt} {f : Addr} {fd : FuncData} {N ps : List Str} {k : Nat} {sp : Sp} (F : Fun K x qual st f fd) (S : FnScope N ps (defScope st)) (len : ∀ vs H Q E, sp vs H Q E → vs.length = ps.length)
    (hbody : ∀ (cdv : Value) (A : Around) (outer : List Env) (s : Shared) (H : Hp) (vs : List V) (Q : VK) (E : XK), Room k (A.deeper (envOfC qual (defScope st) s.heap.objs.size f cdv)) → sp vs H Q E →
      ∃ t, PSs (cxOf (L2N.CX P w) P w K mg base N qual (defScope st) f cdv A outer s H E) (defBody st) t ∧ t { nx := fun _ H' => Q .non H', rt := Q } (L2.start N vs) H) : FnOk P w K mg base (L2N.CX P w) (k + 1) f fd ps sp := by
  obtain ⟨oc, od, kV, doc, pm, an, cdv, ct, osl, rfl, lk, hcd⟩ := F.ex
  exact fn_of lk hcd S len fun A outer s H vs Q E hr hsp => hbody cdv A outer s H vs Q E hr hsp
end
end LKH
namespace LK
open PySem PySem.Spec PyProof.Rows L2
variable [Tbs]
/-! ### defs that refuse -/
/-- called with data ds it hands back x, where R ds x, or raises the error of the class C, where Xr ds C -/
def spPX (K : PySem.W.Frag) (R : List PyData → PyData → Prop) (Xr : List PyData → Addr → Prop) : Sp := fun vs H Q E => ∃ (S : Addr → Prop) (ds : List PyData), DsAll K S H vs ds ∧ Frs S H ∧
  ((∃ x, R ds x ∧ ∀ v H2, Ext H H2 → Ds K S H2 v x → Q v H2) ∨ ∃ C, Xr ds C ∧ ∀ H2, Ext H H2 → E (.ref C) none H2)
/-- an expression, a body that raises -/
def EvX (K : PySem.W.Frag) (γ : Gm) (te : TE) (E : L2.St → XK) (C : Addr) : Prop := ∀ (S : Addr → Prop) (σ : L2.St) (H : Hp), Fits K S γ σ H → Frs S H → (∀ H2, Ext H H2 → E σ (.ref C) none H2) → ∀ Q, te σ H Q
def RunX1 (K : PySem.W.Frag) (γ : Gm) (ts : TS) (E : XK) (C : Addr) : Prop := ∀ (S : Addr → Prop) (σ : L2.St) (H : Hp), Fits K S γ σ H → Frs S H → (∀ H2, Ext H H2 → E (.ref C) none H2) → ∀ D, ts D σ H
section
variable {K : PySem.W.Frag} {γ γ' : Gm} {te : TE} {tt : TT} {t u : TS} {R : List PyData → PyData → Prop} {Xr : List PyData → Addr → Prop} {E : XK} {C : Addr} {ta : TA} {ds : List PyData} {x : PyData}
theorem ev_callX (ha : EvA K γ ta ds) (hr : R ds x) : Ev K γ (tCall (spPX K R Xr) [] E ta) x := fun S σ H f fr Q q =>
  ha S σ H f fr _ fun vs H2 e2 hv => ⟨S, ds, by rw [List.append_nil]; exact hv, fr.same e2, .inl ⟨x, hr, fun v H3 e3 hx => q v H3 (e2.trans e3) hx⟩⟩
theorem ev_callSX {E : L2.St → XK} (ha : EvA K γ ta ds) (hr : R ds x) : Ev K γ (tCallS (spPX K R Xr) E ta) x := fun S σ H f fr Q q =>
  ha S σ H f fr _ fun vs H2 e2 hv => ⟨S, ds, hv, fr.same e2, .inl ⟨x, hr, fun v H3 e3 hx => q v H3 (e2.trans e3) hx⟩⟩
theorem ex_call (ha : EvA K γ ta ds) (hr : Xr ds C) : EvX K γ (tCall (spPX K R Xr) [] E ta) (fun _ => E) C := fun S σ H f fr he Q =>
  ha S σ H f fr _ fun vs H2 e2 hv => ⟨S, ds, by rw [List.append_nil]; exact hv, fr.same e2, .inr ⟨C, hr, fun H3 e3 => he H3 (e2.trans e3)⟩⟩
theorem ex_callS {E : L2.St → XK} (ha : EvA K γ ta ds) (hr : Xr ds C) : EvX K γ (tCallS (spPX K R Xr) E ta) E C := fun S σ H f fr he Q =>
  ha S σ H f fr _ fun vs H2 e2 hv => ⟨S, ds, hv, fr.same e2, .inr ⟨C, hr, fun H3 e3 => he H3 (e2.trans e3)⟩⟩
theorem rz_raise (ha : EvA K γ ta ds) (hz : ds.length ≤ 1000000 := by exact Nat.le_of_ble_eq_true rfl) : RunX1 K γ (fun _ σ H => (fun σ H (Q : XK) => ta σ H fun vs H1 => vs.length ≤ sizeLine ∧ Q (.ref C) none H1) σ H fun cls d H' => E cls d H') E C := fun S σ H f fr he D =>
  ha S σ H f fr _ fun vs H2 e2 hv => ⟨sz_of (by rw [hv.len]; exact hz), he H2 e2⟩
theorem rz_seq (h : Run K γ t (.nx γ')) (k : RunX1 K γ' u E C) : RunX1 K γ (tSeq t u) E C := fun S σ H f fr he D => h S σ H f fr { D with nx := u D } fun σ' H2 e2 f2 => k S σ' H2 f2 (fr.same e2) (fun H3 e3 => he H3 (e2.trans e3)) D
theorem rz_seq1 (h : RunX1 K γ t E C) : RunX1 K γ (tSeq t u) E C := fun S σ H f fr he D => h S σ H f fr he { D with nx := u D }
theorem rz_if1 (h : EvB K γ tt true) (k : RunX1 K γ t E C) : RunX1 K γ (tIfS tt t u) E C := fun S σ H f fr he D => h S σ H f fr _ fun H2 e2 => k S σ H2 (f.same e2) (fr.same e2) (fun H3 e3 => he H3 (e2.trans e3)) D
theorem rz_if0 (h : EvB K γ tt false) (k : RunX1 K γ u E C) : RunX1 K γ (tIfS tt t u) E C := fun S σ H f fr he D => h S σ H f fr _ fun H2 e2 => k S σ H2 (f.same e2) (fr.same e2) (fun H3 e3 => he H3 (e2.trans e3)) D
theorem rz_drop (h : EvX K γ te (fun _ => E) C) : RunX1 K γ (tDrop te) E C := fun S σ H f fr he D => h S σ H f fr he _
theorem rz_set {g : TG} (h : EvX K γ te (fun _ => E) C) : RunX1 K γ (tAsg te g) E C := fun S σ H f fr he D => h S σ H f fr he _
theorem rz_ret (h : EvX K γ te (fun _ => E) C) : RunX1 K γ (tRet te) E C := fun S σ H f fr he D => h S σ H f fr he _
/-! a try, its body raising or not -/
variable {ρ : Rho} {c : Value} {i : Nat} {ts : Addr → Value → Option Addr → TS} {Wout : WX} {tb : WX → TS} {N N' : Gm → Rho → Prop} {A : PyData → Rho → Prop}
theorem rr_try1 {te : WX → TE} (hb : ∀ W, EvX K γ (te W) (fun σ => WE W σ) C) (he : PySem.W.exmOne K (.ref C) c = some true) (hs : ∀ a, RunR K (γ.set i (some (rf a))) ρ (ts a (.ref C) none) N' A) (hN : ∀ g r, N' g r → N (g.set i none) r) : RunR K γ ρ (LKH.tTry K c i ts Wout fun W => tDrop (te W)) N A := fun S σ H st D qn qr => by
  refine hb (wAs K c i ts Wout D) S σ H st.fits st.frs (fun H2 e2 => ?_) _
  refine ⟨true, he, fun _ a ha => ?_, fun z => Bool.noConfusion z⟩
  have st2 := st.ext e2
  refine hs a S _ H2 (st2.set i (.rf a)) _ (fun S3 σ3 γ3 ρ3 H3 n3 s3 e3 => ?_) fun S3 v x ρ3 H3 ax hv r3 e3 => qr S3 v x ρ3 H3 ax hv r3 ((Eff.ext e2).trans st.frs e3)
  exact qn S3 _ _ ρ3 H3 (hN _ _ n3) { s3 with fits := s3.fits.forget i none } ((Eff.ext e2).trans st.frs e3)
theorem rr_try0 (hb : ∀ W, RunR K γ ρ (tb W) N A) : RunR K γ ρ (LKH.tTry K c i ts Wout tb) N A := fun S σ H st D qn qr => hb _ S σ H st D qn qr
end
section
variable {P : Program} {w : World} {K : PySem.W.Frag} {mg : Str → Option Value} {base : Heap}
theorem Fun.pureX {x qual : Str} {st : Stmt} {f : Addr} {fd : FuncData} {N ps : List Str} {k : Nat} {R : List PyData → PyData → Prop} {Xr : List PyData → Addr → Prop} (F : Fun K x qual st f fd) (Sc : FnScope N ps (defScope st)) (len : ∀ ds x, R ds x → ds.length = ps.length) (lenX : ∀ ds C, Xr ds C → ds.length = ps.length)
    (hbody : ∀ (cdv : Value) (A : Around) (outer : List Env) (s : Shared) (H : Hp) (E : XK), Room k (A.deeper (envOfC qual (defScope st) s.heap.objs.size f cdv)) →
      ∃ t, PSs (cxOf (L2N.CX P w) P w K mg base N qual (defScope st) f cdv A outer s H E) (defBody st) t ∧ (∀ ds x, R ds x → Run K (startG N.length ds) t (.rt x) ∨ (x = .none ∧ ∃ γ', Run K (startG N.length ds) t (.nx γ'))) ∧ ∀ ds C, Xr ds C → RunX1 K (startG N.length ds) t E C) : FnOk P w K mg base (L2N.CX P w) (k + 1) f fd ps (spPX K R Xr) := by
  refine LKH.Fun.okN F Sc (fun vs H Q E h => ?_) (fun cdv A outer s H vs Q E hr h => ?_)
  · obtain ⟨S, ds, h1, _, h3⟩ := h
    rw [h1.len]
    rcases h3 with ⟨x, h3, _⟩ | ⟨C, h3, _⟩
    · exact len ds x h3
    · exact lenX ds C h3
  · obtain ⟨S, ds, h1, h2, h3⟩ := h
    obtain ⟨t, ht, hR, hX⟩ := hbody cdv A outer s H E hr
    refine ⟨t, ht, ?_⟩
    rcases h3 with ⟨x, h3, q⟩ | ⟨C, h3, q⟩
    · rcases hR ds x h3 with r | ⟨rfl, γ', r⟩
      · exact r S _ H (fits_start h1) h2 _ fun v H2 e hv => q v H2 e hv
      · exact r S _ H (fits_start h1) h2 _ fun σ' H2 e _ => q .non H2 e .non
    · exact hX ds C h3 S _ H (fits_start h1) h2 q _
end
end LK
namespace LK
open PySem PySem.Spec PyProof.Rows L2
variable [Tbs]
/-! ### texts that are only made: the words of refusals -/
def EvSn (K : PySem.W.Frag) (γ : Gm) (te : TE) (n : Nat) : Prop := ∀ (S : Addr → Prop) (σ : L2.St) (H : Hp), Fits K S γ σ H → Frs S H → ∀ Q : VK, (∀ (y : Str) H2, y.length ≤ n → Ext H H2 → Q (.str y) H2) → te σ H Q
def EvJs (K : PySem.W.Frag) (γ : Gm) (ts : List TE) (n : Nat) : Prop := ∀ (S : Addr → Prop) (σ : L2.St) (H : Hp), Fits K S γ σ H → Frs S H → ∀ (acc : Str) (Q : Str → Hp → Prop), acc.length + n ≤ 1000000 → (∀ (y : Str) H2, y.length ≤ acc.length + n → Ext H H2 → Q y H2) → tJs ts acc σ H Q
section
variable {K : PySem.W.Frag} {γ : Gm} {te : TE} {E : XK} {C : Addr} {n a b : Nat} {ts : List TE}
theorem str_app_len (x y : Str) : (x ++ y).length = x.length + y.length := Array.size_append
theorem es_c {z : Str} (h : z.length ≤ n) : EvSn K γ (tC (.str z)) n := fun S σ H f fr Q q => q z H h (Ext.refl H)
theorem es_ev {z : Str} (h : Ev K γ te (.str z)) (hz : z.length ≤ n) : EvSn K γ te n := fun S σ H f fr Q q => h S σ H f fr _ fun v H2 e hv => by
  rw [hv.str_inv]
  exact q z H2 hz e
theorem es_fmtI {i : Int} (h : Ev K γ te (.int i)) (hi : i.natAbs.log2 < 1920) : EvSn K γ (tFmt te) 1921 := fun S σ H f fr Q q => h S σ H f fr _ fun v H2 e hv => .inr ⟨i, hv.int_inv, hi, q _ H2 (int_text_len_1921 hi) e⟩
theorem es_fmtS {z : Str} (h : Ev K γ te (.str z)) (hz : z.length ≤ n) (hn : n ≤ 1000000) : EvSn K γ (tFmt te) n := fun S σ H f fr Q q => h S σ H f fr _ fun v H2 e hv => .inl ⟨z, hv.str_inv, sz_of (Nat.le_trans hz hn), q z H2 hz e⟩
theorem es_fmtR {z : Str} (h : Ev K γ te (.str z)) (hc : ∀ c ∈ z.cps.toList, c < 16 ^ 8) (hz : z.length ≤ 1000) : EvSn K γ (tFmtR te) 10002 := fun S σ H f fr Q q => h S σ H f fr _ fun v H2 e hv => by
  have hl : (reprText z).length ≤ 10002 := by
    have := PySem.StrLaws.reprText_len z hc
    omega
  exact .inl ⟨z, hv.str_inv, sz_of (by omega), q _ H2 hl e⟩
theorem ej_nil : EvJs K γ [] 0 := fun S σ H f fr acc Q ha q => q acc H (Nat.le_refl _) (Ext.refl H)
theorem ej_cons (h : EvSn K γ te a) (r : EvJs K γ ts b) : EvJs K γ (te :: ts) (a + b) := fun S σ H f fr acc Q ha q => h S σ H f fr _ fun y H2 hy e => by
  refine ⟨y, rfl, sz_of (by rw [str_app_len]; omega), ?_⟩
  exact r S σ H2 (f.same e) (fr.same e) (acc ++ y) Q (by rw [str_app_len]; omega) fun z H3 hz e3 => q z H3 (by rw [str_app_len] at hz; omega) (e.trans e3)
theorem es_joined (h : EvJs K γ ts n) (hn : n ≤ 1000000) : EvSn K γ (fun σ H Q => tJs ts Str.empty σ H fun out H1 => Q (.str out) H1) n := fun S σ H f fr Q q => h S σ H f fr Str.empty _ (by show 0 + n ≤ _; omega) fun y H2 hy e => q y H2 (by
  have : Str.empty.length = 0 := rfl
  omega) e
theorem rz_raiseS (h : EvSn K γ te n) : RunX1 K γ (fun _ σ H => (fun σ H (Q : XK) => (tCons te tNil) σ H fun vs H1 => vs.length ≤ sizeLine ∧ Q (.ref C) none H1) σ H fun cls d H' => E cls d H') E C := fun S σ H f fr he D =>
  h S σ H f fr _ fun y H2 hy e => ⟨by show 1 ≤ sizeLine; decide, he H2 e⟩
end
end LK
namespace LKH
open PySem PySem.Spec PyProof.Rows L2 HotX L2H PySem.W
theorem unH {k : Nat} {A : Around} (r : L2H.RoomH k A) : A.units + 64 < cLine := by have := r.un; omega
section
variable {X : Cx} {CX : CXT} {k : Nat} {f : Addr} {fd : FuncData} {ps : List Str} {sp : Addr → Value → Option Addr → Sp} {E : L2.St → XK} {x : Str} {q pos : Pos} {e : Expr} {es : List Expr} {t : TA} {a : Addr} {oe : Obj} {cls : Value} {d : Option Addr} {pn : List (Addr × Obj)}
/-- a call that is handed the handled error -/
theorem pe_callPS (hz : L2N.Zn cls d oe) (hf : ∃ vs, oe.data = .fields vs) (F : FnP (X.suite a ((a, oe) :: pn)).prog (X.suite a ((a, oe) :: pn)).w (X.suite a ((a, oe) :: pn)).K (X.suite a ((a, oe) :: pn)).mg (X.suite a ((a, oe) :: pn)).base CX k f fd ps sp) (hr : RoomH k (X.suite a ((a, oe) :: pn)).A) (hg : Gl (X.suite a ((a, oe) :: pn)) x) (hm : (X.suite a ((a, oe) :: pn)).mg x = some (.ref f)) (hk : PySem.W.keepIn (X.suite a ((a, oe) :: pn)).K (.ref f) = true) (hb : Binds (X.suite a ((a, oe) :: pn)).K fd ps []) (hx : ∀ σ, PassesAt CX (X.suite a ((a, oe) :: pn)) σ (E σ))
    (ha : PA (X.suite a ((a, oe) :: pn)) (e :: es) t) (hdb : (x == ("__debug__" : Str)) = false := by decide) (he : starEach (e :: es) (X.suite a ((a, oe) :: pn)).env = (false, eval e (X.suite a ((a, oe) :: pn)).env) :: starEach es (X.suite a ((a, oe) :: pn)).env := by rfl) (hpl : (backTo pos (starEach es (X.suite a ((a, oe) :: pn)).env)).any (·.1) = false := by rfl) :
    PE (X.suite a ((a, oe) :: pn)) (.Call (.Name x q) (e :: es) [] pos) (tCallS (sp a cls d) E t) := pe_callP (p := (a, oe)) F hr (hot_suite hz hf) (.head _) hz.zc hf hg hm hk hb hx ha hdb he hpl
end
end LKH
namespace LK
open PySem PySem.Spec PyProof.Rows L2 HotX L2H PySem.W
variable [Tbs]
/-! ### defs that are handed the handled error -/
/-- called with the handled error a, of the class cls, and data it hands back x -/
def spPH (K : PySem.W.Frag) (R : Addr → Value → Option Addr → List PyData → PyData → Prop) (a : Addr) (cls : Value) (d : Option Addr) : Sp := fun vs H Q _ => ∃ (S : Addr → Prop) (ds : List PyData) (x : PyData), DsAll K S H vs ds ∧ Frs S H ∧ R a cls d ds x ∧ ∀ v H2, Ext H H2 → Ds K S H2 v x → Q v H2
section
variable {K : PySem.W.Frag} {γ : Gm} {R : Addr → Value → Option Addr → List PyData → PyData → Prop} {ta : TA} {ds : List PyData} {x : PyData}
theorem ev_callH {a : Addr} {cls : Value} {d : Option Addr} {E : L2.St → XK} (ha : EvA K γ ta ds) (hr : R a cls d ds x) : Ev K γ (tCallS (spPH K R a cls d) E ta) x := fun S σ H f fr Q q =>
  ha S σ H f fr _ fun vs H2 e2 hv => ⟨S, ds, x, hv, fr.same e2, hr, fun v H3 e3 hx => q v H3 (e2.trans e3) hx⟩
theorem ev_isP {a D : Addr} {c : V} {cv : Value} {b : Bool} {i : Nat} (hg : γ[i]? = some (some (rf a))) (C : ExcC K D) (hc : ∀ u, RelV c u → u = cv) (e : PySem.W.kitOne K (.ref D) cv = some b) : Ev K γ (tCB (LKH.rIsP K a (.ref D) none) (tCons (tVar i) (tCons (tC c) tNil))) (.bool b) := fun S σ H f fr Q q =>
  let ⟨v, hv, hd⟩ := f.get i _ hg
  ⟨v, hv, D, c, cv, b, rfl, rfl, C, by rw [hd.rf_inv], hc, e, q _ H (Ext.refl H) (.bl b)⟩
theorem ev_isR {a D C' : Addr} {b : Bool} {i : Nat} (hg : γ[i]? = some (some (rf a))) (C : ExcC K D) (e : PySem.W.kitOne K (.ref D) (.ref C') = some b) : Ev K γ (tCB (LKH.rIsP K a (.ref D) none) (tCons (tVar i) (tCons (tC (.ref C')) tNil))) (.bool b) := ev_isP hg C (fun u r => by cases r; rfl) e
theorem ev_isT {a D : Addr} {t : String} {b : Bool} {i : Nat} (hg : γ[i]? = some (some (rf a))) (C : ExcC K D) (e : PySem.W.kitOne K (.ref D) (.type t) = some b) : Ev K γ (tCB (LKH.rIsP K a (.ref D) none) (tCons (tVar i) (tCons (tC (.ty t)) tNil))) (.bool b) := ev_isP hg C (fun u r => by cases r; rfl) e
end
section
variable {P : Program} {w : World} {K : PySem.W.Frag} {mg : Str → Option Value} {base : Heap}
theorem Fun.pureH {x qual : Str} {st : Stmt} {f : Addr} {fd : FuncData} {N ps : List Str} {k : Nat} {R : Addr → Value → Option Addr → List PyData → PyData → Prop} (F : Fun K x qual st f fd) (Sc : FnScope N ps (defScope st)) (len : ∀ a cls d ds x, R a cls d ds x → ds.length = ps.length)
    (hbody : ∀ (cdv : Value) (A : Around) (outer : List Env) (s : Shared) (H : Hp) (E : XK) (p : Addr × Obj) (cls : Value) (d : Option Addr), Hot1 A p → Zc cls d p.2 → (∃ vs, p.2.data = .fields vs) → RoomH k (A.deeper (envOfC qual (defScope st) s.heap.objs.size f cdv)) →
      ∃ t, PSs (cxH CX0 P w K mg base N qual (defScope st) f cdv A outer s H E p) (defBody st) t ∧ ∀ ds x, R p.1 cls d ds x → Run K (startG N.length ds) t (.rt x)) : LKH.FnP P w K mg base CX0 (k + 1) f fd ps (spPH K R) := by
  refine LKH.Fun.okP F Sc (fun a cls d vs H Q E h => ?_) (fun cdv A outer s H vs Q E p cls d h1 h2 h3 hr h => ?_)
  · obtain ⟨S, ds, x, h1, _, h3, _⟩ := h
    rw [h1.len]
    exact len _ _ _ ds x h3
  · obtain ⟨S, ds, x, g1, g2, g3, q⟩ := h
    obtain ⟨t, ht, hR⟩ := hbody cdv A outer s H E p cls d h1 h2 h3 hr
    refine ⟨t, ht, ?_⟩
    exact hR ds x g3 S _ H (fits_start g1) g2 _ fun v H2 e hv => q v H2 e hv
end
end LK
namespace LK
open PySem PySem.Spec PyProof.Rows L2 HotX L2H PySem.W
variable [Tbs]
section
variable {P : Program} {w : World} {K : PySem.W.Frag} {mg : Str → Option Value} {base : Heap}
/-- a def that makes lists of its own on its way and hands back data, or raises -/
theorem Fun.pureXR {x qual : Str} {st : Stmt} {f : Addr} {fd : FuncData} {N ps : List Str} {k : Nat} {R : List PyData → PyData → Prop} {Xr : List PyData → Addr → Prop} (F : Fun K x qual st f fd) (Sc : FnScope N ps (defScope st)) (len : ∀ ds x, R ds x → ds.length = ps.length) (lenX : ∀ ds C, Xr ds C → ds.length = ps.length)
    (hbody : ∀ (cdv : Value) (A : Around) (outer : List Env) (s : Shared) (H : Hp) (E : XK), Room k (A.deeper (envOfC qual (defScope st) s.heap.objs.size f cdv)) →
      ∃ t, PSs (cxOf (L2N.CX P w) P w K mg base N qual (defScope st) f cdv A outer s H E) (defBody st) t ∧ (∀ ds x, R ds x → RunR K (startG N.length ds) [] t (fun _ _ => x = .none) (fun y _ => y = x)) ∧ ∀ ds C, Xr ds C → RunX1 K (startG N.length ds) t E C) : FnOk P w K mg base (L2N.CX P w) (k + 1) f fd ps (spPX K R Xr) := by
  refine LKH.Fun.okN F Sc (fun vs H Q E h => ?_) (fun cdv A outer s H vs Q E hr h => ?_)
  · obtain ⟨S, ds, h1, _, h3⟩ := h
    rw [h1.len]
    rcases h3 with ⟨x, h3, _⟩ | ⟨C, h3, _⟩
    · exact len ds x h3
    · exact lenX ds C h3
  · obtain ⟨S, ds, h1, h2, h3⟩ := h
    obtain ⟨t, ht, hR, hX⟩ := hbody cdv A outer s H E hr
    refine ⟨t, ht, ?_⟩
    rcases h3 with ⟨x, h3, q⟩ | ⟨C, h3, q⟩
    · have st0 : Sta K S (startG N.length ds) [] (L2.start N vs) H := { frs := h2, own := fun q hq => (List.not_mem_nil hq).elim, nd := List.nodup_nil, fits := fits_start h1 }
      refine hR ds x h3 S _ H st0 _ (fun S' σ' γ' ρ' H' z s' e' => ?_) fun S' v y r H' m hv s' e' => ?_
      · subst z
        exact q .non H' (ext_own e') .non
      · subst m
        exact q v H' (ext_own e') (ds_own e' hv)
    · exact hX ds C h3 S _ H (fits_start h1) h2 q _
end
end LK
namespace LK
open PySem PySem.Spec PyProof.Rows L2
variable [Tbs]
/-! ### max(t) of a tuple of numbers; a part of a tuple -/
def rMaxT (K : PySem.W.Frag) : List V → Hp → VK → Prop := fun vs H Q => ∃ (a : Addr) (n : Int) (ns : List Int), vs = [V.ref a] ∧ SqT K H a ((n :: ns).map V.int) ∧ Q (.int (ns.foldl max n)) H
theorem depth_ints : ∀ ns : List Int, PyData.depthAll (ns.map PyData.int) = 0
  | [] => rfl
  | n :: ns => by
    show max (PyData.depth (.int n)) (PyData.depthAll (ns.map PyData.int)) = 0
    rw [depth_ints ns]
    rfl
theorem cr_maxT {X : Cx} {K : PySem.W.Frag} (hk : X.K = K) (hc : X.calm = true) (hu : X.A.units + 64 < cLine) : CallR X (.builtin "max") (rMaxT K) := by
  subst hk
  intro pins s σ H vs us Q I r h
  obtain ⟨a, n, ns, rfl, hs, q⟩ := h
  obtain ⟨its, rv, ht, _⟩ := I.tuple hs
  rw [Vals.ref1 r]
  refine PySem.W.max_tuple_data (x := .int n) (xs := ns.map .int) (as := []) (I.ok.hd hc) ht (PyProof.Rows.ints_readAll (xs := n :: ns) _ (by simpa using rv.ints)) ⟨fun x hx y hy => ?_, fun x hx => ?_⟩ ?_ fun k v h' tk bs _ hr hk => ?_
  · obtain ⟨i, _, rfl⟩ := List.mem_map.mp (show x ∈ (n :: ns).map PyData.int from hx)
    obtain ⟨j, _, rfl⟩ := List.mem_map.mp (show y ∈ (n :: ns).map PyData.int from hy)
    rfl
  · obtain ⟨i, _, rfl⟩ := List.mem_map.mp (show x ∈ (n :: ns).map PyData.int from hx)
    exact fun z => by cases z
  · rw [show PyData.int n :: ns.map PyData.int = (n :: ns).map PyData.int from rfl, depth_ints]
    omega
  · rw [PySem.W.maxD_ints] at hr
    cases hr
    exact ⟨.int _, H, I.kept hk, ⟨_, rfl⟩, q⟩
section
variable {K : PySem.W.Frag} {γ : Gm} {te : TE}
theorem ec_maxT {n : Int} {ns : List Int} : EvC K (rMaxT K) [.tuple ((n :: ns).map .int)] (.int (ns.foldl max n)) := fun S vs H f hv Q q => by
  obtain ⟨v, rfl, h1⟩ := hv.one_inv
  obtain ⟨a, xs, rfl, hq, hall⟩ := h1.tup_inv
  rw [hall.ofInts] at hq
  exact ⟨a, n, ns, rfl, hq, q _ H (Ext.refl _) (.int _)⟩
theorem ev_slT {ds : List PyData} {tl th : TO} {lo hi : Option Int} (h : Ev K γ te (.tuple ds)) (hl : EvP K γ tl lo) (hh : EvP K γ th hi) (hw : ¬ (HT.sIx ds.length 0 lo = 0 ∧ HT.sIx ds.length ds.length hi = ds.length)) : Ev K γ (tSl (rSlT K) te tl th) (.tuple (cutD ds lo hi)) := fun S σ H f fr Q q =>
  h S σ H f fr _ fun v H2 e2 hv => hl S σ H2 (f.same e2) (fr.same e2) _ fun H3 e3 => hh S σ H3 ((f.same e2).same e3) ((fr.same e2).same e3) _ fun H4 e4 => by
    obtain ⟨a, xs, rfl, hq, hall⟩ := (hv.same (e3.trans e4)).tup_inv
    refine ⟨a, xs, rfl, hq, by rw [hall.len]; exact hw, fun p hp => q _ _ (((e2.trans e3).trans e4).trans (same_new hp)) (.tup (.inl (.inl upd_same)) ((hall.cut lo hi).same (same_new hp)))⟩
end
end LK
namespace LK
open PySem PySem.Spec PyProof.Rows L2
variable [Tbs]
section
variable {K : PySem.W.Frag} {γ : Gm} {R : List PyData → PyData → Prop} {Xr : List PyData → Addr → Prop} {C : Addr} {ta : TA}
variable {ρ ρ' : Rho} {c : Value} {i : Nat} {ts : Addr → Value → Option Addr → TS} {Wout : WX} {N N' : Gm → Rho → Prop} {A : PyData → Rho → Prop} {L : List PyData → Rho → Prop}
/-- a try whose body calls what raises, its arguments thrown -/
theorem rr_try1R (ha : EvRA K γ ρ ta L) (hx : ∀ ds r, L ds r → r = ρ' ∧ Xr ds C) (he : PySem.W.exmOne K (.ref C) c = some true) (hs : ∀ a, RunR K (γ.set i (some (rf a))) ρ' (ts a (.ref C) none) N' A) (hN : ∀ g r, N' g r → N (g.set i none) r) : RunR K γ ρ (LKH.tTry K c i ts Wout fun W => tDrop (tCallS (spPX K R Xr) (fun σ => WE W σ) ta)) N A := fun S σ H st D qn qr => by
  refine ha S σ H st _ fun S1 vs ds ρ1 H1 l hv st1 e1 => ?_
  obtain ⟨rfl, xr⟩ := hx _ _ l
  refine ⟨S1, ds, hv, st1.frs, .inr ⟨C, xr, fun H2 e2 => ?_⟩⟩
  refine ⟨true, he, fun _ a ha => ?_, fun z => Bool.noConfusion z⟩
  have st2 := st1.ext e2
  refine hs a S1 _ H2 (st2.set i (.rf a)) _ (fun S3 σ3 γ3 ρ3 H3 n3 s3 e3 => ?_) fun S3 v x ρ3 H3 ax hv r3 e3 => qr S3 v x ρ3 H3 ax hv r3 (e1.trans st.frs ((Eff.ext e2).trans st1.frs e3))
  exact qn S3 _ _ ρ3 H3 (hN _ _ n3) { s3 with fits := s3.fits.forget i none } (e1.trans st.frs ((Eff.ext e2).trans st1.frs e3))
end
end LK
namespace LK
open PySem PySem.Spec PyProof.Rows L2
variable [Tbs]
/-! ### a method that may refuse, of an object that is one's own -/
/-- the promise, or a refusal that reads the object as data -/
def spOX (A : Sp) (K : PySem.W.Frag) (Xr : List PyData → Addr → Prop) : Sp := fun vs H Q E => A vs H Q E ∨ ∃ (S : Addr → Prop) (ds : List PyData), DsAll K S H vs ds ∧ Frs S H ∧ ∃ C, Xr ds C ∧ ∀ H2, Ext H H2 → E (.ref C) none H2
/-- o.m(e, ..) within a try -/
def tMethX (C : Addr) (m : Str) (sp : Sp) (E : L2.St → XK) (ta : TE) (t : TA) : TE := fun σ H Q => ta σ H fun x H1 => ∃ a dx fs, x = .ref a ∧ H1 a = some (.ins C dx fs) ∧ fs.lookup m = none ∧ t σ H1 fun vs H2 => sp (x :: vs) H2 Q (E σ)
section
variable {X : Cx} {CX : CXT} {k : Nat} {C f : Addr} {fd : FuncData} {ps : List Str} {m : Str} {sp : Sp} {E : L2.St → XK} {o e : Expr} {es : List Expr} {ta : TE} {t : TA} {apos pos : Pos}
theorem pe_methX {pl : Sem Bool} (he : PE X o ta) (c : Cls X.K C) (hm : Meth X.K C m f) (F : FnOk X.prog X.w X.K X.mg X.base CX k f fd ps sp) (hr : Room k X.A) (hb : Binds X.K fd ps []) (hx : ∀ σ, PassesAt CX X σ (E σ)) (ha : PA X (e :: es) t)
    (hst : starEach (e :: es) X.env = (false, eval e X.env) :: starEach es X.env := by rfl) (hpl : (backTo pos (starEach es X.env)).any (·.1) = false := by rfl)
    (ht : eval (.Call (.Attribute o m apos) (e :: es) [] pos) X.env = (do
      let ov ← eval o X.env
      standAt apos.atName
      let (f, first) ← holding [ov] (getMethod ov m pl)
      callWith pos f first (backTo pos (starEach (e :: es) X.env)) (backToKw pos (keywordEach [] X.env))) := by rfl) :
    PE X (.Call (.Attribute o m apos) (e :: es) [] pos) (tMethX C m sp E ta t) := by
  refine ⟨fun pins s σ H Q I h => ?_⟩
  refine PySem.W.methodCall_KW (pl := pl) (thn (he.run pins s σ H _ I h) fun u s1 ⟨x, H1, I1, rx, a, dx, fs, ex, ea, l, q⟩ => ?_) ht
  subst ex
  obtain rfl : u = Value.ref a := rx
  refine getmeth_ok I1 ea c hm l ?_
  refine PySem.W.callWith_K (first := [.ref a]) (h₀ := X.base) I.ok.mod.kin hm.kp (thn (ha.run pos pins s1 σ H1 _ I1 q) fun us s2 ⟨vs, H2, I2, r, q2⟩ => ⟨I2.kIn, ?_⟩) hst hpl
  exact run_fnS (us := .ref a :: us) (vs := .ref a :: vs) F hr hb (hx σ) I2 (.cons rfl r) q2
end
section
variable {K : PySem.W.Frag} {γ γv : Gm} {ρ : Rho} {te : TE} {C : Addr} {es : List (PyData × PyData)} {A : PyData → Rho → Prop} {n : Nat} {p : Addr} {Xr : List PyData → Addr → Prop}
/-- it does as it promises: the object's dict is one's own -/
theorem er_methO1 {c : Ct} {Pre : List PyData → Rho → Prop} {R : List PyData → Rho → PyData → Rho → Prop} {E : XK} {m : Str} {t : TA} {ds : List PyData} (h : Ev K γ te (insD C es)) (nm : lkD es (.inr m) = none) (ha : EvA K γ t ds) (hn : ρ[n]? = some (p, c)) (pre : Pre (insD C es :: ds) [(p, c)]) (hR : ∀ x ρ1, R (insD C es :: ds) [(p, c)] x ρ1 → ∃ c', ρ1 = [(p, c')] ∧ A x (ρ.set n (p, c'))) : EvR K γ ρ (tMeth C m (spOX (spW K Pre R) K Xr) [] E te t) A := fun S σ H st Q q =>
  h S σ H st.fits st.frs _ fun v H1 e1 hv => by
    obtain ⟨a, dx, fs, rfl, s, hq, r⟩ := hv.ins_inv
    have st1 := st.ext e1
    refine ⟨a, dx, fs, rfl, hq, r.fnone nm, ha S σ H1 st1.fits st1.frs _ fun vs H2 e2 hvs => .inl ?_⟩
    have st2 := st1.ext e2
    have hs : ∀ q ∈ [(p, c)], q ∈ ρ := fun q hq => by
      rw [List.mem_singleton.mp hq]
      exact List.mem_of_getElem? hn
    refine ⟨S, insD C es :: ds, [(p, c)], by rw [List.append_nil]; exact .cons (hv.same e2) hvs, st2.toStR.sub hs (by simp), pre, fun S' v x ρ1 H' rx hd hx r1 e3 => ?_⟩
    obtain ⟨c', rfl, ax⟩ := hR x ρ1 rx
    obtain ⟨f1, f2⟩ := frame1 (c' := c') st2.nd hn
    obtain ⟨s3, e4⟩ := st2.frame hs e3 r1 hd f1 f2
    exact q S' v x _ H' ax hx s3 ((Eff.ext (e1.trans e2)).trans st.frs e4)
/-- it refuses -/
theorem ex_methX {A : Sp} {m : Str} {t : TA} {ds : List PyData} {C0 : Addr} {E : L2.St → XK} (h : Ev K γ te (insD C es)) (nm : lkD es (.inr m) = none) (ha : EvA K γ t ds) (hx : Xr (insD C es :: ds) C0) : EvX K γ (tMethX C m (spOX A K Xr) E te t) E C0 := fun S σ H f fr he Q =>
  h S σ H f fr _ fun v H1 e1 hv => by
    obtain ⟨a, dx, fs, rfl, s, hq, r⟩ := hv.ins_inv
    refine ⟨a, dx, fs, rfl, hq, r.fnone nm, ha S σ H1 (f.same e1) (fr.same e1) _ fun vs H2 e2 hvs => .inr ?_⟩
    exact ⟨S, insD C es :: ds, .cons (hv.same e2) hvs, (fr.same e1).same e2, C0, hx, fun H3 e3 => he H3 ((e1.trans e2).trans e3)⟩
/-- a try whose body refuses, read in the view -/
theorem rr_try1V {P : List Addr} {Cx : Addr} {c : Value} {i : Nat} {ts : Addr → Value → Option Addr → TS} {Wout : WX} {te : WX → TE} {N N' : Gm → Rho → Prop} (V : View K γ ρ P γv) (hb : ∀ W, EvX K γv (te W) (fun σ => WE W σ) Cx) (he : PySem.W.exmOne K (.ref Cx) c = some true) (hs : ∀ a, RunR K (γ.set i (some (rf a))) ρ (ts a (.ref Cx) none) N' A) (hN : ∀ g r, N' g r → N (g.set i none) r) : RunR K γ ρ (LKH.tTry K c i ts Wout fun W => tDrop (te W)) N A := fun S σ H st D qn qr => by
  refine hb (wAs K c i ts Wout D) _ σ H (V S σ H st) (frs_or st.frs) (fun H2 e2 => ?_) _
  refine ⟨true, he, fun _ a ha => ?_, fun z => Bool.noConfusion z⟩
  have st2 := st.ext e2
  refine hs a S _ H2 (st2.set i (.rf a)) _ (fun S3 σ3 γ3 ρ3 H3 n3 s3 e3 => ?_) fun S3 v x ρ3 H3 ax hv r3 e3 => qr S3 v x ρ3 H3 ax hv r3 ((Eff.ext e2).trans st.frs e3)
  exact qn S3 _ _ ρ3 H3 (hN _ _ n3) { s3 with fits := s3.fits.forget i none } ((Eff.ext e2).trans st.frs e3)
end
section
variable {P : Program} {w : World} {K : PySem.W.Frag} {mg : Str → Option Value} {base : Heap}
/-- a def with things of its own that may refuse -/
theorem Fun.ownX {x qual : Str} {st : Stmt} {f : Addr} {fd : FuncData} {N ps : List Str} {k : Nat} {Pre : List PyData → Rho → Prop} {R : List PyData → Rho → PyData → Rho → Prop} {Xr : List PyData → Addr → Prop} (F : Fun K x qual st f fd) (Sc : FnScope N ps (defScope st)) (len : ∀ ds ρ, Pre ds ρ → ds.length = ps.length) (lenX : ∀ ds C, Xr ds C → ds.length = ps.length)
    (hbody : ∀ (cdv : Value) (A : Around) (outer : List Env) (s : Shared) (H : Hp) (E : XK), Room k (A.deeper (envOfC qual (defScope st) s.heap.objs.size f cdv)) →
      ∃ t, PSs (cxOf (L2N.CX P w) P w K mg base N qual (defScope st) f cdv A outer s H E) (defBody st) t ∧ (∀ ds ρ, Pre ds ρ → RunR K (startG N.length ds) ρ t (fun _ r => ∃ r2, R ds ρ .none r2 ∧ r2.Sublist r ∧ ∀ p, dom ρ p → dom r2 p) (fun x r => ∃ r2, R ds ρ x r2 ∧ r2.Sublist r ∧ ∀ p, dom ρ p → dom r2 p)) ∧ ∀ ds C, Xr ds C → RunX1 K (startG N.length ds) t E C) : FnOk P w K mg base (L2N.CX P w) (k + 1) f fd ps (spOX (spW K Pre R) K Xr) := by
  refine LKH.Fun.okN F Sc (fun vs H Q E h => ?_) (fun cdv A outer s H vs Q E hr h => ?_)
  · rcases h with ⟨S, ds, ρ, h1, _, h3, _⟩ | ⟨S, ds, h1, _, C, h3, _⟩
    · rw [h1.len]
      exact len ds ρ h3
    · rw [h1.len]
      exact lenX ds C h3
  · obtain ⟨t, ht, hR, hX⟩ := hbody cdv A outer s H E hr
    refine ⟨t, ht, ?_⟩
    rcases h with ⟨S, ds, ρ, h1, h2, h3, q⟩ | ⟨S, ds, h1, h2, C, h3, q⟩
    · have cut : ∀ {S' : Addr → Prop} {r r2 : Rho} {H' : Hp}, (∀ q ∈ r2, q ∈ r) → Eff S ρ H S' r H' → Eff S ρ H S' r2 H' := fun hs e => ⟨e.chg, fun p d => by
        obtain ⟨q, hq, e1⟩ := List.mem_map.mp d
        exact e.new p (List.mem_map.mpr ⟨q, hs q hq, e1⟩), e.sub, e.old, e.al⟩
      refine hR ds ρ h3 S _ H { h2 with fits := fits_start h1 } _ (fun S' σ' γ' r H' ⟨r2, a1, a2, a4⟩ s' e' => ?_) fun S' v x r H' ⟨r2, a1, a2, a4⟩ hv s' e' => ?_
      · exact q S' .non .none r2 H' a1 a4 .non (s'.toStR.sub (fun q hq => a2.subset hq) ((a2.map _).nodup s'.nd)) (cut (fun q hq => a2.subset hq) e')
      · exact q S' v x r2 H' a1 a4 hv (s'.sub (fun q hq => a2.subset hq) ((a2.map _).nodup s'.nd)) (cut (fun q hq => a2.subset hq) e')
    · exact hX ds C h3 S _ H (fits_start h1) h2 q _
end
end LK
namespace LKL
open PySem PySem.Spec PyProof.Rows L2 LamX
/-! ### a lambda handed to a def that calls it in a try .. as e -/
section
variable {X : Cx} {pins : List (Addr × Obj)} {σ : L2.St} {H : Hp} {s : Shared}
/-- the context of the lambda's body: what it lets out is told with its context -/
abbrev lamN (X : Cx) (A : Around) (outer : List Env) (s : Shared) (H : Hp) (E : XK) (scope : Scope) (f c' : Addr) : Cx :=
  (lamCx X A outer s H E scope f c').tr [] fun e s' => wpAny (model X.prog X.w) (A.deeper (lamEnv X scope s.heap.objs.size f c')) (leaving (lamEnv X scope s.heap.objs.size f c') e) (fun _ s'' => L2N.CX X.prog X.w outer H s E e s'') (fun e' s'' => L2N.CX X.prog X.w outer H s E e' s'') s'
/-- what the call of the lambda is read as -/
def tAct (f c' : Addr) (q : Str) (tl : XK → Hp → VK → Prop) (W : WX) : TE := fun σZ HZ Q => ∃ E : XK, (∀ cls d H', E cls d H' → W cls d σZ H') ∧ σZ[0]? = some (some (.ref f)) ∧ HZ c' = some (CodeO c' q) ∧ tl E HZ Q
theorem pe_actN {CXg : CXT} {Eg : XK} {Ng : List Str} {qg : Str} {sg : Scope} {g f c' : Addr} {cdg pm ctv : Value} {params : Arguments} {body : Expr} {scope : Scope} {k : Nat} {a : Str} {pn : List (Addr × Obj)} {xe : Value → Shared → Prop} {W : WX} {tb : XK → TE} {p1 p2 : Pos}
    (I : Inv X pins σ H s) (L : LamS X.env.scope scope) (hf : s.heap.get? f = some (PySem.W.kla_obj "<lambda>" (X.env.qual ++ "<lambda>") params body scope (cloFrom X.env.cells scope.names []) pm c' ctv)) (hfn : H f = none) (hfr : f ∉ frs X.stack)
    (hbind : bindArgs (PySem.W.kla_fn "<lambda>" (X.env.qual ++ "<lambda>") params body scope (cloFrom X.env.cells scope.names []) pm (.ref c') ctv) ⟨[], []⟩ = pure [])
    (tk : L2N.Takes ((cxOf CXg X.prog X.w X.K X.mg X.base Ng qg sg g cdg X.A X.stack s H Eg).tr pn xe) W) (hr : Room (k + 1) (X.A.deeper (envOfC qg sg s.heap.objs.size g cdg)))
    (hbody : ∀ (A : Around) (outer : List Env) (s : Shared) (H : Hp) (E : XK), Room k (A.deeper (lamEnv X scope s.heap.objs.size f c')) → PE (lamN X A outer s H E scope f c') body (tb E))
    (hN : Ng[0]? = some a) (hv : Vis sg a) (hd : (a == ("__debug__" : Str)) = false := by decide) (hcd : (a == ("__classdict__" : Str)) = false := by decide) :
    PE ((cxOf CXg X.prog X.w X.K X.mg X.base Ng qg sg g cdg X.A X.stack s H Eg).tr pn xe) (.Call (.Name a p1) [] [] p2) (tAct f c' (X.env.qual ++ "<lambda>") (fun E H' Q' => tb E σ H' Q') W) := by
  refine ⟨fun pinsZ sZ σZ HZ Q IZ h => ?_⟩
  obtain ⟨E, hW, hs, hc, ht⟩ := h
  refine wpAny_Call_Name_kw (thn ((pe_var (pos := p1) (i := 0) hN hv hd hcd).run pinsZ sZ σZ HZ (fun v H1 => v = .ref f ∧ H1 = HZ) IZ ⟨.ref f, hs, rfl, rfl⟩) fun u s1 ⟨v, H1, I1, r1, q1⟩ => ?_)
  obtain ⟨ev, eH⟩ := q1
  subst ev
  rw [eH] at I1
  obtain rfl : u = Value.ref f := r1
  have of1 : s1.heap.get? f = some (PySem.W.kla_obj "<lambda>" (X.env.qual ++ "<lambda>") params body scope (cloFrom X.env.cells scope.names []) pm c' ctv) := I1.base.keep f _ hf hfn hfr (fun z => nomatch (show f ∈ ([] : List Addr) from z))
  refine PySem.W.callWith_F0 ⟨_, _, _, _, of1⟩ ?_
  have un : Un (frs X.stack) [] H HZ s.heap s1.heap := I1.base
  obtain ⟨⟨oc, vs, t, hoc, hdc, hvc⟩, _, _⟩ := I1.hok c' _ hc
  have rc : codeAny (model X.prog X.w) (X.A.deeper (envOfC qg sg s.heap.objs.size g cdg)) (.call (.ref f) ⟨[], []⟩) (CR (L2N.CX X.prog X.w) (envOfC qg sg s.heap.objs.size g cdg :: X.stack) X.prog X.w HZ s1 Q E) s1 := by
    refine PySem.W.kla_callFunE hr.depth of1 rfl L.co L.gen rfl ⟨c', oc, vs, t, rfl, hoc, hdc, hvc⟩ ?_
    rw [hbind]
    refine wpAny_pure (wpAny_newFunctionEnv (fun y hy => (L.own y hy).2) (fun y hy => absurd hy (by simp)) (fun h₁ hns hsb => ⟨I1.nolimit.fresh _ hsb, ?_⟩) L.kind)
    show codeAny _ _ (.expr body (lamEnv X scope s1.heap.objs.size f c')) _ _
    have kp : ∀ b o, s1.heap.get? b = some o → h₁.get? b = some o := fun b o e => hsb.extBut b o (Nat.ne_of_lt (Heap.lt_size e)) (Heap.get?_push_of_some _ e)
    have J : Inv (lamN X (X.A.deeper (envOfC qg sg s.heap.objs.size g cdg)) (envOfC qg sg s.heap.objs.size g cdg :: X.stack) s1 HZ E scope f c') [] σ HZ { s1 with heap := h₁, toks := s1.toks + ([] : List (Str × Value)).length } :=
      Inv.toTry (pins := []) (lam_start2 (E := E) I L I1.env0 hr.hd un hns kp) _
    refine PySem.W.kla_codeExpr (wpAny_mono ((hbody _ _ s1 HZ E (hr.deeper _)).run [] _ _ HZ Q J ht) (fun v s' hq => ?_) fun e s' hq => hq)
    obtain ⟨w', H', J', rv, q⟩ := hq
    exact ⟨w', H', J'.os, J'.bare, J'.base, J'.hok, rv, q⟩
  refine wpAny_call (codeAny_mono rc fun r s' hq => ?_)
  cases r with
  | error e => exact tk e s' (L2N.XE.of_call I1 (fun cls d H' h => hW cls d H' h) hq)
  | ok fl =>
    cases fl with
    | ret u => exact I1.after hq
    | next => exact False.elim hq
    | brk => exact False.elim hq
    | cont => exact False.elim hq
/-- what the def makes of the lambda's reading -/
def TTof (q : Str) (Ng : List Str) (tb : (WX → TE) → TS) : (XK → Hp → VK → Prop) → Hp → VK → Prop := fun tl H Q =>
  ∀ f c' : Addr, H c' = some (CodeO c' q) → tb (tAct f c' q tl) { nx := fun _ H' => Q .non H', rt := Q } (L2.start Ng [V.ref f]) H
/-- the def that is handed the lambda -/
def GivesN (X : Cx) (Ng : List Str) (x : Str) (sg : Scope) (g : Addr) (cdg : Value) (bg : List Stmt) (a : Str) (q : Str) (j : Nat) (tb : (WX → TE) → TS) : Prop :=
  ∀ (s : Shared) (H : Hp) (te : WX → TE), Room j (X.A.deeper (envOfC x sg s.heap.objs.size g cdg)) →
    (∀ (W : WX) (pn : List (Addr × Obj)) (xe : Value → Shared → Prop) (p1 p2 : Pos), L2N.Takes ((cxOf C8.CX0 X.prog X.w X.K X.mg X.base Ng x sg g cdg X.A X.stack s H C8.E0).nox.tr pn xe) W →
      PE ((cxOf C8.CX0 X.prog X.w X.K X.mg X.base Ng x sg g cdg X.A X.stack s H C8.E0).nox.tr pn xe) (.Call (.Name a p1) [] [] p2) (te W)) →
    PSs (cxOf C8.CX0 X.prog X.w X.K X.mg X.base Ng x sg g cdg X.A X.stack s H C8.E0).nox bg (tb te)
theorem pe_lamN {T : List (Addr × Str)} {tb : (WX → TE) → TS} {x a : Str} {g c P : Addr} {k : Nat} {pg : Arguments} {bg : List Stmt} {sg : Scope} {dV kV doc pm cdv ct oc : Value} {an od : Option Addr} {osl : Array (Option Value)} {Ng : List Str}
    {params : Arguments} {body : Expr} {scope : Scope} {t : XK → TE} {p lpos pos : Pos} (hg : Gl X x) (hm : X.mg x = some (.ref g)) (hk : PySem.W.keepIn X.K (.ref g) = true)
    (lk : X.K.lookup g = some ⟨oc, od, .func (PySem.W.fnOf x x pg bg sg dV kV doc pm an cdv ct), osl⟩) (hcg : PySem.W.codeIn X.K cdv x = true) (hb : L2.Binds X.K (PySem.W.fnOf x x pg bg sg dV kV doc pm an cdv ct) [a] []) (Sg : FnScope Ng [a] sg) (hNg : Ng[0]? = some a) (hva : Vis sg a)
    (hG : GivesN X Ng x sg g cdv bg a (X.env.qual ++ "<lambda>") (k + 1) tb)
    (TB : TabB X.base X.mg c P) (hcode : X.env.code = .ref c) (hmT : (P, X.env.qual ++ "<lambda>") ∈ T) (hu : ∀ p ∈ T, p.1 = P → p.2 = X.env.qual ++ "<lambda>") (hr : Room (k + 2) X.A) (L : LamS X.env.scope scope) (hdef : defaultsOf params X.env = ([], []))
    (hbind : ∀ (q : Str) (cl : List (Str × Addr)) (pm cv ctv : Value), bindArgs (PySem.W.kla_fn "<lambda>" q params body scope cl pm cv ctv) ⟨[], []⟩ = pure [])
    (hbody : ∀ (A : Around) (outer : List Env) (s : Shared) (H : Hp) (E : XK) (f c' : Addr), Room k (A.deeper (lamEnv X scope s.heap.objs.size f c')) → PE (lamN X A outer s H E scope f c') body (t E))
    (hdb : (x == ("__debug__" : Str)) = false := by decide) (hd : (a == ("__debug__" : Str)) = false := by decide) (hcd : (a == ("__classdict__" : Str)) = false := by decide) :
    PE X (.Call (.Name x p) [.Lambda params body scope lpos] [] pos) (tLam T (TTof (X.env.qual ++ "<lambda>") Ng tb) t) := by
  refine ⟨fun pins s σ H Q I h => ?_⟩
  obtain ⟨hT, h⟩ := h
  refine wpAny_Call_Name_kw (ld_glob I hg hm ?_ hdb)
  refine PySem.W.callWith_K (h₀ := X.base) I.ok.mod.kin hk ?_ (by rfl) (by rfl)
  show wpAny _ _ (spliced ((false, eval (.Lambda params body scope lpos) X.env) :: backTo pos (starEach [] X.env))) _ _ s
  refine Calls.spliced_cons (lam_make2 I TB hcode hmT hu hT hdef (L.has I.ok) fun f c' pm' ctv H1 s' I1 eN T1 hf hfn hfr hco => ?_)
  refine Calls.spliced_nil ⟨I1.kIn, ?_⟩
  have rc : codeAny (model X.prog X.w) X.A (.call (.ref g) ⟨[.ref f], []⟩) (CR C8.CX0 X.stack X.prog X.w H1 s' Q C8.E0) s' := by
    refine run_ofS (N := Ng) (ps := [a]) (us := [.ref f]) (vs := [.ref f]) lk hcg Sg hr I1.env0 (hb s' [.ref f] I1.kIn rfl) (.cons rfl .nil) rfl fun hr' => ?_
    exact ⟨_, (hG s' H1 (tAct f c' (X.env.qual ++ "<lambda>") (fun E H' Q' => t E σ H' Q')) hr' fun W pn xe p1 p2 tk => pe_actN (CXg := C8.CX0) (Eg := C8.E0) (p1 := p1) (p2 := p2) I1 L hf hfn hfr (hbind _ _ _ _ _) tk hr' (fun A outer s H E hr2 => hbody A outer s H E f c' hr2) hNg hva hd hcd).nox, h H1 eN T1 f c' hco⟩
  refine wpAny_call (codeAny_mono rc fun r s2 hq => ?_)
  cases r with
  | error e => exact (show False from hq).elim
  | ok fl =>
    cases fl with
    | ret u => exact I1.after hq
    | next => exact False.elim hq
    | brk => exact False.elim hq
    | cont => exact False.elim hq
end
end LKL
namespace LK
open PySem PySem.Spec PyProof.Rows L2
variable [Tbs]
section
variable {K : PySem.W.Frag} {γ : Gm} {ρ : Rho} {t : XK → TE} {C : Addr} {c : Value} {q : Str} {Ng : List Str} {ts : Addr → Value → Option Addr → TS} {Wout : WX} {u : TS} {x : PyData}
/-- the lambda is refused, the suite hands back x -/
theorem er_lam (hb : ∀ E, EvX K γ (t E) (fun _ => E) C) (he : PySem.W.exmOne K (.ref C) c = some true) (hN : Ng.length = 2) (hat : atomD x = true) (hs : ∀ a, ∀ d0, Run K [some d0, some (rf a)] (ts a (.ref C) none) (.rt x)) :
    Ev K γ (LamX.tLam Tbs.tabs (LKL.TTof q Ng fun act => tSeq (LKH.tTry K c 1 ts Wout fun W => tDrop (act W)) u) t) x := fun S σ H f fr Q qk => by
  refine ⟨fr.tabs, fun H1 en T1 f0 c' hc => ?_⟩
  have e1 : Ext H H1 := ⟨en, fun _ => T1⟩
  have hst : L2.start Ng [V.ref f0] = [some (V.ref f0), none] := by
    unfold L2.start
    rw [hN]
    rfl
  rw [hst]
  refine ⟨fun cls d H' => cls = .ref C ∧ d = none ∧ Ext H1 H', ?_, rfl, hc, hb _ S σ H1 (f.same e1) (fr.same e1) (fun H2 e2 => ⟨rfl, rfl, e2⟩) _⟩
  rintro cls d H' ⟨rfl, rfl, e2⟩
  refine ⟨true, he, fun _ a ha => ?_, fun z => Bool.noConfusion z⟩
  have e3 := e1.trans e2
  have f0' : Fits K S [some (rf f0), none] [some (V.ref f0), none] H' := ⟨rfl, fun i d q => by
    match i, q with
    | 0, q => cases q; exact ⟨_, rfl, .rf f0⟩
    | 1, q => cases q
    | n + 2, q => cases q⟩
  refine hs a (rf f0) S _ H' (f0'.set 1 (.rf a)) (fr.same e3) _ fun v H2 e4 hv => ?_
  exact qk v H2 (e3.trans e4) hv
end
section
variable {K : PySem.W.Frag} {X : Cx}
theorem pe_lamF {st : Stmt} {fd : FuncData} {T : List (Addr × Str)} {tb : (WX → TE) → TS} {x a : Str} {g c P : Addr} {k : Nat} {Ng : List Str} {params : Arguments} {body : Expr} {scope : Scope} {t : XK → TE} {p lpos pos : Pos} (hK : X.K = K) (F : Fun K x x st g fd) (hg : Gl X x) (hm : X.mg x = some (.ref g)) (hb : L2.Binds K fd [a] []) (Sg : FnScope Ng [a] (defScope st)) (hNg : Ng[0]? = some a) (hva : Vis (defScope st) a)
    (hG : ∀ cdv, LKL.GivesN X Ng x (defScope st) g cdv (defBody st) a (X.env.qual ++ "<lambda>") (k + 1) tb)
    (TB : LamX.TabB X.base X.mg c P) (hcode : X.env.code = .ref c) (hmT : (P, X.env.qual ++ "<lambda>") ∈ T) (hu : ∀ p ∈ T, p.1 = P → p.2 = X.env.qual ++ "<lambda>") (hr : Room (k + 2) X.A) (L : LamX.LamS X.env.scope scope) (hdef : defaultsOf params X.env = ([], []))
    (hbind : ∀ (q : Str) (cl : List (Str × Addr)) (pm cv ctv : Value), bindArgs (PySem.W.kla_fn "<lambda>" q params body scope cl pm cv ctv) ⟨[], []⟩ = pure [])
    (hbody : ∀ (A : Around) (outer : List Env) (s : Shared) (H : Hp) (E : XK) (f c' : Addr), Room k (A.deeper (LamX.lamEnv X scope s.heap.objs.size f c')) → PE (LKL.lamN X A outer s H E scope f c') body (t E))
    (hdb : (x == ("__debug__" : Str)) = false := by decide) (hd : (a == ("__debug__" : Str)) = false := by decide) (hcd : (a == ("__classdict__" : Str)) = false := by decide) :
    PE X (.Call (.Name x p) [.Lambda params body scope lpos] [] pos) (LamX.tLam T (LKL.TTof (X.env.qual ++ "<lambda>") Ng tb) t) := by
  subst hK
  obtain ⟨oc, od, kV, doc, pm, an, cdv, ct, osl, rfl, lk, hcd2⟩ := F.ex
  exact LKL.pe_lamN hg hm F.kp lk hcd2 hb Sg hNg hva (hG cdv) TB hcode hmT hu hr L hdef hbind hbody hdb hd hcd
end
section
variable {K : PySem.W.Frag} {γ : Gm} {te : TE} {C C0 : Addr} {es : List (PyData × PyData)} {m : Str} {t : TA} {ds : List PyData} {E : XK} {R : List PyData → PyData → Prop} {Xr : List PyData → Addr → Prop}
/-- o.m(..), refused -/
theorem ex_meth (h : Ev K γ te (insD C es)) (nm : lkD es (.inr m) = none) (ha : EvA K γ t ds) (hx : Xr (insD C es :: ds) C0) : EvX K γ (tMeth C m (spPX K R Xr) [] E te t) (fun _ => E) C0 := fun S σ H f fr he Q =>
  h S σ H f fr _ fun v H2 e2 hv => by
    obtain ⟨a, dx, fs, rfl, s, hq, r⟩ := hv.ins_inv
    refine ⟨a, dx, fs, rfl, hq, r.fnone nm, ha S σ H2 (f.same e2) (fr.same e2) _ fun vs H3 e3 hvs => ⟨S, insD C es :: ds, ?_, (fr.same e2).same e3, .inr ⟨C0, hx, fun H4 e4 => he H4 ((e2.trans e3).trans e4)⟩⟩⟩
    rw [List.append_nil]
    exact .cons (hv.same e3) hvs
end
end LK
namespace LK
open PySem PySem.Spec PyProof.Rows L2
variable [Tbs]
section
variable {P : Program} {w : World} {K : PySem.W.Frag} {mg : Str → Option Value} {base : Heap}
/-- a def's rule, its code object told -/
theorem Fun.okC {x qual : Str} {st : Stmt} {f : Addr} {fd : FuncData} {N ps : List Str} {k : Nat} {sp : Sp} (F : Fun K x qual st f fd) (Sc : FnScope N ps (defScope st)) (len : ∀ vs H Q E, sp vs H Q E → vs.length = ps.length)
    (hbody : ∀ (A : Around) (outer : List Env) (s : Shared) (H : Hp) (vs : List V) (Q : VK) (E : XK), Room k (A.deeper (envOfC qual (defScope st) s.heap.objs.size f fd.code)) → sp vs H Q E →
      ∃ t, PSs (cxOf CX0 P w K mg base N qual (defScope st) f fd.code A outer s H E).nox (defBody st) t ∧ t { nx := fun _ H' => Q .non H', rt := Q } (L2.start N vs) H) : FnOk P w K mg base CX0 (k + 1) f fd ps sp := by
  obtain ⟨oc, od, kV, doc, pm, an, cdv, ct, osl, rfl, lk, hcd⟩ := F.ex
  refine fn_of lk hcd Sc len fun A outer s H vs Q E hr hsp => ?_
  obtain ⟨t, h, q⟩ := hbody A outer s H vs Q E hr hsp
  exact ⟨t, h.nox, q⟩
end
end LK

namespace Lw
open PySem PySem.Spec PyProof.Rows L2 LK
variable [Tbs]
/-! ### the text -/
def topS (i : Nat) : Stmt := PySem.Challenge.pw_likeshelf_k01_pictures_refused.main.body.getD i (.Pass ⟨0, 0, 0, 0⟩)
abbrev s_can_be_side : Stmt := topS 12
theorem sc_can_be_side : FnScope ["number"] ["number"] (defScope s_can_be_side) := ⟨rfl, rfl, rfl, by decide +kernel, rfl, by decide +kernel, by decide +kernel⟩
abbrev s_is_cell : Stmt := topS 13
theorem sc_is_cell : FnScope ["number"] ["number"] (defScope s_is_cell) := ⟨rfl, rfl, rfl, by decide +kernel, rfl, by decide +kernel, by decide +kernel⟩
abbrev s_width : Stmt := topS 14
theorem sc_width : FnScope ["rows"] ["rows"] (defScope s_width) := ⟨rfl, rfl, rfl, by decide +kernel, rfl, by decide +kernel, by decide +kernel⟩
abbrev s_is_picture : Stmt := topS 15
theorem sc_is_picture : FnScope ["rows", "wide", "row", "cell"] ["rows"] (defScope s_is_picture) := ⟨rfl, rfl, rfl, by decide +kernel, rfl, by decide +kernel, by decide +kernel⟩
abbrev s_need_picture : Stmt := topS 16
theorem sc_need_picture : FnScope ["rows"] ["rows"] (defScope s_need_picture) := ⟨rfl, rfl, rfl, by decide +kernel, rfl, by decide +kernel, by decide +kernel⟩
abbrev s_need_picture_of : Stmt := topS 17
theorem sc_need_picture_of : FnScope ["rows", "high", "wide"] ["rows", "high", "wide"] (defScope s_need_picture_of) := ⟨rfl, rfl, rfl, by decide +kernel, rfl, by decide +kernel, by decide +kernel⟩
abbrev s_copied : Stmt := topS 18
theorem sc_copied : FnScope ["rows", "row"] ["rows"] (defScope s_copied) := ⟨rfl, rfl, rfl, by decide +kernel, rfl, by decide +kernel, by decide +kernel⟩
abbrev s_mirrored : Stmt := topS 19
theorem sc_mirrored : FnScope ["rows", "row"] ["rows"] (defScope s_mirrored) := ⟨rfl, rfl, rfl, by decide +kernel, rfl, by decide +kernel, by decide +kernel⟩
abbrev s_turned : Stmt := topS 20
theorem sc_turned : FnScope ["rows", "at", "row"] ["rows"] (defScope s_turned) := ⟨rfl, rfl, rfl, by decide +kernel, rfl, by decide +kernel, by decide +kernel⟩
abbrev s_moved : Stmt := topS 21
theorem sc_moved : FnScope ["rows", "way", "turns", "side", "picture", "_"] ["rows", "way"] (defScope s_moved) := ⟨rfl, rfl, rfl, by decide +kernel, rfl, by decide +kernel, by decide +kernel⟩
abbrev s_difference : Stmt := topS 22
theorem sc_difference : FnScope ["one", "other", "row", "other_row", "mine", "theirs"] ["one", "other"] (defScope s_difference) := ⟨rfl, rfl, rfl, by decide +kernel, rfl, by decide +kernel, by decide +kernel⟩
abbrev s_sums : Stmt := topS 24
theorem sc_sums : FnScope ["rows", "told", "row", "line", "row_sum", "cell", "above"] ["rows"] (defScope s_sums) := ⟨rfl, rfl, rfl, by decide +kernel, rfl, by decide +kernel, by decide +kernel⟩
abbrev s_part_sum : Stmt := topS 25
theorem sc_part_sum : FnScope ["corners", "top", "left", "high", "wide", "upper", "lower"] ["corners", "top", "left", "high", "wide"] (defScope s_part_sum) := ⟨rfl, rfl, rfl, by decide +kernel, rfl, by decide +kernel, by decide +kernel⟩
abbrev s_part : Stmt := topS 26
theorem sc_part : FnScope ["rows", "top", "left", "high", "wide", "row"] ["rows", "top", "left", "high", "wide"] (defScope s_part) := ⟨rfl, rfl, rfl, by decide +kernel, rfl, by decide +kernel, by decide +kernel⟩
abbrev s_need_room : Stmt := topS 27
theorem sc_need_room : FnScope ["rows", "little"] ["rows", "little"] (defScope s_need_room) := ⟨rfl, rfl, rfl, by decide +kernel, rfl, by decide +kernel, by decide +kernel⟩
abbrev s_places : Stmt := topS 28
theorem sc_places : FnScope ["rows", "little", "span", "high", "wide", "corners", "total", "found", "passed", "top", "left", "bound", "far"] ["rows", "little", "span"] (defScope s_places) := ⟨rfl, rfl, rfl, by decide +kernel, rfl, by decide +kernel, by decide +kernel⟩
abbrev s_kind_fits : Stmt := topS 32
theorem sc_kind_fits : FnScope ["kind", "high", "wide"] ["kind", "high", "wide"] (defScope s_kind_fits) := ⟨rfl, rfl, rfl, by decide +kernel, rfl, by decide +kernel, by decide +kernel⟩
abbrev s_apart : Stmt := topS 33
theorem sc_apart : FnScope ["one", "other", "kind", "told", "way"] ["one", "other", "kind"] (defScope s_apart) := ⟨rfl, rfl, rfl, by decide +kernel, rfl, by decide +kernel, by decide +kernel⟩
abbrev s_is_name : Stmt := topS 37
theorem sc_is_name : FnScope ["name", "letter"] ["name"] (defScope s_is_name) := ⟨rfl, rfl, rfl, by decide +kernel, rfl, by decide +kernel, by decide +kernel⟩
abbrev s_can_be_shelf : Stmt := topS 38
theorem sc_can_be_shelf : FnScope ["high", "wide", "kind"] ["high", "wide", "kind"] (defScope s_can_be_shelf) := ⟨rfl, rfl, rfl, by decide +kernel, rfl, by decide +kernel, by decide +kernel⟩
abbrev s_ShelfD_initD : Stmt := inClass (topS 39) 0
theorem sc_ShelfD_initD : FnScope ["self", "high", "wide", "kind"] ["self", "high", "wide", "kind"] (defScope s_ShelfD_initD) := ⟨rfl, rfl, rfl, by decide +kernel, rfl, by decide +kernel, by decide +kernel⟩
abbrev s_Shelf_put : Stmt := inClass (topS 39) 1
theorem sc_Shelf_put : FnScope ["self", "name", "rows"] ["self", "name", "rows"] (defScope s_Shelf_put) := ⟨rfl, rfl, rfl, by decide +kernel, rfl, by decide +kernel, by decide +kernel⟩
abbrev s_Shelf_out : Stmt := inClass (topS 39) 2
theorem sc_Shelf_out : FnScope ["self", "name"] ["self", "name"] (defScope s_Shelf_out) := ⟨rfl, rfl, rfl, by decide +kernel, rfl, by decide +kernel, by decide +kernel⟩
abbrev s_Shelf_names : Stmt := inClass (topS 39) 3
theorem sc_Shelf_names : FnScope ["self"] ["self"] (defScope s_Shelf_names) := ⟨rfl, rfl, rfl, by decide +kernel, rfl, by decide +kernel, by decide +kernel⟩
abbrev s_Shelf_picture : Stmt := inClass (topS 39) 4
theorem sc_Shelf_picture : FnScope ["self", "name"] ["self", "name"] (defScope s_Shelf_picture) := ⟨rfl, rfl, rfl, by decide +kernel, rfl, by decide +kernel, by decide +kernel⟩
abbrev s_Shelf_tree : Stmt := inClass (topS 39) 5
theorem sc_Shelf_tree : FnScope ["self"] ["self"] (defScope s_Shelf_tree) := ⟨rfl, rfl, rfl, by decide +kernel, rfl, by decide +kernel, by decide +kernel⟩
abbrev s_ShelfDneed_kept : Stmt := inClass (topS 39) 6
theorem sc_ShelfDneed_kept : FnScope ["self", "name"] ["self", "name"] (defScope s_ShelfDneed_kept) := ⟨rfl, rfl, rfl, by decide +kernel, rfl, by decide +kernel, by decide +kernel⟩
abbrev s_ShelfDhung : Stmt := inClass (topS 39) 7
theorem sc_ShelfDhung : FnScope ["self", "names", "first", "by_far", "name", "far", "_"] ["self", "names"] (defScope s_ShelfDhung) := ⟨rfl, rfl, rfl, by decide +kernel, rfl, by decide +kernel, by decide +kernel⟩
abbrev s_law_cell : Stmt := topS 41
theorem sc_law_cell : FnScope ["_law_script", "_law_k"] ["_law_script", "_law_k"] (defScope s_law_cell) := ⟨rfl, rfl, rfl, by decide +kernel, rfl, by decide +kernel, by decide +kernel⟩
abbrev s_law_dice : Stmt := topS 42
theorem sc_law_dice : FnScope ["_law_script", "_law_k", "_law_cell_here"] ["_law_script", "_law_k"] (defScope s_law_dice) := ⟨rfl, rfl, rfl, by decide +kernel, rfl, by decide +kernel, by decide +kernel⟩
abbrev s_law_off : Stmt := topS 43
theorem sc_law_off : FnScope ["_law_d", "_law_most", "_law_found"] ["_law_d", "_law_most"] (defScope s_law_off) := ⟨rfl, rfl, rfl, by decide +kernel, rfl, by decide +kernel, by decide +kernel⟩
abbrev s_law_cells : Stmt := topS 44
theorem sc_law_cells : FnScope ["_law_d", "_law_high", "_law_wide", "_law_most", "_law_at", "_law_k"] ["_law_d", "_law_high", "_law_wide"] (defScope s_law_cells) := ⟨rfl, rfl, rfl, by decide +kernel, rfl, by decide +kernel, by decide +kernel⟩
abbrev s_law_is : Stmt := topS 45
theorem sc_law_is : FnScope ["_law_e", "_law_word", "_law_kinds", "_law_words", "_law_one"] ["_law_e", "_law_word"] (defScope s_law_is) := ⟨rfl, rfl, rfl, by decide +kernel, rfl, by decide +kernel, by decide +kernel⟩
abbrev s_law_refused : Stmt := topS 46
theorem sc_law_refused : FnScope ["_law_work", "_law_e"] ["_law_work"] (defScope s_law_refused) := ⟨rfl, rfl, rfl, by decide +kernel, rfl, by decide +kernel, by decide +kernel⟩
abbrev s_law_spoilt : Stmt := topS 47
theorem sc_law_spoilt : FnScope ["_law_d", "_law_rows", "_law_way", "_law_at", "_law_k", "_law_bad", "_law_found", "_law_row"] ["_law_d", "_law_rows"] (defScope s_law_spoilt) := ⟨rfl, rfl, rfl, by decide +kernel, rfl, by decide +kernel, by decide +kernel⟩
abbrev s_law : Stmt := topS 48
theorem sc_law : FnScope ["_law_script", "_law_d", "_law_rows", "_law_handed", "_law_bad", "_law_shelf", "_law_row"] ["_law_script"] (defScope s_law) := ⟨rfl, rfl, rfl, by decide +kernel, rfl, by decide +kernel, by decide +kernel⟩
abbrev ls_100_11 : Scope := { kind := PySem.ScopeKind.function, names := [ (PySem.Str.ofString ".0", PySem.NameKind.local), (PySem.Str.ofString "way", PySem.NameKind.local), (PySem.Str.ofString "difference", PySem.NameKind.globalImplicit), (PySem.Str.ofString "moved", PySem.NameKind.globalImplicit), (PySem.Str.ofString "one", PySem.NameKind.free), (PySem.Str.ofString "other", PySem.NameKind.free)], isGenerator := false, isCoroutine := false, more := [] : PySem.Scope }
abbrev ls_100_11r : Scope := { kind := PySem.ScopeKind.function, names := [ (PySem.Str.ofString ".0", PySem.NameKind.local), (PySem.Str.ofString "way", PySem.NameKind.local), (PySem.Str.ofString "difference", PySem.NameKind.globalImplicit), (PySem.Str.ofString "moved", PySem.NameKind.globalImplicit), (PySem.Str.ofString "one", PySem.NameKind.cell), (PySem.Str.ofString "other", PySem.NameKind.cell)], isGenerator := false, isCoroutine := false, more := [] : PySem.Scope }
abbrev ls_106_50 : Scope := { kind := PySem.ScopeKind.function, names := [(PySem.Str.ofString ".0", PySem.NameKind.local), (PySem.Str.ofString "letter", PySem.NameKind.local)], isGenerator := false, isCoroutine := false, more := [] : PySem.Scope }
abbrev ls_106_50r : Scope := { kind := PySem.ScopeKind.function, names := [(PySem.Str.ofString ".0", PySem.NameKind.local), (PySem.Str.ofString "letter", PySem.NameKind.local)], isGenerator := false, isCoroutine := false, more := [] : PySem.Scope }
abbrev ls_155_23 : Scope := { kind := PySem.ScopeKind.function, names := [ (PySem.Str.ofString ".0", PySem.NameKind.local), (PySem.Str.ofString "far", PySem.NameKind.local), (PySem.Str.ofString "by_far", PySem.NameKind.free), (PySem.Str.ofString "self", PySem.NameKind.free)], isGenerator := false, isCoroutine := false, more := [] : PySem.Scope }
abbrev ls_155_23r : Scope := { kind := PySem.ScopeKind.function, names := [ (PySem.Str.ofString ".0", PySem.NameKind.local), (PySem.Str.ofString "far", PySem.NameKind.local), (PySem.Str.ofString "by_far", PySem.NameKind.cell), (PySem.Str.ofString "self", PySem.NameKind.cell)], isGenerator := false, isCoroutine := false, more := [] : PySem.Scope }
abbrev ls_162_67 : Scope := { kind := PySem.ScopeKind.function, names := [(PySem.Str.ofString ".0", PySem.NameKind.local), (PySem.Str.ofString "_law_cell_here", PySem.NameKind.local)], isGenerator := false, isCoroutine := false, more := [] : PySem.Scope }
abbrev ls_162_67r : Scope := { kind := PySem.ScopeKind.function, names := [(PySem.Str.ofString ".0", PySem.NameKind.local), (PySem.Str.ofString "_law_cell_here", PySem.NameKind.local)], isGenerator := false, isCoroutine := false, more := [] : PySem.Scope }
abbrev ls_174_11 : Scope := { kind := PySem.ScopeKind.function, names := [ (PySem.Str.ofString ".0", PySem.NameKind.local), (PySem.Str.ofString "_law_at", PySem.NameKind.local), (PySem.Str.ofString "range", PySem.NameKind.globalImplicit), (PySem.Str.ofString "_law_d", PySem.NameKind.free), (PySem.Str.ofString "_law_most", PySem.NameKind.free), (PySem.Str.ofString "_law_wide", PySem.NameKind.free)], isGenerator := false, isCoroutine := false, more := [] : PySem.Scope }
abbrev ls_174_11r : Scope := { kind := PySem.ScopeKind.function, names := [ (PySem.Str.ofString ".0", PySem.NameKind.local), (PySem.Str.ofString "_law_at", PySem.NameKind.local), (PySem.Str.ofString "range", PySem.NameKind.globalImplicit), (PySem.Str.ofString "_law_d", PySem.NameKind.cell), (PySem.Str.ofString "_law_most", PySem.NameKind.cell), (PySem.Str.ofString "_law_wide", PySem.NameKind.cell)], isGenerator := false, isCoroutine := false, more := [] : PySem.Scope }
abbrev ls_174_12 : Scope := { kind := PySem.ScopeKind.function, names := [ (PySem.Str.ofString ".0", PySem.NameKind.local), (PySem.Str.ofString "_law_k", PySem.NameKind.local), (PySem.Str.ofString "_law_off", PySem.NameKind.globalImplicit), (PySem.Str.ofString "_law_d", PySem.NameKind.free), (PySem.Str.ofString "_law_most", PySem.NameKind.free)], isGenerator := false, isCoroutine := false, more := [] : PySem.Scope }
abbrev ls_174_12r : Scope := { kind := PySem.ScopeKind.function, names := [ (PySem.Str.ofString ".0", PySem.NameKind.local), (PySem.Str.ofString "_law_k", PySem.NameKind.local), (PySem.Str.ofString "_law_off", PySem.NameKind.globalImplicit), (PySem.Str.ofString "_law_d", PySem.NameKind.cell), (PySem.Str.ofString "_law_most", PySem.NameKind.cell)], isGenerator := false, isCoroutine := false, more := [] : PySem.Scope }
abbrev ls_179_60 : Scope := { kind := PySem.ScopeKind.function, names := [ (PySem.Str.ofString ".0", PySem.NameKind.local), (PySem.Str.ofString "_law_one", PySem.NameKind.local), (PySem.Str.ofString "_law_word", PySem.NameKind.free)], isGenerator := false, isCoroutine := false, more := [] : PySem.Scope }
abbrev ls_179_60r : Scope := { kind := PySem.ScopeKind.function, names := [ (PySem.Str.ofString ".0", PySem.NameKind.local), (PySem.Str.ofString "_law_one", PySem.NameKind.local), (PySem.Str.ofString "_law_word", PySem.NameKind.cell)], isGenerator := false, isCoroutine := false, more := [] : PySem.Scope }
abbrev ls_201_17 : Scope := { kind := PySem.ScopeKind.function, names := [ (PySem.Str.ofString ".0", PySem.NameKind.local), (PySem.Str.ofString "_law_row", PySem.NameKind.local), (PySem.Str.ofString "list", PySem.NameKind.globalImplicit)], isGenerator := false, isCoroutine := false, more := [] : PySem.Scope }
abbrev ls_201_17r : Scope := { kind := PySem.ScopeKind.function, names := [ (PySem.Str.ofString ".0", PySem.NameKind.local), (PySem.Str.ofString "_law_row", PySem.NameKind.local), (PySem.Str.ofString "list", PySem.NameKind.globalImplicit)], isGenerator := false, isCoroutine := false, more := [] : PySem.Scope }
abbrev ls_207_18 : Scope := { kind := PySem.ScopeKind.function, names := [ (PySem.Str.ofString ".0", PySem.NameKind.local), (PySem.Str.ofString "_law_row", PySem.NameKind.local), (PySem.Str.ofString "list", PySem.NameKind.globalImplicit)], isGenerator := false, isCoroutine := false, more := [] : PySem.Scope }
abbrev ls_207_18r : Scope := { kind := PySem.ScopeKind.function, names := [ (PySem.Str.ofString ".0", PySem.NameKind.local), (PySem.Str.ofString "_law_row", PySem.NameKind.local), (PySem.Str.ofString "list", PySem.NameKind.globalImplicit)], isGenerator := false, isCoroutine := false, more := [] : PySem.Scope }
abbrev ls_34_15 : Scope := { kind := PySem.ScopeKind.function, names := [ (PySem.Str.ofString ".0", PySem.NameKind.local), (PySem.Str.ofString "row", PySem.NameKind.local), (PySem.Str.ofString "len", PySem.NameKind.globalImplicit), (PySem.Str.ofString "all", PySem.NameKind.globalImplicit), (PySem.Str.ofString "wide", PySem.NameKind.free)], isGenerator := false, isCoroutine := false, more := [] : PySem.Scope }
abbrev ls_34_15r : Scope := { kind := PySem.ScopeKind.function, names := [ (PySem.Str.ofString ".0", PySem.NameKind.local), (PySem.Str.ofString "row", PySem.NameKind.local), (PySem.Str.ofString "len", PySem.NameKind.globalImplicit), (PySem.Str.ofString "all", PySem.NameKind.globalImplicit), (PySem.Str.ofString "wide", PySem.NameKind.cell)], isGenerator := false, isCoroutine := false, more := [] : PySem.Scope }
abbrev ls_34_41 : Scope := { kind := PySem.ScopeKind.function, names := [ (PySem.Str.ofString ".0", PySem.NameKind.local), (PySem.Str.ofString "cell", PySem.NameKind.local), (PySem.Str.ofString "is_cell", PySem.NameKind.globalImplicit)], isGenerator := false, isCoroutine := false, more := [] : PySem.Scope }
abbrev ls_34_41r : Scope := { kind := PySem.ScopeKind.function, names := [ (PySem.Str.ofString ".0", PySem.NameKind.local), (PySem.Str.ofString "cell", PySem.NameKind.local), (PySem.Str.ofString "is_cell", PySem.NameKind.globalImplicit)], isGenerator := false, isCoroutine := false, more := [] : PySem.Scope }
abbrev ls_43_11 : Scope := { kind := PySem.ScopeKind.function, names := [ (PySem.Str.ofString ".0", PySem.NameKind.local), (PySem.Str.ofString "row", PySem.NameKind.local), (PySem.Str.ofString "list", PySem.NameKind.globalImplicit)], isGenerator := false, isCoroutine := false, more := [] : PySem.Scope }
abbrev ls_43_11r : Scope := { kind := PySem.ScopeKind.function, names := [ (PySem.Str.ofString ".0", PySem.NameKind.local), (PySem.Str.ofString "row", PySem.NameKind.local), (PySem.Str.ofString "list", PySem.NameKind.globalImplicit)], isGenerator := false, isCoroutine := false, more := [] : PySem.Scope }
abbrev ls_45_11 : Scope := { kind := PySem.ScopeKind.function, names := [(PySem.Str.ofString ".0", PySem.NameKind.local), (PySem.Str.ofString "row", PySem.NameKind.local)], isGenerator := false, isCoroutine := false, more := [] : PySem.Scope }
abbrev ls_45_11r : Scope := { kind := PySem.ScopeKind.function, names := [(PySem.Str.ofString ".0", PySem.NameKind.local), (PySem.Str.ofString "row", PySem.NameKind.local)], isGenerator := false, isCoroutine := false, more := [] : PySem.Scope }
abbrev ls_47_11 : Scope := { kind := PySem.ScopeKind.function, names := [ (PySem.Str.ofString ".0", PySem.NameKind.local), (PySem.Str.ofString "at", PySem.NameKind.cell), (PySem.Str.ofString "rows", PySem.NameKind.free)], isGenerator := false, isCoroutine := false, more := [] : PySem.Scope }
abbrev ls_47_11r : Scope := { kind := PySem.ScopeKind.function, names := [ (PySem.Str.ofString ".0", PySem.NameKind.local), (PySem.Str.ofString "at", PySem.NameKind.cell), (PySem.Str.ofString "rows", PySem.NameKind.cell)], isGenerator := false, isCoroutine := false, more := [] : PySem.Scope }
abbrev ls_47_12 : Scope := { kind := PySem.ScopeKind.function, names := [ (PySem.Str.ofString ".0", PySem.NameKind.local), (PySem.Str.ofString "row", PySem.NameKind.local), (PySem.Str.ofString "at", PySem.NameKind.free)], isGenerator := false, isCoroutine := false, more := [] : PySem.Scope }
abbrev ls_47_12r : Scope := { kind := PySem.ScopeKind.function, names := [ (PySem.Str.ofString ".0", PySem.NameKind.local), (PySem.Str.ofString "row", PySem.NameKind.local), (PySem.Str.ofString "at", PySem.NameKind.cell)], isGenerator := false, isCoroutine := false, more := [] : PySem.Scope }
abbrev ls_55_15 : Scope := { kind := PySem.ScopeKind.function, names := [ (PySem.Str.ofString ".0", PySem.NameKind.local), (PySem.Str.ofString "row", PySem.NameKind.local), (PySem.Str.ofString "other_row", PySem.NameKind.local), (PySem.Str.ofString "mine", PySem.NameKind.local), (PySem.Str.ofString "theirs", PySem.NameKind.local), (PySem.Str.ofString "zip", PySem.NameKind.globalImplicit), (PySem.Str.ofString "abs", PySem.NameKind.globalImplicit)], isGenerator := false, isCoroutine := false, more := [] : PySem.Scope }
abbrev ls_55_15r : Scope := { kind := PySem.ScopeKind.function, names := [ (PySem.Str.ofString ".0", PySem.NameKind.local), (PySem.Str.ofString "row", PySem.NameKind.local), (PySem.Str.ofString "other_row", PySem.NameKind.local), (PySem.Str.ofString "mine", PySem.NameKind.local), (PySem.Str.ofString "theirs", PySem.NameKind.local), (PySem.Str.ofString "zip", PySem.NameKind.globalImplicit), (PySem.Str.ofString "abs", PySem.NameKind.globalImplicit)], isGenerator := false, isCoroutine := false, more := [] : PySem.Scope }
abbrev ls_71_11 : Scope := { kind := PySem.ScopeKind.function, names := [ (PySem.Str.ofString ".0", PySem.NameKind.local), (PySem.Str.ofString "row", PySem.NameKind.local), (PySem.Str.ofString "left", PySem.NameKind.free), (PySem.Str.ofString "wide", PySem.NameKind.free)], isGenerator := false, isCoroutine := false, more := [] : PySem.Scope }
abbrev ls_71_11r : Scope := { kind := PySem.ScopeKind.function, names := [ (PySem.Str.ofString ".0", PySem.NameKind.local), (PySem.Str.ofString "row", PySem.NameKind.local), (PySem.Str.ofString "left", PySem.NameKind.cell), (PySem.Str.ofString "wide", PySem.NameKind.cell)], isGenerator := false, isCoroutine := false, more := [] : PySem.Scope }
/-! ### what stands where behind the top -/
structure Tx (K : PySem.W.Frag) (mg : Str → Option Value) where
  a_can_be_side : Addr
  d_can_be_side : FuncData
  F_can_be_side : Fun K "can_be_side" "can_be_side" s_can_be_side a_can_be_side d_can_be_side
  g_can_be_side : mg "can_be_side" = some (.ref a_can_be_side)
  b_can_be_side : Binds K d_can_be_side ["number"] []
  a_is_cell : Addr
  d_is_cell : FuncData
  F_is_cell : Fun K "is_cell" "is_cell" s_is_cell a_is_cell d_is_cell
  g_is_cell : mg "is_cell" = some (.ref a_is_cell)
  b_is_cell : Binds K d_is_cell ["number"] []
  a_width : Addr
  d_width : FuncData
  F_width : Fun K "width" "width" s_width a_width d_width
  g_width : mg "width" = some (.ref a_width)
  b_width : Binds K d_width ["rows"] []
  a_is_picture : Addr
  d_is_picture : FuncData
  F_is_picture : Fun K "is_picture" "is_picture" s_is_picture a_is_picture d_is_picture
  g_is_picture : mg "is_picture" = some (.ref a_is_picture)
  b_is_picture : Binds K d_is_picture ["rows"] []
  a_need_picture : Addr
  d_need_picture : FuncData
  F_need_picture : Fun K "need_picture" "need_picture" s_need_picture a_need_picture d_need_picture
  g_need_picture : mg "need_picture" = some (.ref a_need_picture)
  b_need_picture : Binds K d_need_picture ["rows"] []
  a_need_picture_of : Addr
  d_need_picture_of : FuncData
  F_need_picture_of : Fun K "need_picture_of" "need_picture_of" s_need_picture_of a_need_picture_of d_need_picture_of
  g_need_picture_of : mg "need_picture_of" = some (.ref a_need_picture_of)
  b_need_picture_of : Binds K d_need_picture_of ["rows", "high", "wide"] []
  a_copied : Addr
  d_copied : FuncData
  F_copied : Fun K "copied" "copied" s_copied a_copied d_copied
  g_copied : mg "copied" = some (.ref a_copied)
  b_copied : Binds K d_copied ["rows"] []
  a_mirrored : Addr
  d_mirrored : FuncData
  F_mirrored : Fun K "mirrored" "mirrored" s_mirrored a_mirrored d_mirrored
  g_mirrored : mg "mirrored" = some (.ref a_mirrored)
  b_mirrored : Binds K d_mirrored ["rows"] []
  a_turned : Addr
  d_turned : FuncData
  F_turned : Fun K "turned" "turned" s_turned a_turned d_turned
  g_turned : mg "turned" = some (.ref a_turned)
  b_turned : Binds K d_turned ["rows"] []
  a_moved : Addr
  d_moved : FuncData
  F_moved : Fun K "moved" "moved" s_moved a_moved d_moved
  g_moved : mg "moved" = some (.ref a_moved)
  b_moved : Binds K d_moved ["rows", "way"] []
  a_difference : Addr
  d_difference : FuncData
  F_difference : Fun K "difference" "difference" s_difference a_difference d_difference
  g_difference : mg "difference" = some (.ref a_difference)
  b_difference : Binds K d_difference ["one", "other"] []
  a_sums : Addr
  d_sums : FuncData
  F_sums : Fun K "sums" "sums" s_sums a_sums d_sums
  g_sums : mg "sums" = some (.ref a_sums)
  b_sums : Binds K d_sums ["rows"] []
  a_part_sum : Addr
  d_part_sum : FuncData
  F_part_sum : Fun K "part_sum" "part_sum" s_part_sum a_part_sum d_part_sum
  g_part_sum : mg "part_sum" = some (.ref a_part_sum)
  b_part_sum : Binds K d_part_sum ["corners", "top", "left", "high", "wide"] []
  a_part : Addr
  d_part : FuncData
  F_part : Fun K "part" "part" s_part a_part d_part
  g_part : mg "part" = some (.ref a_part)
  b_part : Binds K d_part ["rows", "top", "left", "high", "wide"] []
  a_need_room : Addr
  d_need_room : FuncData
  F_need_room : Fun K "need_room" "need_room" s_need_room a_need_room d_need_room
  g_need_room : mg "need_room" = some (.ref a_need_room)
  b_need_room : Binds K d_need_room ["rows", "little"] []
  a_places : Addr
  d_places : FuncData
  F_places : Fun K "places" "places" s_places a_places d_places
  g_places : mg "places" = some (.ref a_places)
  b_places : Binds K d_places ["rows", "little", "span"] []
  a_kind_fits : Addr
  d_kind_fits : FuncData
  F_kind_fits : Fun K "kind_fits" "kind_fits" s_kind_fits a_kind_fits d_kind_fits
  g_kind_fits : mg "kind_fits" = some (.ref a_kind_fits)
  b_kind_fits : Binds K d_kind_fits ["kind", "high", "wide"] []
  a_apart : Addr
  d_apart : FuncData
  F_apart : Fun K "apart" "apart" s_apart a_apart d_apart
  g_apart : mg "apart" = some (.ref a_apart)
  b_apart : Binds K d_apart ["one", "other", "kind"] []
  a_is_name : Addr
  d_is_name : FuncData
  F_is_name : Fun K "is_name" "is_name" s_is_name a_is_name d_is_name
  g_is_name : mg "is_name" = some (.ref a_is_name)
  b_is_name : Binds K d_is_name ["name"] []
  a_can_be_shelf : Addr
  d_can_be_shelf : FuncData
  F_can_be_shelf : Fun K "can_be_shelf" "can_be_shelf" s_can_be_shelf a_can_be_shelf d_can_be_shelf
  g_can_be_shelf : mg "can_be_shelf" = some (.ref a_can_be_shelf)
  b_can_be_shelf : Binds K d_can_be_shelf ["high", "wide", "kind"] []
  a_ShelfD_initD : Addr
  d_ShelfD_initD : FuncData
  F_ShelfD_initD : Fun K "__init__" "Shelf.__init__" s_ShelfD_initD a_ShelfD_initD d_ShelfD_initD
  a_Shelf : Addr
  g_Shelf : mg "Shelf" = some (.ref a_Shelf)
  cl_Shelf : Cls K a_Shelf
  n_Shelf_high : NoAttr K a_Shelf "high"
  n_Shelf_wide : NoAttr K a_Shelf "wide"
  n_Shelf_kind : NoAttr K a_Shelf "kind"
  n_Shelf__kept : NoAttr K a_Shelf "_kept"
  mk_Shelf : Mk K a_Shelf a_ShelfD_initD
  b_ShelfD_initD : Binds K d_ShelfD_initD ["self", "high", "wide", "kind"] []
  a_Shelf_put : Addr
  d_Shelf_put : FuncData
  F_Shelf_put : Fun K "put" "Shelf.put" s_Shelf_put a_Shelf_put d_Shelf_put
  mt_Shelf_put : Meth K a_Shelf "put" a_Shelf_put
  b_Shelf_put : Binds K d_Shelf_put ["self", "name", "rows"] []
  a_Shelf_out : Addr
  d_Shelf_out : FuncData
  F_Shelf_out : Fun K "out" "Shelf.out" s_Shelf_out a_Shelf_out d_Shelf_out
  mt_Shelf_out : Meth K a_Shelf "out" a_Shelf_out
  b_Shelf_out : Binds K d_Shelf_out ["self", "name"] []
  a_Shelf_names : Addr
  d_Shelf_names : FuncData
  F_Shelf_names : Fun K "names" "Shelf.names" s_Shelf_names a_Shelf_names d_Shelf_names
  mt_Shelf_names : Meth K a_Shelf "names" a_Shelf_names
  b_Shelf_names : Binds K d_Shelf_names ["self"] []
  a_Shelf_picture : Addr
  d_Shelf_picture : FuncData
  F_Shelf_picture : Fun K "picture" "Shelf.picture" s_Shelf_picture a_Shelf_picture d_Shelf_picture
  mt_Shelf_picture : Meth K a_Shelf "picture" a_Shelf_picture
  b_Shelf_picture : Binds K d_Shelf_picture ["self", "name"] []
  a_Shelf_tree : Addr
  d_Shelf_tree : FuncData
  F_Shelf_tree : Fun K "tree" "Shelf.tree" s_Shelf_tree a_Shelf_tree d_Shelf_tree
  mt_Shelf_tree : Meth K a_Shelf "tree" a_Shelf_tree
  b_Shelf_tree : Binds K d_Shelf_tree ["self"] []
  a_ShelfDneed_kept : Addr
  d_ShelfDneed_kept : FuncData
  F_ShelfDneed_kept : Fun K "_need_kept" "Shelf._need_kept" s_ShelfDneed_kept a_ShelfDneed_kept d_ShelfDneed_kept
  mt_ShelfDneed_kept : Meth K a_Shelf "_need_kept" a_ShelfDneed_kept
  b_ShelfDneed_kept : Binds K d_ShelfDneed_kept ["self", "name"] []
  a_ShelfDhung : Addr
  d_ShelfDhung : FuncData
  F_ShelfDhung : Fun K "_hung" "Shelf._hung" s_ShelfDhung a_ShelfDhung d_ShelfDhung
  mt_ShelfDhung : Meth K a_Shelf "_hung" a_ShelfDhung
  b_ShelfDhung : Binds K d_ShelfDhung ["self", "names"] []
  a_law_cell : Addr
  d_law_cell : FuncData
  F_law_cell : Fun K "_law_cell" "_law_cell" s_law_cell a_law_cell d_law_cell
  g_law_cell : mg "_law_cell" = some (.ref a_law_cell)
  b_law_cell : Binds K d_law_cell ["_law_script", "_law_k"] []
  a_law_dice : Addr
  d_law_dice : FuncData
  F_law_dice : Fun K "_law_dice" "_law_dice" s_law_dice a_law_dice d_law_dice
  g_law_dice : mg "_law_dice" = some (.ref a_law_dice)
  b_law_dice : Binds K d_law_dice ["_law_script", "_law_k"] []
  a_law_off : Addr
  d_law_off : FuncData
  F_law_off : Fun K "_law_off" "_law_off" s_law_off a_law_off d_law_off
  g_law_off : mg "_law_off" = some (.ref a_law_off)
  b_law_off : Binds K d_law_off ["_law_d", "_law_most"] []
  a_law_cells : Addr
  d_law_cells : FuncData
  F_law_cells : Fun K "_law_cells" "_law_cells" s_law_cells a_law_cells d_law_cells
  g_law_cells : mg "_law_cells" = some (.ref a_law_cells)
  b_law_cells : Binds K d_law_cells ["_law_d", "_law_high", "_law_wide"] []
  a_law_is : Addr
  d_law_is : FuncData
  F_law_is : Fun K "_law_is" "_law_is" s_law_is a_law_is d_law_is
  g_law_is : mg "_law_is" = some (.ref a_law_is)
  b_law_is : Binds K d_law_is ["_law_e", "_law_word"] []
  a_law_refused : Addr
  d_law_refused : FuncData
  F_law_refused : Fun K "_law_refused" "_law_refused" s_law_refused a_law_refused d_law_refused
  g_law_refused : mg "_law_refused" = some (.ref a_law_refused)
  b_law_refused : Binds K d_law_refused ["_law_work"] []
  a_law_spoilt : Addr
  d_law_spoilt : FuncData
  F_law_spoilt : Fun K "_law_spoilt" "_law_spoilt" s_law_spoilt a_law_spoilt d_law_spoilt
  g_law_spoilt : mg "_law_spoilt" = some (.ref a_law_spoilt)
  b_law_spoilt : Binds K d_law_spoilt ["_law_d", "_law_rows"] []
  a_law : Addr
  d_law : FuncData
  F_law : Fun K "law" "law" s_law a_law d_law
  g_law : mg "law" = some (.ref a_law)
  b_law : Binds K d_law ["_law_script"] []
  t_MOST_CELL : Tok
  g_MOST_CELL : mg "MOST_CELL" = some (.int 255 t_MOST_CELL)
  t_MOST_LETTERS : Tok
  g_MOST_LETTERS : mg "MOST_LETTERS" = some (.int 8 t_MOST_LETTERS)
  t_MOST_PICTURES : Tok
  g_MOST_PICTURES : mg "MOST_PICTURES" = some (.int 60 t_MOST_PICTURES)
  t_MOST_SIDE : Tok
  g_MOST_SIDE : mg "MOST_SIDE" = some (.int 16 t_MOST_SIDE)
  a_SQUARE_KINDS : Addr
  g_SQUARE_KINDS : mg "SQUARE_KINDS" = some (.ref a_SQUARE_KINDS)
  v_SQUARE_KINDS : ∀ S H, Ds K S H (.ref a_SQUARE_KINDS) (.tuple [(.str "turn"), (.str "all")])
  a_WAYS : Addr
  g_WAYS : mg "WAYS" = some (.ref a_WAYS)
  a_LikeError : Addr
  g_LikeError : mg "LikeError" = some (.ref a_LikeError)
  a_BadPicture : Addr
  g_BadPicture : mg "BadPicture" = some (.ref a_BadPicture)
  a_BadShelf : Addr
  g_BadShelf : mg "BadShelf" = some (.ref a_BadShelf)
  a_BadName : Addr
  g_BadName : mg "BadName" = some (.ref a_BadName)
  a_Told : Addr
  g_Told : mg "Told" = some (.ref a_Told)
  a_Unknown : Addr
  g_Unknown : mg "Unknown" = some (.ref a_Unknown)
  a_Full : Addr
  g_Full : mg "Full" = some (.ref a_Full)
  a_BadText : Addr
  g_BadText : mg "BadText" = some (.ref a_BadText)
  kc_BadPicture : PySem.W.keepIn K (.ref a_BadPicture) = true
  x_BadPicture : PySem.W.excIn K a_BadPicture [.type "ValueError", .type "Exception", .type "BaseException", .type "object"] "ValueError.__new__" = true
  bp_BadPicture : PySem.W.subIn K (.ref a_BadPicture) (.type "BaseException") = some true
  ty_BadPicture : PySem.W.typeIn K (.ref a_BadPicture) = some (.type "type")
  em_BadPicture : PySem.W.exmOne K (.ref a_BadPicture) (.ref a_LikeError) = some true
  ec_BadPicture : ExcC K a_BadPicture
  is_BadPicture_BadPicture : PySem.W.kitOne K (.ref a_BadPicture) (.ref a_BadPicture) = some true
  is_BadPicture_BadShelf : PySem.W.kitOne K (.ref a_BadPicture) (.ref a_BadShelf) = some false
  is_BadPicture_BadName : PySem.W.kitOne K (.ref a_BadPicture) (.ref a_BadName) = some false
  is_BadPicture_Told : PySem.W.kitOne K (.ref a_BadPicture) (.ref a_Told) = some false
  is_BadPicture_Unknown : PySem.W.kitOne K (.ref a_BadPicture) (.ref a_Unknown) = some false
  is_BadPicture_Full : PySem.W.kitOne K (.ref a_BadPicture) (.ref a_Full) = some false
  is_BadPicture_BadText : PySem.W.kitOne K (.ref a_BadPicture) (.ref a_BadText) = some false
  isV_BadPicture : PySem.W.kitOne K (.ref a_BadPicture) (.type "ValueError") = some true
  m_ValueError : mg "ValueError" = none
  m_abs : mg "abs" = none
  m_all : mg "all" = none
  m_isinstance : mg "isinstance" = none
  m_len : mg "len" = none
  m_list : mg "list" = none
  m_min : mg "min" = none
  m_range : mg "range" = none
  m_sorted : mg "sorted" = none
  m_sum : mg "sum" = none
  m_zip : mg "zip" = none

/-! ### the mathematics of pictures -/
def Rect (rows : Rows) (h w : Nat) : Prop := rows.length = h ∧ ∀ r ∈ rows, r.length = w
def mir (rows : Rows) : Rows := rows.map List.reverse
def wid (rows : Rows) : Nat := (rows.headD []).length
def tur (rows : Rows) : Rows := (List.range (wid rows)).map fun k => rows.map fun r => r.getD (wid rows - 1 - k) 0
/-- a picture's sides are small, its rows of one length -/
structure Pc (rows : Rows) (h w : Nat) : Prop where
  rc : Rect rows h w
  h1 : 1 ≤ h
  h2 : h ≤ 100
  w1 : 1 ≤ w
  w2 : w ≤ 100
theorem Pc.wid {rows : Rows} {h w : Nat} (p : Pc rows h w) : wid rows = w := by
  obtain ⟨⟨a, b⟩, c, _⟩ := p
  cases rows with
  | nil => simp at a; omega
  | cons r rs => exact b r List.mem_cons_self
theorem Pc.hd {rows : Rows} {h w : Nat} (p : Pc rows h w) : (rows.headD []).length = w := p.wid
theorem Pc.ne {rows : Rows} {h w : Nat} (p : Pc rows h w) : rows ≠ [] := fun e => by
  have a := p.rc.1
  have b := p.h1
  rw [e] at a
  simp at a
  omega
theorem Pc.len {rows : Rows} {h w : Nat} (p : Pc rows h w) {r : List Int} (hr : r ∈ rows) : r.length = w := p.rc.2 r hr
theorem Pc.lh {rows : Rows} {h w : Nat} (p : Pc rows h w) : rows.length = h := p.rc.1
theorem Pc.big {rows : Rows} {h w : Nat} (p : Pc rows h w) : rows.length ≤ 1000000 := by
  have := p.h2
  rw [p.lh]
  omega
theorem mir_rc {rows : Rows} {h w : Nat} (p : Rect rows h w) : Rect (mir rows) h w := ⟨by rw [mir, List.length_map, p.1], fun r hr => by
  obtain ⟨q, hq, rfl⟩ := List.mem_map.mp hr
  rw [List.length_reverse, p.2 q hq]⟩
theorem Pc.mir {rows : Rows} {h w : Nat} (p : Pc rows h w) : Pc (mir rows) h w := { p with rc := mir_rc p.rc }
theorem Pc.tur {rows : Rows} {h w : Nat} (p : Pc rows h w) : Pc (tur rows) w h where
  rc := by
    refine ⟨by rw [Lw.tur, List.length_map, List.length_range, p.wid], fun r hr => ?_⟩
    obtain ⟨k, _, rfl⟩ := List.mem_map.mp hr
    rw [List.length_map, p.rc.1]
  h1 := p.w1
  h2 := p.w2
  w1 := p.h1
  w2 := p.h2
/-- moved by a way -/
def mov (rows : Rows) : Nat → Nat → Rows
  | 0, s => if s = 1 then mir rows else rows
  | n + 1, s => tur (mov rows n s)
theorem Pc.mov {rows : Rows} {h w : Nat} (p : Pc rows h w) (s : Nat) : ∀ n, Pc (mov rows n s) (if n % 2 = 0 then h else w) (if n % 2 = 0 then w else h)
  | 0 => by
    rw [if_pos rfl, if_pos rfl]
    unfold Lw.mov
    split
    · exact p.mir
    · exact p
  | n + 1 => by
    have q := (p.mov s n).tur
    by_cases e : n % 2 = 0
    · rw [if_pos e, if_pos e] at q
      rw [if_neg (by omega), if_neg (by omega)]
      exact q
    · rw [if_neg e, if_neg e] at q
      rw [if_pos (by omega), if_pos (by omega)]
      exact q
def wayD (t s : Nat) : PyData := .tuple [.int (t : Int), .int (s : Int)]

/-! ### four turns -/
theorem tur_get {rows : Rows} {h w : Nat} (p : Pc rows h w) (i j : Nat) (hi : i < w) (hj : j < h) : ((tur rows).getD i []).getD j 0 = (rows.getD j []).getD (w - 1 - i) 0 := by
  unfold tur
  rw [p.wid, List.getD_eq_getElem?_getD (l := (List.range w).map _), List.getElem?_map, List.getElem?_range hi]
  show (List.map _ rows).getD j 0 = _
  rw [List.getD_eq_getElem?_getD, List.getElem?_map, List.getD_eq_getElem?_getD (l := rows)]
  cases e : rows[j]? with
  | none =>
    rw [List.getElem?_eq_none_iff, p.lh] at e
    omega
  | some r => rfl
/-- two pictures of one size are one where their cells are -/
theorem rows_ext {a b : Rows} {h w : Nat} (pa : Pc a h w) (pb : Pc b h w) (e : ∀ i j, i < h → j < w → (a.getD i []).getD j 0 = (b.getD i []).getD j 0) : a = b := by
  apply List.ext_getElem
  · rw [pa.lh, pb.lh]
  · intro i h1 h2
    have la := pa.len (List.getElem_mem h1)
    have lb := pb.len (List.getElem_mem h2)
    apply List.ext_getElem
    · rw [la, lb]
    · intro j k1 k2
      have q := e i j (by rw [← pa.lh]; exact h1) (by rw [← la]; exact k1)
      rw [List.getD_eq_getElem?_getD (l := a), List.getElem?_eq_getElem h1, List.getD_eq_getElem?_getD (l := b), List.getElem?_eq_getElem h2] at q
      simp only [Option.getD_some] at q
      rw [List.getD_eq_getElem?_getD, List.getElem?_eq_getElem k1, List.getD_eq_getElem?_getD, List.getElem?_eq_getElem k2] at q
      simpa using q
theorem tur4 {rows : Rows} {h w : Nat} (p : Pc rows h w) : tur (tur (tur (tur rows))) = rows := by
  refine rows_ext p.tur.tur.tur.tur p fun i j hi hj => ?_
  rw [tur_get p.tur.tur.tur i j hi hj, tur_get p.tur.tur j _ hj (by omega), tur_get p.tur _ _ (by omega) (by omega), tur_get p _ _ (by omega) (by omega)]
  congr 1 <;> congr 1 <;> omega

/-! ### differences -/
def ab (x : Int) : Int := if x < 0 then -x else x
def dRow (r s : List Int) : Int := ((List.range r.length).map fun j => ab (r.getD j 0 - s.getD j 0)).sum
def dif (a b : Rows) : Int := ((List.range a.length).map fun i => dRow (a.getD i []) (b.getD i [])).sum
theorem sum_succ (n : Nat) (f : Nat → Int) : ((List.range (n + 1)).map f).sum = ((List.range n).map f).sum + f n := by
  rw [List.range_succ, List.map_append, List.sum_append]
  simp
theorem sum_congr {n : Nat} {f g : Nat → Int} (h : ∀ i, i < n → f i = g i) : ((List.range n).map f).sum = ((List.range n).map g).sum := by
  congr 1
  exact List.map_congr_left fun i hi => h i (List.mem_range.mp hi)
theorem flat2_ints (n : Nat) (m : Nat → Nat) (f : Nat → Nat → Int) : flat2 n m (fun i j => .int (f i j)) = (((List.range n).map fun i => (List.range (m i)).map (f i)).flatten).map PyData.int := by
  unfold flat2
  rw [List.map_flatten, List.map_map, List.flatMap]
  congr 1
  refine List.map_congr_left fun i _ => ?_
  show _ = List.map PyData.int ((List.range (m i)).map (f i))
  rw [List.map_map]
  rfl
theorem sum_flat (xs : List (List Int)) : xs.flatten.sum = (xs.map List.sum).sum := by
  induction xs with
  | nil => rfl
  | cons x xs ih => rw [List.flatten_cons, List.sum_append, ih]; rfl
theorem flat2_len (n : Nat) (m : Nat → Nat) (f : Nat → Nat → PyData) (w : Nat) (h : ∀ i, i < n → m i ≤ w) : (flat2 n m f).length ≤ n * w := by
  induction n with
  | zero => exact Nat.zero_le _
  | succ n ih =>
    rw [flat2_succ, List.length_append, List.length_map, List.length_range, Nat.succ_mul]
    exact Nat.add_le_add (ih fun i hi => h i (by omega)) (h n (by omega))
theorem getD_il {a : Rows} {i : Nat} (h : i < a.length) : (a.map il).getD i .none = il (a.getD i []) := by
  rw [List.getD_eq_getElem?_getD, List.getElem?_map, List.getD_eq_getElem?_getD, List.getElem?_eq_getElem h]
  rfl
theorem getD_int {r : List Int} {j : Nat} (h : j < r.length) : (r.map PyData.int).getD j .none = .int (r.getD j 0) := by
  rw [List.getD_eq_getElem?_getD, List.getElem?_map, List.getD_eq_getElem?_getD, List.getElem?_eq_getElem h]
  rfl
theorem Pc.lenD {a : Rows} {h w : Nat} (p : Pc a h w) {i : Nat} (hi : i < h) : (a.getD i []).length = w := by
  have hl : i < a.length := by rw [p.lh]; exact hi
  rw [List.getD_eq_getElem?_getD, List.getElem?_eq_getElem hl]
  exact p.len (List.getElem_mem hl)
def R_dif : List PyData → PyData → Prop := fun ds x => ∃ (a b : Rows) (h w : Nat), ds = [pic a, pic b] ∧ Pc a h w ∧ Pc b h w ∧ x = .int (dif a b)

/-! ### kinds and ways -/
def kinds : List (Str × List (Nat × Nat)) := [("plain", [(0, 0)]), ("half", [(0, 0), (2, 0)]), ("turn", [(0, 0), (1, 0), (2, 0), (3, 0)]), ("mirror", [(0, 0), (0, 1)]), ("both", [(0, 0), (2, 0), (0, 1), (2, 1)]), ("all", [(0, 0), (1, 0), (2, 0), (3, 0), (0, 1), (1, 1), (2, 1), (3, 1)])]
def wayP (p : Nat × Nat) : PyData := wayD p.1 p.2
def waysL : List (Str × PyData) := kinds.map fun p => (p.1, .tuple (p.2.map wayP))
theorem ways_ok : ∀ p ∈ kinds, 0 < p.2.length ∧ p.2.length ≤ 8 ∧ ∀ q ∈ p.2, q.1 ≤ 3 ∧ q.2 ≤ 1 := by decide +kernel
theorem ways_at {kind : Str} {ws : List (Nat × Nat)} (h : (kind, ws) ∈ kinds) : (kind, PyData.tuple (ws.map wayP)) ∈ waysL := List.mem_map.mpr ⟨(kind, ws), h, rfl⟩
/-- the picture moved by the i-th way, and how far it is -/
def movW (b : Rows) (p : Nat × Nat) : Rows := mov b p.1 p.2
def apD (a b : Rows) (ws : List (Nat × Nat)) (i : Nat) : Int := dif a (movW b (ws.getD i (0, 0)))
/-- kinds that this size may have: each moved picture is of the size -/
structure Fit2 (a b : Rows) (kind : Str) (ws : List (Nat × Nat)) (h w : Nat) : Prop where
  kd : (kind, ws) ∈ kinds
  pa : Pc a h w
  pb : Pc b h w
  sz : ∀ p ∈ ws, Pc (movW b p) h w
def apX (a b : Rows) (ws : List (Nat × Nat)) (i : Nat) : PyData := .tuple [.int (apD a b ws i), wayP (ws.getD i (0, 0))]
def R_apart : List PyData → PyData → Prop := fun ds x => ∃ (a b : Rows) (kind : Str) (ws : List (Nat × Nat)) (h w i : Nat), ds = [pic a, pic b, .str kind] ∧ Fit2 a b kind ws h w ∧ FirstMin ws.length (apD a b ws) i ∧ x = apX a b ws i
def fars (a b : Rows) (ws : List (Nat × Nat)) : List PyData := ws.map fun p => .tuple [.int (dif a (movW b p)), wayP p]
theorem fars_at {a b : Rows} {ws : List (Nat × Nat)} {j : Nat} {x : PyData} (h : (fars a b ws)[j]? = some x) : x = apX a b ws j := by
  unfold fars at h
  rw [List.getElem?_map] at h
  unfold apX apD
  rw [List.getD_eq_getElem?_getD]
  cases e : ws[j]? with
  | none => rw [e] at h; cases h
  | some p =>
    rw [e] at h
    cases h
    rfl
theorem fars_of {a b : Rows} {ws : List (Nat × Nat)} {i : Nat} (h : i < ws.length) : (fars a b ws)[i]? = some (apX a b ws i) := by
  cases e : (fars a b ws)[i]? with
  | none =>
    rw [List.getElem?_eq_none_iff, fars, List.length_map] at e
    omega
  | some x => rw [fars_at e]

/-! ### the law's frame of a shelf: what it is -/
/-- a size, and a kind that it may have -/
structure Frame (h w : Nat) (kind : Str) (ws : List (Nat × Nat)) : Prop where
  h1 : 1 ≤ h
  h2 : h ≤ 16
  w1 : 1 ≤ w
  w2 : w ≤ 16
  kd : (kind, ws) ∈ kinds
  sq : h = w ∨ ∀ p ∈ ws, p.1 % 2 = 0
theorem Frame.pcW {h w : Nat} {kind : Str} {ws : List (Nat × Nat)} (f : Frame h w kind ws) {rows : Rows} (p : Pc rows h w) {q : Nat × Nat} (hq : q ∈ ws) : Pc (movW rows q) h w := by
  have m := p.mov q.2 q.1
  show Pc (mov rows q.1 q.2) h w
  rcases f.sq with e | e
  · subst e
    simpa using m
  · have := e q hq
    rw [if_pos this, if_pos this] at m
    exact m
theorem Frame.fit {h w : Nat} {kind : Str} {ws : List (Nat × Nat)} (f : Frame h w kind ws) {a b : Rows} (pa : Pc a h w) (pb : Pc b h w) : Fit2 a b kind ws h w := ⟨f.kd, pa, pb, fun _ hq => f.pcW pb hq⟩

/-! ### likeshelf.pictures: width -/
section
variable {P : Program} {w : World} {K : PySem.W.Frag} {mg : Str → Option Value} {base : Heap}
def R_width : List PyData → PyData → Prop := fun ds x => ∃ rows : Rows, ds = [pic rows] ∧ x = .int ((rows.headD []).length : Nat)
theorem ok_width (T : Tx K mg) : FnOk P w K mg base CX0 1 T.a_width T.d_width ["rows"] (spP K R_width) := Fun.pure T.F_width sc_width (by rintro ds x ⟨rows, rfl, _⟩; rfl) fun cdv A outer s H E hr => ⟨_, ((pss_one (ps_ret (pe_ifExp (pt_truthK (K := K) rfl (pv 0) (fun _ => rfl)) (pe_callB (cr_lenK (K := K) rfl) (by rfl) T.m_len bt_len (pa_cons (pe_ix (ix_UK (K := K) rfl) (pv 0) pe_int (fun _ _ => rfl)) pa_nil)) pe_int)))), fun ds x h => by
  obtain ⟨rows, rfl, rfl⟩ := h
  exact .inl (run_ret (ev_ifE (eb_truL (ds := rows.map il) (ev_var rfl)) (fun e => ev_wid (rows := rows) (ev_var rfl) fun z => by
    rw [z] at e
    cases e) fun e => Ev.is ev_int (by
    cases rows with
    | nil => rfl
    | cons r rs => cases e)))⟩
theorem ev_width {γ : Gm} {te : TE} {E : XK} {rows : Rows} (h : Ev K γ te (pic rows)) : Ev K γ (tCall (spP K R_width) [] E (tCons te tNil)) (.int ((rows.headD []).length : Nat)) := ev_call (ea_cons h ea_nil) ⟨rows, rfl, rfl⟩
end

/-! ### likeshelf.pictures: copied, mirrored, turned, moved -/
section
variable {P : Program} {w : World} {K : PySem.W.Frag} {mg : Str → Option Value} {base : Heap}
def R_copied : List PyData → Rows → Prop := fun ds x => ∃ rows : Rows, ds = [pic rows] ∧ rows.length ≤ 1000000 ∧ x = rows
theorem ok_copied (T : Tx K mg) : FnOk P w K mg base CX0 1 T.a_copied T.d_copied ["rows"] (spM K R_copied) := Fun.mat T.F_copied sc_copied (by rintro ds x ⟨rows, rfl, _⟩; rfl) fun cdv A outer s H E hr => ⟨_, ((pss_one (ps_ret (pe_lc (own := [("row", 1)]) (g := (gName 1)) (by rfl) sc_copied.nd (pi_listK (K := K) rfl (pv 0)) (blkOk_by (N := ["rows", "row"]) (sc := (defScope s_copied)) (scope := ls_43_11) (own := [("row", 1)]) (by decide +kernel)) (fun _ _ _ _ _ => (pg_name (i := 1) sc_copied.nd rfl (by first | exact .inl rfl | exact .inr rfl))) (fun _ _ _ _ _ => pts_nil) (fun _ _ _ _ _ => (pe_callTy (cr_listK (K := K) rfl) (by rfl) T.m_list bt_list (pa_cons (pv 1) pa_nil))))))), fun ds x h => by
  obtain ⟨rows, rfl, hz, rfl⟩ := h
  exact rm_ret ((em_lcM (f := fun r => r) (ev_var rfl) hz (by decide) fun r _ => ei_list (ev_var rfl)).is (List.map_id' _))⟩
end

/-! ### what the lambda of apart wants -/
structure Aw (K : PySem.W.Frag) (mg : Str → Option Value) (w : World) (base : Heap) (T : Tx K mg) (c P : Addr) : Prop where
  ways : GlobD K w T.a_WAYS waysL
  tb : LamX.TabB base mg c P
  code : T.d_apart.code = .ref c
  tabs : (P, ("apart.<locals>." : Str) ++ "<lambda>") ∈ Tbs.tabs
  uniq : ∀ q ∈ Tbs.tabs, q.1 = P → q.2 = ("apart.<locals>." : Str) ++ "<lambda>"

/-! ### shelves: their data -/
/-- the cells are from 0 to 255 -/
def Cel (rows : Rows) : Prop := ∀ r ∈ rows, ∀ c ∈ r, 0 ≤ c ∧ c ≤ 255
def sideB (n : Int) : Bool := decide (1 ≤ n) && decide (n ≤ 16)
def cellB (c : Int) : Bool := decide (0 ≤ c) && decide (c ≤ 255)
def rowB (w : Nat) (r : List Int) : Bool := decide (r.length = w) && r.all cellB
def picB (rows : Rows) : Bool := sideB rows.length && sideB (wid rows : Nat) && rows.all (rowB (wid rows))
/-- a picture of a shelf's size -/
structure P8 (rows : Rows) (h w : Nat) : Prop where
  pc : Pc rows h w
  cl : Cel rows
theorem P8.pic {rows : Rows} {h w : Nat} (p : P8 rows h w) (h2 : h ≤ 16) (w2 : w ≤ 16) : picB rows = true := by
  have h1 := p.pc.h1
  have w1 := p.pc.w1
  unfold picB sideB
  rw [p.pc.lh, p.pc.wid, decide_eq_true (show (1 : Int) ≤ (h : Int) by omega), decide_eq_true (show (h : Int) ≤ 16 by omega), decide_eq_true (show (1 : Int) ≤ (w : Int) by omega), decide_eq_true (show (w : Int) ≤ 16 by omega)]
  simp only [Bool.and_self, Bool.true_and]
  rw [List.all_eq_true]
  intro r hr
  unfold rowB
  rw [decide_eq_true (p.pc.len hr), Bool.true_and, List.all_eq_true]
  intro c hc
  obtain ⟨a, b⟩ := p.cl r hr c hc
  unfold cellB
  rw [decide_eq_true a, decide_eq_true b]
  rfl
abbrev Kp := List (Str × Rows)
def keptD (es : Kp) : List (PyData × PyData) := es.map fun p => (.str p.1, pic p.2)
def shX (C : Addr) (h w : Nat) (k : Str) (d : PyData) : PyData := insD C [(.str "high", .int (h : Int)), (.str "wide", .int (w : Int)), (.str "kind", .str k), (.str "_kept", d)]
def getK (es : Kp) (x : Str) : Option Rows := (es.find? fun p => decide (p.1 = x)).map (·.2)
theorem lk_high {h w k d : PyData} : lkD [(.str "high", h), (.str "wide", w), (.str "kind", k), (.str "_kept", d)] (.inr "high") = some h := lkD_pos (by decide +kernel)
theorem lk_wide {h w k d : PyData} : lkD [(.str "high", h), (.str "wide", w), (.str "kind", k), (.str "_kept", d)] (.inr "wide") = some w := (lkD_neg (by decide +kernel)).trans (lkD_pos (by decide +kernel))
theorem lk_kind {h w k d : PyData} : lkD [(.str "high", h), (.str "wide", w), (.str "kind", k), (.str "_kept", d)] (.inr "kind") = some k := (lkD_neg (by decide +kernel)).trans ((lkD_neg (by decide +kernel)).trans (lkD_pos (by decide +kernel)))
theorem lk_kept {h w k d : PyData} : lkD [(.str "high", h), (.str "wide", w), (.str "kind", k), (.str "_kept", d)] (.inr "_kept") = some d := (lkD_neg (by decide +kernel)).trans ((lkD_neg (by decide +kernel)).trans ((lkD_neg (by decide +kernel)).trans (lkD_pos (by decide +kernel))))
theorem lk_none4 {h w k d : PyData} {m : Str} (h1 : kEq (.str "high") (.inr m) = false) (h2 : kEq (.str "wide") (.inr m) = false) (h3 : kEq (.str "kind") (.inr m) = false) (h4 : kEq (.str "_kept") (.inr m) = false) : lkD [(.str "high", h), (.str "wide", w), (.str "kind", k), (.str "_kept", d)] (.inr m) = none := (lkD_neg h1).trans ((lkD_neg h2).trans ((lkD_neg h3).trans ((lkD_neg h4).trans rfl)))
theorem fp_1 {h : PyData} : putFD "high" h [] = [(.str "high", h)] := rfl
theorem fp_ne {f g : Str} {d x : PyData} {r : List (PyData × PyData)} (h : kEq (.str g) (.inr f) = false) : putFD f d ((.str g, x) :: r) = (.str g, x) :: putFD f d r := by
  rw [putFD, if_neg (by rw [h]; exact Bool.false_ne_true)]
theorem fp_2 {h w : PyData} : putFD "wide" w [(.str "high", h)] = [(.str "high", h), (.str "wide", w)] := by
  rw [fp_ne (by decide +kernel)]
  rfl
theorem fp_3 {h w k : PyData} : putFD "kind" k [(.str "high", h), (.str "wide", w)] = [(.str "high", h), (.str "wide", w), (.str "kind", k)] := by
  rw [fp_ne (by decide +kernel), fp_ne (by decide +kernel)]
  rfl
theorem fp_4 {h w k d : PyData} : putFD "_kept" d [(.str "high", h), (.str "wide", w), (.str "kind", k)] = [(.str "high", h), (.str "wide", w), (.str "kind", k), (.str "_kept", d)] := by
  rw [fp_ne (by decide +kernel), fp_ne (by decide +kernel), fp_ne (by decide +kernel)]
  rfl
theorem kept_ob (es : Kp) : isOb (.dict (keptD es)) = false := by
  cases es <;> rfl
theorem lk_keptD (es : Kp) (x : Str) : lkD (keptD es) (.inr x) = (getK es x).map pic := by
  induction es with
  | nil => rfl
  | cons p r ih =>
    obtain ⟨n, rows⟩ := p
    by_cases e : n = x
    · have : lkD (keptD ((n, rows) :: r)) (.inr x) = some (pic rows) := lkD_pos (decide_eq_true e)
      rw [this]
      unfold getK
      rw [List.find?_cons, decide_eq_true e]
      rfl
    · have : lkD (keptD ((n, rows) :: r)) (.inr x) = lkD (keptD r) (.inr x) := lkD_neg (decide_eq_false e)
      rw [this, ih]
      unfold getK
      rw [List.find?_cons, decide_eq_false e]
theorem getK_none {es : Kp} {x : Str} : getK es x = none ↔ x ∉ es.map (·.1) := by
  unfold getK
  rw [Option.map_eq_none_iff, List.find?_eq_none]
  constructor
  · intro h m
    obtain ⟨p, hp, e⟩ := List.mem_map.mp m
    exact h p hp (decide_eq_true e)
  · intro h p hp e
    exact h (List.mem_map.mpr ⟨p, hp, of_decide_eq_true e⟩)
theorem getK_of {es : Kp} (nd : (es.map (·.1)).Nodup) {x : Str} {rows : Rows} (h : (x, rows) ∈ es) : getK es x = some rows := by
  induction es with
  | nil => cases h
  | cons p r ih =>
    rw [List.map_cons, List.nodup_cons] at nd
    unfold getK
    rw [List.find?_cons]
    rcases List.mem_cons.mp h with e | e
    · subst e
      rw [decide_eq_true rfl]
      rfl
    · have : p.1 ≠ x := fun z => nd.1 (z ▸ List.mem_map_of_mem (f := fun q : Str × Rows => q.1) e)
      rw [decide_eq_false this]
      exact ih nd.2 e
theorem put_keptD {es : Kp} {x : Str} {rows : Rows} (h : getK es x = none) : putD (keptD es) (.inr x) (pic rows) = keptD (es ++ [(x, rows)]) := by
  unfold putD
  have : ((keptD es).any fun p => kEq p.1 (.inr x)) = false := by
    rw [List.any_eq_false]
    intro p hp e
    obtain ⟨q, hq, e2⟩ := List.mem_map.mp hp
    subst e2
    exact getK_none.mp h (List.mem_map.mpr ⟨q, hq, of_decide_eq_true e⟩)
  rw [this]
  unfold keptD
  rw [List.map_append]
  rfl
theorem drop_keptD (es : Kp) (x : Str) : dropD (keptD es) (.inr x) = keptD (es.filter fun p => !decide (p.1 = x)) := by
  unfold dropD keptD
  rw [List.filter_map]
  rfl
/-- names of one to eight small letters -/
def lowB (c : Nat) : Bool := (!decide (([c] : List Nat) < [97])) && (!decide (([122] : List Nat) < [c]))
def nameB (s : Str) : Bool := (decide ((1 : Int) ≤ s.length) && decide ((s.length : Int) ≤ 8)) && (List.range s.cps.size).all fun i => lowB (s.cps.getD i 0)

/-! ### likeshelf.pictures, likeshelf.shelves: what is a picture, a name, a shelf -/
section
variable {P : Program} {w : World} {K : PySem.W.Frag} {mg : Str → Option Value} {base : Heap} {c tP : Addr}
def R_side : List PyData → PyData → Prop := fun ds x => ∃ n : Int, ds = [.int n] ∧ x = .bool (sideB n)
theorem ok_can_be_side (T : Tx K mg) : FnOk P w K mg base CX0 1 T.a_can_be_side T.d_can_be_side ["number"] (spP K R_side) := Fun.pure T.F_can_be_side sc_can_be_side (by rintro ds x ⟨n, rfl, _⟩; rfl) fun cdv A outer s H E hr => ⟨_, ((pss_one (ps_ret (pe_chain op_le op_le pe_int (pv 0) (pe_glob (v := .int 16) (by rfl) T.g_MOST_SIDE ⟨_, rfl⟩))))), fun ds x h => by
  obtain ⟨n, rfl, rfl⟩ := h
  exact .inl (run_ret (ev_chain ev_int (ev_var rfl) (eo_I0 fun _ _ => .bl _) (fun _ => ev_int) fun _ => eo_I0 fun _ _ => .bl _))⟩
theorem ev_side {γ : Gm} {te : TE} {E : XK} {n : Int} (h : Ev K γ te (.int n)) : Ev K γ (tCall (spP K R_side) [] E (tCons te tNil)) (.bool (sideB n)) := ev_call (ea_cons h ea_nil) ⟨n, rfl, rfl⟩
def R_cell : List PyData → PyData → Prop := fun ds x => ∃ n : Int, ds = [.int n] ∧ x = .bool (cellB n)
theorem ok_is_cell (T : Tx K mg) : FnOk P w K mg base CX0 1 T.a_is_cell T.d_is_cell ["number"] (spP K R_cell) := Fun.pure T.F_is_cell sc_is_cell (by rintro ds x ⟨n, rfl, _⟩; rfl) fun cdv A outer s H E hr => ⟨_, ((pss_one (ps_ret (pe_chain op_le op_le pe_int (pv 0) (pe_glob (v := .int 255) (by rfl) T.g_MOST_CELL ⟨_, rfl⟩))))), fun ds x h => by
  obtain ⟨n, rfl, rfl⟩ := h
  exact .inl (run_ret (ev_chain ev_int (ev_var rfl) (eo_I0 fun _ _ => .bl _) (fun _ => ev_int) fun _ => eo_I0 fun _ _ => .bl _))⟩
def R_isPic : List PyData → PyData → Prop := fun ds x => ∃ rows : Rows, ds = [pic rows] ∧ rows.length ≤ 1000000 ∧ (∀ r ∈ rows, r.length ≤ 1000000) ∧ x = .bool (picB rows)
theorem ok_is_picture (T : Tx K mg) : FnOk P w K mg base CX0 2 T.a_is_picture T.d_is_picture ["rows"] (spP K R_isPic) := Fun.pure T.F_is_picture sc_is_picture (by rintro ds x ⟨n, rfl, _⟩; rfl) fun cdv A outer s H E hr => ⟨_, ((pss_cons (ps_set (i := 1) sc_is_picture.nd rfl (by first | exact .inl rfl | exact .inr rfl) (pe_call (ok_width T) (hr.mono (by first | decide | omega)) (by rfl) T.g_width T.F_width.kp T.b_width .nil pass0 (pa_cons (pv 0) pa_nil)))
    (pss_cons (ps_if (PW.pt (pw_or (pt_not (pt_val (pe_call (ok_can_be_side T) (hr.mono (by first | decide | omega)) (by rfl) T.g_can_be_side T.F_can_be_side.kp T.b_can_be_side .nil pass0 (pa_cons (pe_callB (cr_lenK (K := K) rfl) (by rfl) T.m_len bt_len (pa_cons (pv 0) pa_nil)) pa_nil)))) (pw_or1 (pt_not (pt_val (pe_call (ok_can_be_side T) (hr.mono (by first | decide | omega)) (by rfl) T.g_can_be_side T.F_can_be_side.kp T.b_can_be_side .nil pass0 (pa_cons (pv 1) pa_nil))))))) (pss_one (ps_ret pe_bl)) pss_nil)
    (pss_one (ps_ret (pe_callB (cr_allK (K := K) rfl rfl) (by rfl) T.m_all bt_all (pa_cons (pe_lc (own := [("row", 2)]) (g := (gName 2)) (by rfl) sc_is_picture.nd (pi_listK (K := K) rfl (pv 0)) (blkOk_by (N := ["rows", "wide", "row", "cell"]) (sc := (defScope s_is_picture)) (scope := ls_34_15) (own := [("row", 2)]) (by decide +kernel)) (fun _ _ _ _ _ => (pg_name (i := 2) sc_is_picture.nd rfl (by first | exact .inl rfl | exact .inr rfl))) (fun _ _ _ _ _ => pts_nil) (fun _ _ _ _ _ => (pe_and (pe_cmpR (op_eqDK (K := K) rfl hr.units) (pe_callB (cr_lenK (K := K) rfl) (by rfl) T.m_len bt_len (pa_cons (pv 2) pa_nil)) (pv 1) (nomark _)) (pe_one (pe_callB (cr_allK (K := K) rfl rfl) (by rfl) T.m_all bt_all (pa_cons (pe_lc (own := [("cell", 3)]) (g := (gName 3)) (by rfl) sc_is_picture.nd (pi_listK (K := K) rfl (pv 2)) (blkOk_by (N := ["rows", "wide", "row", "cell"]) (sc := ls_34_15r) (scope := ls_34_41) (own := [("cell", 3)]) (by decide +kernel)) (fun _ _ _ _ _ => (pg_name (i := 3) sc_is_picture.nd rfl (by first | exact .inl rfl | exact .inr rfl))) (fun _ _ _ _ _ => pts_nil) (fun _ _ _ _ _ => (pe_call (ok_is_cell T) (hr.mono (by first | decide | omega)) (by rfl) T.g_is_cell T.F_is_cell.kp T.b_is_cell .nil pass0 (pa_cons (pv 3) pa_nil)))) pa_nil)))))) pa_nil))))))), fun ds x h => by
  obtain ⟨rows, rfl, hl, hl2, rfl⟩ := h
  refine .inl (run_seq (run_set (ev_width (ev_var rfl))) ?_)
  have t1 : EvB K [some (pic rows), some (.int ((rows.headD []).length : Nat)), none, none] (tOr (tNot (tTest (tCall (spP K R_side) [] E (tCons (tCB (rLenU K) (tCons (tVar 0) tNil)) tNil)))) (tNot (tTest (tCall (spP K R_side) [] E (tCons (tVar 1) tNil))))) (!sideB rows.length || !sideB (wid rows : Nat)) :=
    eb_or (eb_not (eb_test (ev_side (ev_lenM (g := il) (rs := rows) (ev_var rfl))))) fun _ => eb_not (eb_test (ev_side (ev_var rfl)))
  cases hs : (!sideB rows.length || !sideB (wid rows : Nat)) with
  | true =>
    have e : picB rows = false := by
      unfold picB
      cases h1 : sideB rows.length <;> cases h2 : sideB (wid rows : Nat) <;> first | rfl | (rw [h1, h2] at hs; cases hs)
    rw [e]
    exact run_seqR (run_if1 t1 hs (run_ret ev_bl))
  | false =>
    have e : picB rows = rows.all (rowB (wid rows)) := by
      unfold picB
      cases h1 : sideB rows.length <;> cases h2 : sideB (wid rows : Nat) <;> first | rfl | (rw [h1, h2] at hs; cases hs)
    rw [e]
    refine run_seq (run_if0 t1 hs run_next) (run_ret (Ev.is (ev_cb (ea_cons (Ev.is (ev_lcM (g := il) (f := fun r => .bool (rowB (wid rows) r)) (ev_var rfl) hl (by decide) fun r hr => ?_) ?_) ea_nil) (ec_all (bs := rows.map (rowB (wid rows))))) ?_))
    · refine ev_andV ((ev_op (ev_lenM (g := PyData.int) (rs := r) (ev_var rfl)) (ev_var rfl) (eo_eqD rfl rfl)).is (by rw [eqv_nat]; rfl)) fun _ => ?_
      exact (ev_cb (ea_cons (Ev.is (ev_lcM (g := PyData.int) (f := fun c => .bool (cellB c)) (rs := r) (ev_var rfl) (hl2 r hr) (by decide) fun c hc => ev_call (ea_cons (ev_var rfl) ea_nil) ⟨c, rfl, rfl⟩) (by rw [List.map_map]; rfl)) ea_nil) (ec_all (bs := r.map cellB))).is (by rw [List.all_map]; rfl)
    · rw [List.map_map]
      rfl
    · rw [List.all_map]
      rfl⟩
def R_needX : List PyData → PyData → Prop := fun ds x => ∃ rows : Rows, ds = [pic rows] ∧ rows.length ≤ 1000000 ∧ (∀ r ∈ rows, r.length ≤ 1000000) ∧ picB rows = true ∧ x = .none
def X_need (C : Addr) : List PyData → Addr → Prop := fun ds D => ∃ rows : Rows, ds = [pic rows] ∧ rows.length ≤ 1000000 ∧ (∀ r ∈ rows, r.length ≤ 1000000) ∧ picB rows = false ∧ D = C
theorem ok_need_picture (T : Tx K mg) : FnOk P w K mg base (L2N.CX P w) 3 T.a_need_picture T.d_need_picture ["rows"] (spPX K R_needX (X_need T.a_BadPicture)) := Fun.pureX T.F_need_picture sc_need_picture (by rintro ds x ⟨n, rfl, _⟩; rfl) (by rintro ds x ⟨n, rfl, _⟩; rfl) fun cdv A outer s H E hr => ⟨_, ((pss_one (ps_if (pt_not (pt_val (pe_call (ok_is_picture T) (hr.mono (by first | decide | omega)) (by rfl) T.g_is_picture T.F_is_picture.kp T.b_is_picture .nil pass0 (pa_cons (pv 0) pa_nil)))) (pss_one (L2N.ps_raise rfl (L2N.takes_of rfl rfl rfl rfl) (LKH.pmk_ownN PySem.F.excBase_ValueError T.x_BadPicture T.g_BadPicture T.kc_BadPicture (raises_own T.bp_BadPicture T.ty_BadPicture) (by rfl) (pa_cons pe_str pa_nil)))) pss_nil))), fun ds x h => by
  obtain ⟨rows, rfl, hl, hl2, hp, rfl⟩ := h
  exact .inr ⟨rfl, _, run_if0 (eb_not (eb_B (ev_call (x := .bool true) (ea_cons (ev_var rfl) ea_nil) ⟨rows, rfl, hl, hl2, by rw [hp]⟩))) rfl run_next⟩, fun ds C h => by
  obtain ⟨rows, rfl, hl, hl2, hp, rfl⟩ := h
  exact rz_if1 (EvB.is (b := !false) (eb_not (eb_B (ev_call (x := .bool false) (ea_cons (ev_var rfl) ea_nil) ⟨rows, rfl, hl, hl2, by rw [hp]⟩))) rfl) (rz_raise (ea_cons ev_str ea_nil))⟩
def R_needOf : List PyData → PyData → Prop := fun ds x => ∃ (rows : Rows) (h w : Nat), ds = [pic rows, .int (h : Int), .int (w : Int)] ∧ P8 rows h w ∧ h ≤ 16 ∧ w ≤ 16 ∧ x = .none
theorem P8.lens {rows : Rows} {h w : Nat} (p : P8 rows h w) : rows.length ≤ 1000000 ∧ ∀ r ∈ rows, r.length ≤ 1000000 := ⟨p.pc.big, fun r hr => by
  have := p.pc.w2
  rw [p.pc.len hr]
  omega⟩
def X_needOf (C : Addr) : List PyData → Addr → Prop := fun ds D => ∃ (rows : Rows) (h w : Nat), ds = [pic rows, .int (h : Int), .int (w : Int)] ∧ rows.length ≤ 1000000 ∧ (∀ r ∈ rows, r.length ≤ 1000000) ∧ picB rows = false ∧ D = C
theorem ok_need_picture_of (T : Tx K mg) : FnOk P w K mg base (L2N.CX P w) 4 T.a_need_picture_of T.d_need_picture_of ["rows", "high", "wide"] (spPX K R_needOf (X_needOf T.a_BadPicture)) := Fun.pureX T.F_need_picture_of sc_need_picture_of (by rintro ds x ⟨n, _, _, rfl, _⟩; rfl) (by rintro ds x ⟨n, _, _, rfl, _⟩; rfl) fun cdv A outer s H E hr => ⟨_, ((pss_cons (ps_expr (pe_call (ok_need_picture T) (hr.mono (by first | decide | omega)) (by rfl) T.g_need_picture T.F_need_picture.kp T.b_need_picture .nil (L2N.passes_call (L2N.takes_of rfl rfl rfl rfl) (fun _ _ _ _ h => h)) (pa_cons (pv 0) pa_nil)))
    (pss_one (ps_if (PW.pt (pw_or (pt_cmpR (op_neDK (K := K) rfl hr.units) (pe_callB (cr_lenK (K := K) rfl) (by rfl) T.m_len bt_len (pa_cons (pv 0) pa_nil)) (pv 1) (nomark _)) (pw_or1 (pt_cmpR (op_neDK (K := K) rfl hr.units) (pe_call (ok_width T) (hr.mono (by first | decide | omega)) (by rfl) T.g_width T.F_width.kp T.b_width .nil pass0 (pa_cons (pv 0) pa_nil)) (pv 2) (nomark _))))) pss_never pss_nil)))), fun ds x hx => by
  obtain ⟨rows, h, wd, rfl, p, h2, w2, rfl⟩ := hx
  refine .inr ⟨rfl, _, run_seq (run_drop (ev_callX (x := .none) (ea_cons (ev_var rfl) ea_nil) ⟨rows, rfl, p.lens.1, p.lens.2, p.pic h2 w2, rfl⟩)) (run_if0 (b := false || false) (eb_or (EvB.is (eb_test (ev_op (ev_lenM (g := il) (rs := rows) (ev_var rfl)) (ev_var rfl) (eo_neD rfl rfl))) ?_) fun _ => EvB.is (eb_test (ev_op (ev_width (rows := rows) (ev_var rfl)) (ev_var rfl) (eo_neD rfl rfl))) ?_) rfl run_next)⟩
  · rw [eqv_nat, p.pc.lh, decide_eq_true rfl]
    rfl
  · rw [eqv_nat, p.pc.hd, decide_eq_true rfl]
    rfl, fun ds C hx => by
  obtain ⟨rows, h, wd, rfl, l1, l2, nb, rfl⟩ := hx
  exact rz_seq1 (rz_drop (ex_call (ea_cons (ev_var rfl) ea_nil) ⟨rows, rfl, l1, l2, nb, rfl⟩))⟩
def R_isName : List PyData → PyData → Prop := fun ds x => ∃ s : Str, ds = [.str s] ∧ s.length ≤ 1000000 ∧ x = .bool (nameB s)
theorem ok_is_name (T : Tx K mg) : FnOk P w K mg base CX0 1 T.a_is_name T.d_is_name ["name"] (spP K R_isName) := Fun.pure T.F_is_name sc_is_name (by rintro ds x ⟨n, rfl, _⟩; rfl) fun cdv A outer s H E hr => ⟨_, ((pss_one (ps_ret (pe_and (pe_chain op_le op_le pe_int (pe_callB cr_lenS (by rfl) T.m_len bt_len (pa_cons (pv 0) pa_nil)) (pe_glob (v := .int 8) (by rfl) T.g_MOST_LETTERS ⟨_, rfl⟩)) (pe_one (pe_callB (cr_allK (K := K) rfl rfl) (by rfl) T.m_all bt_all (pa_cons (pe_lc (own := [("letter", 1)]) (g := (gName 1)) (by rfl) sc_is_name.nd (pi_str (pv 0)) (blkOk_by (N := ["name", "letter"]) (sc := (defScope s_is_name)) (scope := ls_106_50) (own := [("letter", 1)]) (by decide +kernel)) (fun _ _ _ _ _ => (pg_name (i := 1) sc_is_name.nd rfl (by first | exact .inl rfl | exact .inr rfl))) (fun _ _ _ _ _ => pts_nil) (fun _ _ _ _ _ => (pe_chain op_leS op_leS pe_str (pv 1) pe_str))) pa_nil))))))), fun ds x h => by
  obtain ⟨s, rfl, hl, rfl⟩ := h
  refine .inl (run_ret (ev_andV (ev_chain ev_int (ev_cb (ea_cons (ev_var rfl) ea_nil) (ec_lenS hl)) (eo_I0 fun _ _ => .bl _) (fun _ => ev_int) fun _ => eo_I0 fun _ _ => .bl _) fun _ => ?_))
  refine Ev.is (ev_cb (ea_cons (Ev.is (ev_lcG (b := fun _ => true) (f := fun i => .bool (lowB (s.cps.getD i 0))) (γ' := fun i => [some (.str s), some (.str ⟨#[s.cps.getD i 0]⟩)]) (ew_str (ev_var rfl)) hl (gin_name (by decide)) (fun i hi => eg_name) (fun i hi => eb_yes) fun i hi _ => ?_) ?_) ea_nil) (ec_all (bs := (List.range s.cps.size).map fun i => lowB (s.cps.getD i 0)))) ?_
  · exact ev_chain ev_str (ev_var rfl) eo_leS (fun _ => ev_str) fun _ => eo_leS
  · rw [given_all, List.map_map]
    rfl
  · rw [List.all_map]
    rfl⟩
def R_kindFits : List PyData → PyData → Prop := fun ds x => ∃ (h w : Nat) (kind : Str) (ws : List (Nat × Nat)), ds = [.str kind, .int (h : Int), .int (w : Int)] ∧ Frame h w kind ws ∧ x = .bool true
theorem kind_sq : ∀ p ∈ kinds, (∀ q ∈ p.2, q.1 % 2 = 0) → inV (.str p.1) [.str "turn", .str "all"] = false := by decide +kernel
theorem ok_kind_fits (T : Tx K mg) (W : Aw K mg w base T c tP) : FnOk P w K mg base CX0 1 T.a_kind_fits T.d_kind_fits ["kind", "high", "wide"] (spP K R_kindFits) := Fun.pure T.F_kind_fits sc_kind_fits (by rintro ds x ⟨_, _, _, _, rfl, _⟩; rfl) fun cdv A outer s H E hr => ⟨_, ((pss_one (ps_ret (pe_and (pe_cmpR (op_in_kdK (K := K) (w := w) rfl rfl W.ways.kd) (pv 0) (pe_glob (v := .ref T.a_WAYS) (by rfl) T.g_WAYS rfl) (by rfl)) (pe_one (pe_or (pe_cmpR (op_eqDK (K := K) rfl hr.units) (pv 1) (pv 2) (nomark _)) (pe_one (pe_cmpR (op_notInK (K := K) rfl) (pv 0) (pe_glob (v := .ref T.a_SQUARE_KINDS) (by rfl) T.g_SQUARE_KINDS rfl) (by rfl))))))))), fun ds x hx => by
  obtain ⟨h, wd, kind, ws, rfl, fr, rfl⟩ := hx
  refine .inl (run_ret (ev_andV (a := true) (b := true) (ev_inD W.ways (ev_var rfl) (ways_at fr.kd)) fun _ => Ev.is (ev_orV (a := decide (h = wd)) (b := true) ((ev_op (ev_var rfl) (ev_var rfl) (eo_eqD rfl rfl)).is (by rw [eqv_nat])) fun e => Ev.is (ev_op (ev_var rfl) (ev_c T.v_SQUARE_KINDS) eo_notInT2) ?_) (by rw [Bool.or_true])))
  have hs := fr.sq.resolve_left (of_decide_eq_false e)
  rw [kind_sq _ fr.kd hs]
  rfl⟩
def R_canBe : List PyData → PyData → Prop := fun ds x => ∃ (h w : Nat) (kind : Str) (ws : List (Nat × Nat)), ds = [.int (h : Int), .int (w : Int), .str kind] ∧ Frame h w kind ws ∧ x = .bool true
theorem side_of {n : Nat} (h1 : 1 ≤ n) (h2 : n ≤ 16) : sideB n = true := by
  unfold sideB
  rw [decide_eq_true (show (1 : Int) ≤ (n : Int) by omega), decide_eq_true (show (n : Int) ≤ 16 by omega)]
  rfl
theorem ok_can_be_shelf (T : Tx K mg) (W : Aw K mg w base T c tP) : FnOk P w K mg base CX0 2 T.a_can_be_shelf T.d_can_be_shelf ["high", "wide", "kind"] (spP K R_canBe) := Fun.pure T.F_can_be_shelf sc_can_be_shelf (by rintro ds x ⟨_, _, _, _, rfl, _⟩; rfl) fun cdv A outer s H E hr => ⟨_, ((pss_one (ps_ret (pe_and (pe_call (ok_can_be_side T) (hr.mono (by first | decide | omega)) (by rfl) T.g_can_be_side T.F_can_be_side.kp T.b_can_be_side .nil pass0 (pa_cons (pv 0) pa_nil)) (pe_and (pe_call (ok_can_be_side T) (hr.mono (by first | decide | omega)) (by rfl) T.g_can_be_side T.F_can_be_side.kp T.b_can_be_side .nil pass0 (pa_cons (pv 1) pa_nil)) (pe_one (pe_call (ok_kind_fits T W) (hr.mono (by first | decide | omega)) (by rfl) T.g_kind_fits T.F_kind_fits.kp T.b_kind_fits .nil pass0 (pa_cons (pv 2) (pa_cons (pv 0) (pa_cons (pv 1) pa_nil)))))))))), fun ds x hx => by
  obtain ⟨h, wd, kind, ws, rfl, fr, rfl⟩ := hx
  exact .inl (run_ret (ev_andV (a := true) (b := true) ((ev_side (ev_var rfl)).is (by rw [side_of fr.h1 fr.h2])) fun _ => ev_andV (a := true) (b := true) ((ev_side (ev_var rfl)).is (by rw [side_of fr.w1 fr.w2])) fun _ => ev_call (ea_cons (ev_var rfl) (ea_cons (ev_var rfl) (ea_cons (ev_var rfl) ea_nil))) ⟨h, wd, kind, ws, rfl, fr, rfl⟩))⟩
/-- a new shelf -/
def PreInit (C : Addr) : List PyData → Rho → Prop := fun ds ρ => ∃ (x : Addr) (h w : Nat) (kind : Str) (ws : List (Nat × Nat)), ds = [rf x, .int (h : Int), .int (w : Int), .str kind] ∧ ρ = [(x, .ins C [])] ∧ Frame h w kind ws
def R_init (C : Addr) : List PyData → Rho → PyData → Rho → Prop := fun ds ρ y ρ' => ∃ (x : Addr) (h w : Nat) (kind : Str) (q : Addr), ds = [rf x, .int (h : Int), .int (w : Int), .str kind] ∧ y = .none ∧ ρ' = [(x, .ins C [(.str "high", .int (h : Int)), (.str "wide", .int (w : Int)), (.str "kind", .str kind), (.str "_kept", rf q)]), (q, .dct [])]
theorem ok_init (T : Tx K mg) (W : Aw K mg w base T c tP) : FnOk P w K mg base CX0 3 T.a_ShelfD_initD T.d_ShelfD_initD ["self", "high", "wide", "kind"] (spW K (PreInit T.a_Shelf) (R_init T.a_Shelf)) := Fun.own T.F_ShelfD_initD sc_ShelfD_initD (by rintro ds ρ ⟨_, _, _, _, _, rfl, _⟩; rfl) fun cdv A outer s H E hr => ⟨_, ((pss_cons (ps_if (pt_not (pt_val (pe_call (ok_can_be_shelf T W) (hr.mono (by first | decide | omega)) (by rfl) T.g_can_be_shelf T.F_can_be_shelf.kp T.b_can_be_shelf .nil pass0 (pa_cons (pv 1) (pa_cons (pv 2) (pa_cons (pv 3) pa_nil)))))) pss_never pss_nil)
    (pss_cons (ps_fldK (K := K) rfl (pv 0) (pv 1) rfl)
    (pss_cons (ps_fldK (K := K) rfl (pv 0) (pv 2) rfl)
    (pss_cons (ps_fldK (K := K) rfl (pv 0) (pv 3) rfl)
    (pss_one (ps_fldK (K := K) rfl (pv 0) pe_dnewK rfl))))))), fun ds ρ hx => by
  obtain ⟨x, h, wd, kind, ws, rfl, rfl, fr⟩ := hx
  refine rr_seq (rr_if0 View.refl (P := []) (eb_not (eb_B (ev_call (x := .bool true) (ea_cons (ev_var rfl) (ea_cons (ev_var rfl) (ea_cons (ev_var rfl) ea_nil))) ⟨h, wd, kind, ws, rfl, fr, rfl⟩))) (rr_next (N := fun g r => g = _ ∧ r = _) ⟨rfl, rfl⟩)) ?_
  rintro γ ρ ⟨rfl, rfl⟩
  refine rr_seq (rr_fld (n := 0) (er_pure (d := .int (h : Int)) (ev_var rfl)) (ev_var rfl) rfl T.cl_Shelf T.n_Shelf_high (by decide)) ?_
  rintro γ ρ ⟨_, ⟨rfl, _⟩, rfl, rfl⟩
  refine rr_seq (rr_fld (n := 0) (er_pure (d := .int (wd : Int)) (ev_var rfl)) (ev_var rfl) rfl T.cl_Shelf T.n_Shelf_wide (Nat.le_of_ble_eq_true rfl)) ?_
  rintro γ ρ ⟨_, ⟨rfl, _⟩, rfl, rfl⟩
  refine rr_seq (rr_fld (n := 0) (er_pure (d := .str kind) (ev_var rfl)) (ev_var rfl) rfl T.cl_Shelf T.n_Shelf_kind (by rw [fp_1, fp_2]; exact Nat.le_of_ble_eq_true rfl)) ?_
  rintro γ ρ ⟨_, ⟨rfl, _⟩, rfl, rfl⟩
  refine rr_mono (rr_fldD (n := 0) (ev_var rfl) rfl T.cl_Shelf T.n_Shelf__kept (by rw [fp_1, fp_2, fp_3]; exact Nat.le_of_ble_eq_true rfl)) ?_ fun _ _ h => h
  rintro γ ρ ⟨q, rfl, rfl⟩
  refine ⟨_, ⟨x, h, wd, kind, q, rfl, rfl, rfl⟩, ?_, ?_⟩
  · rw [fp_1, fp_2, fp_3, fp_4]
    exact List.Sublist.refl _
  · intro p hp
    have : p = x := by simpa [dom] using hp
    subst this
    exact List.mem_cons_self⟩
abbrev shD (C : Addr) (h w : Nat) (k : Str) (es : Kp) : PyData := shX C h w k (.dict (keptD es))
abbrev shR (C : Addr) (h w : Nat) (k : Str) (q : Addr) : PyData := shX C h w k (rf q)
def R_names (C : Addr) : List PyData → PyData → Prop := fun ds x => ∃ (h w : Nat) (k : Str) (es : Kp), ds = [shD C h w k es] ∧ x = .list (es.map fun p => .str p.1)
theorem ev_kept {γ : Gm} {te : TE} {C : Addr} {h w : Nat} {k : Str} {d : PyData} (hs : Ev K γ te (shX C h w k d)) (c : Cls K C) (n : NoAttr K C "_kept") : Ev K γ (tFld K te "_kept") d := ev_fld hs c n lk_kept
theorem ok_names (T : Tx K mg) : FnOk P w K mg base CX0 1 T.a_Shelf_names T.d_Shelf_names ["self"] (spP K (R_names T.a_Shelf)) := Fun.pure T.F_Shelf_names sc_Shelf_names (by rintro ds x ⟨_, _, _, _, rfl, _⟩; rfl) fun cdv A outer s H E hr => ⟨_, ((pss_one (ps_ret (pe_callTy (cr_lisD rfl) (by rfl) T.m_list bt_list (pa_cons (pe_fldK (K := K) rfl (pv 0) rfl) pa_nil))))), fun ds x hx => by
  obtain ⟨h, wd, k, es, rfl, rfl⟩ := hx
  exact .inl (run_ret ((ev_cb (ea_cons (ev_kept (ev_var rfl) T.cl_Shelf T.n_Shelf__kept) ea_nil) (ec_lisD (kept_ob es))).is (by rw [keptD, List.map_map]; rfl)))⟩
end

/-! ### what refuses a picture that is none -/
section
variable {P : Program} {w : World} {K : PySem.W.Frag} {mg : Str → Option Value} {base : Heap} {c tP : Addr}
def NoPic (rows : Rows) : Prop := rows.length ≤ 1000000 ∧ (∀ r ∈ rows, r.length ≤ 1000000) ∧ picB rows = false
def X_putX (Cs C : Addr) : List PyData → Addr → Prop := fun ds D => ∃ (h w : Nat) (k : Str) (n : Str) (rows : Rows), ds = [shD Cs h w k [], .str n, pic rows] ∧ nameB n = true ∧ NoPic rows ∧ D = C
theorem nameB_len {s : Str} (h : nameB s = true) : s.length ≤ 1000000 := by
  unfold nameB at h
  have h := (Bool.and_eq_true_iff.mp (Bool.and_eq_true_iff.mp h).1).2
  have h := of_decide_eq_true h
  omega
theorem ok_putX (T : Tx K mg) : FnOk P w K mg base (L2N.CX P w) 5 T.a_Shelf_put T.d_Shelf_put ["self", "name", "rows"] (spPX K (fun _ _ => False) (X_putX T.a_Shelf T.a_BadPicture)) := Fun.pureX T.F_Shelf_put sc_Shelf_put (fun _ _ h => h.elim) (by rintro ds C ⟨_, _, _, _, _, rfl, _⟩; rfl) fun cdv A outer s H E hr => ⟨_, ((pss_cons (ps_if (pt_not (pt_val (pe_call (ok_is_name T) (hr.mono (by first | decide | omega)) (by rfl) T.g_is_name T.F_is_name.kp T.b_is_name .nil pass0 (pa_cons (pv 1) pa_nil)))) pss_never pss_nil)
    (pss_cons (ps_if (pt_cmp (pc_din (hu_of hr) (pv 1) (pe_fldK (K := K) rfl (pv 0) rfl))) pss_never pss_nil)
    (pss_cons (ps_expr (pe_call (ok_need_picture_of T) (hr.mono (by first | decide | omega)) (by rfl) T.g_need_picture_of T.F_need_picture_of.kp T.b_need_picture_of .nil (L2N.passes_call (L2N.takes_of rfl rfl rfl rfl) (fun _ _ _ _ h => h)) (pa_cons (pv 2) (pa_cons (pe_fldK (K := K) rfl (pv 0) rfl) (pa_cons (pe_fldK (K := K) rfl (pv 0) rfl) pa_nil)))))
    (pss_cons (ps_if (pt_cmpR op_ge (pe_callB cr_lenD (by rfl) T.m_len bt_len (pa_cons (pe_fldK (K := K) rfl (pv 0) rfl) pa_nil)) (pe_glob (v := .int 60) (by rfl) T.g_MOST_PICTURES ⟨_, rfl⟩) (nomark _)) pss_never pss_nil)
    (pss_one (ps_dput (hu_of hr) (pe_fldK (K := K) rfl (pv 0) rfl) (pv 1) (pe_call (ok_copied T) (hr.mono (by first | decide | omega)) (by rfl) T.g_copied T.F_copied.kp T.b_copied .nil pass0 (pa_cons (pv 2) pa_nil)) rfl))))))), fun _ _ h => h.elim, fun ds C hx => by
  obtain ⟨h, wd, k, n, rows, rfl, hn, nb, rfl⟩ := hx
  refine rz_seq (run_if0 (eb_not (eb_test (ev_call (x := .bool true) (ea_cons (ev_var rfl) ea_nil) ⟨n, rfl, nameB_len hn, by rw [hn]⟩))) rfl run_next) (rz_seq (run_if0 (eb_test ((ev_din (k := .inr n) (ev_kept (ev_var rfl) T.cl_Shelf T.n_Shelf__kept) (ev_var rfl) (kept_ob [])).is rfl)) rfl run_next) ?_)
  exact rz_seq1 (rz_drop (ex_call (ea_cons (ev_var rfl) (ea_cons (ev_fld (ev_var rfl) T.cl_Shelf T.n_Shelf_high lk_high) (ea_cons (ev_fld (ev_var rfl) T.cl_Shelf T.n_Shelf_wide lk_wide) ea_nil))) ⟨rows, h, wd, rfl, nb.1, nb.2.1, nb.2.2, rfl⟩))⟩
def X_room (C : Addr) : List PyData → Addr → Prop := fun ds D => ∃ a b : Rows, ds = [pic a, pic b] ∧ (NoPic a ∨ (picB a = true ∧ a.length ≤ 1000000 ∧ (∀ r ∈ a, r.length ≤ 1000000) ∧ NoPic b)) ∧ D = C
theorem ok_need_room (T : Tx K mg) : FnOk P w K mg base (L2N.CX P w) 4 T.a_need_room T.d_need_room ["rows", "little"] (spPX K (fun _ _ => False) (X_room T.a_BadPicture)) := Fun.pureX T.F_need_room sc_need_room (fun _ _ h => h.elim) (by rintro ds C ⟨_, _, rfl, _⟩; rfl) fun cdv A outer s H E hr => ⟨_, ((pss_cons (ps_expr (pe_call (ok_need_picture T) (hr.mono (by first | decide | omega)) (by rfl) T.g_need_picture T.F_need_picture.kp T.b_need_picture .nil (L2N.passes_call (L2N.takes_of rfl rfl rfl rfl) (fun _ _ _ _ h => h)) (pa_cons (pv 0) pa_nil)))
    (pss_cons (ps_expr (pe_call (ok_need_picture T) (hr.mono (by first | decide | omega)) (by rfl) T.g_need_picture T.F_need_picture.kp T.b_need_picture .nil (L2N.passes_call (L2N.takes_of rfl rfl rfl rfl) (fun _ _ _ _ h => h)) (pa_cons (pv 1) pa_nil)))
    (pss_one (ps_if (PW.pt (pw_or (pt_cmpR op_gt (pe_callB (cr_lenK (K := K) rfl) (by rfl) T.m_len bt_len (pa_cons (pv 1) pa_nil)) (pe_callB (cr_lenK (K := K) rfl) (by rfl) T.m_len bt_len (pa_cons (pv 0) pa_nil)) (nomark _)) (pw_or1 (pt_cmpR op_gt (pe_call (ok_width T) (hr.mono (by first | decide | omega)) (by rfl) T.g_width T.F_width.kp T.b_width .nil pass0 (pa_cons (pv 1) pa_nil)) (pe_call (ok_width T) (hr.mono (by first | decide | omega)) (by rfl) T.g_width T.F_width.kp T.b_width .nil pass0 (pa_cons (pv 0) pa_nil)) (nomark _))))) pss_never pss_nil))))), fun _ _ h => h.elim, fun ds C hx => by
  obtain ⟨a, b, rfl, h, rfl⟩ := hx
  rcases h with na | ⟨pa, l1, l2, nb⟩
  · exact rz_seq1 (rz_drop (ex_call (ea_cons (ev_var rfl) ea_nil) ⟨a, rfl, na.1, na.2.1, na.2.2, rfl⟩))
  · exact rz_seq (run_drop (ev_callX (x := .none) (ea_cons (ev_var rfl) ea_nil) ⟨a, rfl, l1, l2, pa, rfl⟩)) (rz_seq1 (rz_drop (ex_call (ea_cons (ev_var rfl) ea_nil) ⟨b, rfl, nb.1, nb.2.1, nb.2.2, rfl⟩)))⟩
def X_places (C : Addr) : List PyData → Addr → Prop := fun ds D => ∃ (a b : Rows) (sp : Int), ds = [pic a, pic b, .int sp] ∧ X_room C [pic a, pic b] D
theorem ok_places (T : Tx K mg) : FnOk P w K mg base (L2N.CX P w) 5 T.a_places T.d_places ["rows", "little", "span"] (spPX K (fun _ _ => False) (X_places T.a_BadPicture)) := Fun.pureX T.F_places sc_places (fun _ _ h => h.elim) (by rintro ds C ⟨_, _, _, rfl, _⟩; rfl) fun cdv A outer s H E hr => ⟨_, ((pss_cons (ps_expr (pe_call (ok_need_room T) (hr.mono (by first | decide | omega)) (by rfl) T.g_need_room T.F_need_room.kp T.b_need_room .nil (L2N.passes_call (L2N.takes_of rfl rfl rfl rfl) (fun _ _ _ _ h => h)) (pa_cons (pv 0) (pa_cons (pv 1) pa_nil))))
    (pss_cons (ps_par (i := 3) (j := 4) (by rfl) sc_places.nd rfl rfl (by decide) rfl rfl (pa_cons (pe_callB (cr_lenK (K := K) rfl) (by rfl) T.m_len bt_len (pa_cons (pv 1) pa_nil)) (pa_cons (pe_call (ok_width T) (hr.mono (by first | decide | omega)) (by rfl) T.g_width T.F_width.kp T.b_width .nil pass0 (pa_cons (pv 1) pa_nil)) pa_nil)) (by rfl))
    (pss_cons (ps_set (i := 5) sc_places.nd rfl (by first | exact .inl rfl | exact .inr rfl) (pe_call (FnOk.absurd (k := 0)) (hr.mono (by first | decide | omega)) (by rfl) T.g_sums T.F_sums.kp T.b_sums .nil pass0 (pa_cons (pv 0) pa_nil)))
    (pss_cons (ps_set (i := 6) sc_places.nd rfl (by first | exact .inl rfl | exact .inr rfl) (pe_ix (ix_UK (K := K) rfl) (pe_ix (ix_UK (K := K) rfl) (pe_call (FnOk.absurd (k := 0)) (hr.mono (by first | decide | omega)) (by rfl) T.g_sums T.F_sums.kp T.b_sums .nil pass0 (pa_cons (pv 1) pa_nil)) (pv 3) (fun _ _ => rfl)) (pv 4) (fun _ _ => rfl)))
    (pss_cons (ps_set (i := 7) sc_places.nd rfl (by first | exact .inl rfl | exact .inr rfl) (pe_lst pa_nil))
    (pss_cons (ps_set (i := 8) sc_places.nd rfl (by first | exact .inl rfl | exact .inr rfl) (pe_lst pa_nil))
    (pss_cons (ps_for (L2.passes_of rfl) rfl (pi_range1 (by rfl) T.m_range (pa_cons (pe_op op_add (pe_op op_sub (pe_callB (cr_lenK (K := K) rfl) (by rfl) T.m_len bt_len (pa_cons (pv 0) pa_nil)) (pv 3)) pe_int) pa_nil)) (pg_name (i := 9) sc_places.nd rfl (by first | exact .inl rfl | exact .inr rfl)) (pss_one (ps_for (L2.passes_of rfl) rfl (pi_range1 (by rfl) T.m_range (pa_cons (pe_op op_add (pe_op op_sub (pe_call (ok_width T) (hr.mono (by first | decide | omega)) (by rfl) T.g_width T.F_width.kp T.b_width .nil pass0 (pa_cons (pv 0) pa_nil)) (pv 4)) pe_int) pa_nil)) (pg_name (i := 10) sc_places.nd rfl (by first | exact .inl rfl | exact .inr rfl)) (pss_cons (ps_set (i := 11) sc_places.nd rfl (by first | exact .inl rfl | exact .inr rfl) (pe_callB cr_abs (by rfl) T.m_abs bt_abs (pa_cons (pe_op op_sub (pe_call (FnOk.absurd (k := 0)) (hr.mono (by first | decide | omega)) (by rfl) T.g_part_sum T.F_part_sum.kp T.b_part_sum .nil pass0 (pa_cons (pv 5) (pa_cons (pv 9) (pa_cons (pv 10) (pa_cons (pv 3) (pa_cons (pv 4) pa_nil)))))) (pv 6)) pa_nil)))
    (pss_cons (ps_if (pt_cmpR op_gt (pv 11) (pv 2) (nomark _)) (pss_cons (ps_expr (pe_bmK (K := K) rfl PySem.F.plainAttrs_list PySem.F.slot_list_append PySem.F.type_list_append mt_append (pv 8) (pa_cons (pe_tup (pa_cons (pv 9) (pa_cons (pv 10) (pa_cons (pv 11) pa_nil)))) pa_nil)))
    (pss_one ps_continue)) pss_nil)
    (pss_cons (ps_set (i := 12) sc_places.nd rfl (by first | exact .inl rfl | exact .inr rfl) (pe_call (FnOk.absurd (k := 0)) (hr.mono (by first | decide | omega)) (by rfl) T.g_difference T.F_difference.kp T.b_difference .nil pass0 (pa_cons (pe_call (FnOk.absurd (k := 0)) (hr.mono (by first | decide | omega)) (by rfl) T.g_part T.F_part.kp T.b_part .nil pass0 (pa_cons (pv 0) (pa_cons (pv 9) (pa_cons (pv 10) (pa_cons (pv 3) (pa_cons (pv 4) pa_nil)))))) (pa_cons (pv 1) pa_nil))))
    (pss_one (ps_if (pt_cmpR op_le (pv 12) (pv 2) (nomark _)) (pss_one (ps_expr (pe_bmK (K := K) rfl PySem.F.plainAttrs_list PySem.F.slot_list_append PySem.F.type_list_append mt_append (pv 7) (pa_cons (pe_tup (pa_cons (pv 9) (pa_cons (pv 10) (pa_cons (pv 12) pa_nil)))) pa_nil)))) pss_nil))))))))
    (pss_one (ps_ret (pe_tup (pa_cons (pv 7) (pa_cons (pv 8) pa_nil))))))))))))), fun _ _ h => h.elim, fun ds C hx => by
  obtain ⟨a, b, sp, rfl, h⟩ := hx
  exact rz_seq1 (rz_drop (ex_call (ea_cons (ev_var rfl) (ea_cons (ev_var rfl) ea_nil)) h))⟩
/-- the tree of a shelf without pictures -/
def R_hung0 (C : Addr) : List PyData → PyData → Prop := fun ds x => ∃ (h w : Nat) (k : Str), ds = [shD C h w k [], .list []] ∧ x = .none
theorem ok_hung0 (T : Tx K mg) : FnOk P w K mg base CX0 6 T.a_ShelfDhung T.d_ShelfDhung ["self", "names"] (spP K (R_hung0 T.a_Shelf)) := Fun.pure T.F_ShelfDhung sc_ShelfDhung (by rintro ds x ⟨_, _, _, rfl, _⟩; rfl) fun cdv A outer s H E hr => ⟨_, ((pss_cons (ps_if (pt_not (pt_truthK (K := K) rfl (pv 1) (fun _ => rfl))) (pss_one (ps_ret pe_non)) pss_nil)
    (pss_cons (ps_set (i := 2) sc_ShelfDhung.nd rfl (by first | exact .inl rfl | exact .inr rfl) (pe_ix (ix_UK (K := K) rfl) (pv 1) pe_int (fun _ _ => rfl)))
    (pss_cons (ps_set (i := 3) sc_ShelfDhung.nd rfl (by first | exact .inl rfl | exact .inr rfl) pe_dnewK)
    (pss_cons (ps_for PassesOwn.never rfl (pi_listK (K := K) rfl (pe_slice (sl_listK (K := K) rfl) (pv 1) (po_some pe_int) po_none)) (pg_name (i := 4) sc_ShelfDhung.nd rfl (by first | exact .inl rfl | exact .inr rfl)) (pss_cons (ps_asg (pe_call (FnOk.absurd (k := 0)) (hr.mono (by first | decide | omega)) (by rfl) T.g_apart T.F_apart.kp T.b_apart .nil pass0 (pa_cons (pe_dget (hu_of hr) (pe_fldK (K := K) rfl (pv 0) rfl) (pv 2) (fun _ _ => rfl)) (pa_cons (pe_dget (hu_of hr) (pe_fldK (K := K) rfl (pv 0) rfl) (pv 4) (fun _ _ => rfl)) (pa_cons (pe_fldK (K := K) rfl (pv 0) rfl) pa_nil)))) (pg_tupK (K := K) rfl rfl (pgs_cons (pg_name (i := 5) sc_ShelfDhung.nd rfl (by first | exact .inl rfl | exact .inr rfl)) (pgs_cons (pg_name (i := 6) sc_ShelfDhung.nd rfl (by first | exact .inl rfl | exact .inr rfl)) pgs_nil))))
    (pss_one (ps_expr (pe_bmK (K := K) rfl PySem.F.plainAttrs_list PySem.F.slot_list_append PySem.F.type_list_append mt_append (pe_dsetd (pv 3) (pv 5) (pe_lst pa_nil) ⟨rfl, rfl, rfl, rfl⟩) (pa_cons (pv 4) pa_nil))))))
    (pss_one (ps_ret (pe_tup (pa_cons (pv 2) (pa_cons (pe_lc (own := [("far", 5)]) (g := (gName 5)) (by rfl) sc_ShelfDhung.nd (pi_listK (K := K) rfl (pe_callB (cr_sortDI rfl) (by rfl) T.m_sorted bt_sorted (pa_cons (pv 3) pa_nil))) (blkOk_by (N := ["self", "names", "first", "by_far", "name", "far", "_"]) (sc := (defScope s_ShelfDhung)) (scope := ls_155_23) (own := [("far", 5)]) (by decide +kernel)) (fun _ _ _ _ _ => (pg_name (i := 5) sc_ShelfDhung.nd rfl (by first | exact .inl rfl | exact .inr rfl))) (fun _ _ _ _ _ => pts_nil) (fun _ _ _ _ _ => (pe_tup (pa_cons (pv 5) (pa_cons (pe_meth (pv 0) T.cl_Shelf T.mt_ShelfDhung (show FnOk P w K mg base CX0 0 T.a_ShelfDhung T.d_ShelfDhung ["self", "names"] (spP K fun _ _ => False) from FnOk.absurd) (hr.mono (by first | decide | omega)) T.b_ShelfDhung .nil pass0 (pa_cons (pe_dget (hu_of hr) (pv 3) (pv 5) (fun _ _ => rfl)) pa_nil)) pa_nil))))) pa_nil)))))))))), fun ds x hx => by
  obtain ⟨h, wd, k, rfl, rfl⟩ := hx
  exact .inl (run_seqR (run_if1 (eb_not (eb_truL (ds := []) (ev_var rfl))) rfl (run_ret ev_non)))⟩
def R_tree0 (C : Addr) : List PyData → PyData → Prop := fun ds x => ∃ (h w : Nat) (k : Str), ds = [shD C h w k []] ∧ x = .none
theorem nm_hung0 {h w k d : PyData} : lkD [(.str "high", h), (.str "wide", w), (.str "kind", k), (.str "_kept", d)] (.inr "_hung") = none := lk_none4 (by decide +kernel) (by decide +kernel) (by decide +kernel) (by decide +kernel)
theorem nm_tree0 {h w k d : PyData} : lkD [(.str "high", h), (.str "wide", w), (.str "kind", k), (.str "_kept", d)] (.inr "tree") = none := lk_none4 (by decide +kernel) (by decide +kernel) (by decide +kernel) (by decide +kernel)
theorem nm_names0 {h w k d : PyData} : lkD [(.str "high", h), (.str "wide", w), (.str "kind", k), (.str "_kept", d)] (.inr "names") = none := lk_none4 (by decide +kernel) (by decide +kernel) (by decide +kernel) (by decide +kernel)
theorem nm_put0 {h w k d : PyData} : lkD [(.str "high", h), (.str "wide", w), (.str "kind", k), (.str "_kept", d)] (.inr "put") = none := lk_none4 (by decide +kernel) (by decide +kernel) (by decide +kernel) (by decide +kernel)
theorem ok_Shelf_tree (T : Tx K mg) : FnOk P w K mg base CX0 7 T.a_Shelf_tree T.d_Shelf_tree ["self"] (spP K (R_tree0 T.a_Shelf)) := Fun.pure T.F_Shelf_tree sc_Shelf_tree (by rintro ds x ⟨_, _, _, rfl, _⟩; rfl) fun cdv A outer s H E hr => ⟨_, ((pss_one (ps_ret (pe_meth (pv 0) T.cl_Shelf T.mt_ShelfDhung (ok_hung0 T) (hr.mono (by first | decide | omega)) T.b_ShelfDhung .nil pass0 (pa_cons (pe_meth0 (pv 0) T.cl_Shelf T.mt_Shelf_names (ok_names T) (hr.mono (by first | decide | omega)) T.b_Shelf_names .nil pass0) pa_nil))))), fun ds x hx => by
  obtain ⟨h, wd, k, rfl, rfl⟩ := hx
  exact .inl (run_ret (ev_meth (x := .none) (ev_var rfl) nm_hung0 (ea_cons (ev_meth (x := .list []) (ev_var rfl) nm_names0 ea_nil ⟨h, wd, k, [], rfl, rfl⟩) ea_nil) ⟨h, wd, k, rfl, rfl⟩))⟩
end

/-! ### the law's dice -/
section
variable {P : Program} {w : World} {K : PySem.W.Frag} {mg : Str → Option Value} {base : Heap}
def spCell (K : PySem.W.Frag) : Sp := fun vs H Q _ => ∃ (a : Addr) (ns : List Int), vs = [.ref a, .int 0] ∧ SqL K H a (ns.map V.int) ∧ ∀ z, Q (.int z) H
theorem ok_law_cell (T : Tx K mg) : FnOk P w K mg base CX0 1 T.a_law_cell T.d_law_cell ["_law_script", "_law_k"] (spCell K) := T.F_law_cell.ok sc_law_cell (fun vs H Q E h => by
  obtain ⟨a, ns, rfl, _⟩ := h
  rfl) fun cdv A outer s H vs Q E hr h => by
  obtain ⟨a, ns, rfl, hS, q⟩ := h
  refine ⟨_, ((pss_cons (ps_if (pt_cmpR op_lt (pv 1) (pe_callB (cr_lenK (K := K) rfl) (by rfl) T.m_len bt_len (pa_cons (pv 0) pa_nil)) (nomark _)) (pss_one (ps_ret (pe_ix (ix_UK (K := K) rfl) (pv 0) (pv 1) (fun _ _ => rfl)))) pss_nil)
    (pss_one (ps_ret pe_int)))), ?_⟩
  refine ⟨.int 0, rfl, .ref a, rfl, a, _, rfl, .inl hS, 0, _, rfl, rfl, _, rfl, ite2 (fun e => ?_) fun e => ?_⟩
  · have h0 : (0 : Int) < ((ns.map V.int).length : Nat) := of_decide_eq_true e
    rw [List.length_map] at h0
    have hl : 0 < ns.length := by omega
    refine ⟨.ref a, rfl, .int 0, rfl, .inl ⟨a, _, 0, .int ns[0], rfl, rfl, hS, atI_nat (j := 0) ?_, q _⟩⟩
    rw [List.getElem?_map, List.getElem?_eq_getElem hl]
    rfl
  · exact q 0
def spMkDice (K : PySem.W.Frag) : Sp := fun vs H Q _ => ∃ (a : Addr) (ns : List Int), vs = [.ref a, .int 0] ∧ SqL K H a (ns.map V.int) ∧ ns.length ≤ 63 ∧ ∀ d H2, Ext H H2 → Nt H d → Dice H2 d → Q (.ref d) H2
theorem ok_law_dice (T : Tx K mg) : FnOk P w K mg base CX0 2 T.a_law_dice T.d_law_dice ["_law_script", "_law_k"] (spMkDice K) := T.F_law_dice.ok sc_law_dice (fun vs H Q E h => by
  obtain ⟨a, ns, rfl, _⟩ := h
  rfl) fun cdv A outer s H vs Q E hr h => by
  obtain ⟨a, ns, rfl, hS, hn, q⟩ := h
  refine ⟨_, ((pss_one (ps_ret (pe_op op_cat (pe_lst (pa_cons (pe_op op_mod (pe_callB cr_abs (by rfl) T.m_abs bt_abs (pa_cons (pe_call (ok_law_cell T) (hr.mono (by first | decide | omega)) (by rfl) T.g_law_cell T.F_law_cell.kp T.b_law_cell .nil pass0 (pa_cons (pv 0) (pa_cons (pv 1) pa_nil))) pa_nil)) pe_int) (pa_cons pe_int pa_nil))) (pe_lc (own := [("_law_cell_here", 2)]) (g := (gName 2)) (by rfl) sc_law_dice.nd (pi_listK (K := K) rfl (pv 0)) (blkOk_by (N := ["_law_script", "_law_k", "_law_cell_here"]) (sc := (defScope s_law_dice)) (scope := ls_162_67) (own := [("_law_cell_here", 2)]) (by decide +kernel)) (fun _ _ _ _ _ => (pg_name (i := 2) sc_law_dice.nd rfl (by first | exact .inl rfl | exact .inr rfl))) (fun _ _ _ _ _ => (pts_one (pt_cmpR op_ge (pv 2) (pe_op op_pow pe_int pe_int) (nomark _)))) (fun _ _ _ _ _ => (pv 2))))))), ?_⟩
  refine ⟨.ref a, rfl, .int 0, rfl, a, ns, rfl, hS, fun z => ?_⟩
  refine ⟨z, rfl, _, _, rfl, rfl, (by show (0 : Int) < 2147483647; decide), ?_⟩
  refine ⟨by show 2 ≤ sizeLine; decide, fun p hp => ?_⟩
  generalize hz : (if z < 0 then -z else z) = y
  have y0 : 0 ≤ y := by split at hz <;> omega
  have s1 : Ext H (upd H p (.lst [.int (y % 2147483647), .int 0])) := same_new hp
  have hS1 := s1.seq hS
  refine ⟨.ref a, rfl, a, rfl, ⟨_, hS1⟩, fun D hD => ?_⟩
  have nDp : D ≠ p := fun e => by
    rw [e, upd_same] at hD
    cases hD
  refine lc_list (xs := ns.map V.int) (fun i H' => ∃ ms : List Int, Ext (upd H p (.lst [.int (y % 2147483647), .int 0])) H' ∧ H' D = some (.lst (ms.map V.int)) ∧ ms.length ≤ i ∧ ∀ m ∈ ms, 0 ≤ m) ⟨[], same_new hD, upd_same, Nat.le_refl _, fun m hm => by cases hm⟩ (fun i H' _ pv => ?_) (fun i x H' hx pv => ⟨rfl, ?_⟩) fun H' pv => ?_
  · obtain ⟨ms, e, _⟩ := pv
    exact e.seq hS1
  · obtain ⟨ms, e, eD, hl, hm⟩ := pv
    rw [List.getElem?_map] at hx
    cases hk : ns[i]? with
    | none =>
      rw [hk] at hx
      cases hx
    | some m =>
      rw [hk] at hx
      cases hx
      have hi := (List.getElem?_eq_some_iff.mp hk).1
      refine ⟨.int m, rfl, 10, 18, rfl, rfl, ⟨by decide, by decide, by decide⟩, m, (10 : Int) ^ (18 : Int).toNat, rfl, rfl, _, rfl, ite2 (fun g => ?_) fun g => ?_⟩
      · have gm : (10 : Int) ^ (18 : Int).toNat ≤ m := of_decide_eq_true g
        refine ⟨.int m, rfl, ms.map V.int, eD, sz_lt (by rw [List.length_map]; omega), ms ++ [m], same_mut e (.of hD) eD, ?_, by rw [List.length_append]; simp; omega, fun k hk => ?_⟩
        · rw [upd_same, List.map_append]
          rfl
        · rcases List.mem_append.mp hk with hk | hk
          · exact hm k hk
          · rw [List.mem_singleton.mp hk]
            have : (0 : Int) ≤ (10 : Int) ^ (18 : Int).toNat := by decide
            omega
      · exact ⟨ms, e, eD, by omega, hm⟩
  · obtain ⟨ms, e, eD, hl, hm⟩ := pv
    rw [List.length_map] at hl
    refine ⟨p, D, _, _, rfl, rfl, e.lst upd_same, eD, sz_of (by rw [List.length_map]; show 2 + ms.length ≤ _; omega), fun d hd => ?_⟩
    refine q d _ ((s1.trans e).trans (same_new hd)) ((s1.trans e).nt (.of hd)) ⟨(y % 2147483647) :: 0 :: ms, ?_, ⟨_, _, _, rfl, by omega, by omega, by omega, hm, by omega⟩⟩
    rw [upd_same]
    rfl
theorem ok_law_off (T : Tx K mg) : FnOk P w K mg base CX0 1 T.a_law_off T.d_law_off ["_law_d", "_law_most"] (spD K PreOff R_off) := T.F_law_off.ok sc_law_off (fun vs H Q E h => by
  obtain ⟨S, d, us, ds, rfl, h1, _, _, _, ⟨m, rfl, _⟩, _⟩ := h
  rw [List.length_cons, h1.len]
  rfl) fun cdv A outer s H vs Q E hr h => by
  obtain ⟨S, d, us, ds, rfl, h1, n, fr, ⟨ns, hd, dc⟩, ⟨m, rfl, m0, m1⟩, q⟩ := h
  obtain ⟨u, rfl, hu⟩ := h1.one_inv
  have eu := hu.int_inv
  subst eu
  obtain ⟨a, b, rest, rfl, a0, a1, b0, r0, rl⟩ := dc
  refine ⟨_, ((pss_cons (ps_if (PW.pt (pw_and (pt_cmpR (op_eqDK (K := K) rfl hr.units) (pe_ix (ix_UK (K := K) rfl) (pv 0) pe_int (fun _ _ => rfl)) pe_int (nomark _)) (pw_and1 (pt_cmpR op_gt (pe_callB (cr_lenK (K := K) rfl) (by rfl) T.m_len bt_len (pa_cons (pv 0) pa_nil)) pe_int (nomark _))))) (pss_one (ps_asg (pe_bmK (K := K) rfl PySem.F.plainAttrs_list PySem.F.slot_list_pop PySem.F.type_list_pop mt_popAt (pv 0) (pa_cons pe_int pa_nil)) (pg_sub (pv 0) pe_int set_list))) pss_nil)
    (pss_cons (ps_if (pt_cmpR op_gt (pe_ix (ix_UK (K := K) rfl) (pv 0) pe_int (fun _ _ => rfl)) pe_int (nomark _)) (pss_cons (ps_set (i := 2) sc_law_off.nd rfl (by first | exact .inl rfl | exact .inr rfl) (pe_op op_mod (pe_ix (ix_UK (K := K) rfl) (pv 0) pe_int (fun _ _ => rfl)) (pv 1)))
    (pss_cons (ps_asg (pe_op op_fdiv (pe_ix (ix_UK (K := K) rfl) (pv 0) pe_int (fun _ _ => rfl)) (pv 1)) (pg_sub (pv 0) pe_int set_list))
    (pss_one (ps_ret (pv 2))))) pss_nil)
    (pss_cons (ps_asg (pe_op op_mod (pe_op op_add (pe_op op_mul (pe_ix (ix_UK (K := K) rfl) (pv 0) pe_int (fun _ _ => rfl)) pe_int) pe_int) pe_int) (pg_sub (pv 0) pe_int set_list))
    (pss_one (ps_ret (pe_op op_mod (pe_op op_fdiv (pe_ix (ix_UK (K := K) rfl) (pv 0) pe_int (fun _ _ => rfl)) pe_int) (pv 1)))))))), ?_⟩
  -- the rest, from a state in which the second number is told
  have tail : ∀ (b : Int) (rest : List Int) (H1 : Hp), 0 ≤ b → (∀ r ∈ rest, 0 ≤ r) → rest.length ≤ 100 → ChD d H H1 → H1 d = some (.lst ((a :: b :: rest).map V.int)) →
      (tSeq (tIfS (tTest (tOp (rI0 fun i j => .bl (decide (j < i))) (tOp (rIxU K) (tVar 0) (tC (.int 1))) (tC (.int 0)))) (tSeq (tAsg (tOp (rI (fun _ j => 0 < j) fun i j => .int (i % j)) (tOp (rIxU K) (tVar 0) (tC (.int 1))) (tVar 1)) (gName 2)) (tSeq (tAsg (tOp (rI CDiv fun i j => .int (i / j)) (tOp (rIxU K) (tVar 0) (tC (.int 1))) (tVar 1)) (gSub (tVar 0) (tC (.int 1)) rSetL)) (tRet (tVar 2)))) tNext)
        (tSeq (tAsg (tOp (rI (fun _ j => 0 < j) fun i j => .int (i % j)) (tOp (rI0 fun i j => .int (i + j)) (tOp (rI CMul fun i j => .int (i * j)) (tOp (rIxU K) (tVar 0) (tC (.int 0))) (tC (.int 48271))) (tC (.int 11))) (tC (.int 2147483647))) (gSub (tVar 0) (tC (.int 0)) rSetL))
          (tRet (tOp (rI (fun _ j => 0 < j) fun i j => .int (i % j)) (tOp (rI CDiv fun i j => .int (i / j)) (tOp (rIxU K) (tVar 0) (tC (.int 0))) (tC (.int 64))) (tVar 1))))) { nx := fun _ H' => Q .non H', rt := Q } [some (.ref d), some (.int m), none] H1 := by
    intro b rest H1 b0 r0 rl c1 h1
    have at0 : ∀ {H : Hp} {x y : Int} {l : List Int}, H d = some (.lst ((x :: y :: l).map V.int)) → SqL K H d ((x :: y :: l).map V.int) := fun h => .inl (.inl h)
    refine ⟨.ref d, rfl, .inl ⟨d, _, 1, .int b, rfl, rfl, at0 h1, atI_nat (j := 1) rfl, b, 0, rfl, rfl, _, rfl, ite2 (fun e => ?_) fun e => ?_⟩⟩
    · have hb : 0 < b := of_decide_eq_true e
      refine ⟨.ref d, rfl, .inl ⟨d, _, 1, .int b, rfl, rfl, at0 h1, atI_nat (j := 1) rfl, .int m, rfl, b, m, rfl, rfl, m0, ?_⟩⟩
      refine ⟨.ref d, rfl, .inl ⟨d, _, 1, .int b, rfl, rfl, at0 h1, atI_nat (j := 1) rfl, .int m, rfl, b, m, rfl, rfl, ⟨m0, m1⟩, ?_⟩⟩
      refine ⟨.ref d, rfl, d, _, 1, 1, rfl, rfl, h1, ixN_nat (j := 1) (by simp), ?_⟩
      refine ⟨.int (b % m), rfl, ?_⟩
      refine q _ (.int (b % m)) _ ⟨m, b % m, rfl, rfl, Int.emod_nonneg _ (by omega), Int.emod_lt_of_pos _ m0⟩ (c1.trans (.upd h1)) ⟨a :: (b / m) :: rest, by rw [upd_same]; rfl, ⟨_, _, _, rfl, a0, a1, Int.ediv_nonneg b0 (by omega), r0, rl⟩⟩ (.int _)
    · refine ⟨.ref d, rfl, .inl ⟨d, _, 0, .int a, rfl, rfl, at0 h1, atI_nat (j := 0) rfl, a, 48271, rfl, rfl, .inl ⟨by omega, by omega⟩, a * 48271, 11, rfl, rfl, _, 2147483647, rfl, rfl, (by show (0 : Int) < 2147483647; decide), ?_⟩⟩
      refine ⟨.ref d, rfl, d, _, 0, 0, rfl, rfl, h1, ixN_nat (j := 0) (by simp), ?_⟩
      have y0 : 0 ≤ (a * 48271 + 11) % 2147483647 := by omega
      have y1 : (a * 48271 + 11) % 2147483647 < 2147483647 := by omega
      have h2 : (upd H1 d (.lst ((((a :: b :: rest).map V.int)).set 0 (.int ((a * 48271 + 11) % 2147483647))))) d = some (.lst (((a * 48271 + 11) % 2147483647 :: b :: rest).map V.int)) := by
        rw [upd_same]
        rfl
      refine ⟨.ref d, rfl, .inl ⟨d, _, 0, .int ((a * 48271 + 11) % 2147483647), rfl, rfl, at0 h2, atI_nat (j := 0) rfl, (a * 48271 + 11) % 2147483647, 64, rfl, rfl, ⟨by decide, by decide⟩, .int m, rfl, ((a * 48271 + 11) % 2147483647) / 64, m, rfl, rfl, m0, ?_⟩⟩
      exact q _ (.int (((a * 48271 + 11) % 2147483647) / 64 % m)) _ ⟨m, _, rfl, rfl, Int.emod_nonneg _ (by omega), Int.emod_lt_of_pos _ m0⟩ (c1.trans (.upd h1)) ⟨_, h2, ⟨_, _, _, rfl, y0, y1, b0, r0, rl⟩⟩ (.int _)
  have hl : SqL K H d ((a :: b :: rest).map V.int) := .inl (.inl hd)
  refine ⟨.ref d, rfl, .inl ⟨d, _, 1, .int b, rfl, rfl, hl, atI_nat (j := 1) rfl, .int b, .int 0, .int b, .int 0, rfl, rfl, _, rfl, ite2 (fun e => ?_) fun e => ?_⟩⟩
  · have eb : b = 0 := of_decide_eq_true (show decide (b = 0) = true from e)
    subst eb
    refine ⟨.ref d, rfl, d, _, rfl, .inl hl, _, 2, rfl, rfl, _, rfl, ite2 (fun e => ?_) fun e => ?_⟩
    · have e2 : (2 : Int) < (((a :: 0 :: rest).map V.int).length : Nat) := of_decide_eq_true e
      cases rest with
      | nil =>
        simp at e2
      | cons r rs =>
        have hk : seqIndex? 2 ((a :: 0 :: r :: rs).map V.int).length = some 2 := seqIndex_of (by omega) (by simp; omega)
        refine ⟨.ref d, rfl, .inl ⟨rfl, _, hl⟩, d, _, 2, 2, .int r, rfl, rfl, hd, by decide, by decide, hk, rfl, .ref d, rfl, d, _, 1, 1, rfl, rfl, upd_same, ixN_nat (j := 1) (by simp [List.eraseIdx]), ?_⟩
        have rr : ∀ k ∈ rs, 0 ≤ k := fun k hk => r0 k (List.mem_cons_of_mem _ hk)
        have rl' : rs.length ≤ 100 := by
          rw [List.length_cons] at rl
          omega
        refine tail r rs _ (r0 r List.mem_cons_self) rr rl' (ChD.trans (.upd hd) (.upd upd_same)) ?_
        rw [upd_same]
        rfl
    · exact tail 0 rest H b0 r0 rl .refl hd
  · exact tail b rest H b0 r0 rl .refl hd
end

/-! ### the law's drawn pictures -/
/-- cells from 0 to 255 -/
def Cl (rows : Rows) : Prop := ∀ r ∈ rows, ∀ c ∈ r, 0 ≤ c ∧ c < 256
theorem Pc.of {rows : Rows} {h w : Nat} (r : Rect rows h w) (h1 : 1 ≤ h) (h2 : h ≤ 100) (w1 : 1 ≤ w) (w2 : w ≤ 100) : Pc rows h w := ⟨r, h1, h2, w1, w2⟩
section
variable {P : Program} {w : World} {K : PySem.W.Frag} {mg : Str → Option Value} {base : Heap}
def PreCells : List PyData → Prop := fun ds => ∃ h w : Nat, ds = [.int (h : Int), .int (w : Int)] ∧ h ≤ 1000 ∧ w ≤ 1000
def R_cells : List PyData → PyData → Prop := fun ds x => ∃ (h w : Nat) (rows : Rows), ds = [.int (h : Int), .int (w : Int)] ∧ x = pic rows ∧ Rect rows h w ∧ Cl rows
theorem ok_law_cells (T : Tx K mg) : FnOk P w K mg base CX0 2 T.a_law_cells T.d_law_cells ["_law_d", "_law_high", "_law_wide"] (spD K PreCells R_cells) := Fun.draws T.F_law_cells sc_law_cells (by rintro ds ⟨h, w, rfl, _⟩; rfl) fun cdv A outer s H E hr => ⟨_, ((pss_cons (ps_set (i := 3) sc_law_cells.nd rfl (by first | exact .inl rfl | exact .inr rfl) (pe_ix (ix_UK (K := K) rfl) (pe_lst (pa_cons pe_int (pa_cons pe_int (pa_cons pe_int pa_nil)))) (pe_call (ok_law_off T) (hr.mono (by first | decide | omega)) (by rfl) T.g_law_off T.F_law_off.kp T.b_law_off .nil pass0 (pa_cons (pv 0) (pa_cons pe_int pa_nil))) (fun _ _ => rfl)))
    (pss_one (ps_ret (pe_lc (own := [("_law_at", 4)]) (g := (gName 4)) (by rfl) sc_law_cells.nd (pi_range1 (by rfl) T.m_range (pa_cons (pv 1) pa_nil)) (blkOk_by (N := ["_law_d", "_law_high", "_law_wide", "_law_most", "_law_at", "_law_k"]) (sc := (defScope s_law_cells)) (scope := ls_174_11) (own := [("_law_at", 4)]) (by decide +kernel)) (fun _ _ _ _ _ => (pg_name (i := 4) sc_law_cells.nd rfl (by first | exact .inl rfl | exact .inr rfl))) (fun _ _ _ _ _ => pts_nil) (fun _ _ _ _ _ => (pe_lc (own := [("_law_k", 5)]) (g := (gName 5)) (by rfl) sc_law_cells.nd (pi_range1 (by rfl) T.m_range (pa_cons (pv 2) pa_nil)) (blkOk_by (N := ["_law_d", "_law_high", "_law_wide", "_law_most", "_law_at", "_law_k"]) (sc := ls_174_11r) (scope := ls_174_12) (own := [("_law_k", 5)]) (by decide +kernel)) (fun _ _ _ _ _ => (pg_name (i := 5) sc_law_cells.nd rfl (by first | exact .inl rfl | exact .inr rfl))) (fun _ _ _ _ _ => pts_nil) (fun _ _ _ _ _ => (pe_call (ok_law_off T) (hr.mono (by first | decide | omega)) (by rfl) T.g_law_off T.F_law_off.kp T.b_law_off .nil pass0 (pa_cons (pv 0) (pa_cons (pv 3) pa_nil))))))))))), fun ds hx => by
  obtain ⟨h, w, rfl, h1, w1⟩ := hx
  refine rn_seq (rn_set (C := fun x => ∃ m : Int, x = .int m ∧ 0 < m ∧ m ≤ 256) (en_op (en_pure (ev_lst (ea_cons ev_int (ea_cons ev_int (ea_cons ev_int ea_nil))))) (fun x _ => en_off ev_int (by decide) (by decide)) ?_)) ?_
  · rintro x y rfl ⟨r, rfl, r0, r1⟩
    have : r = 0 ∨ r = 1 ∨ r = 2 := by omega
    rcases this with rfl | rfl | rfl
    · exact ⟨.int 2, eo_ixUL rfl, 2, rfl, by decide, by decide⟩
    · exact ⟨.int 4, eo_ixUL rfl, 4, rfl, by decide, by decide⟩
    · exact ⟨.int 256, eo_ixUL rfl, 256, rfl, by decide, by decide⟩
  · rintro γ' ⟨x, ⟨m, rfl, m0, m1⟩, rfl⟩
    refine rn_ret (EvN.mono (en_lcR (m := h) (C := fun _ x => ∃ r : List Int, x = il r ∧ r.length = w ∧ ∀ c ∈ r, 0 ≤ c ∧ c < 256) (ea_cons (ev_var rfl) ea_nil) (by omega) (by decide) (by decide) fun i hi => EvN.mono (en_lcR (m := w) (C := fun _ x => ∃ c : Int, x = .int c ∧ 0 ≤ c ∧ c < 256) (ea_cons (ev_var rfl) ea_nil) (by omega) (by decide) (by decide) fun j hj => EvN.mono (en_off (ev_var rfl) m0 (by omega)) ?_) ?_) ?_)
    · rintro x ⟨r, rfl, r0, r1⟩
      exact ⟨r, rfl, r0, by omega⟩
    · rintro x ⟨xs, rfl, hl, hx⟩
      obtain ⟨as, rfl, ha⟩ := map_of (g := PyData.int) (A := fun c => 0 ≤ c ∧ c < 256) (xs := xs) fun y hy => by
        obtain ⟨i, hi, rfl⟩ := List.getElem_of_mem hy
        exact hx i _ (List.getElem?_eq_getElem hi)
      exact ⟨as, rfl, by rw [← hl, List.length_map], ha⟩
    · rintro x ⟨xs, rfl, hl, hx⟩
      obtain ⟨as, rfl, ha⟩ := map_of (g := il) (A := fun r => r.length = w ∧ ∀ c ∈ r, 0 ≤ c ∧ c < 256) (xs := xs) fun y hy => by
        obtain ⟨i, hi, rfl⟩ := List.getElem_of_mem hy
        exact hx i _ (List.getElem?_eq_getElem hi)
      exact ⟨h, w, as, rfl, rfl, ⟨by rw [← hl, List.length_map], fun r hr => (ha r hr).1⟩, fun r hr => (ha r hr).2⟩⟩
end

/-! ### the law's test of an error's kind -/
section
variable {P : Program} {w : World} {K : PySem.W.Frag} {mg : Str → Option Value} {base : Heap}
def kinds7 : List Str := ["picture", "shelf", "name", "told", "unknown", "full", "text"]
/-- the class D is the i-th kind of refusal -/
structure IsAt (T : Tx K mg) (D : Addr) (i : Nat) : Prop where
  c : ExcC K D
  k0 : PySem.W.kitOne K (.ref D) (.ref T.a_BadPicture) = some (decide (i = 0))
  k1 : PySem.W.kitOne K (.ref D) (.ref T.a_BadShelf) = some (decide (i = 1))
  k2 : PySem.W.kitOne K (.ref D) (.ref T.a_BadName) = some (decide (i = 2))
  k3 : PySem.W.kitOne K (.ref D) (.ref T.a_Told) = some (decide (i = 3))
  k4 : PySem.W.kitOne K (.ref D) (.ref T.a_Unknown) = some (decide (i = 4))
  k5 : PySem.W.kitOne K (.ref D) (.ref T.a_Full) = some (decide (i = 5))
  k6 : PySem.W.kitOne K (.ref D) (.ref T.a_BadText) = some (decide (i = 6))
  v : PySem.W.kitOne K (.ref D) (.type "ValueError") = some true
def R_is (T : Tx K mg) (a : Addr) (cls : Value) (d : Option Addr) (ds : List PyData) (x : PyData) : Prop := ∃ (D : Addr) (i j : Nat), cls = .ref D ∧ d = none ∧ IsAt T D i ∧ i < 7 ∧ j < 7 ∧ ds = [rf a, .str (kinds7.getD j "")] ∧ x = .bool (decide (i = j))
theorem is_eqv : ∀ i : Fin 7, ∀ j : Fin 7, PyData.eqv (.list ((List.range 7).map fun n => .bool (decide (i.val = n)))) (.list (kinds7.map fun k => .bool (PyData.eqv (.str (kinds7.getD j.val "")) (.str k)))) = decide (i.val = j.val) := by decide +kernel
theorem is_sh1 : ∀ j : Fin 7, SeqAt.shaped (.str (kinds7.getD j.val "")) = true := by decide +kernel
theorem is_sh2 : ∀ r ∈ kinds7, SeqAt.shaped (.str r) = true := by decide +kernel
theorem is_sh3 : ∀ i : Fin 7, SeqAt.shaped (.list ((List.range 7).map fun n => .bool (decide (i.val = n)))) = true := by decide +kernel
theorem is_sh4 : ∀ j : Fin 7, SeqAt.shaped (.list (kinds7.map fun k => .bool (PyData.eqv (.str (kinds7.getD j.val "")) (.str k)))) = true := by decide +kernel
theorem ok_law_is (T : Tx K mg) : LKH.FnP P w K mg base CX0 1 T.a_law_is T.d_law_is ["_law_e", "_law_word"] (spPH K (R_is T)) := Fun.pureH T.F_law_is sc_law_is (by rintro a cls d ds x ⟨_, _, _, _, _, _, _, _, rfl, _⟩; rfl) fun cdv A outer s H E p cls d hot hz hf hr => ⟨_, ((pss_cons (ps_set (i := 2) sc_law_is.nd rfl (by first | exact .inl rfl | exact .inr rfl) (pe_lst (pa_cons (pe_callB (LKH.call_isPK (K := K) rfl (.head _) hz hf) (by rfl) T.m_isinstance bt_isinstance (pa_cons (pv 0) (pa_cons (pe_glob (v := .ref T.a_BadPicture) (by rfl) T.g_BadPicture rfl) pa_nil))) (pa_cons (pe_callB (LKH.call_isPK (K := K) rfl (.head _) hz hf) (by rfl) T.m_isinstance bt_isinstance (pa_cons (pv 0) (pa_cons (pe_glob (v := .ref T.a_BadShelf) (by rfl) T.g_BadShelf rfl) pa_nil))) (pa_cons (pe_callB (LKH.call_isPK (K := K) rfl (.head _) hz hf) (by rfl) T.m_isinstance bt_isinstance (pa_cons (pv 0) (pa_cons (pe_glob (v := .ref T.a_BadName) (by rfl) T.g_BadName rfl) pa_nil))) (pa_cons (pe_callB (LKH.call_isPK (K := K) rfl (.head _) hz hf) (by rfl) T.m_isinstance bt_isinstance (pa_cons (pv 0) (pa_cons (pe_glob (v := .ref T.a_Told) (by rfl) T.g_Told rfl) pa_nil))) pa_nil))))))
    (pss_cons (ps_set (i := 2) sc_law_is.nd rfl (by first | exact .inl rfl | exact .inr rfl) (pe_op op_catR (pv 2) (pe_lst (pa_cons (pe_callB (LKH.call_isPK (K := K) rfl (.head _) hz hf) (by rfl) T.m_isinstance bt_isinstance (pa_cons (pv 0) (pa_cons (pe_glob (v := .ref T.a_Unknown) (by rfl) T.g_Unknown rfl) pa_nil))) (pa_cons (pe_callB (LKH.call_isPK (K := K) rfl (.head _) hz hf) (by rfl) T.m_isinstance bt_isinstance (pa_cons (pv 0) (pa_cons (pe_glob (v := .ref T.a_Full) (by rfl) T.g_Full rfl) pa_nil))) (pa_cons (pe_callB (LKH.call_isPK (K := K) rfl (.head _) hz hf) (by rfl) T.m_isinstance bt_isinstance (pa_cons (pv 0) (pa_cons (pe_glob (v := .ref T.a_BadText) (by rfl) T.g_BadText rfl) pa_nil))) pa_nil))))))
    (pss_cons (ps_set (i := 3) sc_law_is.nd rfl (by first | exact .inl rfl | exact .inr rfl) (pe_lst (pa_cons pe_str (pa_cons pe_str (pa_cons pe_str (pa_cons pe_str (pa_cons pe_str (pa_cons pe_str (pa_cons pe_str pa_nil)))))))))
    (pss_one (ps_ret (pe_and (pe_callB (LKH.call_isPK (K := K) rfl (.head _) hz hf) (by rfl) T.m_isinstance bt_isinstance (pa_cons (pv 0) (pa_cons (pe_bltn (v := .ty "ValueError") (by rfl) T.m_ValueError bt_ValueError rfl) pa_nil))) (pe_one (pe_cmpR (op_eqDK (K := K) rfl (LKH.unH hr)) (pv 2) (LKH.pe_lcG (p := p) (own := [("_law_one", 4)]) (g := (gName 4)) hot (.head _) sc_law_is.nd (LKH.pi_listGK (K := K) rfl (pv 3)) (blkOk_by (N := ["_law_e", "_law_word", "_law_kinds", "_law_words", "_law_one"]) (sc := (defScope s_law_is)) (scope := ls_179_60) (own := [("_law_one", 4)]) (by decide +kernel)) (fun _ _ _ _ _ => (pg_name (i := 4) sc_law_is.nd rfl (by first | exact .inl rfl | exact .inr rfl))) (fun _ _ _ _ _ => pts_nil) (fun _ _ _ _ _ => (pe_cmpR (op_eqDK (K := K) rfl (LKH.unH hr)) (pv 1) (pv 4) (nomark _)))) (nomark _)))))))))), fun ds x hx => by
  obtain ⟨D, i, j, rfl, rfl, I, hi, hj, rfl, rfl⟩ := hx
  refine run_seq (run_set (ev_lst (ea_cons (ev_isR rfl I.c I.k0) (ea_cons (ev_isR rfl I.c I.k1) (ea_cons (ev_isR rfl I.c I.k2) (ea_cons (ev_isR rfl I.c I.k3) ea_nil)))))) (run_seq (run_set (ev_op (ev_var rfl) (ev_lst (ea_cons (ev_isR rfl I.c I.k4) (ea_cons (ev_isR rfl I.c I.k5) (ea_cons (ev_isR rfl I.c I.k6) ea_nil)))) (eo_catR (Nat.le_of_ble_eq_true rfl)))) (run_seq (run_set (d := .list (kinds7.map .str)) (ev_lst (ea_cons ev_str (ea_cons ev_str (ea_cons ev_str (ea_cons ev_str (ea_cons ev_str (ea_cons ev_str (ea_cons ev_str ea_nil))))))))) ?_))
  refine run_ret (Ev.is (ev_andV (ev_isT rfl I.c I.v) fun _ => ev_op (ev_var rfl) (ev_lcM (g := PyData.str) (f := fun k => .bool (PyData.eqv (.str (kinds7.getD j "")) (.str k))) (rs := kinds7) (ev_var rfl) (by decide) (.head _) fun r hr => ev_op (ev_var rfl) (ev_var rfl) (eo_eqD ?_ ?_)) (eo_eqD ?_ ?_)) ?_)
  · exact is_sh1 ⟨j, hj⟩
  · exact is_sh2 _ hr
  · exact is_sh3 ⟨i, hi⟩
  · exact is_sh4 ⟨j, hj⟩
  · exact congrArg PyData.bool ((Bool.true_and _).trans (is_eqv ⟨i, hi⟩ ⟨j, hj⟩))⟩
end

section
variable {P : Program} {w : World} {K : PySem.W.Frag} {mg : Str → Option Value} {base : Heap}
def spLaw (K : PySem.W.Frag) : Sp := fun vs H Q _ => ∃ (a : Addr) (ns : List Int), vs = [.ref a] ∧ SqL K H a (ns.map V.int) ∧ ns.length ≤ 63 ∧ LamX.Tabs Tbs.tabs H ∧ ∀ H', Q (.bl true) H'
theorem il_inj {a b : List Int} (h : il a = il b) : a = b := by
  injection h with h
  exact (List.map_inj_right fun x y e => by injection e).mp h
theorem pic_inj {a b : Rows} (h : pic a = pic b) : a = b := by
  injection h with h
  exact (List.map_inj_right fun x y e => il_inj e).mp h
theorem Pc.uniq {a : Rows} {h w h' w' : Nat} (p : Pc a h w) (q : Pc a h' w') : h = h' ∧ w = w' := ⟨p.lh.symm.trans q.lh, p.hd.symm.trans q.hd⟩
/-- drawn cells of a size -/
theorem en_cells {γ : Gm} {δ : Nat} {E : XK} {t1 t2 : TE} {h wd : Nat} (h1 : Ev K γ t1 (.int (h : Int))) (h2 : Ev K γ t2 (.int (wd : Int))) (a1 : 1 ≤ h) (a2 : h ≤ 100) (b1 : 1 ≤ wd) (b2 : wd ≤ 100) :
    EvN K γ δ (tCall (spD K PreCells R_cells) [] E (tCons (tVar δ) (tCons t1 (tCons t2 tNil)))) (fun x => ∃ rows, x = pic rows ∧ Pc rows h wd) := by
  refine EvN.mono (en_call (ena_pure (ea_cons h1 (ea_cons h2 ea_nil))) fun ds e => ⟨h, wd, e, by omega, by omega⟩) ?_
  rintro x ⟨ds, rfl, h', w', rows, e, rfl, hr, _⟩
  have e1 : (h : Int) = h' := by injection e with e _; injection e
  have e2 : (wd : Int) = w' := by injection e with _ e; injection e with e _; injection e
  have e3 : h = h' := by omega
  have e4 : wd = w' := by omega
  subst e3 e4
  exact ⟨rows, rfl, hr, a1, a2, b1, b2⟩
end

theorem cut_to {α : Type} (g : α → PyData) {xs : List α} {i : Nat} (h : i ≤ xs.length) : LK.cutD (xs.map g) none (some (i : Int)) = (xs.take i).map g := by
  unfold LK.cutD
  rw [HT.sIx_nat, HT.sIx_none, List.length_map, Nat.min_eq_left h, Nat.sub_zero, List.drop_zero, List.map_take]

/-! ### the law's rows that are no picture -/
theorem picB_out {rows : Rows} (h : picB rows = true) : 1 ≤ rows.length ∧ rows.length ≤ 16 ∧ 1 ≤ wid rows ∧ wid rows ≤ 16 ∧ ∀ r ∈ rows, r.length = wid rows ∧ ∀ c ∈ r, 0 ≤ c ∧ c ≤ 255 := by
  unfold picB at h
  obtain ⟨h1, h3⟩ := Bool.and_eq_true_iff.mp h
  obtain ⟨h1, h2⟩ := Bool.and_eq_true_iff.mp h1
  unfold sideB at h1 h2
  obtain ⟨a1, a2⟩ := Bool.and_eq_true_iff.mp h1
  obtain ⟨b1, b2⟩ := Bool.and_eq_true_iff.mp h2
  have a1 := of_decide_eq_true a1
  have a2 := of_decide_eq_true a2
  have b1 := of_decide_eq_true b1
  have b2 := of_decide_eq_true b2
  refine ⟨by omega, by omega, by omega, by omega, fun r hr => ?_⟩
  have := List.all_eq_true.mp h3 r hr
  unfold rowB at this
  obtain ⟨c1, c2⟩ := Bool.and_eq_true_iff.mp this
  refine ⟨of_decide_eq_true c1, fun c hc => ?_⟩
  have := List.all_eq_true.mp c2 c hc
  unfold cellB at this
  obtain ⟨d1, d2⟩ := Bool.and_eq_true_iff.mp this
  exact ⟨of_decide_eq_true d1, of_decide_eq_true d2⟩
theorem eqv_int (a b : Int) : PyData.eqv (.int a) (.int b) = decide (a = b) := rfl
theorem no_pic {rows : Rows} (h1 : rows.length ≤ 1000) (h2 : ∀ r ∈ rows, r.length ≤ 1000) (h : picB rows ≠ true) : NoPic rows := ⟨by omega, fun r hr => by have := h2 r hr; omega, by cases e : picB rows with | true => exact absurd e h | false => rfl⟩
section
variable {P : Program} {w : World} {K : PySem.W.Frag} {mg : Str → Option Value} {base : Heap} {c tP : Addr}
theorem enm_pure {γ : Gm} {δ : Nat} {te : TE} {rows : Rows} (h : EvM K γ te rows) : EvNM K γ δ te (fun m => m = rows) := fun S σ H d f fr hd n di Q q => h S σ H f fr Q fun p as H2 e m => q p as rows H H2 rfl .refl di e m
def PreSpt : List PyData → Prop := fun ds => ∃ (rows : Rows) (h w : Nat), ds = [pic rows] ∧ P8 rows h w ∧ h ≤ 16 ∧ w ≤ 16
def R_spt : List PyData → PyData → Prop := fun _ x => ∃ bad : Rows, x = pic bad ∧ NoPic bad
theorem wid_app {a b : Rows} (h : a ≠ []) : wid (a ++ b) = wid a := by
  cases a with
  | nil => exact absurd rfl h
  | cons r l => rfl
theorem ok_law_spoilt (T : Tx K mg) : FnOk P w K mg base CX0 3 T.a_law_spoilt T.d_law_spoilt ["_law_d", "_law_rows"] (spD K PreSpt R_spt) := Fun.draws T.F_law_spoilt sc_law_spoilt (by rintro ds ⟨_, _, _, rfl, _⟩; rfl) fun cdv A outer s H E hr => ⟨_, ((pss_cons (ps_set (i := 2) sc_law_spoilt.nd rfl (by first | exact .inl rfl | exact .inr rfl) (pe_call (ok_law_off T) (hr.mono (by first | decide | omega)) (by rfl) T.g_law_off T.F_law_off.kp T.b_law_off .nil pass0 (pa_cons (pv 0) (pa_cons pe_int pa_nil))))
    (pss_cons (ps_set (i := 3) sc_law_spoilt.nd rfl (by first | exact .inl rfl | exact .inr rfl) (pe_call (ok_law_off T) (hr.mono (by first | decide | omega)) (by rfl) T.g_law_off T.F_law_off.kp T.b_law_off .nil pass0 (pa_cons (pv 0) (pa_cons (pe_callB (cr_lenK (K := K) rfl) (by rfl) T.m_len bt_len (pa_cons (pv 1) pa_nil)) pa_nil))))
    (pss_cons (ps_set (i := 4) sc_law_spoilt.nd rfl (by first | exact .inl rfl | exact .inr rfl) (pe_call (ok_law_off T) (hr.mono (by first | decide | omega)) (by rfl) T.g_law_off T.F_law_off.kp T.b_law_off .nil pass0 (pa_cons (pv 0) (pa_cons (pe_callB (cr_lenK (K := K) rfl) (by rfl) T.m_len bt_len (pa_cons (pe_ix (ix_UK (K := K) rfl) (pv 1) pe_int (fun _ _ => rfl)) pa_nil)) pa_nil))))
    (pss_cons (ps_if (pt_cmpR op_lt (pv 2) pe_int (nomark _)) (pss_one (ps_ret (pe_ix (ix_UK (K := K) rfl) (pe_lst (pa_cons (pe_lst pa_nil) (pa_cons (pe_lst (pa_cons (pe_lst pa_nil) pa_nil)) pa_nil))) (pv 2) (fun _ _ => rfl)))) pss_nil)
    (pss_cons (ps_if (pt_cmpR (op_eqDK (K := K) rfl hr.units) (pv 2) pe_int (nomark _)) (pss_one (ps_ret (pe_op op_catR (pv 1) (pe_lst (pa_cons (pe_ifExp (pt_cmpR op_gt (pv 4) pe_int (nomark _)) (pe_slice (sl_listK (K := K) rfl) (pe_ix (ix_UK (K := K) rfl) (pv 1) pe_int (fun _ _ => rfl)) (po_some pe_int) po_none) (pe_op op_catR (pe_ix (ix_UK (K := K) rfl) (pv 1) pe_int (fun _ _ => rfl)) (pe_lst (pa_cons pe_int pa_nil)))) pa_nil))))) pss_nil)
    (pss_cons (ps_if (pt_cmpR (op_eqDK (K := K) rfl hr.units) (pv 2) pe_int (nomark _)) (pss_one (ps_ret (pe_op op_rep (pe_lst (pa_cons (pe_slice (sl_listK (K := K) rfl) (pe_ix (ix_UK (K := K) rfl) (pv 1) pe_int (fun _ _ => rfl)) po_none po_none) pa_nil)) pe_int))) pss_nil)
    (pss_cons (ps_if (pt_cmpR (op_eqDK (K := K) rfl hr.units) (pv 2) pe_int (nomark _)) (pss_one (ps_ret (pe_lst (pa_cons (pe_op op_rep (pe_lst (pa_cons pe_int pa_nil)) pe_int) pa_nil)))) pss_nil)
    (pss_cons (ps_if (pt_cmpR (op_eqDK (K := K) rfl hr.units) (pv 2) pe_int (nomark _)) (pss_one (ps_ret (pe_op op_catR (pe_op op_catR (pe_slice (sl_listK (K := K) rfl) (pv 1) po_none (po_some (pv 3))) (pe_lst (pa_cons (pe_lst pa_nil) pa_nil))) (pe_slice (sl_listK (K := K) rfl) (pv 1) (po_some (pv 3)) po_none)))) pss_nil)
    (pss_cons (ps_set (i := 5) sc_law_spoilt.nd rfl (by first | exact .inl rfl | exact .inr rfl) (pe_ix (ix_UK (K := K) rfl) (pe_lst (pa_cons (pe_un un_neg pe_int) (pa_cons pe_int (pa_cons (pe_op op_pow pe_int pe_int) pa_nil)))) (pe_op op_sub (pv 2) pe_int) (fun _ _ => rfl)))
    (pss_cons (ps_setLc (i := 6) (own := [("_law_row", 7)]) (g := (gName 7)) (by rfl) sc_law_spoilt.nd rfl rfl (sw_true rfl rfl rfl (by decide +kernel)) (pi_listK (K := K) rfl (pv 1)) (blkOk_by (N := ["_law_d", "_law_rows", "_law_way", "_law_at", "_law_k", "_law_bad", "_law_found", "_law_row"]) (sc := (defScope s_law_spoilt)) (scope := ls_201_17) (own := [("_law_row", 7)]) (by decide +kernel)) (fun _ _ _ _ _ => (pg_name (i := 7) sc_law_spoilt.nd rfl (by first | exact .inl rfl | exact .inr rfl))) (fun _ _ _ _ _ => pts_nil) (fun _ _ _ _ _ => (pe_callTy (cr_listK (K := K) rfl) (by rfl) T.m_list bt_list (pa_cons (pv 7) pa_nil))))
    (pss_cons (ps_asg (pv 5) (pg_sub (pe_ix (ix_UK (K := K) rfl) (pv 6) (pv 3) (fun _ _ => rfl)) (pv 4) set_list))
    (pss_one (ps_ret (pv 6))))))))))))))), fun ds hx => by
  obtain ⟨rows, h, wd, rfl, p8, h2, w2⟩ := hx
  have pc := p8.pc
  have lh := pc.lh
  have h1 := pc.h1
  have w1 := pc.w1
  have wd' := pc.wid
  obtain ⟨r0, rs, hrs⟩ := List.exists_cons_of_ne_nil pc.ne
  have lr0 : r0.length = wd := pc.len (by rw [hrs]; exact List.mem_cons_self)
  have e0 : ∀ {γ : Gm} {te : TE}, Ev K γ te (pic rows) → Ev K γ (tOp (rIxU K) te (tC (.int 0))) (il r0) := fun hh => ev_op hh ev_int (eo_ixUL (atI_map (g := il) (rs := rows) (i := 0) (by rw [hrs]; rfl)))
  have lrow : ∀ r ∈ rows, r.length ≤ 1000 := fun r hr => by rw [pc.len hr]; omega
  refine rn_seq (rn_set (en_off (m := 9) ev_int (by decide) (by decide))) ?_
  rintro γ' ⟨_, ⟨way, rfl, y0, y1⟩, rfl⟩
  refine rn_seq (rn_set (en_off (m := (h : Int)) (Ev.is (ev_lenM (g := il) (rs := rows) (ev_var rfl)) (by rw [lh])) (by omega) (by omega))) ?_
  rintro γ' ⟨_, ⟨at', rfl, t0, t1⟩, rfl⟩
  refine rn_seq (rn_set (en_off (m := (wd : Int)) (Ev.is (ev_lenM (g := PyData.int) (rs := r0) (e0 (ev_var rfl))) (by rw [lr0])) (by omega) (by omega))) ?_
  rintro γ' ⟨_, ⟨k', rfl, k0, k1⟩, rfl⟩
  obtain ⟨m, rfl⟩ := Int.eq_ofNat_of_zero_le t0
  obtain ⟨n, rfl⟩ := Int.eq_ofNat_of_zero_le k0
  have eqW : ∀ j : Int, PyData.eqv (.int way) (.int j) = decide (way = j) := fun j => eqv_int way j
  -- fewer than two
  refine rn_seq (Γ := fun g => g = _ ∧ 2 ≤ way) (rn_if (B := fun b => b = decide (way < 2)) (enb_pure (eb_test (ev_op (ev_var rfl) ev_int (eo_I0 fun _ _ => .bl _)))) (fun z => ?_) fun z => rn_next ⟨rfl, by have := of_decide_eq_false z.symm; omega⟩) ?_
  · have := of_decide_eq_true z.symm
    have : way = 0 ∨ way = 1 := by omega
    rcases this with rfl | rfl
    · exact rn_run (run_ret (ev_op (ev_lst (ea_cons (ev_lst ea_nil) (ea_cons (ev_lst (ea_cons (ev_lst ea_nil) ea_nil)) ea_nil))) (ev_var rfl) (eo_ixUL (atI_nat (j := 0) rfl)))) ⟨[], rfl, no_pic (by decide) (fun r hr => (List.not_mem_nil hr).elim) (by decide)⟩
    · exact rn_run (run_ret (ev_op (ev_lst (ea_cons (ev_lst ea_nil) (ea_cons (ev_lst (ea_cons (ev_lst ea_nil) ea_nil)) ea_nil))) (ev_var rfl) (eo_ixUL (atI_nat (j := 1) rfl)))) ⟨[[]], rfl, no_pic (by decide) (fun r hr => by rw [List.mem_singleton.mp hr]; decide) (by decide)⟩
  rintro γ' ⟨rfl, g2⟩
  -- two: one more row, of another length
  refine rn_seq (Γ := fun g => g = _ ∧ 3 ≤ way) (rn_if (B := fun b => b = decide (way = 2)) (enb_pure (EvB.is (eb_test (ev_op (ev_var rfl) ev_int (eo_eqD rfl rfl))) (eqW 2))) (fun z => ?_) fun z => rn_next ⟨rfl, by have := of_decide_eq_false z.symm; omega⟩) ?_
  · let r' : List Int := if n > 0 then r0.drop 1 else r0 ++ [0]
    have hr' : r'.length ≠ wd ∧ r'.length ≤ 1000 := by
      show (if n > 0 then r0.drop 1 else r0 ++ [0]).length ≠ wd ∧ (if n > 0 then r0.drop 1 else r0 ++ [0]).length ≤ 1000
      split
      · rw [List.length_drop]
        omega
      · rw [List.length_append]
        show r0.length + 1 ≠ wd ∧ r0.length + 1 ≤ 1000
        omega
    refine rn_run (run_ret (ev_op (ev_var rfl) (ev_lst (ea_cons (ev_ifE (d := il r') (eb_test (ev_op (ev_var rfl) ev_int (eo_I0 fun _ _ => .bl _))) (fun z => ?_) fun z => ?_) ea_nil)) (eo_catR (by rw [List.length_map]; show rows.length + 1 ≤ _; omega)))) ⟨rows ++ [r'], by unfold pic; rw [List.map_append]; rfl, no_pic (by rw [List.length_append]; show rows.length + 1 ≤ _; omega) (fun r hr => ?_) fun hp => ?_⟩
    · have z : (0 : Int) < (n : Int) := of_decide_eq_true z
      refine Ev.is (ev_slL (lo := some ((1 : Nat) : Int)) (e0 (ev_var rfl)) (ep_some ev_int) ep_none) ?_
      rw [cut_from PyData.int (by omega)]
      show PyData.list _ = il (if n > 0 then r0.drop 1 else r0 ++ [0])
      rw [if_pos (by omega)]
      rfl
    · have z : ¬ (0 : Int) < (n : Int) := of_decide_eq_false z
      refine Ev.is (ev_op (e0 (ev_var rfl)) (ev_lst (ea_cons ev_int ea_nil)) (eo_catR (by rw [List.length_map]; show r0.length + 1 ≤ _; omega))) ?_
      show _ = il (if n > 0 then r0.drop 1 else r0 ++ [0])
      rw [if_neg (by omega)]
      unfold il
      rw [List.map_append]
      rfl
    · rcases List.mem_append.mp hr with hr | hr
      · exact lrow r hr
      · rw [List.mem_singleton.mp hr]
        exact hr'.2
    · obtain ⟨_, _, _, _, o⟩ := picB_out hp
      have := (o r' (List.mem_append_right _ (List.mem_singleton.mpr rfl))).1
      rw [wid_app pc.ne, wd'] at this
      exact hr'.1 this
  rintro γ' ⟨rfl, g3⟩
  -- three: seventeen rows
  refine rn_seq (Γ := fun g => g = _ ∧ 4 ≤ way) (rn_if (B := fun b => b = decide (way = 3)) (enb_pure (EvB.is (eb_test (ev_op (ev_var rfl) ev_int (eo_eqD rfl rfl))) (eqW 3))) (fun z => ?_) fun z => rn_next ⟨rfl, by have := of_decide_eq_false z.symm; omega⟩) ?_
  · refine rn_run (run_ret (Ev.is (EvL.ev (el_rep (ds := [il r0]) (k := 17) (el_lst (ea_cons (Ev.is (ev_slL (e0 (ev_var rfl)) ep_none ep_none) ?_) ea_nil)) ev_int (Nat.le_of_ble_eq_true rfl) (by decide))) rfl)) ⟨List.replicate 17 r0, rfl, no_pic (by rw [List.length_replicate]; decide) (fun r hr => ?_) fun hp => ?_⟩
    · unfold LK.cutD
      rw [HT.sIx_none, HT.sIx_none, List.drop_zero, Nat.sub_zero, List.take_of_length_le (Nat.le_refl _)]
      rfl
    · rw [List.eq_of_mem_replicate hr]
      omega
    · have := (picB_out hp).2.1
      rw [List.length_replicate] at this
      omega
  rintro γ' ⟨rfl, g4⟩
  -- four: seventeen cells
  refine rn_seq (Γ := fun g => g = _ ∧ 5 ≤ way) (rn_if (B := fun b => b = decide (way = 4)) (enb_pure (EvB.is (eb_test (ev_op (ev_var rfl) ev_int (eo_eqD rfl rfl))) (eqW 4))) (fun z => ?_) fun z => rn_next ⟨rfl, by have := of_decide_eq_false z.symm; omega⟩) ?_
  · exact rn_run (run_ret (ev_lst (ea_cons (EvL.ev (el_rep (ds := [.int 0]) (k := 17) (el_lst (ea_cons ev_int ea_nil)) ev_int (by decide) (by decide))) ea_nil))) ⟨[List.replicate 17 0], rfl, no_pic (by decide) (fun r hr => by rw [List.mem_singleton.mp hr]; decide) (by decide)⟩
  rintro γ' ⟨rfl, g5⟩
  -- five: an empty row between
  refine rn_seq (Γ := fun g => g = _ ∧ 6 ≤ way) (rn_if (B := fun b => b = decide (way = 5)) (enb_pure (EvB.is (eb_test (ev_op (ev_var rfl) ev_int (eo_eqD rfl rfl))) (eqW 5))) (fun z => ?_) fun z => rn_next ⟨rfl, by have := of_decide_eq_false z.symm; omega⟩) ?_
  · have hm : m ≤ rows.length := by omega
    refine rn_run (run_ret (ev_op (ev_op (Ev.is (ev_slL (hi := some (m : Int)) (ev_var rfl) ep_none (ep_some (ev_var rfl))) (congrArg PyData.list (cut_to il hm))) (ev_lst (ea_cons (ev_lst ea_nil) ea_nil)) (eo_catR ?_)) (Ev.is (ev_slL (lo := some (m : Int)) (ev_var rfl) (ep_some (ev_var rfl)) ep_none) (congrArg PyData.list (cut_from il hm))) (eo_catR ?_))) ⟨(rows.take m ++ [[]]) ++ rows.drop m, ?_, no_pic ?_ (fun r hr => ?_) fun hp => ?_⟩
    · rw [List.length_map, List.length_take]
      show _ + 1 ≤ _
      omega
    · rw [List.length_append, List.length_map, List.length_map, List.length_take, List.length_drop]
      show _ + 1 + _ ≤ _
      omega
    · unfold pic
      rw [List.map_append, List.map_append]
      rfl
    · rw [List.length_append, List.length_append, List.length_take, List.length_drop]
      show _ + 1 + _ ≤ _
      omega
    · rcases List.mem_append.mp hr with hr | hr
      · rcases List.mem_append.mp hr with hr | hr
        · exact lrow r (List.mem_of_mem_take hr)
        · rw [List.mem_singleton.mp hr]
          decide
      · exact lrow r (List.mem_of_mem_drop hr)
    · obtain ⟨_, _, o1, _, o⟩ := picB_out hp
      have := (o [] (List.mem_append_left _ (List.mem_append_right _ (List.mem_singleton.mpr rfl)))).1
      rw [← this] at o1
      exact absurd o1 (by decide)
  rintro γ' ⟨rfl, g6⟩
  -- a cell that is none
  have hbad : ∃ bad : Int, (bad < 0 ∨ 255 < bad) ∧ L2.atI [PyData.int (-1), .int 256, .int ((10 : Int) ^ 12)] (way - 6) = some (.int bad) := by
    have : way = 6 ∨ way = 7 ∨ way = 8 := by omega
    rcases this with rfl | rfl | rfl
    · exact ⟨-1, by omega, atI_nat (j := 0) rfl⟩
    · exact ⟨256, by omega, atI_nat (j := 1) rfl⟩
    · exact ⟨(10 : Int) ^ 12, by omega, atI_nat (j := 2) rfl⟩
  obtain ⟨bad, hb, hix⟩ := hbad
  refine rn_seq (rn_set (en_pure (x := .int bad) (ev_op (ev_lst (ea_cons (ev_un (g := fun i => .int (-i)) ev_int fun _ _ => .int _) (ea_cons ev_int (ea_cons (ev_op ev_int ev_int (eo_I ⟨by decide, by decide, by decide⟩ fun _ _ => .int _)) ea_nil)))) (ev_op (ev_var rfl) ev_int (eo_I0 fun _ _ => .int _)) (eo_ixUL hix)))) ?_
  rintro γ' ⟨_, rfl, rfl⟩
  have hmr : m < rows.length := by omega
  have hnr : n < (rows.getD m []).length := by
    rw [pc.lenD (by omega)]
    omega
  refine rn_own (A := fun mm => mm = rows) (Γ := fun γ' mm => NoPic mm) (enm_pure ((em_lcM (f := fun r => r) (ev_var rfl) pc.big (by decide) fun r _ => ei_list (ev_var rfl)).is (List.map_id' _))) ?_ fun γ' mm hmm => ⟨mm, rfl, hmm⟩
  rintro mm rfl
  refine ro_mono (ro_store (m := m) (n := n) (C := fun c => c = bad) rfl rfl hmr hnr (EvN.mono (en_pure (ev_var rfl)) fun x hx => ⟨bad, hx, rfl⟩)) ?_
  rintro γ' rows' ⟨_, c, hcb, rfl⟩
  subst hcb
  refine no_pic (by rw [List.length_set]; omega) (fun r hr => ?_) fun hp => ?_
  · rcases List.mem_or_eq_of_mem_set hr with hr | hr
    · exact lrow r hr
    · rw [hr, List.length_set, pc.lenD (by omega)]
      omega
  · obtain ⟨_, _, _, _, o⟩ := picB_out hp
    have := (o ((mm.getD m []).set n c) (List.mem_iff_getElem.mpr ⟨m, by rw [List.length_set]; exact hmr, by rw [List.getElem_set_self]⟩)).2 c (List.mem_iff_getElem.mpr ⟨n, by rw [List.length_set]; exact hnr, by rw [List.getElem_set_self]⟩)
    omega⟩
theorem en_spoilt {γ : Gm} {δ : Nat} {E : XK} {ta : TA} {rows : Rows} {h wd : Nat} (ha : EvA K γ ta [pic rows]) (p8 : P8 rows h wd) (h2 : h ≤ 16) (w2 : wd ≤ 16) : EvN K γ δ (tCall (spD K PreSpt R_spt) [] E (tCons (tVar δ) ta)) (fun x => ∃ bad : Rows, x = pic bad ∧ NoPic bad) := EvN.mono (en_call (ena_pure ha) fun ds e => ⟨rows, h, wd, e, p8, h2, w2⟩) fun x ⟨ds, _, hx⟩ => hx
end

section
variable {K : PySem.W.Frag}
/-- one more than a number below m -/
theorem en_1off {γ : Gm} {δ : Nat} {E : XK} {te : TE} {m : Int} (h : Ev K γ te (.int m)) (h0 : 0 < m) (h1 : m < 1073741824) : EvN K γ δ (tOp (rI0 fun i j => .int (i + j)) (tC (.int 1)) (tCall (spD K PreOff R_off) [] E (tCons (tVar δ) (tCons te tNil)))) (fun x => ∃ n : Nat, x = .int (n : Int) ∧ 1 ≤ n ∧ (n : Int) ≤ m) := en_op (en_pure ev_int) (fun x _ => en_off h h0 h1) (by
  rintro x y rfl ⟨r, rfl, r0, r1⟩
  refine ⟨.int (1 + r), eo_I0 fun _ _ => .int _, (1 + r).toNat, ?_, by omega, by omega⟩
  rw [Int.toNat_of_nonneg (by omega)])
end

/-! ### a shelf, made and read -/
section
variable {P : Program} {w : World} {K : PySem.W.Frag} {mg : Str → Option Value} {base : Heap} {c tP : Addr}
theorem rf_inj {a b : Addr} (h : rf a = rf b) : a = b := by
  unfold rf at h
  injection h with h
  injection h with h _
  injection h with _ h
  injection h with h
  exact Int.ofNat_inj.mp h
theorem shX_inj {C : Addr} {h w h' w' : Nat} {k k' : Str} {d d' : PyData} (e : shX C h w k d = shX C h' w' k' d') : h = h' ∧ w = w' ∧ k = k' ∧ d = d' := by
  unfold shX insD at e
  injection e with e
  injection e with _ e
  injection e with e1 e
  injection e with e2 e
  injection e with e3 e
  injection e with e4 e
  injection e1 with _ e1
  injection e2 with _ e2
  injection e3 with _ e3
  injection e4 with _ e4
  injection e1 with e1
  injection e2 with e2
  injection e3 with e3
  exact ⟨Int.ofNat_inj.mp e1, Int.ofNat_inj.mp e2, e3, e4⟩
/-- Shelf(..) -/
theorem er_shelf {γ : Gm} {ρ : Rho} {ta : TA} {E : XK} {C : Addr} {h wd : Nat} {k : Str} {ws : List (Nat × Nat)} (fr : Frame h wd k ws) (ha : EvA K γ ta [.int (h : Int), .int (wd : Int), .str k]) : EvR K γ ρ (tMake C (spW K (PreInit C) (R_init C)) [] E ta) (fun x r => ∃ q, x = shR C h wd k q ∧ r = ρ ++ [(q, .dct (keptD []))]) := by
  refine er_make ha (fun x => ⟨x, h, wd, k, ws, rfl, rfl, fr⟩) ?_
  rintro x v ρ1 ⟨x', h', w', k', q, e, rfl, rfl⟩
  injection e with e1 e
  injection e with e2 e
  injection e with e3 e
  injection e with e4 _
  injection e2 with e2
  injection e3 with e3
  injection e4 with e4
  have e1 := rf_inj e1
  have e2 := Int.ofNat_inj.mp e2
  have e3 := Int.ofNat_inj.mp e3
  subst e1 e2 e3 e4
  exact ⟨rfl, _, _, rfl, q, rfl, rfl⟩
theorem view_kept {γ : Gm} {ρ : Rho} {i n : Nat} {C q : Addr} {h w : Nat} {k : Str} {es : Kp} (hi : γ[i]? = some (some (shR C h w k q))) (hn : ρ[n]? = some (q, .dct (keptD es))) : View K γ ρ [q] (γ.set i (some (shD C h w k es))) := View.refl.set i hi fun S H v r hv => by
  obtain ⟨a, dx, fs, rfl, s, hq, r2⟩ := hv.ins_inv
  refine .ins (.inl s) hq ?_
  obtain ⟨_, kvs, a1, a2⟩ := r.own _ (List.mem_of_getElem? hn)
  generalize fs.map (fun p => (PyData.str p.1, p.2)) = vs at r2
  cases r2 with
  | cons h1 r2 =>
    cases r2 with
    | cons h2 r2 =>
      cases r2 with
      | cons h3 r2 =>
        cases r2 with
        | cons h4 r2 =>
          cases r2
          refine .cons (h1.res (.of fun a s => .inl s)) (.cons (h2.res (.of fun a s => .inl s)) (.cons (h3.res (.of fun a s => .inl s)) (.cons ?_ .nil)))
          rw [h4.rf_inv]
          exact .dct (.inr (by simp)) (.inl a1) (a2.res (.of fun a s => .inl s))
end

/-! ### the law -/
section
variable {P : Program} {w : World} {K : PySem.W.Frag} {mg : Str → Option Value} {base : Heap} {c tP c2 tP2 : Addr}
theorem Cl.cel {rows : Rows} (c : Cl rows) : Cel rows := fun r hr x hx => ⟨(c r hr x hx).1, by have := (c r hr x hx).2; omega⟩
theorem en_cells1 {γ : Gm} {δ : Nat} {E E1 E2 : XK} : EvN K γ δ (tCall (spD K PreCells R_cells) [] E (tCons (tVar δ) (tCons (tOp (rI0 fun i j => .int (i + j)) (tC (.int 1)) (tCall (spD K PreOff R_off) [] E1 (tCons (tVar δ) (tCons (tC (.int 16)) tNil)))) (tCons (tOp (rI0 fun i j => .int (i + j)) (tC (.int 1)) (tCall (spD K PreOff R_off) [] E2 (tCons (tVar δ) (tCons (tC (.int 16)) tNil)))) tNil)))) (fun x => ∃ (rows : Rows) (h wd : Nat), x = pic rows ∧ P8 rows h wd ∧ h ≤ 16 ∧ wd ≤ 16) := by
  refine EvN.mono (en_call (ena_cons (en_1off (m := 16) ev_int (by decide) (by decide)) fun _ _ => ena_cons (en_1off (m := 16) ev_int (by decide) (by decide)) fun _ _ => ena_nil) ?_) ?_
  · rintro ds ⟨x, ys, ⟨h, rfl, a1, a2⟩, ⟨y, zs, ⟨wd, rfl, b1, b2⟩, rfl, rfl⟩, rfl⟩
    exact ⟨h, wd, rfl, by omega, by omega⟩
  · rintro x ⟨ds, ⟨x1, ys, ⟨h, rfl, a1, a2⟩, ⟨y, zs, ⟨wd, rfl, b1, b2⟩, rfl, rfl⟩, rfl⟩, h', w', rows, e, rfl, hr, hc⟩
    have e1 : (h : Int) = h' := by injection e with e _; injection e
    have e2 : (wd : Int) = w' := by injection e with _ e; injection e with e _; injection e
    have e3 : h = h' := by omega
    have e4 : wd = w' := by omega
    subst e3 e4
    exact ⟨rows, h, wd, rfl, ⟨⟨hr, a1, by omega, b1, by omega⟩, hc.cel⟩, by omega, by omega⟩
theorem is_pict (T : Tx K mg) : IsAt T T.a_BadPicture 0 where
  c := T.ec_BadPicture
  k0 := T.is_BadPicture_BadPicture
  k1 := T.is_BadPicture_BadShelf
  k2 := T.is_BadPicture_BadName
  k3 := T.is_BadPicture_Told
  k4 := T.is_BadPicture_Unknown
  k5 := T.is_BadPicture_Full
  k6 := T.is_BadPicture_BadText
  v := T.isV_BadPicture
abbrev refT (T : Tx K mg) : (WX → TE) → TS := fun act => tSeq (LKH.tTry K (.ref T.a_LikeError) 1 (fun a cls d => tRet (tCallS (spPH K (R_is T) a cls d) (fun _ => E0) (tCons (tVar 1) (tCons (tC (.str "picture")) tNil)))) (fun _ _ _ _ => False) fun W => tDrop (act W)) (tRet (tC (.bl false)))
theorem ev_ref (T : Tx K mg) {γ : Gm} {q : Str} {Ng : List Str} {t : XK → TE} (hN : Ng.length = 2) (hb : ∀ E, EvX K γ (t E) (fun _ => E) T.a_BadPicture) : Ev K γ (LamX.tLam Tbs.tabs (LKL.TTof q Ng (refT T)) t) (.bool true) :=
  er_lam hb T.em_BadPicture hN rfl fun a d0 => run_ret (ev_callH (ea_cons (ev_var rfl) (ea_cons ev_str ea_nil)) ⟨_, 0, 0, rfl, rfl, is_pict T, by decide, by decide, rfl, rfl⟩)
theorem ok_law (T : Tx K mg) (W : Aw K mg w base T c tP) (W2 : Lm K mg base T.d_law ("law.<locals>." : Str) c2 tP2) : FnOk P w K mg base CX0 80 T.a_law T.d_law ["_law_script"] (spLaw K) := Fun.okC T.F_law sc_law (fun vs H Q E h => by
  obtain ⟨a, ns, rfl, _⟩ := h
  rfl) fun A outer s H vs Q E hr h => by
  obtain ⟨a, ns, rfl, hS, hn, tb, q⟩ := h
  refine ⟨_, ((pss_cons (ps_set (i := 1) sc_law.nd rfl (by first | exact .inl rfl | exact .inr rfl) (pe_call (ok_law_dice T) (hr.mono (by first | decide | omega)) (by rfl) T.g_law_dice T.F_law_dice.kp T.b_law_dice .nil pass0 (pa_cons (pv 0) (pa_cons pe_int pa_nil))))
    (pss_cons (ps_set (i := 2) sc_law.nd rfl (by first | exact .inl rfl | exact .inr rfl) (pe_call (ok_law_cells T) (hr.mono (by first | decide | omega)) (by rfl) T.g_law_cells T.F_law_cells.kp T.b_law_cells .nil pass0 (pa_cons (pv 1) (pa_cons (pe_op op_add pe_int (pe_call (ok_law_off T) (hr.mono (by first | decide | omega)) (by rfl) T.g_law_off T.F_law_off.kp T.b_law_off .nil pass0 (pa_cons (pv 1) (pa_cons pe_int pa_nil)))) (pa_cons (pe_op op_add pe_int (pe_call (ok_law_off T) (hr.mono (by first | decide | omega)) (by rfl) T.g_law_off T.F_law_off.kp T.b_law_off .nil pass0 (pa_cons (pv 1) (pa_cons pe_int pa_nil)))) pa_nil)))))
    (pss_cons (ps_setLc (i := 3) (own := [("_law_row", 6)]) (g := (gName 6)) (by rfl) sc_law.nd rfl rfl (sw_true rfl rfl rfl (by decide +kernel)) (pi_listK (K := K) rfl (pv 2)) (blkOk_by (N := ["_law_script", "_law_d", "_law_rows", "_law_handed", "_law_bad", "_law_shelf", "_law_row"]) (sc := (defScope s_law)) (scope := ls_207_18) (own := [("_law_row", 6)]) (by decide +kernel)) (fun _ _ _ _ _ => (pg_name (i := 6) sc_law.nd rfl (by first | exact .inl rfl | exact .inr rfl))) (fun _ _ _ _ _ => pts_nil) (fun _ _ _ _ _ => (pe_callTy (cr_listK (K := K) rfl) (by rfl) T.m_list bt_list (pa_cons (pv 6) pa_nil))))
    (pss_cons (ps_if (PW.pt (pw_or (pt_cmpR op_notNo (pe_call (ok_need_picture T) (hr.mono (by first | decide | omega)) (by rfl) T.g_need_picture T.F_need_picture.kp T.b_need_picture .nil LKH.passN (pa_cons (pv 3) pa_nil)) pe_non (nomark _)) (pw_or1 (pt_cmpR (op_neDK (K := K) rfl hr.units) (pv 3) (pv 2) (nomark _))))) (pss_one (ps_ret pe_bl)) pss_nil)
    (pss_cons (ps_set (i := 4) sc_law.nd rfl (by first | exact .inl rfl | exact .inr rfl) (pe_call (ok_law_spoilt T) (hr.mono (by first | decide | omega)) (by rfl) T.g_law_spoilt T.F_law_spoilt.kp T.b_law_spoilt .nil pass0 (pa_cons (pv 1) (pa_cons (pv 2) pa_nil))))
    (pss_cons (ps_set (i := 5) sc_law.nd rfl (by first | exact .inl rfl | exact .inr rfl) (pe_make T.mk_Shelf (ok_init T W) (hr.mono (by first | decide | omega)) (by rfl) T.g_Shelf T.b_ShelfD_initD .nil pass0 (pa_cons (pe_callB (cr_lenK (K := K) rfl) (by rfl) T.m_len bt_len (pa_cons (pv 2) pa_nil)) (pa_cons (pe_callB (cr_lenK (K := K) rfl) (by rfl) T.m_len bt_len (pa_cons (pe_ix (ix_UK (K := K) rfl) (pv 2) pe_int (fun _ _ => rfl)) pa_nil)) (pa_cons pe_str pa_nil)))))
    (pss_cons (ps_if (pt_not (pt_val (pe_lamF (K := K) (T := Tbs.tabs) (tb := (refT T)) (Ng := ["_law_work", "_law_e"]) (k := 20) rfl T.F_law_refused (by rfl) T.g_law_refused T.b_law_refused sc_law_refused rfl (by first | exact .inl rfl | exact .inr rfl) (fun cdv s H te hr act => (pss_cons (LKH.ps_tryK (K := K) (i := 1) rfl rfl rfl sc_law_refused.nd rfl rfl ⟨rfl, by decide, .inl T.g_LikeError⟩ LKH.takes0N (fun Wx pn xe tk _ => (pss_one (ps_expr (act Wx pn xe _ _ tk)))) (fun a oe cls d pn hz hf => (pss_one (ps_ret (LKH.pe_callPS hz hf (ok_law_is T) ⟨(L2H.roomH_of (hr.mono (j := 1) (by first | decide | omega))).dp, (L2H.roomH_of (hr.mono (j := 1) (by first | decide | omega))).un⟩ (by rfl) T.g_law_is T.F_law_is.kp T.b_law_is (fun σ => LKH.pass0H σ) (pa_cons (pv 1) (pa_cons pe_str pa_nil)))))))
    (pss_one (ps_ret pe_bl)))) W2.tb W2.code W2.tabs W2.uniq (hr.mono (by first | decide | omega)) (LamX.lamS_by (sc := (defScope s_law)) (by decide +kernel)) (by rfl) (fun _ _ _ _ _ => rfl) (fun A outer s H E f c2 hr => (pe_call (ok_need_picture T) (hr.mono (by first | decide | omega)) (by rfl) T.g_need_picture T.F_need_picture.kp T.b_need_picture .nil (L2N.passes_call (L2N.takes_of rfl rfl rfl rfl) (fun _ _ _ _ h => h)) (pa_cons (pv 4) pa_nil)))))) (pss_one (ps_ret pe_bl)) pss_nil)
    (pss_cons (ps_if (pt_not (pt_val (pe_lamF (K := K) (T := Tbs.tabs) (tb := (refT T)) (Ng := ["_law_work", "_law_e"]) (k := 20) rfl T.F_law_refused (by rfl) T.g_law_refused T.b_law_refused sc_law_refused rfl (by first | exact .inl rfl | exact .inr rfl) (fun cdv s H te hr act => (pss_cons (LKH.ps_tryK (K := K) (i := 1) rfl rfl rfl sc_law_refused.nd rfl rfl ⟨rfl, by decide, .inl T.g_LikeError⟩ LKH.takes0N (fun Wx pn xe tk _ => (pss_one (ps_expr (act Wx pn xe _ _ tk)))) (fun a oe cls d pn hz hf => (pss_one (ps_ret (LKH.pe_callPS hz hf (ok_law_is T) ⟨(L2H.roomH_of (hr.mono (j := 1) (by first | decide | omega))).dp, (L2H.roomH_of (hr.mono (j := 1) (by first | decide | omega))).un⟩ (by rfl) T.g_law_is T.F_law_is.kp T.b_law_is (fun σ => LKH.pass0H σ) (pa_cons (pv 1) (pa_cons pe_str pa_nil)))))))
    (pss_one (ps_ret pe_bl)))) W2.tb W2.code W2.tabs W2.uniq (hr.mono (by first | decide | omega)) (LamX.lamS_by (sc := (defScope s_law)) (by decide +kernel)) (by rfl) (fun _ _ _ _ _ => rfl) (fun A outer s H E f c2 hr => (pe_meth (pv 5) T.cl_Shelf T.mt_Shelf_put (ok_putX T) (hr.mono (by first | decide | omega)) T.b_Shelf_put .nil (L2N.passes_call (L2N.takes_of rfl rfl rfl rfl) (fun _ _ _ _ h => h)) (pa_cons pe_str (pa_cons (pv 4) pa_nil))))))) (pss_one (ps_ret pe_bl)) pss_nil)
    (pss_cons (ps_if (pt_not (pt_val (pe_lamF (K := K) (T := Tbs.tabs) (tb := (refT T)) (Ng := ["_law_work", "_law_e"]) (k := 20) rfl T.F_law_refused (by rfl) T.g_law_refused T.b_law_refused sc_law_refused rfl (by first | exact .inl rfl | exact .inr rfl) (fun cdv s H te hr act => (pss_cons (LKH.ps_tryK (K := K) (i := 1) rfl rfl rfl sc_law_refused.nd rfl rfl ⟨rfl, by decide, .inl T.g_LikeError⟩ LKH.takes0N (fun Wx pn xe tk _ => (pss_one (ps_expr (act Wx pn xe _ _ tk)))) (fun a oe cls d pn hz hf => (pss_one (ps_ret (LKH.pe_callPS hz hf (ok_law_is T) ⟨(L2H.roomH_of (hr.mono (j := 1) (by first | decide | omega))).dp, (L2H.roomH_of (hr.mono (j := 1) (by first | decide | omega))).un⟩ (by rfl) T.g_law_is T.F_law_is.kp T.b_law_is (fun σ => LKH.pass0H σ) (pa_cons (pv 1) (pa_cons pe_str pa_nil)))))))
    (pss_one (ps_ret pe_bl)))) W2.tb W2.code W2.tabs W2.uniq (hr.mono (by first | decide | omega)) (LamX.lamS_by (sc := (defScope s_law)) (by decide +kernel)) (by rfl) (fun _ _ _ _ _ => rfl) (fun A outer s H E f c2 hr => (pe_call (ok_places T) (hr.mono (by first | decide | omega)) (by rfl) T.g_places T.F_places.kp T.b_places .nil (L2N.passes_call (L2N.takes_of rfl rfl rfl rfl) (fun _ _ _ _ h => h)) (pa_cons (pv 4) (pa_cons (pe_lst (pa_cons (pe_lst (pa_cons pe_int pa_nil)) pa_nil)) (pa_cons pe_int pa_nil)))))))) (pss_one (ps_ret pe_bl)) pss_nil)
    (pss_one (ps_ret (pe_and (pe_lamF (K := K) (T := Tbs.tabs) (tb := (refT T)) (Ng := ["_law_work", "_law_e"]) (k := 20) rfl T.F_law_refused (by rfl) T.g_law_refused T.b_law_refused sc_law_refused rfl (by first | exact .inl rfl | exact .inr rfl) (fun cdv s H te hr act => (pss_cons (LKH.ps_tryK (K := K) (i := 1) rfl rfl rfl sc_law_refused.nd rfl rfl ⟨rfl, by decide, .inl T.g_LikeError⟩ LKH.takes0N (fun Wx pn xe tk _ => (pss_one (ps_expr (act Wx pn xe _ _ tk)))) (fun a oe cls d pn hz hf => (pss_one (ps_ret (LKH.pe_callPS hz hf (ok_law_is T) ⟨(L2H.roomH_of (hr.mono (j := 1) (by first | decide | omega))).dp, (L2H.roomH_of (hr.mono (j := 1) (by first | decide | omega))).un⟩ (by rfl) T.g_law_is T.F_law_is.kp T.b_law_is (fun σ => LKH.pass0H σ) (pa_cons (pv 1) (pa_cons pe_str pa_nil)))))))
    (pss_one (ps_ret pe_bl)))) W2.tb W2.code W2.tabs W2.uniq (hr.mono (by first | decide | omega)) (LamX.lamS_by (sc := (defScope s_law)) (by decide +kernel)) (by rfl) (fun _ _ _ _ _ => rfl) (fun A outer s H E f c2 hr => (pe_call (ok_places T) (hr.mono (by first | decide | omega)) (by rfl) T.g_places T.F_places.kp T.b_places .nil (L2N.passes_call (L2N.takes_of rfl rfl rfl rfl) (fun _ _ _ _ h => h)) (pa_cons (pe_op op_rep (pe_lst (pa_cons (pe_op op_rep (pe_lst (pa_cons pe_int pa_nil)) pe_int) pa_nil)) pe_int) (pa_cons (pv 4) (pa_cons pe_int pa_nil)))))) (pe_and (pe_cmpR (op_eqDK (K := K) rfl hr.units) (pe_meth0 (pv 5) T.cl_Shelf T.mt_Shelf_names (ok_names T) (hr.mono (by first | decide | omega)) T.b_Shelf_names .nil pass0) (pe_lst pa_nil) (nomark _)) (pe_one (pe_cmpR op_isNo (pe_meth0 (pv 5) T.cl_Shelf T.mt_Shelf_tree (ok_Shelf_tree T) (hr.mono (by first | decide | omega)) T.b_Shelf_tree .nil pass0) pe_non (nomark _))))))))))))))))), ?_⟩
  refine ⟨.ref a, rfl, a, ns, rfl, hS, hn, fun d H2 e2 hd di => ?_⟩
  dsimp only
  refine RunR.law (K := K) (t := tSeq _ _) (γ := (List.replicate 7 none).set 1 (some (rf d))) ?_ (fun S => fits_law rfl rfl) di (e2.tabs tb) q
  refine rr_seq (rr_set (er_N (δ := 1) (n := 0) ⟨rfl, rfl⟩ en_cells1)) ?_
  rintro γ ρ ⟨_, ⟨⟨rows, h, wd, rfl, p8, h2, w2⟩, rfl⟩, rfl⟩
  have pc := p8.pc
  have hpic : picB rows = true := p8.pic h2 w2
  have hbig := pc.big
  obtain ⟨r0, rs, hrs⟩ := List.exists_cons_of_ne_nil pc.ne
  have lr0 : r0.length = wd := pc.len (by rw [hrs]; exact List.mem_cons_self)
  refine rr_seq (rr_run (run_set (ev_lcM (g := il) (f := il) (rs := rows) (ev_var rfl) hbig (by decide) fun r _ => ev_cb (ea_cons (ev_var rfl) ea_nil) ec_listL))) ?_
  rintro γ ρ ⟨rfl, rfl⟩
  refine rr_seq (N := fun g r => g = [none, some (rf d), some (pic rows), some (pic rows), none, none, none] ∧ r = [(d, Ct.dice)]) (rr_if0 (P := []) View.refl (EvB.is (eb_or (a := false) (b := false) (EvB.is (eb_test (ev_op (ev_callX (x := .none) (ea_cons (ev_var rfl) ea_nil) ⟨rows, rfl, p8.lens.1, p8.lens.2, hpic, rfl⟩) ev_non eo_notNo)) rfl) fun _ => EvB.is (eb_test (ev_op (x := pic rows) (y := pic rows) (ev_var rfl) (ev_var rfl) (eo_neD ((shp_pic (n := 0)).shaped (by decide)) ((shp_pic (n := 0)).shaped (by decide))))) (by rw [(shp_pic (n := 0)).eqv]; rfl)) rfl) (rr_next ⟨rfl, rfl⟩)) ?_
  rintro γ ρ ⟨rfl, rfl⟩
  refine rr_seq (rr_set (er_N (δ := 1) (n := 0) ⟨rfl, rfl⟩ (en_spoilt (ea_cons (ev_var rfl) ea_nil) p8 h2 w2))) ?_
  rintro γ ρ ⟨_, ⟨⟨bad, rfl, nb⟩, rfl⟩, rfl⟩
  have fr : Frame h wd "plain" [(0, 0)] := ⟨pc.h1, h2, pc.w1, w2, by decide +kernel, .inr (by decide)⟩
  refine rr_seq (rr_set (er_shelf (h := h) (wd := wd) fr (ea_cons (Ev.is (ev_lenM (g := il) (rs := rows) (ev_var rfl)) (by rw [pc.lh])) (ea_cons (Ev.is (ev_lenM (g := PyData.int) (rs := r0) (ev_op (ev_var rfl) ev_int (eo_ixUL (atI_map (g := il) (rs := rows) (i := 0) (by rw [hrs]; rfl))))) (by rw [lr0])) (ea_cons ev_str ea_nil))))) ?_
  rintro γ ρ ⟨_, ⟨p, rfl, rfl⟩, rfl⟩
  refine rr_step (step_freeze (n := 1) rfl (view_kept (es := []) (i := 5) (n := 1) rfl rfl)) ?_
  refine rr_seq (N := fun g r => g = [none, some (rf d), some (pic rows), some (pic rows), some (pic bad), some (shD T.a_Shelf h wd "plain" []), none] ∧ r = [(d, Ct.dice)]) (rr_if0 (P := []) View.refl (eb_not (a := true) (eb_test (ev_ref T rfl fun E => ex_call (ea_cons (ev_var rfl) ea_nil) ⟨bad, rfl, nb.1, nb.2.1, nb.2.2, rfl⟩))) (rr_next ⟨rfl, rfl⟩)) ?_
  rintro γ ρ ⟨rfl, rfl⟩
  refine rr_seq (N := fun g r => g = [none, some (rf d), some (pic rows), some (pic rows), some (pic bad), some (shD T.a_Shelf h wd "plain" []), none] ∧ r = [(d, Ct.dice)]) (rr_if0 (P := []) View.refl (eb_not (a := true) (eb_test (ev_ref T rfl fun E => ex_meth (ev_var rfl) nm_put0 (ea_cons ev_str (ea_cons (ev_var rfl) ea_nil)) ⟨h, wd, "plain", "a", bad, rfl, by decide +kernel, nb, rfl⟩))) (rr_next ⟨rfl, rfl⟩)) ?_
  rintro γ ρ ⟨rfl, rfl⟩
  refine rr_seq (N := fun g r => g = [none, some (rf d), some (pic rows), some (pic rows), some (pic bad), some (shD T.a_Shelf h wd "plain" []), none] ∧ r = [(d, Ct.dice)]) (rr_if0 (P := []) View.refl (eb_not (a := true) (eb_test (ev_ref T rfl fun E => ex_call (ea_cons (ev_var rfl) (ea_cons (Ev.is (ev_lst (ea_cons (ev_lst (ea_cons ev_int ea_nil)) ea_nil)) (show _ = pic [[0]] from rfl)) (ea_cons ev_int ea_nil))) ⟨bad, [[0]], 9, rfl, bad, [[0]], rfl, .inl nb, rfl⟩))) (rr_next ⟨rfl, rfl⟩)) ?_
  rintro γ ρ ⟨rfl, rfl⟩
  refine rr_ret (EvR.mono (er_pure (Ev.is (ev_andV (a := true) (b := true) (ev_ref T rfl fun E => ex_call (ea_cons (Ev.is (EvL.ev (el_rep (ds := [.list (List.replicate 16 (.int 0))]) (k := 16) (el_lst (ea_cons (EvL.ev (el_rep (ds := [.int 0]) (k := 16) (el_lst (ea_cons ev_int ea_nil)) ev_int (by decide) (by decide))) ea_nil)) ev_int (by decide) (by decide))) (show _ = pic (List.replicate 16 (List.replicate 16 0)) from rfl)) (ea_cons (ev_var rfl) (ea_cons ev_int ea_nil))) ⟨List.replicate 16 (List.replicate 16 0), bad, 9, rfl, List.replicate 16 (List.replicate 16 0), bad, rfl, .inr ⟨by decide +kernel, by decide, fun r hr => by rw [List.eq_of_mem_replicate hr]; decide, nb⟩, rfl⟩) fun _ => ev_andV (a := true) (b := true) (Ev.is (ev_op (ev_meth (x := .list []) (ev_var rfl) nm_names0 ea_nil ⟨h, wd, "plain", [], rfl, rfl⟩) (ev_lst ea_nil) (eo_eqD rfl rfl)) rfl) fun _ => Ev.is (ev_op (ev_meth (x := .none) (ev_var rfl) nm_tree0 ea_nil ⟨h, wd, "plain", rfl, rfl⟩) ev_non eo_isNo) rfl) rfl)) ?_)
  rintro x r ⟨rfl, _⟩
  rfl
end

set_option maxHeartbeats 8000000 in
theorem all_mk {l : PySem.W.OpenLaw} {w : World} {K : PySem.W.Frag} {h : Heap} {mg : Str → Option Value} {fa tc0 tP0 tc1 tP1 : Addr} {f_can_be_side : Addr} {f_is_cell : Addr} {f_width : Addr} {f_is_picture : Addr} {f_need_picture : Addr} {f_need_picture_of : Addr} {f_copied : Addr} {f_mirrored : Addr} {f_turned : Addr} {f_moved : Addr} {f_difference : Addr} {f_sums : Addr} {f_part_sum : Addr} {f_part : Addr} {f_need_room : Addr} {f_places : Addr} {f_kind_fits : Addr} {f_apart : Addr} {f_is_name : Addr} {f_can_be_shelf : Addr} {f_ShelfD_initD : Addr} {C_Shelf : Addr} {f_Shelf_put : Addr} {f_Shelf_out : Addr} {f_Shelf_names : Addr} {f_Shelf_picture : Addr} {f_Shelf_tree : Addr} {f_ShelfDneed_kept : Addr} {f_ShelfDhung : Addr} {f_law_cell : Addr} {f_law_dice : Addr} {f_law_off : Addr} {f_law_cells : Addr} {f_law_is : Addr} {f_law_refused : Addr} {f_law_spoilt : Addr} {f_law : Addr} {f_SQUARE_KINDS : Addr} {f_WAYS : Addr} {C_LikeError : Addr} {C_BadPicture : Addr} {C_BadShelf : Addr} {C_BadName : Addr} {C_Told : Addr} {C_Unknown : Addr} {C_Full : Addr} {C_BadText : Addr} (X : K.In h) (G : h.Ns mainGlobals mg) (hfa : mg "law" = some (.ref fa))
    {oc_can_be_side kV_can_be_side dc_can_be_side pm_can_be_side cd_can_be_side ct_can_be_side : Value} {od_can_be_side an_can_be_side : Option Addr} {sl_can_be_side : Array (Option Value)}
    (a_can_be_side : PySem.W.nsIn K mainGlobals "can_be_side" = some (some (.ref f_can_be_side)))
    (l_can_be_side : K.lookup f_can_be_side = some ⟨oc_can_be_side, od_can_be_side, .func (PySem.W.fnOf "can_be_side" "can_be_side" (defArgs s_can_be_side) (defBody s_can_be_side) (defScope s_can_be_side) .none kV_can_be_side dc_can_be_side pm_can_be_side an_can_be_side cd_can_be_side ct_can_be_side), sl_can_be_side⟩)
    (c_can_be_side : PySem.W.codeIn K cd_can_be_side "can_be_side" = true)
    (k_can_be_side : PySem.W.keepIn K (.ref f_can_be_side) = true)
    {oc_is_cell kV_is_cell dc_is_cell pm_is_cell cd_is_cell ct_is_cell : Value} {od_is_cell an_is_cell : Option Addr} {sl_is_cell : Array (Option Value)}
    (a_is_cell : PySem.W.nsIn K mainGlobals "is_cell" = some (some (.ref f_is_cell)))
    (l_is_cell : K.lookup f_is_cell = some ⟨oc_is_cell, od_is_cell, .func (PySem.W.fnOf "is_cell" "is_cell" (defArgs s_is_cell) (defBody s_is_cell) (defScope s_is_cell) .none kV_is_cell dc_is_cell pm_is_cell an_is_cell cd_is_cell ct_is_cell), sl_is_cell⟩)
    (c_is_cell : PySem.W.codeIn K cd_is_cell "is_cell" = true)
    (k_is_cell : PySem.W.keepIn K (.ref f_is_cell) = true)
    {oc_width kV_width dc_width pm_width cd_width ct_width : Value} {od_width an_width : Option Addr} {sl_width : Array (Option Value)}
    (a_width : PySem.W.nsIn K mainGlobals "width" = some (some (.ref f_width)))
    (l_width : K.lookup f_width = some ⟨oc_width, od_width, .func (PySem.W.fnOf "width" "width" (defArgs s_width) (defBody s_width) (defScope s_width) .none kV_width dc_width pm_width an_width cd_width ct_width), sl_width⟩)
    (c_width : PySem.W.codeIn K cd_width "width" = true)
    (k_width : PySem.W.keepIn K (.ref f_width) = true)
    {oc_is_picture kV_is_picture dc_is_picture pm_is_picture cd_is_picture ct_is_picture : Value} {od_is_picture an_is_picture : Option Addr} {sl_is_picture : Array (Option Value)}
    (a_is_picture : PySem.W.nsIn K mainGlobals "is_picture" = some (some (.ref f_is_picture)))
    (l_is_picture : K.lookup f_is_picture = some ⟨oc_is_picture, od_is_picture, .func (PySem.W.fnOf "is_picture" "is_picture" (defArgs s_is_picture) (defBody s_is_picture) (defScope s_is_picture) .none kV_is_picture dc_is_picture pm_is_picture an_is_picture cd_is_picture ct_is_picture), sl_is_picture⟩)
    (c_is_picture : PySem.W.codeIn K cd_is_picture "is_picture" = true)
    (k_is_picture : PySem.W.keepIn K (.ref f_is_picture) = true)
    {oc_need_picture kV_need_picture dc_need_picture pm_need_picture cd_need_picture ct_need_picture : Value} {od_need_picture an_need_picture : Option Addr} {sl_need_picture : Array (Option Value)}
    (a_need_picture : PySem.W.nsIn K mainGlobals "need_picture" = some (some (.ref f_need_picture)))
    (l_need_picture : K.lookup f_need_picture = some ⟨oc_need_picture, od_need_picture, .func (PySem.W.fnOf "need_picture" "need_picture" (defArgs s_need_picture) (defBody s_need_picture) (defScope s_need_picture) .none kV_need_picture dc_need_picture pm_need_picture an_need_picture cd_need_picture ct_need_picture), sl_need_picture⟩)
    (c_need_picture : PySem.W.codeIn K cd_need_picture "need_picture" = true)
    (k_need_picture : PySem.W.keepIn K (.ref f_need_picture) = true)
    {oc_need_picture_of kV_need_picture_of dc_need_picture_of pm_need_picture_of cd_need_picture_of ct_need_picture_of : Value} {od_need_picture_of an_need_picture_of : Option Addr} {sl_need_picture_of : Array (Option Value)}
    (a_need_picture_of : PySem.W.nsIn K mainGlobals "need_picture_of" = some (some (.ref f_need_picture_of)))
    (l_need_picture_of : K.lookup f_need_picture_of = some ⟨oc_need_picture_of, od_need_picture_of, .func (PySem.W.fnOf "need_picture_of" "need_picture_of" (defArgs s_need_picture_of) (defBody s_need_picture_of) (defScope s_need_picture_of) .none kV_need_picture_of dc_need_picture_of pm_need_picture_of an_need_picture_of cd_need_picture_of ct_need_picture_of), sl_need_picture_of⟩)
    (c_need_picture_of : PySem.W.codeIn K cd_need_picture_of "need_picture_of" = true)
    (k_need_picture_of : PySem.W.keepIn K (.ref f_need_picture_of) = true)
    {oc_copied kV_copied dc_copied pm_copied cd_copied ct_copied : Value} {od_copied an_copied : Option Addr} {sl_copied : Array (Option Value)}
    (a_copied : PySem.W.nsIn K mainGlobals "copied" = some (some (.ref f_copied)))
    (l_copied : K.lookup f_copied = some ⟨oc_copied, od_copied, .func (PySem.W.fnOf "copied" "copied" (defArgs s_copied) (defBody s_copied) (defScope s_copied) .none kV_copied dc_copied pm_copied an_copied cd_copied ct_copied), sl_copied⟩)
    (c_copied : PySem.W.codeIn K cd_copied "copied" = true)
    (k_copied : PySem.W.keepIn K (.ref f_copied) = true)
    {oc_mirrored kV_mirrored dc_mirrored pm_mirrored cd_mirrored ct_mirrored : Value} {od_mirrored an_mirrored : Option Addr} {sl_mirrored : Array (Option Value)}
    (a_mirrored : PySem.W.nsIn K mainGlobals "mirrored" = some (some (.ref f_mirrored)))
    (l_mirrored : K.lookup f_mirrored = some ⟨oc_mirrored, od_mirrored, .func (PySem.W.fnOf "mirrored" "mirrored" (defArgs s_mirrored) (defBody s_mirrored) (defScope s_mirrored) .none kV_mirrored dc_mirrored pm_mirrored an_mirrored cd_mirrored ct_mirrored), sl_mirrored⟩)
    (c_mirrored : PySem.W.codeIn K cd_mirrored "mirrored" = true)
    (k_mirrored : PySem.W.keepIn K (.ref f_mirrored) = true)
    {oc_turned kV_turned dc_turned pm_turned cd_turned ct_turned : Value} {od_turned an_turned : Option Addr} {sl_turned : Array (Option Value)}
    (a_turned : PySem.W.nsIn K mainGlobals "turned" = some (some (.ref f_turned)))
    (l_turned : K.lookup f_turned = some ⟨oc_turned, od_turned, .func (PySem.W.fnOf "turned" "turned" (defArgs s_turned) (defBody s_turned) (defScope s_turned) .none kV_turned dc_turned pm_turned an_turned cd_turned ct_turned), sl_turned⟩)
    (c_turned : PySem.W.codeIn K cd_turned "turned" = true)
    (k_turned : PySem.W.keepIn K (.ref f_turned) = true)
    {oc_moved kV_moved dc_moved pm_moved cd_moved ct_moved : Value} {od_moved an_moved : Option Addr} {sl_moved : Array (Option Value)}
    (a_moved : PySem.W.nsIn K mainGlobals "moved" = some (some (.ref f_moved)))
    (l_moved : K.lookup f_moved = some ⟨oc_moved, od_moved, .func (PySem.W.fnOf "moved" "moved" (defArgs s_moved) (defBody s_moved) (defScope s_moved) .none kV_moved dc_moved pm_moved an_moved cd_moved ct_moved), sl_moved⟩)
    (c_moved : PySem.W.codeIn K cd_moved "moved" = true)
    (k_moved : PySem.W.keepIn K (.ref f_moved) = true)
    {oc_difference kV_difference dc_difference pm_difference cd_difference ct_difference : Value} {od_difference an_difference : Option Addr} {sl_difference : Array (Option Value)}
    (a_difference : PySem.W.nsIn K mainGlobals "difference" = some (some (.ref f_difference)))
    (l_difference : K.lookup f_difference = some ⟨oc_difference, od_difference, .func (PySem.W.fnOf "difference" "difference" (defArgs s_difference) (defBody s_difference) (defScope s_difference) .none kV_difference dc_difference pm_difference an_difference cd_difference ct_difference), sl_difference⟩)
    (c_difference : PySem.W.codeIn K cd_difference "difference" = true)
    (k_difference : PySem.W.keepIn K (.ref f_difference) = true)
    {oc_sums kV_sums dc_sums pm_sums cd_sums ct_sums : Value} {od_sums an_sums : Option Addr} {sl_sums : Array (Option Value)}
    (a_sums : PySem.W.nsIn K mainGlobals "sums" = some (some (.ref f_sums)))
    (l_sums : K.lookup f_sums = some ⟨oc_sums, od_sums, .func (PySem.W.fnOf "sums" "sums" (defArgs s_sums) (defBody s_sums) (defScope s_sums) .none kV_sums dc_sums pm_sums an_sums cd_sums ct_sums), sl_sums⟩)
    (c_sums : PySem.W.codeIn K cd_sums "sums" = true)
    (k_sums : PySem.W.keepIn K (.ref f_sums) = true)
    {oc_part_sum kV_part_sum dc_part_sum pm_part_sum cd_part_sum ct_part_sum : Value} {od_part_sum an_part_sum : Option Addr} {sl_part_sum : Array (Option Value)}
    (a_part_sum : PySem.W.nsIn K mainGlobals "part_sum" = some (some (.ref f_part_sum)))
    (l_part_sum : K.lookup f_part_sum = some ⟨oc_part_sum, od_part_sum, .func (PySem.W.fnOf "part_sum" "part_sum" (defArgs s_part_sum) (defBody s_part_sum) (defScope s_part_sum) .none kV_part_sum dc_part_sum pm_part_sum an_part_sum cd_part_sum ct_part_sum), sl_part_sum⟩)
    (c_part_sum : PySem.W.codeIn K cd_part_sum "part_sum" = true)
    (k_part_sum : PySem.W.keepIn K (.ref f_part_sum) = true)
    {oc_part kV_part dc_part pm_part cd_part ct_part : Value} {od_part an_part : Option Addr} {sl_part : Array (Option Value)}
    (a_part : PySem.W.nsIn K mainGlobals "part" = some (some (.ref f_part)))
    (l_part : K.lookup f_part = some ⟨oc_part, od_part, .func (PySem.W.fnOf "part" "part" (defArgs s_part) (defBody s_part) (defScope s_part) .none kV_part dc_part pm_part an_part cd_part ct_part), sl_part⟩)
    (c_part : PySem.W.codeIn K cd_part "part" = true)
    (k_part : PySem.W.keepIn K (.ref f_part) = true)
    {oc_need_room kV_need_room dc_need_room pm_need_room cd_need_room ct_need_room : Value} {od_need_room an_need_room : Option Addr} {sl_need_room : Array (Option Value)}
    (a_need_room : PySem.W.nsIn K mainGlobals "need_room" = some (some (.ref f_need_room)))
    (l_need_room : K.lookup f_need_room = some ⟨oc_need_room, od_need_room, .func (PySem.W.fnOf "need_room" "need_room" (defArgs s_need_room) (defBody s_need_room) (defScope s_need_room) .none kV_need_room dc_need_room pm_need_room an_need_room cd_need_room ct_need_room), sl_need_room⟩)
    (c_need_room : PySem.W.codeIn K cd_need_room "need_room" = true)
    (k_need_room : PySem.W.keepIn K (.ref f_need_room) = true)
    {oc_places kV_places dc_places pm_places cd_places ct_places : Value} {od_places an_places : Option Addr} {sl_places : Array (Option Value)}
    (a_places : PySem.W.nsIn K mainGlobals "places" = some (some (.ref f_places)))
    (l_places : K.lookup f_places = some ⟨oc_places, od_places, .func (PySem.W.fnOf "places" "places" (defArgs s_places) (defBody s_places) (defScope s_places) .none kV_places dc_places pm_places an_places cd_places ct_places), sl_places⟩)
    (c_places : PySem.W.codeIn K cd_places "places" = true)
    (k_places : PySem.W.keepIn K (.ref f_places) = true)
    {oc_kind_fits kV_kind_fits dc_kind_fits pm_kind_fits cd_kind_fits ct_kind_fits : Value} {od_kind_fits an_kind_fits : Option Addr} {sl_kind_fits : Array (Option Value)}
    (a_kind_fits : PySem.W.nsIn K mainGlobals "kind_fits" = some (some (.ref f_kind_fits)))
    (l_kind_fits : K.lookup f_kind_fits = some ⟨oc_kind_fits, od_kind_fits, .func (PySem.W.fnOf "kind_fits" "kind_fits" (defArgs s_kind_fits) (defBody s_kind_fits) (defScope s_kind_fits) .none kV_kind_fits dc_kind_fits pm_kind_fits an_kind_fits cd_kind_fits ct_kind_fits), sl_kind_fits⟩)
    (c_kind_fits : PySem.W.codeIn K cd_kind_fits "kind_fits" = true)
    (k_kind_fits : PySem.W.keepIn K (.ref f_kind_fits) = true)
    {oc_apart kV_apart dc_apart pm_apart cd_apart ct_apart : Value} {od_apart an_apart : Option Addr} {sl_apart : Array (Option Value)}
    (a_apart : PySem.W.nsIn K mainGlobals "apart" = some (some (.ref f_apart)))
    (l_apart : K.lookup f_apart = some ⟨oc_apart, od_apart, .func (PySem.W.fnOf "apart" "apart" (defArgs s_apart) (defBody s_apart) (defScope s_apart) .none kV_apart dc_apart pm_apart an_apart cd_apart ct_apart), sl_apart⟩)
    (c_apart : PySem.W.codeIn K cd_apart "apart" = true)
    (k_apart : PySem.W.keepIn K (.ref f_apart) = true)
    {oc_is_name kV_is_name dc_is_name pm_is_name cd_is_name ct_is_name : Value} {od_is_name an_is_name : Option Addr} {sl_is_name : Array (Option Value)}
    (a_is_name : PySem.W.nsIn K mainGlobals "is_name" = some (some (.ref f_is_name)))
    (l_is_name : K.lookup f_is_name = some ⟨oc_is_name, od_is_name, .func (PySem.W.fnOf "is_name" "is_name" (defArgs s_is_name) (defBody s_is_name) (defScope s_is_name) .none kV_is_name dc_is_name pm_is_name an_is_name cd_is_name ct_is_name), sl_is_name⟩)
    (c_is_name : PySem.W.codeIn K cd_is_name "is_name" = true)
    (k_is_name : PySem.W.keepIn K (.ref f_is_name) = true)
    {oc_can_be_shelf kV_can_be_shelf dc_can_be_shelf pm_can_be_shelf cd_can_be_shelf ct_can_be_shelf : Value} {od_can_be_shelf an_can_be_shelf : Option Addr} {sl_can_be_shelf : Array (Option Value)}
    (a_can_be_shelf : PySem.W.nsIn K mainGlobals "can_be_shelf" = some (some (.ref f_can_be_shelf)))
    (l_can_be_shelf : K.lookup f_can_be_shelf = some ⟨oc_can_be_shelf, od_can_be_shelf, .func (PySem.W.fnOf "can_be_shelf" "can_be_shelf" (defArgs s_can_be_shelf) (defBody s_can_be_shelf) (defScope s_can_be_shelf) .none kV_can_be_shelf dc_can_be_shelf pm_can_be_shelf an_can_be_shelf cd_can_be_shelf ct_can_be_shelf), sl_can_be_shelf⟩)
    (c_can_be_shelf : PySem.W.codeIn K cd_can_be_shelf "can_be_shelf" = true)
    (k_can_be_shelf : PySem.W.keepIn K (.ref f_can_be_shelf) = true)
    {oc_ShelfD_initD kV_ShelfD_initD dc_ShelfD_initD pm_ShelfD_initD cd_ShelfD_initD ct_ShelfD_initD : Value} {od_ShelfD_initD an_ShelfD_initD : Option Addr} {sl_ShelfD_initD : Array (Option Value)}
    (a_Shelf : PySem.W.nsIn K mainGlobals "Shelf" = some (some (.ref C_Shelf)))
    (pg_Shelf : PySem.W.plainGet K C_Shelf Str.empty = true)
    (hd_Shelf : PySem.W.hasDictIn K C_Shelf = true)
    (po_Shelf : PySem.W.plainOver K C_Shelf = true)
    (sa_Shelf : PySem.W.findIn K (.ref C_Shelf) "__setattr__" = some (some (.builtin "object.__setattr__")))
    (mk_Shelf : PySem.W.makesIn K C_Shelf = true)
    (kc_Shelf : PySem.W.keepIn K (.ref C_Shelf) = true)
    (n_Shelf_high : PySem.W.findIn K (.ref C_Shelf) "high" = some none)
    (n_Shelf_wide : PySem.W.findIn K (.ref C_Shelf) "wide" = some none)
    (n_Shelf_kind : PySem.W.findIn K (.ref C_Shelf) "kind" = some none)
    (n_Shelf__kept : PySem.W.findIn K (.ref C_Shelf) "_kept" = some none)
    (a_ShelfD_initD : PySem.W.findIn K (.ref C_Shelf) "__init__" = some (some (.ref f_ShelfD_initD)))
    (i_ShelfD_initD : PySem.W.isFn K (.ref f_ShelfD_initD) = true)
    (l_ShelfD_initD : K.lookup f_ShelfD_initD = some ⟨oc_ShelfD_initD, od_ShelfD_initD, .func (PySem.W.fnOf "__init__" "Shelf.__init__" (defArgs s_ShelfD_initD) (defBody s_ShelfD_initD) (defScope s_ShelfD_initD) .none kV_ShelfD_initD dc_ShelfD_initD pm_ShelfD_initD an_ShelfD_initD cd_ShelfD_initD ct_ShelfD_initD), sl_ShelfD_initD⟩)
    (c_ShelfD_initD : PySem.W.codeIn K cd_ShelfD_initD "Shelf.__init__" = true)
    (k_ShelfD_initD : PySem.W.keepIn K (.ref f_ShelfD_initD) = true)
    {oc_Shelf_put kV_Shelf_put dc_Shelf_put pm_Shelf_put cd_Shelf_put ct_Shelf_put : Value} {od_Shelf_put an_Shelf_put : Option Addr} {sl_Shelf_put : Array (Option Value)}
    (a_Shelf_put : PySem.W.findIn K (.ref C_Shelf) "put" = some (some (.ref f_Shelf_put)))
    (i_Shelf_put : PySem.W.isFn K (.ref f_Shelf_put) = true)
    (l_Shelf_put : K.lookup f_Shelf_put = some ⟨oc_Shelf_put, od_Shelf_put, .func (PySem.W.fnOf "put" "Shelf.put" (defArgs s_Shelf_put) (defBody s_Shelf_put) (defScope s_Shelf_put) .none kV_Shelf_put dc_Shelf_put pm_Shelf_put an_Shelf_put cd_Shelf_put ct_Shelf_put), sl_Shelf_put⟩)
    (c_Shelf_put : PySem.W.codeIn K cd_Shelf_put "Shelf.put" = true)
    (k_Shelf_put : PySem.W.keepIn K (.ref f_Shelf_put) = true)
    {oc_Shelf_out kV_Shelf_out dc_Shelf_out pm_Shelf_out cd_Shelf_out ct_Shelf_out : Value} {od_Shelf_out an_Shelf_out : Option Addr} {sl_Shelf_out : Array (Option Value)}
    (a_Shelf_out : PySem.W.findIn K (.ref C_Shelf) "out" = some (some (.ref f_Shelf_out)))
    (i_Shelf_out : PySem.W.isFn K (.ref f_Shelf_out) = true)
    (l_Shelf_out : K.lookup f_Shelf_out = some ⟨oc_Shelf_out, od_Shelf_out, .func (PySem.W.fnOf "out" "Shelf.out" (defArgs s_Shelf_out) (defBody s_Shelf_out) (defScope s_Shelf_out) .none kV_Shelf_out dc_Shelf_out pm_Shelf_out an_Shelf_out cd_Shelf_out ct_Shelf_out), sl_Shelf_out⟩)
    (c_Shelf_out : PySem.W.codeIn K cd_Shelf_out "Shelf.out" = true)
    (k_Shelf_out : PySem.W.keepIn K (.ref f_Shelf_out) = true)
    {oc_Shelf_names kV_Shelf_names dc_Shelf_names pm_Shelf_names cd_Shelf_names ct_Shelf_names : Value} {od_Shelf_names an_Shelf_names : Option Addr} {sl_Shelf_names : Array (Option Value)}
    (a_Shelf_names : PySem.W.findIn K (.ref C_Shelf) "names" = some (some (.ref f_Shelf_names)))
    (i_Shelf_names : PySem.W.isFn K (.ref f_Shelf_names) = true)
    (l_Shelf_names : K.lookup f_Shelf_names = some ⟨oc_Shelf_names, od_Shelf_names, .func (PySem.W.fnOf "names" "Shelf.names" (defArgs s_Shelf_names) (defBody s_Shelf_names) (defScope s_Shelf_names) .none kV_Shelf_names dc_Shelf_names pm_Shelf_names an_Shelf_names cd_Shelf_names ct_Shelf_names), sl_Shelf_names⟩)
    (c_Shelf_names : PySem.W.codeIn K cd_Shelf_names "Shelf.names" = true)
    (k_Shelf_names : PySem.W.keepIn K (.ref f_Shelf_names) = true)
    {oc_Shelf_picture kV_Shelf_picture dc_Shelf_picture pm_Shelf_picture cd_Shelf_picture ct_Shelf_picture : Value} {od_Shelf_picture an_Shelf_picture : Option Addr} {sl_Shelf_picture : Array (Option Value)}
    (a_Shelf_picture : PySem.W.findIn K (.ref C_Shelf) "picture" = some (some (.ref f_Shelf_picture)))
    (i_Shelf_picture : PySem.W.isFn K (.ref f_Shelf_picture) = true)
    (l_Shelf_picture : K.lookup f_Shelf_picture = some ⟨oc_Shelf_picture, od_Shelf_picture, .func (PySem.W.fnOf "picture" "Shelf.picture" (defArgs s_Shelf_picture) (defBody s_Shelf_picture) (defScope s_Shelf_picture) .none kV_Shelf_picture dc_Shelf_picture pm_Shelf_picture an_Shelf_picture cd_Shelf_picture ct_Shelf_picture), sl_Shelf_picture⟩)
    (c_Shelf_picture : PySem.W.codeIn K cd_Shelf_picture "Shelf.picture" = true)
    (k_Shelf_picture : PySem.W.keepIn K (.ref f_Shelf_picture) = true)
    {oc_Shelf_tree kV_Shelf_tree dc_Shelf_tree pm_Shelf_tree cd_Shelf_tree ct_Shelf_tree : Value} {od_Shelf_tree an_Shelf_tree : Option Addr} {sl_Shelf_tree : Array (Option Value)}
    (a_Shelf_tree : PySem.W.findIn K (.ref C_Shelf) "tree" = some (some (.ref f_Shelf_tree)))
    (i_Shelf_tree : PySem.W.isFn K (.ref f_Shelf_tree) = true)
    (l_Shelf_tree : K.lookup f_Shelf_tree = some ⟨oc_Shelf_tree, od_Shelf_tree, .func (PySem.W.fnOf "tree" "Shelf.tree" (defArgs s_Shelf_tree) (defBody s_Shelf_tree) (defScope s_Shelf_tree) .none kV_Shelf_tree dc_Shelf_tree pm_Shelf_tree an_Shelf_tree cd_Shelf_tree ct_Shelf_tree), sl_Shelf_tree⟩)
    (c_Shelf_tree : PySem.W.codeIn K cd_Shelf_tree "Shelf.tree" = true)
    (k_Shelf_tree : PySem.W.keepIn K (.ref f_Shelf_tree) = true)
    {oc_ShelfDneed_kept kV_ShelfDneed_kept dc_ShelfDneed_kept pm_ShelfDneed_kept cd_ShelfDneed_kept ct_ShelfDneed_kept : Value} {od_ShelfDneed_kept an_ShelfDneed_kept : Option Addr} {sl_ShelfDneed_kept : Array (Option Value)}
    (a_ShelfDneed_kept : PySem.W.findIn K (.ref C_Shelf) "_need_kept" = some (some (.ref f_ShelfDneed_kept)))
    (i_ShelfDneed_kept : PySem.W.isFn K (.ref f_ShelfDneed_kept) = true)
    (l_ShelfDneed_kept : K.lookup f_ShelfDneed_kept = some ⟨oc_ShelfDneed_kept, od_ShelfDneed_kept, .func (PySem.W.fnOf "_need_kept" "Shelf._need_kept" (defArgs s_ShelfDneed_kept) (defBody s_ShelfDneed_kept) (defScope s_ShelfDneed_kept) .none kV_ShelfDneed_kept dc_ShelfDneed_kept pm_ShelfDneed_kept an_ShelfDneed_kept cd_ShelfDneed_kept ct_ShelfDneed_kept), sl_ShelfDneed_kept⟩)
    (c_ShelfDneed_kept : PySem.W.codeIn K cd_ShelfDneed_kept "Shelf._need_kept" = true)
    (k_ShelfDneed_kept : PySem.W.keepIn K (.ref f_ShelfDneed_kept) = true)
    {oc_ShelfDhung kV_ShelfDhung dc_ShelfDhung pm_ShelfDhung cd_ShelfDhung ct_ShelfDhung : Value} {od_ShelfDhung an_ShelfDhung : Option Addr} {sl_ShelfDhung : Array (Option Value)}
    (a_ShelfDhung : PySem.W.findIn K (.ref C_Shelf) "_hung" = some (some (.ref f_ShelfDhung)))
    (i_ShelfDhung : PySem.W.isFn K (.ref f_ShelfDhung) = true)
    (l_ShelfDhung : K.lookup f_ShelfDhung = some ⟨oc_ShelfDhung, od_ShelfDhung, .func (PySem.W.fnOf "_hung" "Shelf._hung" (defArgs s_ShelfDhung) (defBody s_ShelfDhung) (defScope s_ShelfDhung) .none kV_ShelfDhung dc_ShelfDhung pm_ShelfDhung an_ShelfDhung cd_ShelfDhung ct_ShelfDhung), sl_ShelfDhung⟩)
    (c_ShelfDhung : PySem.W.codeIn K cd_ShelfDhung "Shelf._hung" = true)
    (k_ShelfDhung : PySem.W.keepIn K (.ref f_ShelfDhung) = true)
    {oc_law_cell kV_law_cell dc_law_cell pm_law_cell cd_law_cell ct_law_cell : Value} {od_law_cell an_law_cell : Option Addr} {sl_law_cell : Array (Option Value)}
    (a_law_cell : PySem.W.nsIn K mainGlobals "_law_cell" = some (some (.ref f_law_cell)))
    (l_law_cell : K.lookup f_law_cell = some ⟨oc_law_cell, od_law_cell, .func (PySem.W.fnOf "_law_cell" "_law_cell" (defArgs s_law_cell) (defBody s_law_cell) (defScope s_law_cell) .none kV_law_cell dc_law_cell pm_law_cell an_law_cell cd_law_cell ct_law_cell), sl_law_cell⟩)
    (c_law_cell : PySem.W.codeIn K cd_law_cell "_law_cell" = true)
    (k_law_cell : PySem.W.keepIn K (.ref f_law_cell) = true)
    {oc_law_dice kV_law_dice dc_law_dice pm_law_dice cd_law_dice ct_law_dice : Value} {od_law_dice an_law_dice : Option Addr} {sl_law_dice : Array (Option Value)}
    (a_law_dice : PySem.W.nsIn K mainGlobals "_law_dice" = some (some (.ref f_law_dice)))
    (l_law_dice : K.lookup f_law_dice = some ⟨oc_law_dice, od_law_dice, .func (PySem.W.fnOf "_law_dice" "_law_dice" (defArgs s_law_dice) (defBody s_law_dice) (defScope s_law_dice) .none kV_law_dice dc_law_dice pm_law_dice an_law_dice cd_law_dice ct_law_dice), sl_law_dice⟩)
    (c_law_dice : PySem.W.codeIn K cd_law_dice "_law_dice" = true)
    (k_law_dice : PySem.W.keepIn K (.ref f_law_dice) = true)
    {oc_law_off kV_law_off dc_law_off pm_law_off cd_law_off ct_law_off : Value} {od_law_off an_law_off : Option Addr} {sl_law_off : Array (Option Value)}
    (a_law_off : PySem.W.nsIn K mainGlobals "_law_off" = some (some (.ref f_law_off)))
    (l_law_off : K.lookup f_law_off = some ⟨oc_law_off, od_law_off, .func (PySem.W.fnOf "_law_off" "_law_off" (defArgs s_law_off) (defBody s_law_off) (defScope s_law_off) .none kV_law_off dc_law_off pm_law_off an_law_off cd_law_off ct_law_off), sl_law_off⟩)
    (c_law_off : PySem.W.codeIn K cd_law_off "_law_off" = true)
    (k_law_off : PySem.W.keepIn K (.ref f_law_off) = true)
    {oc_law_cells kV_law_cells dc_law_cells pm_law_cells cd_law_cells ct_law_cells : Value} {od_law_cells an_law_cells : Option Addr} {sl_law_cells : Array (Option Value)}
    (a_law_cells : PySem.W.nsIn K mainGlobals "_law_cells" = some (some (.ref f_law_cells)))
    (l_law_cells : K.lookup f_law_cells = some ⟨oc_law_cells, od_law_cells, .func (PySem.W.fnOf "_law_cells" "_law_cells" (defArgs s_law_cells) (defBody s_law_cells) (defScope s_law_cells) .none kV_law_cells dc_law_cells pm_law_cells an_law_cells cd_law_cells ct_law_cells), sl_law_cells⟩)
    (c_law_cells : PySem.W.codeIn K cd_law_cells "_law_cells" = true)
    (k_law_cells : PySem.W.keepIn K (.ref f_law_cells) = true)
    {oc_law_is kV_law_is dc_law_is pm_law_is cd_law_is ct_law_is : Value} {od_law_is an_law_is : Option Addr} {sl_law_is : Array (Option Value)}
    (a_law_is : PySem.W.nsIn K mainGlobals "_law_is" = some (some (.ref f_law_is)))
    (l_law_is : K.lookup f_law_is = some ⟨oc_law_is, od_law_is, .func (PySem.W.fnOf "_law_is" "_law_is" (defArgs s_law_is) (defBody s_law_is) (defScope s_law_is) .none kV_law_is dc_law_is pm_law_is an_law_is cd_law_is ct_law_is), sl_law_is⟩)
    (c_law_is : PySem.W.codeIn K cd_law_is "_law_is" = true)
    (k_law_is : PySem.W.keepIn K (.ref f_law_is) = true)
    {oc_law_refused kV_law_refused dc_law_refused pm_law_refused cd_law_refused ct_law_refused : Value} {od_law_refused an_law_refused : Option Addr} {sl_law_refused : Array (Option Value)}
    (a_law_refused : PySem.W.nsIn K mainGlobals "_law_refused" = some (some (.ref f_law_refused)))
    (l_law_refused : K.lookup f_law_refused = some ⟨oc_law_refused, od_law_refused, .func (PySem.W.fnOf "_law_refused" "_law_refused" (defArgs s_law_refused) (defBody s_law_refused) (defScope s_law_refused) .none kV_law_refused dc_law_refused pm_law_refused an_law_refused cd_law_refused ct_law_refused), sl_law_refused⟩)
    (c_law_refused : PySem.W.codeIn K cd_law_refused "_law_refused" = true)
    (k_law_refused : PySem.W.keepIn K (.ref f_law_refused) = true)
    {oc_law_spoilt kV_law_spoilt dc_law_spoilt pm_law_spoilt cd_law_spoilt ct_law_spoilt : Value} {od_law_spoilt an_law_spoilt : Option Addr} {sl_law_spoilt : Array (Option Value)}
    (a_law_spoilt : PySem.W.nsIn K mainGlobals "_law_spoilt" = some (some (.ref f_law_spoilt)))
    (l_law_spoilt : K.lookup f_law_spoilt = some ⟨oc_law_spoilt, od_law_spoilt, .func (PySem.W.fnOf "_law_spoilt" "_law_spoilt" (defArgs s_law_spoilt) (defBody s_law_spoilt) (defScope s_law_spoilt) .none kV_law_spoilt dc_law_spoilt pm_law_spoilt an_law_spoilt cd_law_spoilt ct_law_spoilt), sl_law_spoilt⟩)
    (c_law_spoilt : PySem.W.codeIn K cd_law_spoilt "_law_spoilt" = true)
    (k_law_spoilt : PySem.W.keepIn K (.ref f_law_spoilt) = true)
    {oc_law kV_law dc_law pm_law cd_law ct_law : Value} {od_law an_law : Option Addr} {sl_law : Array (Option Value)}
    (a_law : PySem.W.nsIn K mainGlobals "law" = some (some (.ref f_law)))
    (l_law : K.lookup f_law = some ⟨oc_law, od_law, .func (PySem.W.fnOf "law" "law" (defArgs s_law) (defBody s_law) (defScope s_law) .none kV_law dc_law pm_law an_law cd_law ct_law), sl_law⟩)
    (c_law : PySem.W.codeIn K cd_law "law" = true)
    (k_law : PySem.W.keepIn K (.ref f_law) = true)
    {t_MOST_CELL : Tok}
    (a_MOST_CELL : PySem.W.nsIn K mainGlobals "MOST_CELL" = some (some (.int 255 t_MOST_CELL)))
    {t_MOST_LETTERS : Tok}
    (a_MOST_LETTERS : PySem.W.nsIn K mainGlobals "MOST_LETTERS" = some (some (.int 8 t_MOST_LETTERS)))
    {t_MOST_PICTURES : Tok}
    (a_MOST_PICTURES : PySem.W.nsIn K mainGlobals "MOST_PICTURES" = some (some (.int 60 t_MOST_PICTURES)))
    {t_MOST_SIDE : Tok}
    (a_MOST_SIDE : PySem.W.nsIn K mainGlobals "MOST_SIDE" = some (some (.int 16 t_MOST_SIDE)))
    (a_SQUARE_KINDS : PySem.W.nsIn K mainGlobals "SQUARE_KINDS" = some (some (.ref f_SQUARE_KINDS)))
    (v_SQUARE_KINDS : tupK K 4 (.ref f_SQUARE_KINDS) = some (.tuple [(.str "turn"), (.str "all")]))
    (a_WAYS : PySem.W.nsIn K mainGlobals "WAYS" = some (some (.ref f_WAYS)))
    (a_LikeError : PySem.W.nsIn K mainGlobals "LikeError" = some (some (.ref C_LikeError)))
    (a_BadPicture : PySem.W.nsIn K mainGlobals "BadPicture" = some (some (.ref C_BadPicture)))
    (a_BadShelf : PySem.W.nsIn K mainGlobals "BadShelf" = some (some (.ref C_BadShelf)))
    (a_BadName : PySem.W.nsIn K mainGlobals "BadName" = some (some (.ref C_BadName)))
    (a_Told : PySem.W.nsIn K mainGlobals "Told" = some (some (.ref C_Told)))
    (a_Unknown : PySem.W.nsIn K mainGlobals "Unknown" = some (some (.ref C_Unknown)))
    (a_Full : PySem.W.nsIn K mainGlobals "Full" = some (some (.ref C_Full)))
    (a_BadText : PySem.W.nsIn K mainGlobals "BadText" = some (some (.ref C_BadText)))
    (kc_BadPicture : PySem.W.keepIn K (.ref C_BadPicture) = true)
    (x_BadPicture : PySem.W.excIn K C_BadPicture [.type "ValueError", .type "Exception", .type "BaseException", .type "object"] "ValueError.__new__" = true)
    (bp_BadPicture : PySem.W.subIn K (.ref C_BadPicture) (.type "BaseException") = some true)
    (ty_BadPicture : PySem.W.typeIn K (.ref C_BadPicture) = some (.type "type"))
    (em_BadPicture : PySem.W.exmOne K (.ref C_BadPicture) (.ref C_LikeError) = some true)
    (ehg_BadPicture : PySem.W.findIn K (.ref C_BadPicture) "__getattribute__" = some (some (.builtin "BaseException.__getattribute__")))
    (ehk_BadPicture : PySem.W.findIn K (.ref C_BadPicture) "__getattr__" = some none)
    (ehd_BadPicture : PySem.W.hasDictIn K C_BadPicture = true)
    (eha_BadPicture : PySem.W.findIn K (.ref C_BadPicture) "__class__" = some (some (.builtin "object.__class__")))
    (ehn_BadPicture : PySem.W.specialIn K (.builtin "object.__class__") "__get__" = some (some (.builtin "getset_descriptor.__get__")))
    (eht_BadPicture : PySem.W.takesIn K (.builtin "object.__class__") = some true)
    (ehm_BadPicture : PySem.W.mroIn K C_BadPicture (.type "object") = some true)
    (is_BadPicture_BadPicture : PySem.W.kitOne K (.ref C_BadPicture) (.ref C_BadPicture) = some true)
    (is_BadPicture_BadShelf : PySem.W.kitOne K (.ref C_BadPicture) (.ref C_BadShelf) = some false)
    (is_BadPicture_BadName : PySem.W.kitOne K (.ref C_BadPicture) (.ref C_BadName) = some false)
    (is_BadPicture_Told : PySem.W.kitOne K (.ref C_BadPicture) (.ref C_Told) = some false)
    (is_BadPicture_Unknown : PySem.W.kitOne K (.ref C_BadPicture) (.ref C_Unknown) = some false)
    (is_BadPicture_Full : PySem.W.kitOne K (.ref C_BadPicture) (.ref C_Full) = some false)
    (is_BadPicture_BadText : PySem.W.kitOne K (.ref C_BadPicture) (.ref C_BadText) = some false)
    (isV_BadPicture : PySem.W.kitOne K (.ref C_BadPicture) (.type "ValueError") = some true)
    (z_ValueError : PySem.W.nsIn K mainGlobals "ValueError" = some none)
    (z_abs : PySem.W.nsIn K mainGlobals "abs" = some none)
    (z_all : PySem.W.nsIn K mainGlobals "all" = some none)
    (z_isinstance : PySem.W.nsIn K mainGlobals "isinstance" = some none)
    (z_len : PySem.W.nsIn K mainGlobals "len" = some none)
    (z_list : PySem.W.nsIn K mainGlobals "list" = some none)
    (z_min : PySem.W.nsIn K mainGlobals "min" = some none)
    (z_range : PySem.W.nsIn K mainGlobals "range" = some none)
    (z_sorted : PySem.W.nsIn K mainGlobals "sorted" = some none)
    (z_sum : PySem.W.nsIn K mainGlobals "sum" = some none)
    (z_zip : PySem.W.nsIn K mainGlobals "zip" = some none)
    {es_WAYS : Array DictEntry} {n_WAYS : Nat}
    (l_WAYS : K.lookup f_WAYS = some ⟨.type "dict", none, .dict es_WAYS n_WAYS, #[]⟩)
    (kk : PySem.W.KeysLit w.params es_WAYS.toList)
    (dd : waysL.map (fun p => dictK K f_WAYS p.1) = waysL.map fun p => some p.2)
    (low : (f_WAYS == sysModules) = false)
    (hcd0 : cd_apart = .ref tc0)
    (tab0 : LK.codeTab K tc0 = some tP0)
    (hd0 : PySem.W.codeHdIn K tc0 tP0 = true)
    (tt0 : h.get? tP0 = some (PySem.W.tabObj #[]))
    (nK0 : K.lookup tP0 = none)
    (hcd1 : cd_law = .ref tc1)
    (tab1 : LK.codeTab K tc1 = some tP1)
    (hd1 : PySem.W.codeHdIn K tc1 tP1 = true)
    (tt1 : h.get? tP1 = some (PySem.W.tabObj #[]))
    (nK1 : K.lookup tP1 = none)
    (ne0_1 : tP0 ≠ tP1)
    (ne1_0 : tP1 ≠ tP0) :
    LamX.LawAtS l w K CX0 80 63 "_law_script" mg fa h := by
  have e : fa = f_law := by
    have e := hfa.symm.trans (PySem.W.mg_of X G a_law)
    cases e
    rfl
  rw [e]
  let tb0 : LK.Tbs := ⟨[(tP0, (("apart.<locals>." : Str) ++ ("<lambda>" : Str))), (tP1, (("law.<locals>." : Str) ++ ("<lambda>" : Str)))]⟩
  refine LK.law_tabY (sp := Lw.spLaw K) (fd := PySem.W.fnOf "law" "law" (defArgs s_law) (defBody s_law) (defScope s_law) .none kV_law dc_law pm_law an_law cd_law ct_law) [(tc0, tP0), (tc1, tP1)] (fun p hp => by
      cases hp with
      | head => exact tt0
      | tail _ hp =>
        cases hp with
        | head => exact tt1
        | tail _ hp => cases hp) (fun p hp => by
      cases hp with
      | head => exact nK0
      | tail _ hp =>
        cases hp with
        | head => exact nK1
        | tail _ hp => cases hp) (fun p hp => by
      cases hp with
      | head => exact PySem.W.codeHd_of_K X hd0
      | tail _ hp =>
        cases hp with
        | head => exact PySem.W.codeHd_of_K X hd1
        | tail _ hp => cases hp) (fun s v => .of_eq rfl) (fun H a ns hl hT hS => ⟨a, ns, rfl, hS, hl, (fun p hp => by
      cases hp with
      | head => exact hT (tc0, tP0) (.head _) _
      | tail _ hp =>
        cases hp with
        | head => exact hT (tc1, tP1) (.tail _ (.head _)) _
        | tail _ hp => cases hp), fun _ => rfl⟩) fun base h1 h2 TB => ?_
  exact ok_law { a_can_be_side := f_can_be_side, d_can_be_side := _, F_can_be_side := fun_mk (st := s_can_be_side) l_can_be_side c_can_be_side k_can_be_side, b_can_be_side := (fun_mk (st := s_can_be_side) l_can_be_side c_can_be_side k_can_be_side).binds (ps := ["number"]) (fun _ _ _ _ _ _ us hl => match us, hl with | [_], _ => rfl), g_can_be_side := PySem.W.mg_of X G a_can_be_side, a_is_cell := f_is_cell, d_is_cell := _, F_is_cell := fun_mk (st := s_is_cell) l_is_cell c_is_cell k_is_cell, b_is_cell := (fun_mk (st := s_is_cell) l_is_cell c_is_cell k_is_cell).binds (ps := ["number"]) (fun _ _ _ _ _ _ us hl => match us, hl with | [_], _ => rfl), g_is_cell := PySem.W.mg_of X G a_is_cell, a_width := f_width, d_width := _, F_width := fun_mk (st := s_width) l_width c_width k_width, b_width := (fun_mk (st := s_width) l_width c_width k_width).binds (ps := ["rows"]) (fun _ _ _ _ _ _ us hl => match us, hl with | [_], _ => rfl), g_width := PySem.W.mg_of X G a_width, a_is_picture := f_is_picture, d_is_picture := _, F_is_picture := fun_mk (st := s_is_picture) l_is_picture c_is_picture k_is_picture, b_is_picture := (fun_mk (st := s_is_picture) l_is_picture c_is_picture k_is_picture).binds (ps := ["rows"]) (fun _ _ _ _ _ _ us hl => match us, hl with | [_], _ => rfl), g_is_picture := PySem.W.mg_of X G a_is_picture, a_need_picture := f_need_picture, d_need_picture := _, F_need_picture := fun_mk (st := s_need_picture) l_need_picture c_need_picture k_need_picture, b_need_picture := (fun_mk (st := s_need_picture) l_need_picture c_need_picture k_need_picture).binds (ps := ["rows"]) (fun _ _ _ _ _ _ us hl => match us, hl with | [_], _ => rfl), g_need_picture := PySem.W.mg_of X G a_need_picture, a_need_picture_of := f_need_picture_of, d_need_picture_of := _, F_need_picture_of := fun_mk (st := s_need_picture_of) l_need_picture_of c_need_picture_of k_need_picture_of, b_need_picture_of := (fun_mk (st := s_need_picture_of) l_need_picture_of c_need_picture_of k_need_picture_of).binds (ps := ["rows", "high", "wide"]) (fun _ _ _ _ _ _ us hl => match us, hl with | [_, _, _], _ => rfl), g_need_picture_of := PySem.W.mg_of X G a_need_picture_of, a_copied := f_copied, d_copied := _, F_copied := fun_mk (st := s_copied) l_copied c_copied k_copied, b_copied := (fun_mk (st := s_copied) l_copied c_copied k_copied).binds (ps := ["rows"]) (fun _ _ _ _ _ _ us hl => match us, hl with | [_], _ => rfl), g_copied := PySem.W.mg_of X G a_copied, a_mirrored := f_mirrored, d_mirrored := _, F_mirrored := fun_mk (st := s_mirrored) l_mirrored c_mirrored k_mirrored, b_mirrored := (fun_mk (st := s_mirrored) l_mirrored c_mirrored k_mirrored).binds (ps := ["rows"]) (fun _ _ _ _ _ _ us hl => match us, hl with | [_], _ => rfl), g_mirrored := PySem.W.mg_of X G a_mirrored, a_turned := f_turned, d_turned := _, F_turned := fun_mk (st := s_turned) l_turned c_turned k_turned, b_turned := (fun_mk (st := s_turned) l_turned c_turned k_turned).binds (ps := ["rows"]) (fun _ _ _ _ _ _ us hl => match us, hl with | [_], _ => rfl), g_turned := PySem.W.mg_of X G a_turned, a_moved := f_moved, d_moved := _, F_moved := fun_mk (st := s_moved) l_moved c_moved k_moved, b_moved := (fun_mk (st := s_moved) l_moved c_moved k_moved).binds (ps := ["rows", "way"]) (fun _ _ _ _ _ _ us hl => match us, hl with | [_, _], _ => rfl), g_moved := PySem.W.mg_of X G a_moved, a_difference := f_difference, d_difference := _, F_difference := fun_mk (st := s_difference) l_difference c_difference k_difference, b_difference := (fun_mk (st := s_difference) l_difference c_difference k_difference).binds (ps := ["one", "other"]) (fun _ _ _ _ _ _ us hl => match us, hl with | [_, _], _ => rfl), g_difference := PySem.W.mg_of X G a_difference, a_sums := f_sums, d_sums := _, F_sums := fun_mk (st := s_sums) l_sums c_sums k_sums, b_sums := (fun_mk (st := s_sums) l_sums c_sums k_sums).binds (ps := ["rows"]) (fun _ _ _ _ _ _ us hl => match us, hl with | [_], _ => rfl), g_sums := PySem.W.mg_of X G a_sums, a_part_sum := f_part_sum, d_part_sum := _, F_part_sum := fun_mk (st := s_part_sum) l_part_sum c_part_sum k_part_sum, b_part_sum := (fun_mk (st := s_part_sum) l_part_sum c_part_sum k_part_sum).binds (ps := ["corners", "top", "left", "high", "wide"]) (fun _ _ _ _ _ _ us hl => match us, hl with | [_, _, _, _, _], _ => rfl), g_part_sum := PySem.W.mg_of X G a_part_sum, a_part := f_part, d_part := _, F_part := fun_mk (st := s_part) l_part c_part k_part, b_part := (fun_mk (st := s_part) l_part c_part k_part).binds (ps := ["rows", "top", "left", "high", "wide"]) (fun _ _ _ _ _ _ us hl => match us, hl with | [_, _, _, _, _], _ => rfl), g_part := PySem.W.mg_of X G a_part, a_need_room := f_need_room, d_need_room := _, F_need_room := fun_mk (st := s_need_room) l_need_room c_need_room k_need_room, b_need_room := (fun_mk (st := s_need_room) l_need_room c_need_room k_need_room).binds (ps := ["rows", "little"]) (fun _ _ _ _ _ _ us hl => match us, hl with | [_, _], _ => rfl), g_need_room := PySem.W.mg_of X G a_need_room, a_places := f_places, d_places := _, F_places := fun_mk (st := s_places) l_places c_places k_places, b_places := (fun_mk (st := s_places) l_places c_places k_places).binds (ps := ["rows", "little", "span"]) (fun _ _ _ _ _ _ us hl => match us, hl with | [_, _, _], _ => rfl), g_places := PySem.W.mg_of X G a_places, a_kind_fits := f_kind_fits, d_kind_fits := _, F_kind_fits := fun_mk (st := s_kind_fits) l_kind_fits c_kind_fits k_kind_fits, b_kind_fits := (fun_mk (st := s_kind_fits) l_kind_fits c_kind_fits k_kind_fits).binds (ps := ["kind", "high", "wide"]) (fun _ _ _ _ _ _ us hl => match us, hl with | [_, _, _], _ => rfl), g_kind_fits := PySem.W.mg_of X G a_kind_fits, a_apart := f_apart, d_apart := _, F_apart := fun_mk (st := s_apart) l_apart c_apart k_apart, b_apart := (fun_mk (st := s_apart) l_apart c_apart k_apart).binds (ps := ["one", "other", "kind"]) (fun _ _ _ _ _ _ us hl => match us, hl with | [_, _, _], _ => rfl), g_apart := PySem.W.mg_of X G a_apart, a_is_name := f_is_name, d_is_name := _, F_is_name := fun_mk (st := s_is_name) l_is_name c_is_name k_is_name, b_is_name := (fun_mk (st := s_is_name) l_is_name c_is_name k_is_name).binds (ps := ["name"]) (fun _ _ _ _ _ _ us hl => match us, hl with | [_], _ => rfl), g_is_name := PySem.W.mg_of X G a_is_name, a_can_be_shelf := f_can_be_shelf, d_can_be_shelf := _, F_can_be_shelf := fun_mk (st := s_can_be_shelf) l_can_be_shelf c_can_be_shelf k_can_be_shelf, b_can_be_shelf := (fun_mk (st := s_can_be_shelf) l_can_be_shelf c_can_be_shelf k_can_be_shelf).binds (ps := ["high", "wide", "kind"]) (fun _ _ _ _ _ _ us hl => match us, hl with | [_, _, _], _ => rfl), g_can_be_shelf := PySem.W.mg_of X G a_can_be_shelf, a_Shelf := C_Shelf, g_Shelf := PySem.W.mg_of X G a_Shelf, cl_Shelf := ⟨pg_Shelf, hd_Shelf, po_Shelf, sa_Shelf⟩, n_Shelf_high := n_Shelf_high, n_Shelf_wide := n_Shelf_wide, n_Shelf_kind := n_Shelf_kind, n_Shelf__kept := n_Shelf__kept, a_ShelfD_initD := f_ShelfD_initD, d_ShelfD_initD := _, F_ShelfD_initD := fun_mk (st := s_ShelfD_initD) l_ShelfD_initD c_ShelfD_initD k_ShelfD_initD, b_ShelfD_initD := (fun_mk (st := s_ShelfD_initD) l_ShelfD_initD c_ShelfD_initD k_ShelfD_initD).binds (ps := ["self", "high", "wide", "kind"]) (fun _ _ _ _ _ _ us hl => match us, hl with | [_, _, _, _], _ => rfl), mk_Shelf := ⟨mk_Shelf, a_ShelfD_initD, i_ShelfD_initD, kc_Shelf⟩, a_Shelf_put := f_Shelf_put, d_Shelf_put := _, F_Shelf_put := fun_mk (st := s_Shelf_put) l_Shelf_put c_Shelf_put k_Shelf_put, b_Shelf_put := (fun_mk (st := s_Shelf_put) l_Shelf_put c_Shelf_put k_Shelf_put).binds (ps := ["self", "name", "rows"]) (fun _ _ _ _ _ _ us hl => match us, hl with | [_, _, _], _ => rfl), mt_Shelf_put := ⟨a_Shelf_put, i_Shelf_put, k_Shelf_put⟩, a_Shelf_out := f_Shelf_out, d_Shelf_out := _, F_Shelf_out := fun_mk (st := s_Shelf_out) l_Shelf_out c_Shelf_out k_Shelf_out, b_Shelf_out := (fun_mk (st := s_Shelf_out) l_Shelf_out c_Shelf_out k_Shelf_out).binds (ps := ["self", "name"]) (fun _ _ _ _ _ _ us hl => match us, hl with | [_, _], _ => rfl), mt_Shelf_out := ⟨a_Shelf_out, i_Shelf_out, k_Shelf_out⟩, a_Shelf_names := f_Shelf_names, d_Shelf_names := _, F_Shelf_names := fun_mk (st := s_Shelf_names) l_Shelf_names c_Shelf_names k_Shelf_names, b_Shelf_names := (fun_mk (st := s_Shelf_names) l_Shelf_names c_Shelf_names k_Shelf_names).binds (ps := ["self"]) (fun _ _ _ _ _ _ us hl => match us, hl with | [_], _ => rfl), mt_Shelf_names := ⟨a_Shelf_names, i_Shelf_names, k_Shelf_names⟩, a_Shelf_picture := f_Shelf_picture, d_Shelf_picture := _, F_Shelf_picture := fun_mk (st := s_Shelf_picture) l_Shelf_picture c_Shelf_picture k_Shelf_picture, b_Shelf_picture := (fun_mk (st := s_Shelf_picture) l_Shelf_picture c_Shelf_picture k_Shelf_picture).binds (ps := ["self", "name"]) (fun _ _ _ _ _ _ us hl => match us, hl with | [_, _], _ => rfl), mt_Shelf_picture := ⟨a_Shelf_picture, i_Shelf_picture, k_Shelf_picture⟩, a_Shelf_tree := f_Shelf_tree, d_Shelf_tree := _, F_Shelf_tree := fun_mk (st := s_Shelf_tree) l_Shelf_tree c_Shelf_tree k_Shelf_tree, b_Shelf_tree := (fun_mk (st := s_Shelf_tree) l_Shelf_tree c_Shelf_tree k_Shelf_tree).binds (ps := ["self"]) (fun _ _ _ _ _ _ us hl => match us, hl with | [_], _ => rfl), mt_Shelf_tree := ⟨a_Shelf_tree, i_Shelf_tree, k_Shelf_tree⟩, a_ShelfDneed_kept := f_ShelfDneed_kept, d_ShelfDneed_kept := _, F_ShelfDneed_kept := fun_mk (st := s_ShelfDneed_kept) l_ShelfDneed_kept c_ShelfDneed_kept k_ShelfDneed_kept, b_ShelfDneed_kept := (fun_mk (st := s_ShelfDneed_kept) l_ShelfDneed_kept c_ShelfDneed_kept k_ShelfDneed_kept).binds (ps := ["self", "name"]) (fun _ _ _ _ _ _ us hl => match us, hl with | [_, _], _ => rfl), mt_ShelfDneed_kept := ⟨a_ShelfDneed_kept, i_ShelfDneed_kept, k_ShelfDneed_kept⟩, a_ShelfDhung := f_ShelfDhung, d_ShelfDhung := _, F_ShelfDhung := fun_mk (st := s_ShelfDhung) l_ShelfDhung c_ShelfDhung k_ShelfDhung, b_ShelfDhung := (fun_mk (st := s_ShelfDhung) l_ShelfDhung c_ShelfDhung k_ShelfDhung).binds (ps := ["self", "names"]) (fun _ _ _ _ _ _ us hl => match us, hl with | [_, _], _ => rfl), mt_ShelfDhung := ⟨a_ShelfDhung, i_ShelfDhung, k_ShelfDhung⟩, a_law_cell := f_law_cell, d_law_cell := _, F_law_cell := fun_mk (st := s_law_cell) l_law_cell c_law_cell k_law_cell, b_law_cell := (fun_mk (st := s_law_cell) l_law_cell c_law_cell k_law_cell).binds (ps := ["_law_script", "_law_k"]) (fun _ _ _ _ _ _ us hl => match us, hl with | [_, _], _ => rfl), g_law_cell := PySem.W.mg_of X G a_law_cell, a_law_dice := f_law_dice, d_law_dice := _, F_law_dice := fun_mk (st := s_law_dice) l_law_dice c_law_dice k_law_dice, b_law_dice := (fun_mk (st := s_law_dice) l_law_dice c_law_dice k_law_dice).binds (ps := ["_law_script", "_law_k"]) (fun _ _ _ _ _ _ us hl => match us, hl with | [_, _], _ => rfl), g_law_dice := PySem.W.mg_of X G a_law_dice, a_law_off := f_law_off, d_law_off := _, F_law_off := fun_mk (st := s_law_off) l_law_off c_law_off k_law_off, b_law_off := (fun_mk (st := s_law_off) l_law_off c_law_off k_law_off).binds (ps := ["_law_d", "_law_most"]) (fun _ _ _ _ _ _ us hl => match us, hl with | [_, _], _ => rfl), g_law_off := PySem.W.mg_of X G a_law_off, a_law_cells := f_law_cells, d_law_cells := _, F_law_cells := fun_mk (st := s_law_cells) l_law_cells c_law_cells k_law_cells, b_law_cells := (fun_mk (st := s_law_cells) l_law_cells c_law_cells k_law_cells).binds (ps := ["_law_d", "_law_high", "_law_wide"]) (fun _ _ _ _ _ _ us hl => match us, hl with | [_, _, _], _ => rfl), g_law_cells := PySem.W.mg_of X G a_law_cells, a_law_is := f_law_is, d_law_is := _, F_law_is := fun_mk (st := s_law_is) l_law_is c_law_is k_law_is, b_law_is := (fun_mk (st := s_law_is) l_law_is c_law_is k_law_is).binds (ps := ["_law_e", "_law_word"]) (fun _ _ _ _ _ _ us hl => match us, hl with | [_, _], _ => rfl), g_law_is := PySem.W.mg_of X G a_law_is, a_law_refused := f_law_refused, d_law_refused := _, F_law_refused := fun_mk (st := s_law_refused) l_law_refused c_law_refused k_law_refused, b_law_refused := (fun_mk (st := s_law_refused) l_law_refused c_law_refused k_law_refused).binds (ps := ["_law_work"]) (fun _ _ _ _ _ _ us hl => match us, hl with | [_], _ => rfl), g_law_refused := PySem.W.mg_of X G a_law_refused, a_law_spoilt := f_law_spoilt, d_law_spoilt := _, F_law_spoilt := fun_mk (st := s_law_spoilt) l_law_spoilt c_law_spoilt k_law_spoilt, b_law_spoilt := (fun_mk (st := s_law_spoilt) l_law_spoilt c_law_spoilt k_law_spoilt).binds (ps := ["_law_d", "_law_rows"]) (fun _ _ _ _ _ _ us hl => match us, hl with | [_, _], _ => rfl), g_law_spoilt := PySem.W.mg_of X G a_law_spoilt, a_law := f_law, d_law := _, F_law := fun_mk (st := s_law) l_law c_law k_law, b_law := (fun_mk (st := s_law) l_law c_law k_law).binds (ps := ["_law_script"]) (fun _ _ _ _ _ _ us hl => match us, hl with | [_], _ => rfl), g_law := PySem.W.mg_of X G a_law, t_MOST_CELL := t_MOST_CELL, g_MOST_CELL := PySem.W.mg_of X G a_MOST_CELL, t_MOST_LETTERS := t_MOST_LETTERS, g_MOST_LETTERS := PySem.W.mg_of X G a_MOST_LETTERS, t_MOST_PICTURES := t_MOST_PICTURES, g_MOST_PICTURES := PySem.W.mg_of X G a_MOST_PICTURES, t_MOST_SIDE := t_MOST_SIDE, g_MOST_SIDE := PySem.W.mg_of X G a_MOST_SIDE, a_SQUARE_KINDS := f_SQUARE_KINDS, g_SQUARE_KINDS := PySem.W.mg_of X G a_SQUARE_KINDS, v_SQUARE_KINDS := tupK_ref v_SQUARE_KINDS, a_WAYS := f_WAYS, g_WAYS := PySem.W.mg_of X G a_WAYS, a_LikeError := C_LikeError, g_LikeError := PySem.W.mg_of X G a_LikeError, a_BadPicture := C_BadPicture, g_BadPicture := PySem.W.mg_of X G a_BadPicture, a_BadShelf := C_BadShelf, g_BadShelf := PySem.W.mg_of X G a_BadShelf, a_BadName := C_BadName, g_BadName := PySem.W.mg_of X G a_BadName, a_Told := C_Told, g_Told := PySem.W.mg_of X G a_Told, a_Unknown := C_Unknown, g_Unknown := PySem.W.mg_of X G a_Unknown, a_Full := C_Full, g_Full := PySem.W.mg_of X G a_Full, a_BadText := C_BadText, g_BadText := PySem.W.mg_of X G a_BadText, kc_BadPicture := kc_BadPicture, x_BadPicture := x_BadPicture, bp_BadPicture := bp_BadPicture, ty_BadPicture := ty_BadPicture, em_BadPicture := em_BadPicture, ec_BadPicture := ⟨ehg_BadPicture, ehk_BadPicture, bp_BadPicture, ehd_BadPicture, eha_BadPicture, ehn_BadPicture, eht_BadPicture, ehm_BadPicture⟩, is_BadPicture_BadPicture := is_BadPicture_BadPicture, is_BadPicture_BadShelf := is_BadPicture_BadShelf, is_BadPicture_BadName := is_BadPicture_BadName, is_BadPicture_Told := is_BadPicture_Told, is_BadPicture_Unknown := is_BadPicture_Unknown, is_BadPicture_Full := is_BadPicture_Full, is_BadPicture_BadText := is_BadPicture_BadText, isV_BadPicture := isV_BadPicture, m_ValueError := PySem.W.mg_none_of X G z_ValueError, m_abs := PySem.W.mg_none_of X G z_abs, m_all := PySem.W.mg_none_of X G z_all, m_isinstance := PySem.W.mg_none_of X G z_isinstance, m_len := PySem.W.mg_none_of X G z_len, m_list := PySem.W.mg_none_of X G z_list, m_min := PySem.W.mg_none_of X G z_min, m_range := PySem.W.mg_none_of X G z_range, m_sorted := PySem.W.mg_none_of X G z_sorted, m_sum := PySem.W.mg_none_of X G z_sum, m_zip := PySem.W.mg_none_of X G z_zip } ⟨globD_mk l_WAYS kk dd low, TB (tc0, tP0) (.head _), hcd0, (.head _), (fun q hq => by
      cases hq with
      | head => exact fun _ => rfl
      | tail _ hq =>
        cases hq with
        | head => exact fun z => absurd z ne1_0
        | tail _ hq => cases hq)⟩ ⟨TB (tc1, tP1) (.tail _ (.head _)), hcd1, (.tail _ (.head _)), (fun q hq => by
      cases hq with
      | head => exact fun z => absurd z ne0_1
      | tail _ hq =>
        cases hq with
        | head => exact fun _ => rfl
        | tail _ hq => cases hq)⟩
end Lw
open PySem PySem.W PyProof.Rows
set_option maxHeartbeats 0 in
theorem PySem.Challenge.cw_likeshelf_k01_pictures_refused_holds : PySem.Challenge.rw_likeshelf_k01_pictures_refused.Holds := by
  w_on; o_law; k_head; (case hw => w_witness2)
  k_fill
  refine LK.walk_tabs (l := PySem.Challenge.rw_likeshelf_k01_pictures_refused) (n := 63) (k := 80) (x := "_law_script") (CX := fun _ => L2.CX0) rfl (by decide) rfl ⟨rfl, by decide, by decide⟩ (fun w h Y => PySem.W.km_in_of Y) ?F (fun _ _ _ _ _ h => h)
  case F =>
    intro w mg mb fa h ls mean Y KX G TT hmg
    let tb0 : LK.Tbs := ⟨[]⟩
    refine' Lw.all_mk KX G hmg ?a_can_be_side ?l_can_be_side ?c_can_be_side ?k_can_be_side ?a_is_cell ?l_is_cell ?c_is_cell ?k_is_cell ?a_width ?l_width ?c_width ?k_width ?a_is_picture ?l_is_picture ?c_is_picture ?k_is_picture ?a_need_picture ?l_need_picture ?c_need_picture ?k_need_picture ?a_need_picture_of ?l_need_picture_of ?c_need_picture_of ?k_need_picture_of ?a_copied ?l_copied ?c_copied ?k_copied ?a_mirrored ?l_mirrored ?c_mirrored ?k_mirrored ?a_turned ?l_turned ?c_turned ?k_turned ?a_moved ?l_moved ?c_moved ?k_moved ?a_difference ?l_difference ?c_difference ?k_difference ?a_sums ?l_sums ?c_sums ?k_sums ?a_part_sum ?l_part_sum ?c_part_sum ?k_part_sum ?a_part ?l_part ?c_part ?k_part ?a_need_room ?l_need_room ?c_need_room ?k_need_room ?a_places ?l_places ?c_places ?k_places ?a_kind_fits ?l_kind_fits ?c_kind_fits ?k_kind_fits ?a_apart ?l_apart ?c_apart ?k_apart ?a_is_name ?l_is_name ?c_is_name ?k_is_name ?a_can_be_shelf ?l_can_be_shelf ?c_can_be_shelf ?k_can_be_shelf ?a_Shelf ?pg_Shelf ?hd_Shelf ?po_Shelf ?sa_Shelf ?mk_Shelf ?kc_Shelf ?n_Shelf_high ?n_Shelf_wide ?n_Shelf_kind ?n_Shelf__kept ?a_ShelfD_initD ?i_ShelfD_initD ?l_ShelfD_initD ?c_ShelfD_initD ?k_ShelfD_initD ?a_Shelf_put ?i_Shelf_put ?l_Shelf_put ?c_Shelf_put ?k_Shelf_put ?a_Shelf_out ?i_Shelf_out ?l_Shelf_out ?c_Shelf_out ?k_Shelf_out ?a_Shelf_names ?i_Shelf_names ?l_Shelf_names ?c_Shelf_names ?k_Shelf_names ?a_Shelf_picture ?i_Shelf_picture ?l_Shelf_picture ?c_Shelf_picture ?k_Shelf_picture ?a_Shelf_tree ?i_Shelf_tree ?l_Shelf_tree ?c_Shelf_tree ?k_Shelf_tree ?a_ShelfDneed_kept ?i_ShelfDneed_kept ?l_ShelfDneed_kept ?c_ShelfDneed_kept ?k_ShelfDneed_kept ?a_ShelfDhung ?i_ShelfDhung ?l_ShelfDhung ?c_ShelfDhung ?k_ShelfDhung ?a_law_cell ?l_law_cell ?c_law_cell ?k_law_cell ?a_law_dice ?l_law_dice ?c_law_dice ?k_law_dice ?a_law_off ?l_law_off ?c_law_off ?k_law_off ?a_law_cells ?l_law_cells ?c_law_cells ?k_law_cells ?a_law_is ?l_law_is ?c_law_is ?k_law_is ?a_law_refused ?l_law_refused ?c_law_refused ?k_law_refused ?a_law_spoilt ?l_law_spoilt ?c_law_spoilt ?k_law_spoilt ?a_law ?l_law ?c_law ?k_law ?a_MOST_CELL ?a_MOST_LETTERS ?a_MOST_PICTURES ?a_MOST_SIDE ?a_SQUARE_KINDS ?v_SQUARE_KINDS ?a_WAYS ?a_LikeError ?a_BadPicture ?a_BadShelf ?a_BadName ?a_Told ?a_Unknown ?a_Full ?a_BadText ?kc_BadPicture ?x_BadPicture ?bp_BadPicture ?ty_BadPicture ?em_BadPicture ?ehg_BadPicture ?ehk_BadPicture ?ehd_BadPicture ?eha_BadPicture ?ehn_BadPicture ?eht_BadPicture ?ehm_BadPicture ?is_BadPicture_BadPicture ?is_BadPicture_BadShelf ?is_BadPicture_BadName ?is_BadPicture_Told ?is_BadPicture_Unknown ?is_BadPicture_Full ?is_BadPicture_BadText ?isV_BadPicture ?z_ValueError ?z_abs ?z_all ?z_isinstance ?z_len ?z_list ?z_min ?z_range ?z_sorted ?z_sum ?z_zip ?l_WAYS ?kk ?dd ?low ?hcd0 ?tab0 ?hd0 ?tt0 ?nK0 ?hcd1 ?tab1 ?hd1 ?tt1 ?nK1 ?ne0_1 ?ne1_0
    (case a_can_be_side => k_is)
    (case l_can_be_side => k_is)
    (case c_can_be_side => k_is)
    (case k_can_be_side => k_is)
    (case a_is_cell => k_is)
    (case l_is_cell => k_is)
    (case c_is_cell => k_is)
    (case k_is_cell => k_is)
    (case a_width => k_is)
    (case l_width => k_is)
    (case c_width => k_is)
    (case k_width => k_is)
    (case a_is_picture => k_is)
    (case l_is_picture => k_is)
    (case c_is_picture => k_is)
    (case k_is_picture => k_is)
    (case a_need_picture => k_is)
    (case l_need_picture => k_is)
    (case c_need_picture => k_is)
    (case k_need_picture => k_is)
    (case a_need_picture_of => k_is)
    (case l_need_picture_of => k_is)
    (case c_need_picture_of => k_is)
    (case k_need_picture_of => k_is)
    (case a_copied => k_is)
    (case l_copied => k_is)
    (case c_copied => k_is)
    (case k_copied => k_is)
    (case a_mirrored => k_is)
    (case l_mirrored => k_is)
    (case c_mirrored => k_is)
    (case k_mirrored => k_is)
    (case a_turned => k_is)
    (case l_turned => k_is)
    (case c_turned => k_is)
    (case k_turned => k_is)
    (case a_moved => k_is)
    (case l_moved => k_is)
    (case c_moved => k_is)
    (case k_moved => k_is)
    (case a_difference => k_is)
    (case l_difference => k_is)
    (case c_difference => k_is)
    (case k_difference => k_is)
    (case a_sums => k_is)
    (case l_sums => k_is)
    (case c_sums => k_is)
    (case k_sums => k_is)
    (case a_part_sum => k_is)
    (case l_part_sum => k_is)
    (case c_part_sum => k_is)
    (case k_part_sum => k_is)
    (case a_part => k_is)
    (case l_part => k_is)
    (case c_part => k_is)
    (case k_part => k_is)
    (case a_need_room => k_is)
    (case l_need_room => k_is)
    (case c_need_room => k_is)
    (case k_need_room => k_is)
    (case a_places => k_is)
    (case l_places => k_is)
    (case c_places => k_is)
    (case k_places => k_is)
    (case a_kind_fits => k_is)
    (case l_kind_fits => k_is)
    (case c_kind_fits => k_is)
    (case k_kind_fits => k_is)
    (case a_apart => k_is)
    (case l_apart => k_is)
    (case c_apart => k_is)
    (case k_apart => k_is)
    (case a_is_name => k_is)
    (case l_is_name => k_is)
    (case c_is_name => k_is)
    (case k_is_name => k_is)
    (case a_can_be_shelf => k_is)
    (case l_can_be_shelf => k_is)
    (case c_can_be_shelf => k_is)
    (case k_can_be_shelf => k_is)
    (case a_Shelf => k_is)
    (case pg_Shelf => k_is)
    (case hd_Shelf => k_is)
    (case po_Shelf => k_is)
    (case sa_Shelf => k_is)
    (case mk_Shelf => k_is)
    (case kc_Shelf => k_is)
    (case n_Shelf_high => k_is)
    (case n_Shelf_wide => k_is)
    (case n_Shelf_kind => k_is)
    (case n_Shelf__kept => k_is)
    (case a_ShelfD_initD => k_is)
    (case i_ShelfD_initD => k_is)
    (case l_ShelfD_initD => k_is)
    (case c_ShelfD_initD => k_is)
    (case k_ShelfD_initD => k_is)
    (case a_Shelf_put => k_is)
    (case i_Shelf_put => k_is)
    (case l_Shelf_put => k_is)
    (case c_Shelf_put => k_is)
    (case k_Shelf_put => k_is)
    (case a_Shelf_out => k_is)
    (case i_Shelf_out => k_is)
    (case l_Shelf_out => k_is)
    (case c_Shelf_out => k_is)
    (case k_Shelf_out => k_is)
    (case a_Shelf_names => k_is)
    (case i_Shelf_names => k_is)
    (case l_Shelf_names => k_is)
    (case c_Shelf_names => k_is)
    (case k_Shelf_names => k_is)
    (case a_Shelf_picture => k_is)
    (case i_Shelf_picture => k_is)
    (case l_Shelf_picture => k_is)
    (case c_Shelf_picture => k_is)
    (case k_Shelf_picture => k_is)
    (case a_Shelf_tree => k_is)
    (case i_Shelf_tree => k_is)
    (case l_Shelf_tree => k_is)
    (case c_Shelf_tree => k_is)
    (case k_Shelf_tree => k_is)
    (case a_ShelfDneed_kept => k_is)
    (case i_ShelfDneed_kept => k_is)
    (case l_ShelfDneed_kept => k_is)
    (case c_ShelfDneed_kept => k_is)
    (case k_ShelfDneed_kept => k_is)
    (case a_ShelfDhung => k_is)
    (case i_ShelfDhung => k_is)
    (case l_ShelfDhung => k_is)
    (case c_ShelfDhung => k_is)
    (case k_ShelfDhung => k_is)
    (case a_law_cell => k_is)
    (case l_law_cell => k_is)
    (case c_law_cell => k_is)
    (case k_law_cell => k_is)
    (case a_law_dice => k_is)
    (case l_law_dice => k_is)
    (case c_law_dice => k_is)
    (case k_law_dice => k_is)
    (case a_law_off => k_is)
    (case l_law_off => k_is)
    (case c_law_off => k_is)
    (case k_law_off => k_is)
    (case a_law_cells => k_is)
    (case l_law_cells => k_is)
    (case c_law_cells => k_is)
    (case k_law_cells => k_is)
    (case a_law_is => k_is)
    (case l_law_is => k_is)
    (case c_law_is => k_is)
    (case k_law_is => k_is)
    (case a_law_refused => k_is)
    (case l_law_refused => k_is)
    (case c_law_refused => k_is)
    (case k_law_refused => k_is)
    (case a_law_spoilt => k_is)
    (case l_law_spoilt => k_is)
    (case c_law_spoilt => k_is)
    (case k_law_spoilt => k_is)
    (case a_law => k_is)
    (case l_law => k_is)
    (case c_law => k_is)
    (case k_law => k_is)
    (case a_MOST_CELL => k_is)
    (case a_MOST_LETTERS => k_is)
    (case a_MOST_PICTURES => k_is)
    (case a_MOST_SIDE => k_is)
    (case a_SQUARE_KINDS => k_is)
    (case v_SQUARE_KINDS => kernel_rfl)
    (case a_WAYS => k_is)
    (case a_LikeError => k_is)
    (case a_BadPicture => k_is)
    (case a_BadShelf => k_is)
    (case a_BadName => k_is)
    (case a_Told => k_is)
    (case a_Unknown => k_is)
    (case a_Full => k_is)
    (case a_BadText => k_is)
    (case kc_BadPicture => k_is)
    (case x_BadPicture => k_exc)
    (case bp_BadPicture => k_is)
    (case ty_BadPicture => k_is)
    (case em_BadPicture => kernel_rfl)
    (case ehg_BadPicture => k_is)
    (case ehk_BadPicture => k_is)
    (case ehd_BadPicture => k_is)
    (case eha_BadPicture => k_is)
    (case ehn_BadPicture => k_is)
    (case eht_BadPicture => k_is)
    (case ehm_BadPicture => k_is)
    (case is_BadPicture_BadPicture => kernel_rfl)
    (case is_BadPicture_BadShelf => kernel_rfl)
    (case is_BadPicture_BadName => kernel_rfl)
    (case is_BadPicture_Told => kernel_rfl)
    (case is_BadPicture_Unknown => kernel_rfl)
    (case is_BadPicture_Full => kernel_rfl)
    (case is_BadPicture_BadText => kernel_rfl)
    (case isV_BadPicture => kernel_rfl)
    (case z_ValueError => k_is)
    (case z_abs => k_is)
    (case z_all => k_is)
    (case z_isinstance => k_is)
    (case z_len => k_is)
    (case z_list => k_is)
    (case z_min => k_is)
    (case z_range => k_is)
    (case z_sorted => k_is)
    (case z_sum => k_is)
    (case z_zip => k_is)
    (case l_WAYS => k_is)
    (case kk => k_keys)
    (case dd => kernel_rfl)
    (case low => kernel_rfl)
    (case hcd0 => exact rfl)
    (case tab0 => exact rfl)
    (case hd0 => kernel_rfl)
    (case tt0 => exact PySem.W.km_tabs_of Y _ (by k_mem))
    (case nK0 => kernel_rfl)
    (case hcd1 => exact rfl)
    (case tab1 => exact rfl)
    (case hd1 => kernel_rfl)
    (case tt1 => exact PySem.W.km_tabs_of Y _ (by k_mem))
    (case nK1 => kernel_rfl)
    (case ne0_1 => decide)
    (case ne1_0 => decide)
