import PyProof.Rows.All
import Wide.All
import OpenK.AllK
import Wide.FinOn
import PySem.Challenge.RW_precread_k06_trees_belong
import HandS.ForMost
import HandS.WordsExc
import HandS.TryOnly
import HandS.HotCalls
import HandS.IsInst
import HandS.ExcIs
import HandS.AnyAll
import HandS.EndTab
import HandS.FStr
import HandS.Replace
import HandS.Small
import HandS.TryMany
import HandS.Zip
import KE.KDictZip
import HandS.EndOwn
import HandS.Deep
import HandS.GenOver
import HandS.Nested
import HandS.TupAny
set_option Elab.async false
set_option linter.all false
set_option maxRecDepth 100000
namespace Eng
open PySem PySem.Spec
open PyProof.Rows L2
abbrev St := L2.St
abbrev D := PyData

/-! ### tracked data -/
mutual
inductive Tr (H : Hp) : V → PyData → Prop
  | non : Tr H .non .none
  | bl (b : Bool) : Tr H (.bl b) (.bool b)
  | int (i : Int) : Tr H (.int i) (.int i)
  | str (x : Str) : Tr H (.str x) (.str x)
  | lst {a : Addr} {xs : List V} {ds : List PyData} : H a = some (.lst xs) → TrAll H xs ds → Tr H (.ref a) (.list ds)
  | tup {a : Addr} {xs : List V} {ds : List PyData} : H a = some (.tup xs) → TrAll H xs ds → Tr H (.ref a) (.tuple ds)
inductive TrAll (H : Hp) : List V → List PyData → Prop
  | nil : TrAll H [] []
  | cons {v : V} {vs : List V} {d : PyData} {ds : List PyData} : Tr H v d → TrAll H vs ds → TrAll H (v :: vs) (d :: ds)
end
mutual
def lf : PyData → Bool
  | .none => true
  | .bool _ => true
  | .int _ => true
  | .str _ => true
  | .list _ => false
  | .tuple ds => lfs ds
  | .dict _ => false
def lfs : List PyData → Bool
  | [] => true
  | d :: ds => lf d && lfs ds
end
def SeqLe (H H' : Hp) : Prop := (∀ a xs, H a = some (.lst xs) → H' a = some (.lst xs)) ∧ ∀ a xs, H a = some (.tup xs) → H' a = some (.tup xs)
mutual
theorem Tr.mono {H H' : Hp} (s : SeqLe H H') : ∀ (d : PyData) (v : V), Tr H v d → Tr H' v d
  | .none, _, h => by cases h; exact .non
  | .bool b, _, h => by cases h; exact .bl b
  | .int i, _, h => by cases h; exact .int i
  | .str x, _, h => by cases h; exact .str x
  | .list ds, _, h => by
    cases h with
    | lst e t => exact .lst (s.1 _ _ e) (TrAll.mono s ds _ t)
  | .tuple ds, _, h => by
    cases h with
    | tup e t => exact .tup (s.2 _ _ e) (TrAll.mono s ds _ t)
  | .dict _, _, h => by cases h
theorem TrAll.mono {H H' : Hp} (s : SeqLe H H') : ∀ (ds : List PyData) (vs : List V), TrAll H vs ds → TrAll H' vs ds
  | [], _, h => by cases h; exact .nil
  | d :: ds, _, h => by
    cases h with
    | cons a t => exact .cons (Tr.mono s d _ a) (TrAll.mono s ds _ t)
end
mutual
theorem Tr.lfm {H H' : Hp} (s : ∀ a xs, H a = some (.tup xs) → H' a = some (.tup xs)) : ∀ (d : PyData) (v : V), Tr H v d → lf d = true → Tr H' v d
  | .none, _, h, _ => by cases h; exact .non
  | .bool b, _, h, _ => by cases h; exact .bl b
  | .int i, _, h, _ => by cases h; exact .int i
  | .str x, _, h, _ => by cases h; exact .str x
  | .list ds, _, h, l => by simp [lf] at l
  | .tuple ds, _, h, l => by
    cases h with
    | tup e t => exact .tup (s _ _ e) (TrAll.lfm s ds _ t (by simpa [lf] using l))
  | .dict _, _, h, _ => by cases h
theorem TrAll.lfm {H H' : Hp} (s : ∀ a xs, H a = some (.tup xs) → H' a = some (.tup xs)) : ∀ (ds : List PyData) (vs : List V), TrAll H vs ds → lfs ds = true → TrAll H' vs ds
  | [], _, h, _ => by cases h; exact .nil
  | d :: ds, _, h, l => by
    cases h with
    | cons a t =>
      rw [lfs, Bool.and_eq_true] at l
      exact .cons (Tr.lfm s d _ a l.1) (TrAll.lfm s ds _ t l.2)
end
mutual
theorem Tr.dp {K : PySem.W.Frag} {H : Hp} : ∀ (d : PyData) (v : V), Tr H v d → Dp K H v d
  | .none, _, h => by cases h; exact .non
  | .bool b, _, h => by cases h; exact .bl b
  | .int i, _, h => by cases h; exact .int i
  | .str x, _, h => by cases h; exact .str x
  | .list ds, _, h => by
    cases h with
    | lst e t => exact .lst (SqL.of e) (TrAll.dp ds _ t)
  | .tuple ds, _, h => by
    cases h with
    | tup e t => exact .tup (SqT.of e) (TrAll.dp ds _ t)
  | .dict _, _, h => by cases h
theorem TrAll.dp {K : PySem.W.Frag} {H : Hp} : ∀ (ds : List PyData) (vs : List V), TrAll H vs ds → DpAll K H vs ds
  | [], _, h => by cases h; exact .nil
  | d :: ds, _, h => by
    cases h with
    | cons a t => exact .cons (Tr.dp d _ a) (TrAll.dp ds _ t)
end
theorem TrAll.length {H : Hp} : ∀ {vs : List V} {ds : List PyData}, TrAll H vs ds → vs.length = ds.length
  | _, [], h => by cases h; rfl
  | _, _ :: _, h => by
    cases h with
    | cons _ t => simp [TrAll.length t]
theorem TrAll.get {H : Hp} : ∀ {ds : List PyData} {vs : List V} {i : Nat} {d : PyData}, TrAll H vs ds → ds[i]? = some d → ∃ v, vs[i]? = some v ∧ Tr H v d
  | [], _, _, _, _, e => by simp at e
  | d :: ds, _, 0, _, h, e => by
    cases h with
    | cons a t => simp at e; subst e; exact ⟨_, rfl, a⟩
  | d :: ds, _, i + 1, _, h, e => by
    cases h with
    | cons a t => simpa using TrAll.get (i := i) t (by simpa using e)
theorem TrAll.getV {H : Hp} {ds : List PyData} {vs : List V} {i : Nat} {v : V} (h : TrAll H vs ds) (e : vs[i]? = some v) : ∃ d, ds[i]? = some d ∧ Tr H v d := by
  have hl := h.length
  have hi : i < ds.length := by rw [← hl]; exact (List.getElem?_eq_some_iff.mp e).1
  obtain ⟨w, hw, t⟩ := h.get (List.getElem?_eq_getElem hi)
  rw [e] at hw; cases hw
  exact ⟨_, List.getElem?_eq_getElem hi, t⟩
theorem TrAll.append {H : Hp} : ∀ {ds es : List PyData} {vs ws : List V}, TrAll H vs ds → TrAll H ws es → TrAll H (vs ++ ws) (ds ++ es)
  | [], _, _, _, h, t => by cases h; exact t
  | _ :: _, _, _, _, h, t => by
    cases h with
    | cons a b => exact .cons a (TrAll.append b t)
theorem TrAll.take {H : Hp} : ∀ {ds : List PyData} {vs : List V} (n : Nat), TrAll H vs ds → TrAll H (vs.take n) (ds.take n)
  | [], _, _, h => by cases h; simp; exact .nil
  | _ :: _, _, 0, h => by simp; exact .nil
  | _ :: _, _, n + 1, h => by
    cases h with
    | cons a b => exact .cons a (TrAll.take n b)
theorem TrAll.drop {H : Hp} : ∀ {ds : List PyData} {vs : List V} (n : Nat), TrAll H vs ds → TrAll H (vs.drop n) (ds.drop n)
  | [], _, _, h => by cases h; simp; exact .nil
  | _ :: _, _, 0, h => h
  | _ :: _, _, n + 1, h => by
    cases h with
    | cons a b => exact TrAll.drop n b
theorem TrAll.set {H : Hp} : ∀ {ds : List PyData} {vs : List V} (i : Nat) {v : V} {d : PyData}, TrAll H vs ds → Tr H v d → TrAll H (vs.set i v) (ds.set i d)
  | [], _, _, _, _, h, _ => by cases h; simp; exact .nil
  | _ :: _, _, 0, _, _, h, t => by
    cases h with
    | cons a b => exact .cons t b
  | _ :: _, _, i + 1, _, _, h, t => by
    cases h with
    | cons a b => exact .cons a (TrAll.set i b t)
theorem TrAll.dropLast {H : Hp} : ∀ {ds : List PyData} {vs : List V}, TrAll H vs ds → TrAll H vs.dropLast ds.dropLast
  | [], _, h => by cases h; exact .nil
  | [_], _, h => by
    cases h with
    | cons a b => cases b; exact .nil
  | _ :: _ :: _, _, h => by
    cases h with
    | cons a b =>
      cases b with
      | cons a2 b2 => exact .cons a (TrAll.dropLast (.cons a2 b2))
theorem TrAll.one {H : Hp} {v : V} {d : PyData} (h : Tr H v d) : TrAll H [v] [d] := .cons h .nil
theorem TrAll.strs {H : Hp} : ∀ {vs : List V} {xs : List Str}, TrAll H vs (xs.map PyData.str) → vs = xs.map V.str
  | _, [], h => by cases h; rfl
  | _, _ :: _, h => by
    cases h with
    | cons a t => cases a; rw [TrAll.strs t]; rfl
theorem TrAll.ints {H : Hp} : ∀ {vs : List V} {xs : List Int}, TrAll H vs (xs.map PyData.int) → vs = xs.map V.int
  | _, [], h => by cases h; rfl
  | _, _ :: _, h => by
    cases h with
    | cons a t => cases a; rw [TrAll.ints t]; rfl
theorem trAll_strs {H : Hp} : ∀ (xs : List Str), TrAll H (xs.map V.str) (xs.map PyData.str)
  | [] => .nil
  | x :: xs => .cons (.str x) (trAll_strs xs)
theorem trAll_ints {H : Hp} : ∀ (xs : List Int), TrAll H (xs.map V.int) (xs.map PyData.int)
  | [] => .nil
  | x :: xs => .cons (.int x) (trAll_ints xs)

/-! ### masks -/
def mask (P : List Addr) (H : Hp) : Hp := fun a => if a ∈ P then none else H a
theorem mask_in {P : List Addr} {H : Hp} {a : Addr} (h : a ∈ P) : mask P H a = none := if_pos h
theorem mask_out {P : List Addr} {H : Hp} {a : Addr} (h : a ∉ P) : mask P H a = H a := if_neg h
theorem mask_some {P : List Addr} {H : Hp} {a : Addr} {o : HO} (h : mask P H a = some o) : a ∉ P ∧ H a = some o := by
  by_cases hp : a ∈ P
  · rw [mask_in hp] at h; cases h
  · rw [mask_out hp] at h; exact ⟨hp, h⟩
theorem mask_le {P : List Addr} {H : Hp} : SeqLe (mask P H) H := ⟨fun _ _ h => (mask_some h).2, fun _ _ h => (mask_some h).2⟩
theorem mask_anti {P P' : List Addr} {H : Hp} (s : ∀ a ∈ P', a ∈ P) : SeqLe (mask P H) (mask P' H) :=
  ⟨fun a _ h => by rw [mask_out fun z => (mask_some h).1 (s a z)]; exact (mask_some h).2, fun a _ h => by rw [mask_out fun z => (mask_some h).1 (s a z)]; exact (mask_some h).2⟩
theorem SeqLe.trans {H H1 H2 : Hp} (a : SeqLe H H1) (b : SeqLe H1 H2) : SeqLe H H2 := ⟨fun x y h => b.1 x y (a.1 x y h), fun x y h => b.2 x y (a.2 x y h)⟩
theorem SeqLe.refl (H : Hp) : SeqLe H H := ⟨fun _ _ h => h, fun _ _ h => h⟩
theorem mask_nil (H : Hp) : mask [] H = H := by funext a; exact mask_out (by simp)

/-! ### heaps that grow -/
/-- all that was tracked is as it was, but for the code objects' tables -/
def Sm (H H' : Hp) : Prop := ∀ a o, H a = some o → H' a = some o ∨ ∃ ps ps', o = .tbl ps ∧ H' a = some (.tbl ps')
theorem Sm.refl (H : Hp) : Sm H H := fun _ _ h => .inl h
theorem Sm.trans {H H1 H2 : Hp} (a : Sm H H1) (b : Sm H1 H2) : Sm H H2 := fun x o h => by
  rcases a x o h with h1 | ⟨ps, ps', rfl, h1⟩
  · exact b x o h1
  · rcases b x _ h1 with h2 | ⟨qs, qs', e, h2⟩
    · exact .inr ⟨ps, ps', rfl, h2⟩
    · exact .inr ⟨ps, qs', rfl, h2⟩
theorem Sm.lst {H H' : Hp} (s : Sm H H') {a : Addr} {xs : List V} (h : H a = some (.lst xs)) : H' a = some (.lst xs) := by
  rcases s a _ h with z | ⟨_, _, e, _⟩
  · exact z
  · cases e
theorem Sm.tup {H H' : Hp} (s : Sm H H') {a : Addr} {xs : List V} (h : H a = some (.tup xs)) : H' a = some (.tup xs) := by
  rcases s a _ h with z | ⟨_, _, e, _⟩
  · exact z
  · cases e
theorem Sm.frz {H H' : Hp} (s : Sm H H') {a : Addr} {ob : Obj} {u : HO} (h : H a = some (.frz ob u)) : H' a = some (.frz ob u) := by
  rcases s a _ h with z | ⟨_, _, e, _⟩
  · exact z
  · cases e
theorem Sm.none {H H' : Hp} (s : Sm H H') {a : Addr} (h : H' a = Option.none) : H a = Option.none := by
  cases e : H a with
  | none => rfl
  | some o =>
    rcases s a o e with z | ⟨_, _, _, z⟩ <;> (rw [h] at z; cases z)
theorem Sm.some {H H' : Hp} (s : Sm H H') {a : Addr} (h : H a ≠ Option.none) : H' a ≠ Option.none := fun z => h (s.none z)
theorem Sm.seq {H H' : Hp} (s : Sm H H') : SeqLe H H' := ⟨fun _ _ h => s.lst h, fun _ _ h => s.tup h⟩
theorem Sm.mask {H H' : Hp} (s : Sm H H') (P : List Addr) : SeqLe (mask P H) (mask P H') :=
  ⟨fun a _ h => by rw [mask_out (mask_some h).1]; exact s.lst (mask_some h).2, fun a _ h => by rw [mask_out (mask_some h).1]; exact s.tup (mask_some h).2⟩
theorem Sm.upd {H : Hp} {p : Addr} {o : HO} (h : H p = Option.none) : Sm H (upd H p o) := fun a u e => .inl (by rw [upd_ne (ne_of_none e h)]; exact e)
abbrev TabG := GxR.TabG
def Tab (T : List Addr) (H : Hp) : Prop := ∀ p ∈ T, TabG H p
theorem Tab.sm {T : List Addr} {H H' : Hp} (t : Tab T H) (h : ∀ p ∈ T, H' p = H p) : Tab T H' := fun p hp => by
  obtain ⟨ps, e, k⟩ := t p hp
  exact ⟨ps, by rw [h p hp]; exact e, k⟩
theorem Tab.upd {T : List Addr} {H : Hp} {p : Addr} {o : HO} (t : Tab T H) (h : ∀ ps, H p ≠ some (.tbl ps)) : Tab T (upd H p o) := fun q hq => by
  obtain ⟨ps, e, k⟩ := t q hq
  have : q ≠ p := fun z => h ps (z ▸ e)
  exact ⟨ps, by rw [upd_ne this]; exact e, k⟩
theorem Tab.new {T : List Addr} {H : Hp} {p : Addr} {o : HO} (t : Tab T H) (h : H p = none) : Tab T (L2.upd H p o) := t.upd fun ps e => by rw [h] at e; cases e

/-! ### results, modes, cells -/
inductive Rs (α : Type) where
  | ok (a : α)
  | er (c : Str)
  | no
def Rs.bind {α β : Type} : Rs α → (α → Rs β) → Rs β
  | .ok a, k => k a
  | .er c, _ => .er c
  | .no, _ => .no
/-- how a value is held: a new list, data that stands apart from the lists that are owned, an owned list itself, data that may be one, the script or an object of the module -/
inductive Md where
  | fr | cl | ow | vw | fz
  deriving DecidableEq
inductive Cell where
  | un
  | val (d : D)
  | own (ds : List D)
  | fz (d : D)
abbrev CV := List Cell
inductive Out where
  | nx (ρ : CV)
  | rt (d : D) (m : Md) (ρ : CV)
  | bk (ρ : CV)
  | ct (ρ : CV)
  | er (c : Str) (ρ : CV)
  | ex (c : Str)
  | no
/-- flat items of a frozen or written list or tuple -/
inductive Fl : List V → List PyData → Prop
  | nil : Fl [] []
  | int {i : Int} {vs ds} : Fl vs ds → Fl (.int i :: vs) (.int i :: ds)
  | str {x : Str} {vs ds} : Fl vs ds → Fl (.str x :: vs) (.str x :: ds)
inductive Fz (K : PySem.W.Frag) (H : Hp) : V → PyData → Prop
  | lst {a : Addr} {xs : List V} {ds : List PyData} : ((∃ o, H a = some (.frz o (.lst xs))) ∨ ∃ (o : Obj) (its : Array Value) (n : Nat), K.lookup a = some o ∧ o.cls = .type "list" ∧ o.dict = none ∧ o.data = .seq its n ∧ its.size ≤ sizeLine ∧ Vals xs its.toList) → Fl xs ds → Fz K H (.ref a) (.list ds)
  | tup {a : Addr} {xs : List V} {ds : List PyData} : (∃ (o : Obj) (its : Array Value) (n : Nat), K.lookup a = some o ∧ o.cls = .type "tuple" ∧ o.data = .seq its n ∧ its.size ≤ sizeLine ∧ Vals xs its.toList) → Fl xs ds → Fz K H (.ref a) (.tuple ds)
theorem Fl.tr {H : Hp} : ∀ {vs : List V} {ds : List PyData}, Fl vs ds → TrAll H vs ds
  | _, _, .nil => .nil
  | _, _, .int t => .cons (.int _) t.tr
  | _, _, .str t => .cons (.str _) t.tr
theorem Fz.sm {K : PySem.W.Frag} {H H' : Hp} (s : Sm H H') {v : V} {d : D} (h : Fz K H v d) : Fz K H' v d := by
  cases h with
  | lst e f =>
    rcases e with ⟨o, e⟩ | e
    · exact .lst (.inl ⟨o, s.frz e⟩) f
    · exact .lst (.inr e) f
  | tup e f => exact .tup e f
theorem Fz.dp {K : PySem.W.Frag} {H : Hp} {v : V} {d : D} (h : Fz K H v d) : Dp K H v d := by
  cases h with
  | lst e f =>
    rcases e with ⟨o, e⟩ | e
    · exact .lst (.inl (.inr ⟨o, e⟩)) (TrAll.dp _ _ f.tr)
    · exact .lst (.inr e) (TrAll.dp _ _ f.tr)
  | tup e f => exact .tup (.inr e) (TrAll.dp _ _ f.tr)
/-- the value of an expression: Pm the addresses of owned lists, H ahead, H' behind -/
def VR (K : PySem.W.Frag) (Pm : List Addr) (H H' : Hp) : Md → V → D → Prop
  | .fr, v, d => ∃ p vs ds, v = .ref p ∧ d = .list ds ∧ H p = none ∧ H' p = some (.lst vs) ∧ TrAll (mask (p :: Pm) H') vs ds
  | .cl, v, d => Tr (mask Pm H') v d
  | .ow, v, d => ∃ p vs ds, v = .ref p ∧ d = .list ds ∧ p ∈ Pm ∧ H' p = some (.lst vs) ∧ TrAll (mask Pm H') vs ds
  | .vw, v, d => Tr H' v d
  | .fz, v, d => Fz K H' v d
/-- the same as an operand -/
def OV (K : PySem.W.Frag) (Pm : List Addr) (H : Hp) : Md → V → D → Prop
  | .fr, v, d => Tr (mask Pm H) v d
  | .cl, v, d => Tr (mask Pm H) v d
  | .ow, v, d => ∃ p vs ds, v = .ref p ∧ d = .list ds ∧ p ∈ Pm ∧ H p = some (.lst vs) ∧ TrAll (mask Pm H) vs ds
  | .vw, v, d => Tr H v d
  | .fz, v, d => Fz K H v d
section
variable {K : PySem.W.Frag} {T : List Addr} {Pm : List Addr} {H H' H1 : Hp} {m : Md} {v : V} {d : D}
/-- what may change: a list, an instance -/
def Chg (o : HO) : Prop := (∃ vs, o = .lst vs) ∨ ∃ C dx fs, o = .ins C dx fs
def Lsts (P : List Addr) (H : Hp) : Prop := ∀ p ∈ P, ∃ o, H p = some o ∧ Chg o
theorem chg_sm {a : Addr} {o : HO} (s : Sm H H') (c : Chg o) (h : H a = some o) : H' a = some o := by
  rcases s a o h with z | ⟨_, _, e, _⟩
  · exact z
  · subst e
    rcases c with ⟨_, z⟩ | ⟨_, _, _, z⟩ <;> cases z
theorem Lsts.sm {P : List Addr} (l : Lsts P H) (s : Sm H H') : Lsts P H' := fun p hp => let ⟨o, e, c⟩ := l p hp; ⟨o, chg_sm s c e, c⟩
theorem Chg.lst {vs : List V} : Chg (.lst vs) := .inl ⟨_, rfl⟩
theorem VR.ov (l : Lsts Pm H) (h : VR K Pm H H' m v d) : OV K Pm H' m v d := by
  cases m with
  | fr =>
    obtain ⟨p, vs, ds, rfl, rfl, h0, h1, t⟩ := h
    have np : p ∉ Pm := fun z => by
      obtain ⟨o, e, _⟩ := l p z
      rw [h0] at e; cases e
    exact .lst (by rw [mask_out np]; exact h1) (TrAll.mono (mask_anti fun a ha => List.mem_cons_of_mem _ ha) _ _ t)
  | cl => exact h
  | ow => exact h
  | vw => exact h
  | fz => exact h
theorem OV.sm (s : Sm H H') (h : OV K Pm H m v d) : OV K Pm H' m v d := by
  cases m with
  | fr => exact Tr.mono (s.mask Pm) _ _ h
  | cl => exact Tr.mono (s.mask Pm) _ _ h
  | ow =>
    obtain ⟨p, vs, ds, rfl, rfl, h0, h1, t⟩ := h
    exact ⟨p, vs, ds, rfl, rfl, h0, s.lst h1, TrAll.mono (s.mask Pm) _ _ t⟩
  | vw => exact Tr.mono s.seq _ _ h
  | fz => exact Fz.sm s h
theorem OV.tr (h : OV K Pm H m v d) (n : m ≠ .fz) : Tr H v d := by
  cases m with
  | fr => exact Tr.mono mask_le _ _ h
  | cl => exact Tr.mono mask_le _ _ h
  | ow =>
    obtain ⟨p, vs, ds, rfl, rfl, h0, h1, t⟩ := h
    exact .lst h1 (TrAll.mono mask_le _ _ t)
  | vw => exact h
  | fz => exact absurd rfl n
theorem OV.dp (h : OV K Pm H m v d) : Dp K H v d := by
  by_cases n : m = .fz
  · subst n; exact Fz.dp h
  · exact Tr.dp _ _ (h.tr n)
def isCl : Md → Bool
  | .fr => true
  | .cl => true
  | _ => false
theorem OV.clean (h : OV K Pm H m v d) (c : isCl m = true) : Tr (mask Pm H) v d := by
  cases m <;> first | exact h | cases c
/-- items apart from the owned lists -/
def itCl : Md → Bool
  | .vw => false
  | _ => true
theorem mask_tup (l : Lsts Pm H) : ∀ a xs, H a = some (.tup xs) → mask Pm H a = some (.tup xs) := fun a xs e => by
  rw [mask_out fun z => by
    obtain ⟨o, e2, c⟩ := l a z
    rw [e] at e2; cases e2
    rcases c with ⟨_, y⟩ | ⟨_, _, _, y⟩ <;> cases y]
  exact e
theorem Tr.lfMask (l : Lsts Pm H) (h : Tr H v d) (f : lf d = true) : Tr (mask Pm H) v d := Tr.lfm (mask_tup l) _ _ h f
theorem TrAll.lfMask (l : Lsts Pm H) {vs : List V} {ds : List D} (h : TrAll H vs ds) (f : lfs ds = true) : TrAll (mask Pm H) vs ds := TrAll.lfm (mask_tup l) _ _ h f
end
end Eng

set_option Elab.async false
set_option linter.all false
set_option maxRecDepth 100000
namespace Eng
open PySem PySem.Spec
open PyProof.Rows L2

/-! ### the state: base, owned addresses, slots -/
/-- an object whose attributes are known: its slot, the number of slots, its class, the names, whether it may change -/
structure Obc where
  k : Nat
  nl : Nat
  C : Addr
  fs : List Str
  wr : Bool
structure Bs where
  H0 : Hp
  M : List Addr
  io : List (Nat × Addr)
  ch : List Addr
  ob : Option Obc := none
  oa : Option Addr := none
structure Cf where
  K : PySem.W.Frag
  T : List Addr
  mg : Str → Option Value
  ios : List Nat
  ob : Option Obc := none
/-- H0: the heap at the entry; M: lists that must not be reached by data; io: the slots of lists that the caller lets change; ch: what may change; P: the owned lists -/
structure RE0 (K : PySem.W.Frag) (T : List Addr) (B : Bs) (P : List Addr) (H : Hp) (σ : St) (ρ : CV) : Prop where
  len : σ.length = ρ.length
  val : ∀ (i : Nat) (d : D), ρ[i]? = some (.val d) → ∃ v, σ[i]? = some (some v) ∧ Tr (mask (B.M ++ P) H) v d
  own : ∀ (i : Nat) (ds : List D), ρ[i]? = some (.own ds) → ∃ p vs, σ[i]? = some (some (.ref p)) ∧ p ∈ P ∧ (i ∉ B.io.map (·.1) → p ∉ B.M) ∧ H p = some (.lst vs) ∧ TrAll (mask (B.M ++ P) H) vs ds
  fz : ∀ (i : Nat) (d : D), ρ[i]? = some (.fz d) → ∃ v, σ[i]? = some (some v) ∧ Fz K H v d
  sep : ∀ (i j : Nat) (ds es : List D) (p : Addr), i ≠ j → ρ[i]? = some (.own ds) → ρ[j]? = some (.own es) → σ[i]? = some (some (.ref p)) → σ[j]? ≠ some (some (.ref p))
  keep : ∀ (a : Addr) (o : HO), B.H0 a = some o → a ∉ B.ch → H a = some o ∨ ∃ ps ps', o = .tbl ps ∧ H a = some (.tbl ps')
  new : ∀ p ∈ P, p ∈ B.ch ∨ B.H0 p = none
  lst : Lsts (B.M ++ P) H
  iol : Lsts B.ch H
  io0 : ∀ p ∈ B.ch, B.H0 p ≠ none
  ios : ∀ q ∈ B.io, σ[q.1]? = some (some (.ref q.2))
  ioo : ∀ q ∈ B.io, ∃ ds, ρ[q.1]? = some (Cell.own ds)
  tab : Tab T H
section
variable {K : PySem.W.Frag} {T : List Addr} {B : Bs} {P P' : List Addr} {H H' H1 : Hp} {σ σ' : St} {ρ ρ' : CV}
theorem RE0.fresh0 (r : RE0 K T B P H σ ρ) {a : Addr} (h : H a = none) : B.H0 a = none := by
  cases e : B.H0 a with
  | none => rfl
  | some o =>
    by_cases hi : a ∈ B.ch
    · obtain ⟨o, e2, _⟩ := r.iol a hi
      rw [h] at e2; cases e2
    · rcases r.keep a o e hi with z | ⟨_, _, _, z⟩ <;> (rw [h] at z; cases z)
theorem RE0.sm (r : RE0 K T B P H σ ρ) (s : Sm H H') (t : Tab T H') : RE0 K T B P H' σ ρ where
  len := r.len
  val := fun i d e => let ⟨v, h1, h2⟩ := r.val i d e; ⟨v, h1, Tr.mono (s.mask _) _ _ h2⟩
  own := fun i ds e => let ⟨p, vs, h1, h2, hm, h3, h4⟩ := r.own i ds e; ⟨p, vs, h1, h2, hm, s.lst h3, TrAll.mono (s.mask _) _ _ h4⟩
  fz := fun i d e => let ⟨v, h1, h2⟩ := r.fz i d e; ⟨v, h1, h2.sm s⟩
  sep := r.sep
  keep := fun a o e hi => by
    rcases r.keep a o e hi with z | ⟨ps, ps', rfl, z⟩
    · exact s a o z
    · rcases s a _ z with z2 | ⟨_, qs, _, z2⟩
      · exact .inr ⟨ps, ps', rfl, z2⟩
      · exact .inr ⟨ps, qs, rfl, z2⟩
  new := r.new
  lst := r.lst.sm s
  iol := r.iol.sm s
  io0 := r.io0
  ios := r.ios
  ioo := r.ioo
  tab := t
/-- a slot holds data -/
theorem RE0.setVal (r : RE0 K T B P H σ ρ) {i : Nat} {v : V} {d : D} (hi : i ∉ B.io.map (·.1)) (t : Tr (mask (B.M ++ P) H) v d) : RE0 K T B P H (σ.set i (some v)) (ρ.set i (.val d)) where
  len := by rw [List.length_set, List.length_set]; exact r.len
  val := fun j e h => by
    by_cases hj : i = j
    · subst hj
      have hl : i < ρ.length := by
        have := (List.getElem?_eq_some_iff.mp h).1
        rwa [List.length_set] at this
      rw [List.getElem?_set_self hl] at h
      cases h
      exact ⟨v, List.getElem?_set_self (by rw [r.len]; exact hl), t⟩
    · rw [List.getElem?_set_ne hj] at h
      rw [List.getElem?_set_ne hj]
      exact r.val j e h
  own := fun j e h => by
    by_cases hj : i = j
    · subst hj
      have hl : i < ρ.length := by
        have := (List.getElem?_eq_some_iff.mp h).1
        rwa [List.length_set] at this
      rw [List.getElem?_set_self hl] at h
      cases h
    · rw [List.getElem?_set_ne hj] at h
      rw [List.getElem?_set_ne hj]
      exact r.own j e h
  fz := fun j e h => by
    by_cases hj : i = j
    · subst hj
      have hl : i < ρ.length := by
        have := (List.getElem?_eq_some_iff.mp h).1
        rwa [List.length_set] at this
      rw [List.getElem?_set_self hl] at h
      cases h
    · rw [List.getElem?_set_ne hj] at h
      rw [List.getElem?_set_ne hj]
      exact r.fz j e h
  sep := fun j k ds es p hjk h1 h2 h3 => by
    have nj : i ≠ j := fun e => by
      subst e
      have hl : i < ρ.length := by
        have := (List.getElem?_eq_some_iff.mp h1).1
        rwa [List.length_set] at this
      rw [List.getElem?_set_self hl] at h1; cases h1
    have nk : i ≠ k := fun e => by
      subst e
      have hl : i < ρ.length := by
        have := (List.getElem?_eq_some_iff.mp h2).1
        rwa [List.length_set] at this
      rw [List.getElem?_set_self hl] at h2; cases h2
    rw [List.getElem?_set_ne nj] at h1 h3
    rw [List.getElem?_set_ne nk] at h2 ⊢
    exact r.sep j k ds es p hjk h1 h2 h3
  keep := r.keep
  new := r.new
  lst := r.lst
  iol := r.iol
  io0 := r.io0
  ios := fun q hq => by
    have n : i ≠ q.1 := fun e => hi (List.mem_map.mpr ⟨q, hq, e.symm⟩)
    rw [List.getElem?_set_ne n]
    exact r.ios q hq
  ioo := fun q hq => by
    have n : i ≠ q.1 := fun e => hi (List.mem_map.mpr ⟨q, hq, e.symm⟩)
    rw [List.getElem?_set_ne n]
    exact r.ioo q hq
  tab := r.tab
/-- a slot holds what is not known -/
theorem RE0.setUn (r : RE0 K T B P H σ ρ) {i : Nat} {o : Option V} (hi : i ∉ B.io.map (·.1)) : RE0 K T B P H (σ.set i o) (ρ.set i .un) where
  len := by rw [List.length_set, List.length_set]; exact r.len
  val := fun j e h => by
    by_cases hj : i = j
    · subst hj
      have hl : i < ρ.length := by
        have := (List.getElem?_eq_some_iff.mp h).1
        rwa [List.length_set] at this
      rw [List.getElem?_set_self hl] at h
      cases h
    · rw [List.getElem?_set_ne hj] at h
      rw [List.getElem?_set_ne hj]
      exact r.val j e h
  own := fun j e h => by
    by_cases hj : i = j
    · subst hj
      have hl : i < ρ.length := by
        have := (List.getElem?_eq_some_iff.mp h).1
        rwa [List.length_set] at this
      rw [List.getElem?_set_self hl] at h
      cases h
    · rw [List.getElem?_set_ne hj] at h
      rw [List.getElem?_set_ne hj]
      exact r.own j e h
  fz := fun j e h => by
    by_cases hj : i = j
    · subst hj
      have hl : i < ρ.length := by
        have := (List.getElem?_eq_some_iff.mp h).1
        rwa [List.length_set] at this
      rw [List.getElem?_set_self hl] at h
      cases h
    · rw [List.getElem?_set_ne hj] at h
      rw [List.getElem?_set_ne hj]
      exact r.fz j e h
  sep := fun j k ds es p hjk h1 h2 h3 => by
    have nj : i ≠ j := fun e => by
      subst e
      have hl : i < ρ.length := by
        have := (List.getElem?_eq_some_iff.mp h1).1
        rwa [List.length_set] at this
      rw [List.getElem?_set_self hl] at h1; cases h1
    have nk : i ≠ k := fun e => by
      subst e
      have hl : i < ρ.length := by
        have := (List.getElem?_eq_some_iff.mp h2).1
        rwa [List.length_set] at this
      rw [List.getElem?_set_self hl] at h2; cases h2
    rw [List.getElem?_set_ne nj] at h1 h3
    rw [List.getElem?_set_ne nk] at h2 ⊢
    exact r.sep j k ds es p hjk h1 h2 h3
  keep := r.keep
  new := r.new
  lst := r.lst
  iol := r.iol
  io0 := r.io0
  ios := fun q hq => by
    have n : i ≠ q.1 := fun e => hi (List.mem_map.mpr ⟨q, hq, e.symm⟩)
    rw [List.getElem?_set_ne n]
    exact r.ios q hq
  ioo := fun q hq => by
    have n : i ≠ q.1 := fun e => hi (List.mem_map.mpr ⟨q, hq, e.symm⟩)
    rw [List.getElem?_set_ne n]
    exact r.ioo q hq
  tab := r.tab
/-- a slot holds the script or a written object -/
theorem RE0.setFz (r : RE0 K T B P H σ ρ) {i : Nat} {v : V} {d : D} (hi : i ∉ B.io.map (·.1)) (t : Fz K H v d) : RE0 K T B P H (σ.set i (some v)) (ρ.set i (.fz d)) := by
  have u := r.setUn (o := some v) hi
  refine ⟨by rw [List.length_set, List.length_set]; exact r.len, fun j e h => ?_, fun j e h => ?_, fun j e h => ?_, fun j k ds es p hjk h1 h2 h3 => ?_, r.keep, r.new, r.lst, r.iol, r.io0, u.ios, fun q hq => ?_, r.tab⟩
  · by_cases hj : i = j
    · subst hj
      have hl : i < ρ.length := by
        have := (List.getElem?_eq_some_iff.mp h).1
        rwa [List.length_set] at this
      rw [List.getElem?_set_self hl] at h
      cases h
    · rw [List.getElem?_set_ne hj] at h
      rw [List.getElem?_set_ne hj]
      exact r.val j e h
  · by_cases hj : i = j
    · subst hj
      have hl : i < ρ.length := by
        have := (List.getElem?_eq_some_iff.mp h).1
        rwa [List.length_set] at this
      rw [List.getElem?_set_self hl] at h
      cases h
    · rw [List.getElem?_set_ne hj] at h
      rw [List.getElem?_set_ne hj]
      exact r.own j e h
  · by_cases hj : i = j
    · subst hj
      have hl : i < ρ.length := by
        have := (List.getElem?_eq_some_iff.mp h).1
        rwa [List.length_set] at this
      rw [List.getElem?_set_self hl] at h
      cases h
      exact ⟨v, List.getElem?_set_self (by rw [r.len]; exact hl), t⟩
    · rw [List.getElem?_set_ne hj] at h
      rw [List.getElem?_set_ne hj]
      exact r.fz j e h
  · have nj : i ≠ j := fun e => by
      subst e
      have hl : i < ρ.length := by
        have := (List.getElem?_eq_some_iff.mp h1).1
        rwa [List.length_set] at this
      rw [List.getElem?_set_self hl] at h1; cases h1
    have nk : i ≠ k := fun e => by
      subst e
      have hl : i < ρ.length := by
        have := (List.getElem?_eq_some_iff.mp h2).1
        rwa [List.length_set] at this
      rw [List.getElem?_set_self hl] at h2; cases h2
    rw [List.getElem?_set_ne nj] at h1 h3
    rw [List.getElem?_set_ne nk] at h2 ⊢
    exact r.sep j k ds es p hjk h1 h2 h3
  · have n : i ≠ q.1 := fun e => hi (List.mem_map.mpr ⟨q, hq, e.symm⟩)
    rw [List.getElem?_set_ne n]
    exact r.ioo q hq
/-- a slot holds a new list -/
theorem RE0.setOwn (r : RE0 K T B P H σ ρ) (s : Sm H H') (tb : Tab T H') {i : Nat} {p : Addr} {vs : List V} {ds : List D} (hi : i ∉ B.io.map (·.1)) (hp : H p = none) (hp' : H' p = some (.lst vs)) (t : TrAll (mask (p :: (B.M ++ P)) H') vs ds) :
    RE0 K T B (p :: P) H' (σ.set i (some (.ref p))) (ρ.set i (.own ds)) := by
  have u := (r.sm s tb).setUn (o := some (.ref p)) hi
  have le : SeqLe (mask (B.M ++ P) H) (mask (B.M ++ p :: P) H') := by
    have key : ∀ a, a ∉ B.M ++ P → H a ≠ none → a ∉ B.M ++ p :: P := fun a h1 h2 z => by
      simp only [List.mem_append, List.mem_cons] at z h1
      rcases z with z | rfl | z
      · exact h1 (.inl z)
      · exact h2 hp
      · exact h1 (.inr z)
    refine ⟨fun a xs e => ?_, fun a xs e => ?_⟩
    · obtain ⟨h1, h2⟩ := mask_some e
      rw [mask_out (key a h1 (by rw [h2]; simp))]
      exact s.lst h2
    · obtain ⟨h1, h2⟩ := mask_some e
      rw [mask_out (key a h1 (by rw [h2]; simp))]
      exact s.tup h2
  have nM : p ∉ B.M := fun z => by
    obtain ⟨o, e, _⟩ := r.lst p (List.mem_append_left _ z)
    rw [hp] at e; cases e
  have old : ∀ (j : Nat) (ds : List D), ρ[j]? = some (.own ds) → σ[j]? ≠ some (some (.ref p)) := fun j ds e z => by
    obtain ⟨q, vs, h1, _, _, h3, _⟩ := r.own j ds e
    rw [z] at h1
    cases h1
    rw [hp] at h3; cases h3
  have here : ∀ {j : Nat} {c : Cell}, i = j → (ρ.set i (.own ds))[j]? = some c → c = .own ds ∧ (σ.set i (some (V.ref p)))[j]? = some (some (.ref p)) := fun {j c} hj h => by
    subst hj
    have hl : i < ρ.length := by
      have := (List.getElem?_eq_some_iff.mp h).1
      rwa [List.length_set] at this
    rw [List.getElem?_set_self hl] at h
    exact ⟨(Option.some.inj h).symm, List.getElem?_set_self (by rw [r.len]; exact hl)⟩
  refine ⟨by rw [List.length_set, List.length_set]; exact r.len, fun j e h => ?_, fun j e h => ?_, fun j e h => ?_, fun j k es fs q hjk h1 h2 h3 => ?_, u.keep, fun q hq => ?_, fun q hq => ?_, u.iol, r.io0, u.ios, fun q hq => ?_, tb⟩
  · by_cases hj : i = j
    · cases (here hj h).1
    · rw [List.getElem?_set_ne hj] at h
      rw [List.getElem?_set_ne hj]
      obtain ⟨v, h1, h2⟩ := r.val j e h
      exact ⟨v, h1, Tr.mono le _ _ h2⟩
  · by_cases hj : i = j
    · obtain ⟨h1, h2⟩ := here hj h
      cases h1
      refine ⟨p, vs, h2, List.mem_cons_self, fun _ => nM, hp', TrAll.mono (mask_anti fun a ha => ?_) _ _ t⟩
      simp only [List.mem_append, List.mem_cons] at ha ⊢
      rcases ha with z | z | z
      · exact .inr (.inl z)
      · exact .inl z
      · exact .inr (.inr z)
    · rw [List.getElem?_set_ne hj] at h
      rw [List.getElem?_set_ne hj]
      obtain ⟨q, ws, h1, h2, h3, h4, h5⟩ := r.own j e h
      exact ⟨q, ws, h1, List.mem_cons_of_mem _ h2, h3, s.lst h4, TrAll.mono le _ _ h5⟩
  · by_cases hj : i = j
    · cases (here hj h).1
    · rw [List.getElem?_set_ne hj] at h
      rw [List.getElem?_set_ne hj]
      obtain ⟨v, h1, h2⟩ := r.fz j e h
      exact ⟨v, h1, h2.sm s⟩
  · by_cases hj : i = j
    · obtain ⟨_, g2⟩ := here hj h1
      have nk : i ≠ k := fun z => hjk (hj.symm.trans z)
      rw [List.getElem?_set_ne nk] at h2 ⊢
      rw [g2] at h3
      cases h3
      exact old k fs h2
    · by_cases hk : i = k
      · obtain ⟨_, g2⟩ := here hk h2
        rw [List.getElem?_set_ne hj] at h1 h3
        rw [g2]
        intro z
        cases z
        exact old j es h1 h3
      · rw [List.getElem?_set_ne hj] at h1 h3
        rw [List.getElem?_set_ne hk] at h2 ⊢
        exact r.sep j k es fs q hjk h1 h2 h3
  · rcases List.mem_cons.mp hq with (rfl | hq)
    · exact .inr (r.fresh0 hp)
    · exact r.new q hq
  · simp only [List.mem_append, List.mem_cons] at hq
    rcases hq with z | rfl | z
    · exact (r.lst.sm s) q (List.mem_append_left _ z)
    · exact ⟨_, hp', .lst⟩
    · exact (r.lst.sm s) q (List.mem_append_right _ z)
  · have n : i ≠ q.1 := fun e => hi (List.mem_map.mpr ⟨q, hq, e.symm⟩)
    rw [List.getElem?_set_ne n]
    exact r.ioo q hq
/-- an owned list is no more changed -/
theorem RE0.share (r : RE0 K T B P H σ ρ) {i : Nat} {ds : List D} {p : Addr} (hi : i ∉ B.io.map (·.1)) (h : ρ[i]? = some (.own ds)) (hp : σ[i]? = some (some (.ref p))) : RE0 K T B (P.filter (· ≠ p)) H σ (ρ.set i (.val (.list ds))) ∧ ∀ a ∈ P, a ≠ p → a ∈ P.filter (· ≠ p) := by
  obtain ⟨p', vs, h1, h2, h3, h4, h5⟩ := r.own i ds h
  rw [hp] at h1
  cases h1
  have h1 := hp
  refine ⟨?_, fun a ha n => List.mem_filter.mpr ⟨ha, by simpa using n⟩⟩
  have hl : i < ρ.length := (List.getElem?_eq_some_iff.mp h).1
  have nM := h3 hi
  have sub : ∀ a ∈ B.M ++ P.filter (· ≠ p), a ∈ B.M ++ P := fun a ha => by
    simp only [List.mem_append, List.mem_filter] at ha ⊢
    rcases ha with z | z
    · exact .inl z
    · exact .inr z.1
  have le : SeqLe (mask (B.M ++ P) H) (mask (B.M ++ P.filter (· ≠ p)) H) := mask_anti sub
  have np : p ∉ B.M ++ P.filter (· ≠ p) := fun z => by
    simp only [List.mem_append, List.mem_filter] at z
    rcases z with z | z
    · exact nM z
    · simpa using z.2
  have here : ∀ {j : Nat} {c : Cell}, i = j → (ρ.set i (.val (.list ds)))[j]? = some c → c = .val (.list ds) := fun {j c} hj e => by
    subst hj
    rw [List.getElem?_set_self hl] at e
    exact (Option.some.inj e).symm
  refine ⟨by rw [List.length_set]; exact r.len, fun j e g => ?_, fun j e g => ?_, fun j e g => ?_, fun j k es fs q hjk g1 g2 g3 => ?_, r.keep, fun q hq => r.new q (List.mem_filter.mp hq).1, fun q hq => r.lst q (sub q hq), r.iol, r.io0, r.ios, fun q hq => ?_, r.tab⟩
  · by_cases hj : i = j
    · have z := here hj g
      cases z
      subst hj
      exact ⟨.ref p, h1, .lst (by rw [mask_out np]; exact h4) (TrAll.mono le _ _ h5)⟩
    · rw [List.getElem?_set_ne hj] at g
      obtain ⟨v, g1, g2⟩ := r.val j e g
      exact ⟨v, g1, Tr.mono le _ _ g2⟩
  · by_cases hj : i = j
    · cases here hj g
    · rw [List.getElem?_set_ne hj] at g
      obtain ⟨q, ws, g1, g2, g3, g4, g5⟩ := r.own j e g
      refine ⟨q, ws, g1, List.mem_filter.mpr ⟨g2, ?_⟩, g3, g4, TrAll.mono le _ _ g5⟩
      have : q ≠ p := fun z => by
        subst z
        exact r.sep i j ds e q hj h g h1 g1
      simpa using this
  · by_cases hj : i = j
    · cases here hj g
    · rw [List.getElem?_set_ne hj] at g
      exact r.fz j e g
  · have nj : i ≠ j := fun e => by cases here e g1
    have nk : i ≠ k := fun e => by cases here e g2
    rw [List.getElem?_set_ne nj] at g1
    rw [List.getElem?_set_ne nk] at g2
    exact r.sep j k es fs q hjk g1 g2 g3
  · have n : i ≠ q.1 := fun e => hi (List.mem_map.mpr ⟨q, hq, e.symm⟩)
    rw [List.getElem?_set_ne n]
    exact r.ioo q hq
end

/-! ### the slots and behind them the attributes of an object -/
def vw (B : Bs) (H : Hp) (σ : St) : St := match B.ob with
  | none => σ
  | some c => match σ[c.k]? with
    | some (some (.ref o)) => (match H o with
      | some (.ins _ _ fs) => σ ++ fs.map fun f => some f.2
      | _ => σ ++ List.replicate c.fs.length none)
    | _ => σ ++ List.replicate c.fs.length none
/-- the object stands as it should: at its slot, or nothing is there yet -/
def ViewOk (B : Bs) (P : List Addr) (H : Hp) (σ : St) : Prop := ∀ c, B.ob = some c → σ.length = c.nl ∧ c.k < c.nl ∧ ((B.oa = none ∧ σ[c.k]? = some none) ∨
  ∃ o dx vs, (∀ a, B.oa = some a → o = a) ∧ σ[c.k]? = some (some (.ref o)) ∧ H o = some (.ins c.C dx (c.fs.zip vs)) ∧ vs.length = c.fs.length ∧ (c.wr = true → o ∈ P))
def Bs.ro (B : Bs) (i : Nat) : Prop := i ∈ B.io.map (·.1) ∨ ∃ c, B.ob = some c ∧ (i = c.k ∨ c.nl ≤ i)
def Bs.lc (B : Bs) (i : Nat) : Prop := ∀ c, B.ob = some c → i < c.nl
def Cf.ro (C : Cf) (i : Nat) : Bool := C.ios.contains i || (match C.ob with
  | none => false
  | some c => i == c.k || decide (c.nl ≤ i))
def Cf.lc (C : Cf) (i : Nat) : Bool := match C.ob with
  | none => true
  | some c => decide (i < c.nl)
structure Lk (B : Bs) (C : Cf) : Prop where
  io : B.io.map (·.1) = C.ios
  ob : B.ob = C.ob
theorem Lk.ro {B : Bs} {C : Cf} (l : Lk B C) {i : Nat} (h : C.ro i = false) : ¬ B.ro i := by
  unfold Cf.ro at h
  rw [Bool.or_eq_false_iff] at h
  rintro (z | ⟨c, e, z⟩)
  · rw [l.io] at z
    have h1 := h.1
    rw [List.contains_iff_mem.mpr z] at h1
    cases h1
  · rw [l.ob] at e
    have h2 := h.2
    rw [e] at h2
    dsimp only at h2
    rw [Bool.or_eq_false_iff] at h2
    rcases z with z | z
    · have h3 := h2.1
      rw [z, beq_self_eq_true] at h3
      cases h3
    · exact absurd z (of_decide_eq_false h2.2)
theorem Lk.lc {B : Bs} {C : Cf} (l : Lk B C) {i : Nat} (h : C.lc i = true) : B.lc i := by
  intro c e
  rw [l.ob] at e
  unfold Cf.lc at h
  rw [e] at h
  exact of_decide_eq_true h
theorem Bs.ro_io {B : Bs} {i : Nat} (h : ¬ B.ro i) : i ∉ B.io.map (·.1) := fun z => h (.inl z)
theorem Bs.ro_lc {B : Bs} {i : Nat} (h : ¬ B.ro i) : B.lc i := fun c e => by
  rcases Nat.lt_or_ge i c.nl with z | z
  · exact z
  · exact absurd (.inr ⟨c, e, .inr z⟩) h
theorem zip_snd {α β : Type} : ∀ {xs : List α} {ys : List β}, ys.length = xs.length → (xs.zip ys).map (·.2) = ys
  | [], [], _ => rfl
  | x :: xs, y :: ys, h => by
    have := zip_snd (xs := xs) (ys := ys) (by simpa using h)
    simp [this]
  | [], _ :: _, h => (by simp at h)
  | _ :: _, [], h => (by simp at h)
theorem vw_none {B : Bs} (h : B.ob = none) (H : Hp) (σ : St) : vw B H σ = σ := by
  unfold vw
  rw [h]
/-- the view is the slots and something behind them, which hangs on the object's slot and its attributes alone -/
theorem vw_app {B : Bs} {c : Obc} (h : B.ob = some c) (H : Hp) (σ : St) : ∃ ext, vw B H σ = σ ++ ext ∧ ∀ (σ2 : St) (H2 : Hp), σ2[c.k]? = σ[c.k]? → (∀ o, σ[c.k]? = some (some (.ref o)) → (∀ C dx fs, H o = some (.ins C dx fs) → H2 o = H o) ∧ (∀ C dx fs, H2 o = some (.ins C dx fs) → H2 o = H o)) → vw B H2 σ2 = σ2 ++ ext := by
  have key : ∀ (σ : St) (H : Hp), vw B H σ = match σ[c.k]? with
      | some (some (.ref o)) => (match H o with
        | some (.ins _ _ fs) => σ ++ fs.map fun f => some f.2
        | _ => σ ++ List.replicate c.fs.length none)
      | _ => σ ++ List.replicate c.fs.length none := fun σ H => by
    unfold vw
    rw [h]
  rw [key]
  split
  · rename_i o e
    split
    · rename_i C dx fs e2
      refine ⟨_, rfl, fun σ2 H2 h1 h2 => ?_⟩
      rw [key, h1, e]
      dsimp only
      rw [(h2 o e).1 _ _ _ e2, e2]
    · rename_i hn
      refine ⟨_, rfl, fun σ2 H2 h1 h2 => ?_⟩
      rw [key, h1, e]
      dsimp only
      split
      · rename_i C dx fs e2
        have e3 := (h2 o e).2 _ _ _ e2
        rw [e2] at e3
        exact absurd e3.symm (hn _ _ _)
      · rfl
  · rename_i hn
    refine ⟨_, rfl, fun σ2 H2 h1 h2 => ?_⟩
    rw [key, h1]
    split
    · rename_i o e
      exact absurd e (hn _)
    · rfl
theorem vw_get {B : Bs} {H : Hp} {σ : St} {P : List Addr} {i : Nat} (ok : ViewOk B P H σ) (hl : B.lc i) : (vw B H σ)[i]? = σ[i]? := by
  cases h : B.ob with
  | none => rw [vw_none h]
  | some c =>
    obtain ⟨ext, e, _⟩ := vw_app h H σ
    have := hl c h
    have h2 := (ok c h).1
    rw [e, List.getElem?_append_left (by omega)]
theorem vw_set {B : Bs} {H : Hp} {σ : St} {P : List Addr} {i : Nat} {v : Option V} (ok : ViewOk B P H σ) (hi : ¬ B.ro i) : vw B H (σ.set i v) = (vw B H σ).set i v := by
  cases h : B.ob with
  | none => rw [vw_none h, vw_none h]
  | some c =>
    obtain ⟨ext, e, k⟩ := vw_app h H σ
    have nk : i ≠ c.k := fun z => hi (.inr ⟨c, h, .inl z⟩)
    have hl := Bs.ro_lc hi c h
    have h2 := (ok c h).1
    rw [e, k _ H (List.getElem?_set_ne nk) (fun o _ => ⟨fun _ _ _ _ => rfl, fun _ _ _ _ => rfl⟩), List.set_append_left _ _ (by omega)]
theorem ViewOk.set {B : Bs} {H : Hp} {σ : St} {P : List Addr} {i : Nat} {v : Option V} (ok : ViewOk B P H σ) (hi : ¬ B.ro i) : ViewOk B P H (σ.set i v) := fun c h => by
  have nk : i ≠ c.k := fun z => hi (.inr ⟨c, h, .inl z⟩)
  obtain ⟨h1, h2, h3⟩ := ok c h
  rw [List.length_set, List.getElem?_set_ne nk]
  exact ⟨h1, h2, h3⟩
/-- heaps that tell the same of the instances there -/
def InsEq (H H' : Hp) : Prop := ∀ a C dx fs, H a = some (.ins C dx fs) → H' a = H a
theorem InsEq.sm {H H' : Hp} (s : Sm H H') : InsEq H H' := fun a C dx fs e => (chg_sm s (.inr ⟨_, _, _, rfl⟩) e).trans e.symm
theorem InsEq.upd {H : Hp} {p : Addr} {o : HO} (h : ∀ C dx fs, H p ≠ some (.ins C dx fs)) : InsEq H (upd H p o) := fun a C dx fs e => upd_ne fun z => h _ _ _ (z ▸ e)
theorem vw_eq {B : Bs} {H H' : Hp} {σ : St} {P : List Addr} (ok : ViewOk B P H σ) (s : InsEq H H') : vw B H' σ = vw B H σ := by
  cases h : B.ob with
  | none => rw [vw_none h, vw_none h]
  | some c =>
    obtain ⟨ext, e, k⟩ := vw_app h H σ
    rw [e]
    refine k σ H' rfl fun o eo => ?_
    rcases (ok c h).2.2 with ⟨_, z⟩ | ⟨o', dx, vs, _, z, w, _⟩
    · rw [z] at eo; cases eo
    · rw [z] at eo
      cases eo
      exact ⟨fun _ _ _ _ => s _ _ _ _ w, fun _ _ _ _ => s _ _ _ _ w⟩
theorem ViewOk.eq {B : Bs} {H H' : Hp} {σ : St} {P P' : List Addr} (ok : ViewOk B P H σ) (s : InsEq H H') (hP : ∀ a C dx fs, a ∈ P → H a = some (.ins C dx fs) → a ∈ P') : ViewOk B P' H' σ := fun c h => by
  obtain ⟨h1, h2, h3⟩ := ok c h
  refine ⟨h1, h2, ?_⟩
  rcases h3 with z | ⟨o, dx, vs, z1, z2, z3, z4, z5⟩
  · exact .inl z
  · exact .inr ⟨o, dx, vs, z1, z2, (s _ _ _ _ z3).trans z3, z4, fun w => hP _ _ _ _ (z5 w) z3⟩
structure RE (K : PySem.W.Frag) (T : List Addr) (B : Bs) (P : List Addr) (H : Hp) (σ : St) (ρ : CV) : Prop where
  vok : ViewOk B P H σ
  z : RE0 K T B P H (vw B H σ) ρ
section
variable {K : PySem.W.Frag} {T : List Addr} {B : Bs} {P P' : List Addr} {H H' H1 : Hp} {σ σ' : St} {ρ ρ' : CV}
theorem RE.of0 (h : B.ob = none) (r : RE0 K T B P H σ ρ) : RE K T B P H σ ρ := ⟨fun c e => (by rw [h] at e; cases e), by rw [vw_none h]; exact r⟩
theorem RE.to0 (h : B.ob = none) (r : RE K T B P H σ ρ) : RE0 K T B P H σ ρ := by
  have := r.z
  rwa [vw_none h] at this
theorem RE.lst (r : RE K T B P H σ ρ) : Lsts (B.M ++ P) H := r.z.lst
theorem RE.tab (r : RE K T B P H σ ρ) : Tab T H := r.z.tab
theorem RE.keep (r : RE K T B P H σ ρ) : ∀ (a : Addr) (o : HO), B.H0 a = some o → a ∉ B.ch → H a = some o ∨ ∃ ps ps', o = .tbl ps ∧ H a = some (.tbl ps') := r.z.keep
theorem RE.new (r : RE K T B P H σ ρ) : ∀ p ∈ P, p ∈ B.ch ∨ B.H0 p = none := r.z.new
theorem RE.iol (r : RE K T B P H σ ρ) : Lsts B.ch H := r.z.iol
theorem RE.io0 (r : RE K T B P H σ ρ) : ∀ p ∈ B.ch, B.H0 p ≠ none := r.z.io0
theorem RE.ioo (r : RE K T B P H σ ρ) : ∀ q ∈ B.io, ∃ ds, ρ[q.1]? = some (Cell.own ds) := r.z.ioo
theorem RE.fresh0 (r : RE K T B P H σ ρ) {a : Addr} (h : H a = none) : B.H0 a = none := r.z.fresh0 h
theorem RE.val (r : RE K T B P H σ ρ) {i : Nat} {d : D} (hl : B.lc i) (e : ρ[i]? = some (.val d)) : ∃ v, σ[i]? = some (some v) ∧ Tr (mask (B.M ++ P) H) v d := by
  have := r.z.val i d e
  rwa [vw_get r.vok hl] at this
theorem RE.own (r : RE K T B P H σ ρ) {i : Nat} {ds : List D} (hl : B.lc i) (e : ρ[i]? = some (.own ds)) : ∃ p vs, σ[i]? = some (some (.ref p)) ∧ p ∈ P ∧ (i ∉ B.io.map (·.1) → p ∉ B.M) ∧ H p = some (.lst vs) ∧ TrAll (mask (B.M ++ P) H) vs ds := by
  have := r.z.own i ds e
  rwa [vw_get r.vok hl] at this
theorem RE.fz (r : RE K T B P H σ ρ) {i : Nat} {d : D} (hl : B.lc i) (e : ρ[i]? = some (.fz d)) : ∃ v, σ[i]? = some (some v) ∧ Fz K H v d := by
  have := r.z.fz i d e
  rwa [vw_get r.vok hl] at this
/-- an owned list that is no list of the caller's -/
theorem RE.ownOut (r : RE K T B P H σ ρ) {i : Nat} {ds : List D} (hi : ¬ B.ro i) (e : ρ[i]? = some (.own ds)) : ∃ p vs, σ[i]? = some (some (.ref p)) ∧ p ∈ P ∧ p ∉ B.M ∧ p ∉ B.io.map (·.2) ∧ H p = some (.lst vs) ∧ TrAll (mask (B.M ++ P) H) vs ds := by
  obtain ⟨p, vs, h1, h2, h3, h4, h5⟩ := r.z.own i ds e
  refine ⟨p, vs, by rwa [vw_get r.vok (Bs.ro_lc hi)] at h1, h2, h3 (Bs.ro_io hi), fun z => ?_, h4, h5⟩
  obtain ⟨q, hq, e2⟩ := List.mem_map.mp z
  obtain ⟨fs, e3⟩ := r.z.ioo q hq
  have ne : i ≠ q.1 := fun z => Bs.ro_io hi (List.mem_map.mpr ⟨q, hq, z.symm⟩)
  refine r.z.sep i q.1 ds fs p ne e e3 h1 ?_
  rw [r.z.ios q hq, e2]
theorem RE.sm (r : RE K T B P H σ ρ) (s : Sm H H') (t : Tab T H') : RE K T B P H' σ ρ :=
  ⟨r.vok.eq (.sm s) fun _ _ _ _ h _ => h, by rw [vw_eq r.vok (.sm s)]; exact r.z.sm s t⟩
theorem RE.setVal (r : RE K T B P H σ ρ) {i : Nat} {v : V} {d : D} (hi : ¬ B.ro i) (t : Tr (mask (B.M ++ P) H) v d) : RE K T B P H (σ.set i (some v)) (ρ.set i (.val d)) :=
  ⟨r.vok.set hi, by rw [vw_set r.vok hi]; exact r.z.setVal (Bs.ro_io hi) t⟩
theorem RE.setUn (r : RE K T B P H σ ρ) {i : Nat} {o : Option V} (hi : ¬ B.ro i) : RE K T B P H (σ.set i o) (ρ.set i .un) :=
  ⟨r.vok.set hi, by rw [vw_set r.vok hi]; exact r.z.setUn (Bs.ro_io hi)⟩
theorem RE.setFz (r : RE K T B P H σ ρ) {i : Nat} {v : V} {d : D} (hi : ¬ B.ro i) (t : Fz K H v d) : RE K T B P H (σ.set i (some v)) (ρ.set i (.fz d)) :=
  ⟨r.vok.set hi, by rw [vw_set r.vok hi]; exact r.z.setFz (Bs.ro_io hi) t⟩
theorem RE.setOwn (r : RE K T B P H σ ρ) (s : Sm H H') (tb : Tab T H') {i : Nat} {p : Addr} {vs : List V} {ds : List D} (hi : ¬ B.ro i) (hp : H p = none) (hp' : H' p = some (.lst vs)) (t : TrAll (mask (p :: (B.M ++ P)) H') vs ds) :
    RE K T B (p :: P) H' (σ.set i (some (.ref p))) (ρ.set i (.own ds)) := by
  have ok := r.vok.eq (P' := p :: P) (.sm s) fun _ _ _ _ h _ => List.mem_cons_of_mem _ h
  exact ⟨ok.set hi, by rw [vw_set ok hi, vw_eq r.vok (.sm s)]; exact r.z.setOwn s tb (Bs.ro_io hi) hp hp' t⟩
theorem RE.share (r : RE K T B P H σ ρ) {i : Nat} {ds : List D} (hi : ¬ B.ro i) (h : ρ[i]? = some (.own ds)) : ∃ P', RE K T B P' H σ (ρ.set i (.val (.list ds))) := by
  obtain ⟨p, vs, h1, h2, h3, h4, h5⟩ := r.z.own i ds h
  obtain ⟨r', hP⟩ := r.z.share (Bs.ro_io hi) h h1
  refine ⟨_, r.vok.eq (fun _ _ _ _ _ => rfl) fun a C dx fs ha e => ?_, r'⟩
  refine hP a ha fun z => ?_
  rw [z, h4] at e
  cases e
end
section
variable {K : PySem.W.Frag} {Pm : List Addr} {H H' H1 : Hp} {m : Md} {v : V} {d : D}
theorem VR.sm (s : Sm H H1) (h : VR K Pm H1 H' m v d) : VR K Pm H H' m v d := by
  cases m with
  | fr =>
    obtain ⟨p, vs, ds, e1, e2, h0, h1, t⟩ := h
    exact ⟨p, vs, ds, e1, e2, s.none h0, h1, t⟩
  | cl => exact h
  | ow => exact h
  | vw => exact h
  | fz => exact h
end

/-! ### readings -/
section
variable (C : Cf) (W : WX)
def ER (σ : St) (H : Hp) (Pm : List Addr) (Q : VK) : Rs (D × Md) → Prop
  | .ok (d, m) => ∀ v H', Sm H H' → Tab C.T H' → VR C.K Pm H H' m v d → Q v H'
  | .er c => ∀ A H', C.mg c = some (.ref A) → Sm H H' → Tab C.T H' → W (.ref A) none σ H'
  | .no => False
def tE (f : CV → Rs (D × Md)) : TE := fun σ H Q => ∃ B P ρ, Lk B C ∧ RE C.K C.T B P H σ ρ ∧ ER C W σ H (B.M ++ P) Q (f ρ)
def OVs (K : PySem.W.Frag) (Pm : List Addr) (H : Hp) : List V → List (D × Md) → Prop
  | [], [] => True
  | v :: vs, d :: ds => OV K Pm H d.2 v d.1 ∧ OVs K Pm H vs ds
  | _, _ => False
def AR (σ : St) (H : Hp) (Pm : List Addr) (Q : List V → Hp → Prop) : Rs (List (D × Md)) → Prop
  | .ok ds => ∀ vs H', Sm H H' → Tab C.T H' → OVs C.K Pm H' vs ds → Q vs H'
  | .er c => ∀ A H', C.mg c = some (.ref A) → Sm H H' → Tab C.T H' → W (.ref A) none σ H'
  | .no => False
def tA (f : CV → Rs (List (D × Md))) : TA := fun σ H Q => ∃ B P ρ, Lk B C ∧ RE C.K C.T B P H σ ρ ∧ AR C W σ H (B.M ++ P) Q (f ρ)
def BR (σ : St) (H : Hp) (Q : Bool → Hp → Prop) : Rs Bool → Prop
  | .ok b => ∀ H', Sm H H' → Tab C.T H' → Q b H'
  | .er c => ∀ A H', C.mg c = some (.ref A) → Sm H H' → Tab C.T H' → W (.ref A) none σ H'
  | .no => False
def tT (f : CV → Rs Bool) : TT := fun σ H Q => ∃ B P ρ, Lk B C ∧ RE C.K C.T B P H σ ρ ∧ BR C W σ H Q (f ρ)
end
section
variable {C : Cf} {W : WX} {σ : St} {H H1 H' : Hp} {Pm : List Addr} {Q Q' : VK}
theorem ER.sm {r : Rs (D × Md)} (s : Sm H H1) (h : ER C W σ H Pm Q r) : ER C W σ H1 Pm Q r := by
  cases r with
  | ok a => obtain ⟨d, m⟩ := a; exact fun v H' s' t vr => h v H' (s.trans s') t (vr.sm s)
  | er c => exact fun A H' hm s' t => h A H' hm (s.trans s') t
  | no => exact h
theorem AR.sm {Q : List V → Hp → Prop} {r : Rs (List (D × Md))} (s : Sm H H1) (h : AR C W σ H Pm Q r) : AR C W σ H1 Pm Q r := by
  cases r with
  | ok a => exact fun v H' s' t vr => h v H' (s.trans s') t vr
  | er c => exact fun A H' hm s' t => h A H' hm (s.trans s') t
  | no => exact h
theorem BR.sm {Q : Bool → Hp → Prop} {r : Rs Bool} (s : Sm H H1) (h : BR C W σ H Q r) : BR C W σ H1 Q r := by
  cases r with
  | ok a => exact fun H' s' t => h H' (s.trans s') t
  | er c => exact fun A H' hm s' t => h A H' hm (s.trans s') t
  | no => exact h
theorem OVs.sm {K : PySem.W.Frag} {H H1 : Hp} (s : Sm H H1) : ∀ {vs : List V} {ds : List (D × Md)}, OVs K Pm H vs ds → OVs K Pm H1 vs ds
  | [], [], _ => trivial
  | _ :: _, _ :: _, h => ⟨h.1.sm s, OVs.sm s h.2⟩
  | [], _ :: _, h => h
  | _ :: _, [], h => h
end

/-! ### rules -/
theorem PE.imp {X : Cx} {e : Expr} {t t' : TE} (h : PE X e t) (i : ∀ σ H Q, t' σ H Q → t σ H Q) : PE X e t' := ⟨fun pins s σ H Q I w => h.run pins s σ H Q I (i σ H Q w)⟩
theorem PT.imp {X : Cx} {e : Expr} {t t' : TT} (h : PT X e t) (i : ∀ σ H Q, t' σ H Q → t σ H Q) : PT X e t' := ⟨fun pins s σ H Q I w => h.run pins s σ H Q I (i σ H Q w)⟩
theorem PW.imp {X : Cx} {e : Expr} {t t' : TT} (h : PW X e t) (i : ∀ σ H Q, t' σ H Q → t σ H Q) : PW X e t' := ⟨fun wh pins s σ H Q I w => h.run wh pins s σ H Q I (i σ H Q w)⟩
theorem PA.imp {X : Cx} {e : List Expr} {t t' : TA} (h : PA X e t) (i : ∀ σ H Q, t' σ H Q → t σ H Q) : PA X e t' := ⟨fun pos pins s σ H Q I w => h.run pos pins s σ H Q I (i σ H Q w)⟩
theorem PS.imp {X : Cx} {e : Stmt} {t t' : TS} (h : PS X e t) (i : ∀ D σ H, t' D σ H → t D σ H) : PS X e t' := ⟨fun pins s σ H D I w => h.run pins s σ H D I (i D σ H w)⟩
theorem PSs.imp {X : Cx} {e : List Stmt} {t t' : TS} (h : PSs X e t) (i : ∀ D σ H, t' D σ H → t D σ H) : PSs X e t' := ⟨fun pins s σ H D I w => h.run pins s σ H D I (i D σ H w)⟩

section
variable {X : Cx} {C : Cf} {W : WX} {a b e : Expr} {es : List Expr} {f g : CV → Rs (D × Md)} {pos : Pos}
/-- the general step: an operand, then what follows it -/
theorem tE_then {σ : St} {H : Hp} {B : Bs} {P : List Addr} {ρ : CV} {k : D × Md → Rs (D × Md)} {Q : VK} {Q' : VK} (hio : Lk B C) (re : RE C.K C.T B P H σ ρ) (h : ER C W σ H (B.M ++ P) Q ((f ρ).bind k))
    (hQ : ∀ d m v H1, Sm H H1 → RE C.K C.T B P H1 σ ρ → VR C.K (B.M ++ P) H H1 m v d → ER C W σ H1 (B.M ++ P) Q (k (d, m)) → Q' v H1) : tE C W f σ H Q' := by
  refine ⟨B, P, ρ, hio, re, ?_⟩
  cases e : f ρ with
  | ok a =>
    obtain ⟨d, m⟩ := a
    rw [e] at h
    exact fun v H1 s t vr => hQ d m v H1 s (re.sm s t) vr (h.sm s)
  | er c =>
    rw [e] at h
    exact h
  | no =>
    rw [e] at h
    exact h
def ofO {α : Type} : Option α → Rs α
  | some a => .ok a
  | none => .no
def mVar (i : Nat) : CV → Rs (D × Md) := fun ρ => match ρ[i]? with
  | some (.val d) => .ok (d, .cl)
  | some (.own ds) => .ok (.list ds, .ow)
  | some (.fz d) => .ok (d, .fz)
  | _ => .no
theorem se_var (i : Nat) {x : Str} (hN : X.N[i]? = some x := by rfl) (hlc : C.lc i = true := by rfl) (hv : Vis X.env.scope x := by first | exact Or.inl rfl | exact Or.inr (Or.inl rfl) | exact Or.inr (Or.inr rfl)) (hd : (x == ("__debug__" : Str)) = false := by decide)
    (hcd : (x == ("__classdict__" : Str)) = false := by decide) : PE X (.Name x pos) (tE C W (mVar i)) := by
  refine PE.imp (pe_var (i := i) hN hv hd hcd) fun σ H Q h => ?_
  obtain ⟨B, P, ρ, hb, re, h⟩ := h
  have hl := hb.lc hlc
  unfold mVar at h
  split at h
  · rename_i d e
    obtain ⟨v, e1, t⟩ := re.val hl e
    exact ⟨v, e1, h v H (Sm.refl H) re.tab t⟩
  · rename_i ds e
    obtain ⟨p, vs, e1, hp, _, e2, t⟩ := re.own hl e
    exact ⟨.ref p, e1, h _ H (Sm.refl H) re.tab ⟨p, vs, ds, rfl, rfl, List.mem_append_right _ hp, e2, t⟩⟩
  · rename_i d e
    obtain ⟨v, e1, t⟩ := re.fz hl e
    exact ⟨v, e1, h v H (Sm.refl H) re.tab t⟩
  · exact h.elim
def mK (d : D) : CV → Rs (D × Md) := fun _ => .ok (d, .cl)
theorem se_const {e : Expr} {v : V} {d : D} (h : PE X e (tC v)) (t : ∀ H, Tr H v d) : PE X e (tE C W (mK d)) := by
  refine PE.imp h fun σ H Q h => ?_
  obtain ⟨B, P, ρ, _, re, h⟩ := h
  exact h v H (Sm.refl H) re.tab (t _)
theorem se_int {i : Int} {j : Nat} : PE X (.Constant (.int i) j pos) (tE C W (mK (.int i))) := se_const pe_int fun _ => .int i
theorem se_bool {i : Bool} {j : Nat} : PE X (.Constant (.bool i) j pos) (tE C W (mK (.bool i))) := se_const pe_bl fun _ => .bl i
theorem se_str {i : Str} {j : Nat} : PE X (.Constant (.str i) j pos) (tE C W (mK (.str i))) := se_const pe_str fun _ => .str i
theorem se_none {j : Nat} : PE X (.Constant .none j pos) (tE C W (mK .none)) := se_const pe_non fun _ => .non
/-- a module's constant -/
theorem se_globI {x : Str} {i : Int} (hm : ∃ t, X.mg x = some (.int i t)) (hg : Gl X x := by rfl) (hd : (x == ("__debug__" : Str)) = false := by decide) : PE X (.Name x pos) (tE C W (mK (.int i))) := by
  obtain ⟨t, hm⟩ := hm
  exact se_const (pe_glob hg hm (v := .int i) ⟨t, rfl⟩ hd) fun _ => .int i
theorem se_globS {x : Str} {i : Str} (hm : ∃ t, X.mg x = some (.str i t)) (hg : Gl X x := by rfl) (hd : (x == ("__debug__" : Str)) = false := by decide) : PE X (.Name x pos) (tE C W (mK (.str i))) := by
  obtain ⟨t, hm⟩ := hm
  exact se_const (pe_glob hg hm (v := .str i) ⟨t, rfl⟩ hd) fun _ => .str i
def mFz (d : D) : CV → Rs (D × Md) := fun _ => .ok (d, .fz)
theorem se_globF {x : Str} {A : Addr} {d : D} (hm : X.mg x = some (.ref A)) (hz : ∀ H, Fz C.K H (.ref A) d) (hg : Gl X x := by rfl) (hd : (x == ("__debug__" : Str)) = false := by decide) : PE X (.Name x pos) (tE C W (mFz d)) := by
  refine PE.imp (pe_glob hg hm (v := .ref A) rfl hd) fun σ H Q h => ?_
  obtain ⟨B, P, ρ, _, re, h⟩ := h
  exact h _ H (Sm.refl H) re.tab (hz H)

/-! operators of two operands -/
def mBin (h : D × Md → D × Md → Option (D × Md)) (f g : CV → Rs (D × Md)) : CV → Rs (D × Md) := fun ρ => (f ρ).bind fun x => (g ρ).bind fun y => ofO (h x y)
def OpOk (C : Cf) (r : R2) (h : D × Md → D × Md → Option (D × Md)) : Prop :=
  ∀ (Pm : List Addr) (H : Hp) (x y : V) (dx dy d : D × Md) (Q : VK), Lsts Pm H → Tab C.T H → OV C.K Pm H dx.2 x dx.1 → OV C.K Pm H dy.2 y dy.1 → h dx dy = some d →
    (∀ v H', Sm H H' → Tab C.T H' → VR C.K Pm H H' d.2 v d.1 → Q v H') → r x y H Q
theorem OpOk.or {r r' : R2} {h h' : D × Md → D × Md → Option (D × Md)} (a : OpOk C r h) (b : OpOk C r' h') : OpOk C (fun x y H Q => r x y H Q ∨ r' x y H Q) (fun x y => (h x y).or (h' x y)) := by
  intro Pm H x y dx dy d Q l t ox oy e q
  replace e : (h dx dy).or (h' dx dy) = some d := e
  cases e1 : h dx dy with
  | some z =>
    rw [e1] at e
    exact .inl (a Pm H x y dx dy d Q l t ox oy (by rw [e1]; exact e) q)
  | none =>
    rw [e1] at e
    exact .inr (b Pm H x y dx dy d Q l t ox oy e q)
theorem tBin {r : R2} {h : D × Md → D × Md → Option (D × Md)} (ok : OpOk C r h) {ta tb : TE} (σ : St) (H : Hp) (Q : VK) (w : tE C W (mBin h f g) σ H Q) : tOp r (tE C W f) (tE C W g) σ H Q := by
  obtain ⟨B, P, ρ, hio, re, w⟩ := w
  refine tE_then hio re w fun d m v H1 s re1 vr w1 => ?_
  have o1 := VR.ov re.lst vr
  refine tE_then hio re1 w1 fun d2 m2 v2 H2 s2 re2 vr2 w2 => ?_
  have o2 := VR.ov re1.lst vr2
  cases e : h (d, m) (d2, m2) with
  | none => rw [e] at w2; exact w2.elim
  | some z =>
    rw [e] at w2
    exact ok (B.M ++ P) H2 v v2 (d, m) (d2, m2) z Q re2.lst re2.tab (o1.sm s2) o2 e w2
theorem se_bin {op : Operator} {r : R2} {h : D × Md → D × Md → Option (D × Md)} (ho : OpR X (binaryOp op) r) (ok : OpOk C r h) (ha : PE X a (tE C W f)) (hb : PE X b (tE C W g)) : PE X (.BinOp a op b pos) (tE C W (mBin h f g)) :=
  PE.imp (pe_op ho ha hb) fun σ H Q w => tBin (ta := tE C W f) (tb := tE C W g) ok σ H Q w
theorem se_ix {r : R2} {h : D × Md → D × Md → Option (D × Md)} (ho : IxR X r) (ok : OpOk C r h) (ha : PE X a (tE C W f)) (hb : PE X b (tE C W g)) (hs : PlainIx b) : PE X (.Subscript a b pos) (tE C W (mBin h f g)) :=
  PE.imp (pe_ix ho ha hb hs) fun σ H Q w => tBin (ta := tE C W f) (tb := tE C W g) ok σ H Q w
/-- of one operand -/
def mUn (h : D × Md → Option (D × Md)) (f : CV → Rs (D × Md)) : CV → Rs (D × Md) := fun ρ => (f ρ).bind fun x => ofO (h x)
def UnOk (C : Cf) (r : V → Hp → VK → Prop) (h : D × Md → Option (D × Md)) : Prop :=
  ∀ (Pm : List Addr) (H : Hp) (x : V) (dx d : D × Md) (Q : VK), Lsts Pm H → Tab C.T H → OV C.K Pm H dx.2 x dx.1 → h dx = some d →
    (∀ v H', Sm H H' → Tab C.T H' → VR C.K Pm H H' d.2 v d.1 → Q v H') → r x H Q
theorem tUn1 {r : V → Hp → VK → Prop} {h : D × Md → Option (D × Md)} (ok : UnOk C r h) (σ : St) (H : Hp) (Q : VK) (w : tE C W (mUn h f) σ H Q) : tUn r (tE C W f) σ H Q := by
  obtain ⟨B, P, ρ, hio, re, w⟩ := w
  refine tE_then hio re w fun d m v H1 s re1 vr w1 => ?_
  have o1 := VR.ov re.lst vr
  cases e : h (d, m) with
  | none => rw [e] at w1; exact w1.elim
  | some z =>
    rw [e] at w1
    exact ok (B.M ++ P) H1 v (d, m) z Q re1.lst re1.tab o1 e w1
theorem se_un {op : UnaryOp} {r : V → Hp → VK → Prop} {h : D × Md → Option (D × Md)} (ho : UnR X (unaryOp op) r) (ok : UnOk C r h) (ha : PE X a (tE C W f)) : PE X (.UnaryOp op a pos) (tE C W (mUn h f)) :=
  PE.imp (pe_un ho ha) fun σ H Q w => tUn1 ok σ H Q w

/-! comparisons -/
def mCmp (h : D × Md → D × Md → Option Bool) (f g : CV → Rs (D × Md)) : CV → Rs Bool := fun ρ => (f ρ).bind fun x => (g ρ).bind fun y => ofO (h x y)
def CmpOk (C : Cf) (r : R2) (h : D × Md → D × Md → Option Bool) : Prop :=
  ∀ (Pm : List Addr) (H : Hp) (x y : V) (dx dy : D × Md) (k : Bool) (Q : VK), Lsts Pm H → OV C.K Pm H dx.2 x dx.1 → OV C.K Pm H dy.2 y dy.1 → h dx dy = some k → Q (.bl k) H → r x y H Q
theorem CmpOk.or {r r' : R2} {h h' : D × Md → D × Md → Option Bool} (a : CmpOk C r h) (b : CmpOk C r' h') : CmpOk C (fun x y H Q => r x y H Q ∨ r' x y H Q) (fun x y => (h x y).or (h' x y)) := by
  intro Pm H x y dx dy d Q l ox oy e q
  replace e : (h dx dy).or (h' dx dy) = some d := e
  cases e1 : h dx dy with
  | some z =>
    rw [e1] at e
    exact .inl (a Pm H x y dx dy d Q l ox oy (by rw [e1]; exact e) q)
  | none =>
    rw [e1] at e
    exact .inr (b Pm H x y dx dy d Q l ox oy e q)
theorem tT_then {σ : St} {H : Hp} {B : Bs} {P : List Addr} {ρ : CV} {k : D × Md → Rs Bool} {Q : Bool → Hp → Prop} {Q' : VK} (hio : Lk B C) (re : RE C.K C.T B P H σ ρ) (h : BR C W σ H Q ((f ρ).bind k))
    (hQ : ∀ d m v H1, Sm H H1 → RE C.K C.T B P H1 σ ρ → VR C.K (B.M ++ P) H H1 m v d → BR C W σ H1 Q (k (d, m)) → Q' v H1) : tE C W f σ H Q' := by
  refine ⟨B, P, ρ, hio, re, ?_⟩
  cases e : f ρ with
  | ok a =>
    obtain ⟨d, m⟩ := a
    rw [e] at h
    exact fun v H1 s t vr => hQ d m v H1 s (re.sm s t) vr (h.sm s)
  | er c =>
    rw [e] at h
    exact h
  | no =>
    rw [e] at h
    exact h
theorem tCmp1 {r : R2} {h : D × Md → D × Md → Option Bool} (ok : CmpOk C r h) {σ : St} {H : Hp} {Q : Bool → Hp → Prop} {Q' : VK} {B : Bs} {P : List Addr} {ρ : CV} (hio : Lk B C) (re : RE C.K C.T B P H σ ρ)
    (w : BR C W σ H Q (mCmp h f g ρ)) (hq : ∀ k H1, Q k H1 → Q' (.bl k) H1) : tOp r (tE C W f) (tE C W g) σ H Q' := by
  refine tT_then hio re w fun d m v H1 s re1 vr w1 => ?_
  have o1 := VR.ov re.lst vr
  refine tT_then hio re1 w1 fun d2 m2 v2 H2 s2 re2 vr2 w2 => ?_
  have o2 := VR.ov re1.lst vr2
  cases e : h (d, m) (d2, m2) with
  | none => rw [e] at w2; exact w2.elim
  | some z =>
    rw [e] at w2
    exact ok (B.M ++ P) H2 v v2 (d, m) (d2, m2) z Q' re2.lst (o1.sm s2) o2 e (hq _ _ (w2 H2 (Sm.refl _) re2.tab))
theorem st_cmp {op : CmpOp} {r : R2} {h : D × Md → D × Md → Option Bool} (ho : OpR X (compareOp op) r) (ok : CmpOk C r h) (ha : PE X a (tE C W f)) (hb : PE X b (tE C W g)) (hm : behindInMarks op b = false := by first | exact nomark _ | rfl) : PT X (.Compare a [op] [b] pos) (tT C W (mCmp h f g)) :=
  PT.imp (pt_cmpR ho ha hb hm) fun σ H Q w => by
    obtain ⟨B, P, ρ, hio, re, w⟩ := w
    exact tCmp1 ok hio re w fun k H1 q => ⟨k, rfl, q⟩
def mVal (f : CV → Rs Bool) : CV → Rs (D × Md) := fun ρ => (f ρ).bind fun b => .ok (.bool b, .cl)
theorem ER_val {σ : St} {H : Hp} {Pm : List Addr} {Q : VK} {r : Rs Bool} (h : ER C W σ H Pm Q (r.bind fun b => .ok (.bool b, .cl))) : BR C W σ H (fun b H1 => Q (.bl b) H1) r := by
  cases r with
  | ok b => exact fun H' s t => h _ H' s t (.bl b)
  | er c => exact h
  | no => exact h
theorem se_cmp {op : CmpOp} {r : R2} {h : D × Md → D × Md → Option Bool} (ho : OpR X (compareOp op) r) (ok : CmpOk C r h) (ha : PE X a (tE C W f)) (hb : PE X b (tE C W g)) (hm : behindInMarks op b = false := by first | exact nomark _ | rfl) : PE X (.Compare a [op] [b] pos) (tE C W (mVal (mCmp h f g))) :=
  PE.imp (pe_cmpR ho ha hb hm) fun σ H Q w => by
    obtain ⟨B, P, ρ, hio, re, w⟩ := w
    exact tCmp1 ok hio re (ER_val w) fun k H1 q => q
/-- a < b < c -/
def mChain (h h' : D × Md → D × Md → Option Bool) (f g k : CV → Rs (D × Md)) : CV → Rs Bool := fun ρ => (f ρ).bind fun x => (g ρ).bind fun y => (ofO (h x y)).bind fun b => if b then (k ρ).bind fun z => ofO (h' y z) else .ok false
theorem tChain1 {c : Expr} {k : CV → Rs (D × Md)} {r r' : R2} {h h' : D × Md → D × Md → Option Bool} (ok : CmpOk C r h) (ok' : CmpOk C r' h') {σ : St} {H : Hp} {Q : Bool → Hp → Prop} {Q' : VK} {B : Bs} {P : List Addr} {ρ : CV} (hio : Lk B C) (re : RE C.K C.T B P H σ ρ)
    (w : BR C W σ H Q (mChain h h' f g k ρ)) (hq : ∀ k H1, Q k H1 → Q' (.bl k) H1) : tChain r r' (tE C W f) (tE C W g) (tE C W k) σ H Q' := by
  refine tT_then hio re w fun d m v H1 s re1 vr w1 => ?_
  have o1 := VR.ov re.lst vr
  refine tT_then hio re1 w1 fun d2 m2 v2 H2 s2 re2 vr2 w2 => ?_
  have o2 := VR.ov re1.lst vr2
  cases e : h (d, m) (d2, m2) with
  | none => rw [e] at w2; exact w2.elim
  | some z =>
    rw [e] at w2
    refine ok (B.M ++ P) H2 v v2 (d, m) (d2, m2) z _ re2.lst (o1.sm s2) o2 e ⟨z, rfl, ?_⟩
    cases z with
    | false => exact hq _ _ (w2 H2 (Sm.refl _) re2.tab)
    | true =>
      simp only [if_true]
      refine tT_then hio re2 w2 fun d3 m3 v3 H3 s3 re3 vr3 w3 => ?_
      have o3 := VR.ov re2.lst vr3
      cases e' : h' (d2, m2) (d3, m3) with
      | none => rw [e'] at w3; exact w3.elim
      | some z =>
        rw [e'] at w3
        exact ok' (B.M ++ P) H3 v2 v3 (d2, m2) (d3, m3) z Q' re3.lst (o2.sm s3) o3 e' (hq _ _ (w3 H3 (Sm.refl _) re3.tab))
theorem se_chain {c : Expr} {k : CV → Rs (D × Md)} {op op' : CmpOp} {r r' : R2} {h h' : D × Md → D × Md → Option Bool} (ho : OpR X (compareOp op) r) (ho' : OpR X (compareOp op') r') (ok : CmpOk C r h) (ok' : CmpOk C r' h') (ha : PE X a (tE C W f)) (hb : PE X b (tE C W g)) (hc : PE X c (tE C W k))
    (hm : lastMarks [op, op'] [b, c] = false := by rfl) : PE X (.Compare a [op, op'] [b, c] pos) (tE C W (mVal (mChain h h' f g k))) :=
  PE.imp (pe_chain ho ho' ha hb hc hm) fun σ H Q w => by
    obtain ⟨B, P, ρ, hio, re, w⟩ := w
    exact tChain1 (c := c) ok ok' hio re (ER_val w) fun k H1 q => q
theorem st_chain {c : Expr} {k : CV → Rs (D × Md)} {op op' : CmpOp} {r r' : R2} {h h' : D × Md → D × Md → Option Bool} (ho : OpR X (compareOp op) r) (ho' : OpR X (compareOp op') r') (ok : CmpOk C r h) (ok' : CmpOk C r' h') (ha : PE X a (tE C W f)) (hb : PE X b (tE C W g)) (hc : PE X c (tE C W k))
    (hm : lastMarks [op, op'] [b, c] = false := by rfl) : PT X (.Compare a [op, op'] [b, c] pos) (tT C W (mChain h h' f g k)) :=
  PT.imp (pt_chain ho ho' ha hb hc hm) fun σ H Q w => by
    obtain ⟨B, P, ρ, hio, re, w⟩ := w
    exact tChain1 (c := c) ok ok' hio re w fun k H1 q => ⟨k, rfl, q⟩
/-- a value that is a truth, as a test -/
def mBool (f : CV → Rs (D × Md)) : CV → Rs Bool := fun ρ => (f ρ).bind fun x => match x.1 with
  | .bool b => .ok b
  | _ => .no
theorem st_val (ha : PE X e (tE C W f)) (he : ∀ whole, isTrue e X.env whole = (do let v ← whole; standAt e.pos; holding [v] (truthy v)) := by intro _; rfl) : PT X e (tT C W (mBool f)) :=
  PT.imp (pt_val ha he) fun σ H Q w => by
    obtain ⟨B, P, ρ, hio, re, w⟩ := w
    refine tT_then hio re w fun d m v H1 s re1 vr w1 => ?_
    have o1 := VR.ov re.lst vr
    cases d <;> try exact w1.elim
    rename_i k
    by_cases n : m = .fz
    · subst n
      cases o1
    · have t := o1.tr n
      cases t
      exact ⟨k, rfl, w1 H1 (Sm.refl _) re1.tab⟩

/-! and, or, not -/
variable {rest : List Expr} {u t : CV → Rs Bool}
theorem BR_then {σ : St} {H : Hp} {B : Bs} {P : List Addr} {ρ : CV} {k : Bool → Rs Bool} {Q Q' : Bool → Hp → Prop} (hio : Lk B C) (re : RE C.K C.T B P H σ ρ) (h : BR C W σ H Q ((t ρ).bind k))
    (hQ : ∀ d H1, Sm H H1 → RE C.K C.T B P H1 σ ρ → BR C W σ H1 Q (k d) → Q' d H1) : tT C W t σ H Q' := by
  refine ⟨B, P, ρ, hio, re, ?_⟩
  cases e : t ρ with
  | ok a =>
    rw [e] at h
    exact fun H1 s tb => hQ a H1 s (re.sm s tb) (h.sm s)
  | er c => rw [e] at h; exact h
  | no => rw [e] at h; exact h
def mAnd (t u : CV → Rs Bool) : CV → Rs Bool := fun ρ => (t ρ).bind fun b => if b then u ρ else .ok false
def mOr (t u : CV → Rs Bool) : CV → Rs Bool := fun ρ => (t ρ).bind fun b => if b then .ok true else u ρ
def mNot (t : CV → Rs Bool) : CV → Rs Bool := fun ρ => (t ρ).bind fun b => .ok (!b)
theorem sw_and1 (ha : PT X a (tT C W t)) : PW X (.BoolOp .And [a] pos) (tT C W t) := pw_and1 ha
theorem sw_or1 (ha : PT X a (tT C W t)) : PW X (.BoolOp .Or [a] pos) (tT C W t) := pw_or1 ha
theorem sw_and (ha : PT X a (tT C W t)) (hb : PW X (.BoolOp .And (b :: rest) pos) (tT C W u)) : PW X (.BoolOp .And (a :: b :: rest) pos) (tT C W (mAnd t u)) :=
  PW.imp (pw_and ha hb) fun σ H Q w => by
    obtain ⟨B, P, ρ, hio, re, w⟩ := w
    refine BR_then hio re w fun c H1 s re1 w1 => ?_
    cases c with
    | true => exact iteT ⟨B, P, ρ, hio, re1, w1⟩
    | false => exact iteF (w1 H1 (Sm.refl _) re1.tab)
theorem sw_or (ha : PT X a (tT C W t)) (hb : PW X (.BoolOp .Or (b :: rest) pos) (tT C W u)) : PW X (.BoolOp .Or (a :: b :: rest) pos) (tT C W (mOr t u)) :=
  PW.imp (pw_or ha hb) fun σ H Q w => by
    obtain ⟨B, P, ρ, hio, re, w⟩ := w
    refine BR_then hio re w fun c H1 s re1 w1 => ?_
    cases c with
    | true => exact iteT (w1 H1 (Sm.refl _) re1.tab)
    | false => exact iteF ⟨B, P, ρ, hio, re1, w1⟩
theorem st_not (ha : PT X a (tT C W t)) : PT X (.UnaryOp .Not a pos) (tT C W (mNot t)) :=
  PT.imp (pt_not ha) fun σ H Q w => by
    obtain ⟨B, P, ρ, hio, re, w⟩ := w
    exact BR_then hio re w fun c H1 s re1 w1 => w1 H1 (Sm.refl _) re1.tab
/-- as values: both sides truths -/
def mAndV (f g : CV → Rs (D × Md)) : CV → Rs (D × Md) := fun ρ => (mBool f ρ).bind fun b => if b then g ρ else .ok (.bool false, .cl)
def mOrV (f g : CV → Rs (D × Md)) : CV → Rs (D × Md) := fun ρ => (mBool f ρ).bind fun b => if b then .ok (.bool true, .cl) else g ρ
theorem tE_bool {σ : St} {H : Hp} {B : Bs} {P : List Addr} {ρ : CV} {k : Bool → Rs (D × Md)} {Q Q' : VK} (hio : Lk B C) (re : RE C.K C.T B P H σ ρ) (h : ER C W σ H (B.M ++ P) Q ((mBool f ρ).bind k))
    (hQ : ∀ b H1, Sm H H1 → RE C.K C.T B P H1 σ ρ → ER C W σ H1 (B.M ++ P) Q (k b) → Q' (.bl b) H1) : tE C W f σ H Q' := by
  have h' : ER C W σ H (B.M ++ P) Q ((f ρ).bind fun x => match x.1 with | .bool b => k b | _ => .no) := by
    unfold mBool at h
    cases e : f ρ with
    | ok x =>
      obtain ⟨d, m⟩ := x
      rw [e] at h
      cases d <;> exact h
    | er c => rw [e] at h; exact h
    | no => rw [e] at h; exact h
  refine tE_then hio re h' fun d m v H1 s re1 vr w1 => ?_
  have o1 := VR.ov re.lst vr
  cases d <;> try exact w1.elim
  rename_i b
  by_cases n : m = .fz
  · subst n; cases o1
  · have t := o1.tr n
    cases t
    exact hQ b H1 s re1 w1
theorem se_one {op : BoolOp} (h : PE X a (tE C W f)) : PE X (.BoolOp op [a] pos) (tE C W f) := pe_one h
theorem se_and (ha : PE X a (tE C W f)) (hb : PE X (.BoolOp .And (b :: rest) pos) (tE C W g)) : PE X (.BoolOp .And (a :: b :: rest) pos) (tE C W (mAndV f g)) :=
  PE.imp (pe_and ha hb) fun σ H Q w => by
    obtain ⟨B, P, ρ, hio, re, w⟩ := w
    refine tE_bool hio re w fun c H1 s re1 w1 => ⟨c, rfl, ?_⟩
    cases c with
    | true => exact iteT ⟨B, P, ρ, hio, re1, w1⟩
    | false => exact iteF (w1 _ H1 (Sm.refl _) re1.tab (.bl false))
theorem se_or (ha : PE X a (tE C W f)) (hb : PE X (.BoolOp .Or (b :: rest) pos) (tE C W g)) : PE X (.BoolOp .Or (a :: b :: rest) pos) (tE C W (mOrV f g)) :=
  PE.imp (pe_or ha hb) fun σ H Q w => by
    obtain ⟨B, P, ρ, hio, re, w⟩ := w
    refine tE_bool hio re w fun c H1 s re1 w1 => ⟨c, rfl, ?_⟩
    cases c with
    | true => exact iteT (w1 _ H1 (Sm.refl _) re1.tab (.bl true))
    | false => exact iteF ⟨B, P, ρ, hio, re1, w1⟩
theorem se_not (ha : PE X a (tE C W f)) : PE X (.UnaryOp .Not a pos) (tE C W (mVal (mNot (mBool f)))) :=
  PE.imp (pe_not ha) fun σ H Q w => by
    obtain ⟨B, P, ρ, hio, re, w⟩ := w
    have w' : ER C W σ H (B.M ++ P) Q ((mBool f ρ).bind fun b => .ok (.bool (!b), .cl)) := by
      unfold mVal mNot at w
      cases e : mBool f ρ <;> (rw [e] at w; exact w)
    exact tE_bool hio re w' fun c H1 s re1 w1 => ⟨c, rfl, w1 _ H1 (Sm.refl _) re1.tab (.bl _)⟩
/-- a if t else b -/
def mIf (t : CV → Rs Bool) (f g : CV → Rs (D × Md)) : CV → Rs (D × Md) := fun ρ => (t ρ).bind fun b => if b then f ρ else g ρ
theorem tT_thenE {σ : St} {H : Hp} {B : Bs} {P : List Addr} {ρ : CV} {Pm : List Addr} {k : Bool → Rs (D × Md)} {Q : VK} {Q' : Bool → Hp → Prop} (hio : Lk B C) (re : RE C.K C.T B P H σ ρ) (h : ER C W σ H Pm Q ((t ρ).bind k))
    (hQ : ∀ d H1, Sm H H1 → RE C.K C.T B P H1 σ ρ → ER C W σ H1 Pm Q (k d) → Q' d H1) : tT C W t σ H Q' := by
  refine ⟨B, P, ρ, hio, re, ?_⟩
  cases e : t ρ with
  | ok a =>
    rw [e] at h
    exact fun H1 s tb => hQ a H1 s (re.sm s tb) (h.sm s)
  | er c => rw [e] at h; exact h
  | no => rw [e] at h; exact h
theorem se_if {c : Expr} (hc : PT X c (tT C W t)) (ha : PE X a (tE C W f)) (hb : PE X b (tE C W g)) : PE X (.IfExp c a b pos) (tE C W (mIf t f g)) :=
  PE.imp (pe_ifExp hc ha hb) fun σ H Q w => by
    obtain ⟨B, P, ρ, hio, re, w⟩ := w
    refine tT_thenE hio re w fun d H1 s re1 w1 => ?_
    cases d with
    | true => exact iteT ⟨B, P, ρ, hio, re1, w1⟩
    | false => exact iteF ⟨B, P, ρ, hio, re1, w1⟩

/-! arguments -/
def mNil : CV → Rs (List (D × Md)) := fun _ => .ok []
def mCons (f : CV → Rs (D × Md)) (g : CV → Rs (List (D × Md))) : CV → Rs (List (D × Md)) := fun ρ => (f ρ).bind fun x => (g ρ).bind fun xs => .ok (x :: xs)
variable {fa : CV → Rs (List (D × Md))}
theorem tA_thenE {σ : St} {H : Hp} {B : Bs} {P : List Addr} {ρ : CV} {k : D × Md → Rs (List (D × Md))} {Q : List V → Hp → Prop} {Q' : VK} (hio : Lk B C) (re : RE C.K C.T B P H σ ρ) (h : AR C W σ H (B.M ++ P) Q ((f ρ).bind k))
    (hQ : ∀ d m v H1, Sm H H1 → RE C.K C.T B P H1 σ ρ → VR C.K (B.M ++ P) H H1 m v d → AR C W σ H1 (B.M ++ P) Q (k (d, m)) → Q' v H1) : tE C W f σ H Q' := by
  refine ⟨B, P, ρ, hio, re, ?_⟩
  cases e : f ρ with
  | ok a =>
    obtain ⟨d, m⟩ := a
    rw [e] at h
    exact fun v H1 s t vr => hQ d m v H1 s (re.sm s t) vr (h.sm s)
  | er c => rw [e] at h; exact h
  | no => rw [e] at h; exact h
theorem sa_nil : PA X [] (tA C W mNil) := PA.imp pa_nil fun σ H Q w => by
  obtain ⟨B, P, ρ, hio, re, w⟩ := w
  exact w [] H (Sm.refl _) re.tab trivial
theorem sa_cons (ha : PE X e (tE C W f)) (hr : PA X es (tA C W fa)) (hs : starEach (e :: es) X.env = (false, eval e X.env) :: starEach es X.env := by rfl) : PA X (e :: es) (tA C W (mCons f fa)) := PA.imp (pa_cons ha hr hs) fun σ H Q w => by
  obtain ⟨B, P, ρ, hio, re, w⟩ := w
  refine tA_thenE hio re w fun d m v H1 s re1 vr w1 => ?_
  have o1 := VR.ov re.lst vr
  refine ⟨B, P, ρ, hio, re1, ?_⟩
  cases e : fa ρ with
  | ok xs =>
    rw [e] at w1
    exact fun vs H2 s2 t2 ovs => w1 (v :: vs) H2 s2 t2 ⟨o1.sm s2, ovs⟩
  | er c => rw [e] at w1; exact w1
  | no => rw [e] at w1; exact w1
end
end Eng

set_option Elab.async false
set_option linter.all false
set_option maxRecDepth 100000
set_option maxHeartbeats 1234567
namespace Eng
open PySem PySem.Spec
open PyProof.Rows L2

/-! ### what an operand of a known form is -/
section
variable {K : PySem.W.Frag} {Pm : List Addr} {H : Hp} {m : Md} {x : V}
theorem OV.int {i : Int} (h : OV K Pm H m x (.int i)) : x = .int i := by
  by_cases n : m = .fz
  · subst n; cases h
  · have t := h.tr n; cases t; rfl
theorem OV.str {i : Str} (h : OV K Pm H m x (.str i)) : x = .str i := by
  by_cases n : m = .fz
  · subst n; cases h
  · have t := h.tr n; cases t; rfl
theorem OV.bool {i : Bool} (h : OV K Pm H m x (.bool i)) : x = .bl i := by
  by_cases n : m = .fz
  · subst n; cases h
  · have t := h.tr n; cases t; rfl
theorem OV.none (h : OV K Pm H m x .none) : x = .non := by
  by_cases n : m = .fz
  · subst n; cases h
  · have t := h.tr n; cases t; rfl
theorem OV.list {ds : List D} (h : OV K Pm H m x (.list ds)) (n : m ≠ .fz) : ∃ p vs, x = .ref p ∧ H p = some (.lst vs) ∧ TrAll H vs ds ∧ (itCl m = true → TrAll (mask Pm H) vs ds) := by
  cases m with
  | fr =>
    cases h with
    | lst e t => exact ⟨_, _, rfl, (mask_some e).2, TrAll.mono mask_le _ _ t, fun _ => t⟩
  | cl =>
    cases h with
    | lst e t => exact ⟨_, _, rfl, (mask_some e).2, TrAll.mono mask_le _ _ t, fun _ => t⟩
  | ow =>
    obtain ⟨p, vs, ds', rfl, e, _, h1, t⟩ := h
    cases e
    exact ⟨_, _, rfl, h1, TrAll.mono mask_le _ _ t, fun _ => t⟩
  | vw =>
    cases h with
    | lst e t => exact ⟨_, _, rfl, e, t, fun z => by cases z⟩
  | fz => exact absurd rfl n
theorem OV.seqL {ds : List D} (h : OV K Pm H m x (.list ds)) : ∃ p vs, x = .ref p ∧ SqL K H p vs ∧ TrAll H vs ds ∧ (itCl m = true → TrAll (mask Pm H) vs ds) := by
  by_cases n : m = .fz
  · subst n
    cases h with
    | lst e f =>
      refine ⟨_, _, rfl, ?_, f.tr, fun _ => f.tr⟩
      rcases e with ⟨o, e⟩ | e
      · exact .inl (.inr ⟨o, e⟩)
      · exact .inr e
  · obtain ⟨p, vs, e, h1, t, c⟩ := h.list n
    exact ⟨p, vs, e, SqL.of h1, t, c⟩
theorem OV.seqT {ds : List D} (h : OV K Pm H m x (.tuple ds)) : ∃ p vs, x = .ref p ∧ SqT K H p vs ∧ TrAll H vs ds ∧ (itCl m = true → TrAll (mask Pm H) vs ds) := by
  cases m with
  | fr =>
    cases h with
    | tup e t => exact ⟨_, _, rfl, SqT.of (mask_some e).2, TrAll.mono mask_le _ _ t, fun _ => t⟩
  | cl =>
    cases h with
    | tup e t => exact ⟨_, _, rfl, SqT.of (mask_some e).2, TrAll.mono mask_le _ _ t, fun _ => t⟩
  | ow => obtain ⟨p, vs, ds', rfl, e, _⟩ := h; cases e
  | vw =>
    cases h with
    | tup e t => exact ⟨_, _, rfl, SqT.of e, t, fun z => by cases z⟩
  | fz =>
    cases h with
    | tup e f => exact ⟨_, _, rfl, .inr e, f.tr, fun _ => f.tr⟩
end
theorem mask_newL {Pm : List Addr} {H : Hp} {p : Addr} {o : HO} (h : H p = none) : SeqLe (mask Pm H) (mask (p :: Pm) (upd H p o)) := by
  have key : ∀ a u, mask Pm H a = some u → mask (p :: Pm) (upd H p o) a = some u := fun a u e => by
    obtain ⟨h1, h2⟩ := mask_some e
    have ne : a ≠ p := fun z => by rw [z, h] at h2; cases h2
    rw [mask_out (by simp only [List.mem_cons, not_or]; exact ⟨ne, h1⟩), upd_ne ne]
    exact h2
  exact ⟨fun a xs e => key a _ e, fun a xs e => key a _ e⟩
theorem mask_new {Pm : List Addr} {H : Hp} {p : Addr} {o : HO} (h : H p = none) : SeqLe (mask Pm H) (mask Pm (upd H p o)) := (Sm.upd h).mask Pm
theorem lst_ne {Pm : List Addr} {H : Hp} (l : Lsts Pm H) {p : Addr} (h : H p = none) : p ∉ Pm := fun z => by
  obtain ⟨o, e, _⟩ := l p z
  rw [h] at e; cases e
/-- a new list -/
theorem new_fr {C : Cf} {Pm : List Addr} {H : Hp} {vs : List V} {ds : List D} {Q : VK} {p : Addr} (tb : Tab C.T H) (hp : H p = none) (t : TrAll (mask Pm H) vs ds)
    (q : ∀ v H', Sm H H' → Tab C.T H' → VR C.K Pm H H' .fr v (.list ds) → Q v H') : Q (.ref p) (upd H p (.lst vs)) :=
  q _ _ (Sm.upd hp) (tb.new hp) ⟨p, vs, ds, rfl, rfl, hp, upd_same, TrAll.mono (mask_newL hp) _ _ t⟩
theorem new_tup {C : Cf} {Pm : List Addr} {H : Hp} {vs : List V} {ds : List D} {Q : VK} {p : Addr} (l : Lsts Pm H) (tb : Tab C.T H) (hp : H p = none) (t : TrAll (mask Pm H) vs ds)
    (q : ∀ v H', Sm H H' → Tab C.T H' → VR C.K Pm H H' .cl v (.tuple ds) → Q v H') : Q (.ref p) (upd H p (.tup vs)) :=
  q _ _ (Sm.upd hp) (tb.new hp) (.tup (by rw [mask_out (lst_ne l hp), upd_same]) (TrAll.mono (mask_new hp) _ _ t))

/-! ### + - * // % -/
def hAdd (x y : D × Md) : Option (D × Md) := match x.1, y.1 with
  | .int i, .int j => some (.int (i + j), .cl)
  | .str a, .str b => if a.length + b.length ≤ sizeLine then some (.str (a ++ b), .cl) else none
  | .list a, .list b => if x.2 ≠ .fz ∧ y.2 ≠ .fz ∧ a.length + b.length ≤ sizeLine ∧ ((itCl x.2 = true ∧ itCl y.2 = true) ∨ (lfs a = true ∧ lfs b = true)) then some (.list (a ++ b), .fr) else none
  | _, _ => none
def rAdd3 : R2 := fun x y H Q => ((∃ i j, x = .int i ∧ y = .int j ∧ Q (.int (i + j)) H) ∨ (∃ i j, x = .str i ∧ y = .str j ∧ i.length + j.length ≤ sizeLine ∧ Q (.str (i ++ j)) H)) ∨ rCat x y H Q
theorem op_add3 {X : Cx} : OpR X (binaryOp .Add) rAdd3 := (op_add.or op_add_str).or op_cat
theorem ok_add {C : Cf} : OpOk C rAdd3 hAdd := by
  rintro Pm H x y ⟨dx, mx⟩ ⟨dy, my⟩ d Q l tb ox oy e q
  unfold hAdd at e
  dsimp only at e ox oy
  split at e
  · cases e
    exact .inl (.inl ⟨_, _, ox.int, oy.int, q _ H (Sm.refl _) tb (.int _)⟩)
  · split at e
    · rename_i hz
      cases e
      exact .inl (.inr ⟨_, _, ox.str, oy.str, hz, q _ H (Sm.refl _) tb (.str _)⟩)
    · cases e
  · split at e
    · rename_i hz
      cases e
      obtain ⟨n1, n2, hz, hc⟩ := hz
      obtain ⟨p, vs, rfl, h1, t1, c1⟩ := ox.list n1
      obtain ⟨p2, vs2, rfl, h2, t2, c2⟩ := oy.list n2
      refine .inr ⟨p, p2, vs, vs2, rfl, rfl, h1, h2, by rw [t1.length, t2.length]; exact hz, fun r hr => ?_⟩
      refine new_fr tb hr (TrAll.append ?_ ?_) q
      · rcases hc with ⟨z, _⟩ | ⟨z, _⟩
        · exact c1 z
        · exact TrAll.lfMask l t1 z
      · rcases hc with ⟨_, z⟩ | ⟨_, z⟩
        · exact c2 z
        · exact TrAll.lfMask l t2 z
    · cases e
  · cases e
def hSub (x y : D × Md) : Option (D × Md) := match x.1, y.1 with
  | .int i, .int j => some (.int (i - j), .cl)
  | _, _ => none
theorem ok_sub {C : Cf} : OpOk C (rI0 fun i j => .int (i - j)) hSub := by
  rintro Pm H x y ⟨dx, mx⟩ ⟨dy, my⟩ d Q l tb ox oy e q
  unfold hSub at e
  dsimp only at e ox oy
  split at e
  · cases e
    exact ⟨_, _, ox.int, oy.int, q _ H (Sm.refl _) tb (.int _)⟩
  · cases e
def mulOk (i j : Int) : Bool := (decide (-(2 ^ 64) < i) && decide (i < 2 ^ 64)) || (decide (-(2 ^ 64) < j) && decide (j < 2 ^ 64))
def hMul (x y : D × Md) : Option (D × Md) := match x.1, y.1 with
  | .int i, .int j => if mulOk i j = true then some (.int (i * j), .cl) else none
  | .list a, .int k => if x.2 ≠ .fz ∧ 0 ≤ k ∧ k < 1000 ∧ a.length * k.toNat ≤ sizeLine ∧ (itCl x.2 = true ∨ lfs a = true) then some (.list (List.replicate k.toNat a).flatten, .fr) else none
  | _, _ => none
def rMul2 : R2 := fun x y H Q => rI CMul (fun i j => .int (i * j)) x y H Q ∨ rRep x y H Q
theorem op_mul2 {X : Cx} : OpR X (binaryOp .Mult) rMul2 := op_mul.or op_rep
theorem TrAll.rep {H : Hp} {vs : List V} {ds : List D} (h : TrAll H vs ds) : ∀ k : Nat, TrAll H (List.replicate k vs).flatten (List.replicate k ds).flatten
  | 0 => .nil
  | k + 1 => by
    rw [List.replicate_succ (n := _), List.replicate_succ, List.flatten_cons, List.flatten_cons]
    exact h.append (TrAll.rep h k)
theorem ok_mul {C : Cf} : OpOk C rMul2 hMul := by
  rintro Pm H x y ⟨dx, mx⟩ ⟨dy, my⟩ d Q l tb ox oy e q
  unfold hMul at e
  dsimp only at e ox oy
  split at e
  · split at e
    · rename_i hz
      cases e
      refine .inl ⟨_, _, ox.int, oy.int, ?_, q _ H (Sm.refl _) tb (.int _)⟩
      simp only [mulOk, Bool.or_eq_true, Bool.and_eq_true, decide_eq_true_eq] at hz
      exact hz
    · cases e
  · split at e
    · rename_i hz
      cases e
      obtain ⟨n1, k0, k1, hz, hc⟩ := hz
      obtain ⟨p, vs, rfl, h1, t1, c1⟩ := ox.list n1
      refine .inr ⟨p, _, vs, rfl, oy.int, h1, by omega, by omega, by rw [t1.length]; exact hz, fun r hr => ?_⟩
      refine new_fr tb hr (TrAll.rep ?_ _) q
      rcases hc with z | z
      · exact c1 z
      · exact TrAll.lfMask l t1 z
    · cases e
  · cases e
def hDiv (x y : D × Md) : Option (D × Md) := match x.1, y.1 with
  | .int i, .int j => if 0 < j ∧ j < 1073741824 then some (.int (i / j), .cl) else none
  | _, _ => none
theorem ok_div {C : Cf} : OpOk C (rI CDiv fun i j => .int (i / j)) hDiv := by
  rintro Pm H x y ⟨dx, mx⟩ ⟨dy, my⟩ d Q l tb ox oy e q
  unfold hDiv at e
  dsimp only at e ox oy
  split at e
  · split at e
    · rename_i hz
      cases e
      exact ⟨_, _, ox.int, oy.int, hz, q _ H (Sm.refl _) tb (.int _)⟩
    · cases e
  · cases e
def hMod (x y : D × Md) : Option (D × Md) := match x.1, y.1 with
  | .int i, .int j => if 0 < j then some (.int (i % j), .cl) else none
  | _, _ => none
theorem ok_mod {C : Cf} : OpOk C (rI (fun _ j => 0 < j) fun i j => .int (i % j)) hMod := by
  rintro Pm H x y ⟨dx, mx⟩ ⟨dy, my⟩ d Q l tb ox oy e q
  unfold hMod at e
  dsimp only at e ox oy
  split at e
  · split at e
    · rename_i hz
      cases e
      exact ⟨_, _, ox.int, oy.int, hz, q _ H (Sm.refl _) tb (.int _)⟩
    · cases e
  · cases e
def hNeg (x : D × Md) : Option (D × Md) := match x.1 with
  | .int i => some (.int (-i), .cl)
  | _ => none
theorem ok_neg {C : Cf} : UnOk C (rU fun i => .int (-i)) hNeg := by
  rintro Pm H x ⟨dx, mx⟩ d Q l tb ox e q
  unfold hNeg at e
  dsimp only at e ox
  split at e
  · cases e
    exact ⟨_, ox.int, q _ H (Sm.refl _) tb (.int _)⟩
  · cases e

/-! ### subscripts -/
theorem atI_tr {H : Hp} {vs : List V} {ds : List D} {i : Int} {d : D} (t : TrAll H vs ds) (e : atI ds i = some d) : ∃ v, atI vs i = some v ∧ Tr H v d := by
  unfold atI at e ⊢
  rw [t.length]
  cases h : ixN ds.length i with
  | none => rw [h] at e; cases e
  | some j => rw [h] at e; exact t.get e
theorem atI_both {H H2 : Hp} {vs : List V} {ds : List D} {i : Int} {v : V} {d : D} (t : TrAll H vs ds) (e : atI vs i = some v) (e2 : atI ds i = some d) : Tr H v d := by
  obtain ⟨w, h1, h2⟩ := atI_tr t e2
  rw [e] at h1; cases h1
  exact h2
def itMode (m : Md) (d : D) : Md := if itCl m then .cl else if lf d then .cl else .vw
def hIx (x y : D × Md) : Option (D × Md) := match x.1, y.1 with
  | .list ds, .int i => (atI ds i).map fun d => (d, itMode x.2 d)
  | .tuple ds, .int i => (atI ds i).map fun d => (d, itMode x.2 d)
  | .str s, .int i => if s.length ≤ sizeLine then (atI s.cps.toList i).map fun c => (.str ⟨#[c]⟩, .cl) else none
  | _, _ => none
def rIx3 (K : PySem.W.Frag) : R2 := fun x y H Q => (rIxL K x y H Q ∨ rIxT K x y H Q) ∨ rIxS x y H Q
theorem ix_3 {X : Cx} : IxR X (rIx3 X.K) := (ix_list.or ix_tup).or ix_str
theorem item_vr {C : Cf} {Pm : List Addr} {H : Hp} {m : Md} {vs : List V} {ds : List D} {i : Int} {v : V} {d : D} (l : Lsts Pm H) (t : TrAll H vs ds) (c : itCl m = true → TrAll (mask Pm H) vs ds) (e : atI vs i = some v) (e2 : atI ds i = some d) :
    VR C.K Pm H H (itMode m d) v d := by
  have td := atI_both (H2 := H) t e e2
  unfold itMode
  split
  · rename_i hc
    exact atI_both (H2 := H) (c hc) e e2
  · split
    · rename_i hl
      exact td.lfMask l hl
    · exact td
theorem ok_ix {C : Cf} : OpOk C (rIx3 C.K) hIx := by
  rintro Pm H x y ⟨dx, mx⟩ ⟨dy, my⟩ d Q l tb ox oy e q
  unfold hIx at e
  dsimp only at e ox oy
  split at e
  · obtain ⟨d', e1, rfl⟩ := Option.map_eq_some_iff.mp e
    obtain ⟨p, vs, rfl, hs, t, c⟩ := ox.seqL
    obtain ⟨v, e2, _⟩ := atI_tr t e1
    exact .inl (.inl ⟨p, vs, _, v, rfl, oy.int, hs, e2, q v H (Sm.refl _) tb (item_vr l t c e2 e1)⟩)
  · obtain ⟨d', e1, rfl⟩ := Option.map_eq_some_iff.mp e
    obtain ⟨p, vs, rfl, hs, t, c⟩ := ox.seqT
    obtain ⟨v, e2, _⟩ := atI_tr t e1
    exact .inl (.inr ⟨p, vs, _, v, rfl, oy.int, hs, e2, q v H (Sm.refl _) tb (item_vr l t c e2 e1)⟩)
  · split at e
    · rename_i hz
      obtain ⟨c, e1, rfl⟩ := Option.map_eq_some_iff.mp e
      exact .inr ⟨_, _, c, ox.str, oy.int, hz, e1, q _ H (Sm.refl _) tb (.str _)⟩
    · cases e
  · cases e

/-! ### slices -/
def cut {α : Type} (xs : List α) (lo hi : Option Int) : List α := (xs.drop (HT.sIx xs.length 0 lo)).take (HT.sIx xs.length xs.length hi - HT.sIx xs.length 0 lo)
section
variable (C : Cf) (W : WX)
def PR (σ : St) (H : Hp) (Q : Option Int → Hp → Prop) : Rs (Option Int) → Prop
  | .ok b => ∀ H', Sm H H' → Tab C.T H' → Q b H'
  | .er c => ∀ A H', C.mg c = some (.ref A) → Sm H H' → Tab C.T H' → W (.ref A) none σ H'
  | .no => False
def tO (f : CV → Rs (Option Int)) : TO := fun σ H Q => ∃ B P ρ, Lk B C ∧ RE C.K C.T B P H σ ρ ∧ PR C W σ H Q (f ρ)
end
section
variable {X : Cx} {C : Cf} {W : WX} {a e : Expr} {f : CV → Rs (D × Md)} {lo hi : CV → Rs (Option Int)} {le he : Option Expr} {pos p2 : Pos}
theorem PR.sm {σ : St} {H H1 : Hp} {Q : Option Int → Hp → Prop} {r : Rs (Option Int)} (s : Sm H H1) (h : PR C W σ H Q r) : PR C W σ H1 Q r := by
  cases r with
  | ok a => exact fun H' s' t => h H' (s.trans s') t
  | er c => exact fun A H' hm s' t => h A H' hm (s.trans s') t
  | no => exact h
def mNoP : CV → Rs (Option Int) := fun _ => .ok none
def mPart (f : CV → Rs (D × Md)) : CV → Rs (Option Int) := fun ρ => (f ρ).bind fun x => match x.1 with
  | .int i => .ok (some i)
  | _ => .no
theorem PO.imp {e : Option Expr} {t t' : TO} (h : PO X e t) (i : ∀ σ H Q, t' σ H Q → t σ H Q) : PO X e t' := ⟨fun pins s σ H Q I w => h.run pins s σ H Q I (i σ H Q w)⟩
theorem so_none : PO X none (tO C W mNoP) := PO.imp po_none fun σ H Q w => by
  obtain ⟨B, P, ρ, hio, re, w⟩ := w
  exact w H (Sm.refl _) re.tab
theorem so_some (ha : PE X e (tE C W f)) : PO X (some e) (tO C W (mPart f)) := PO.imp (po_some ha) fun σ H Q w => by
  obtain ⟨B, P, ρ, hio, re, w⟩ := w
  unfold mPart at w
  refine ⟨B, P, ρ, hio, re, ?_⟩
  cases ef : f ρ with
  | ok a =>
    obtain ⟨d, m⟩ := a
    rw [ef] at w
    intro v H1 s t vr
    have o := VR.ov re.lst vr
    cases d <;> try exact w.elim
    exact ⟨_, o.int, w H1 s t⟩
  | er c => rw [ef] at w; exact w
  | no => rw [ef] at w; exact w
def hSl (x : D × Md) (l h : Option Int) : Option (D × Md) := match x.1 with
  | .str s => if s.length ≤ sizeLine then some (.str (cutS s l h), .cl) else none
  | .list ds => if itCl x.2 = true ∨ lfs ds = true then some (.list (cut ds l h), .fr) else none
  | _ => none
def mSl (f : CV → Rs (D × Md)) (lo hi : CV → Rs (Option Int)) : CV → Rs (D × Md) := fun ρ => (f ρ).bind fun x => (lo ρ).bind fun l => (hi ρ).bind fun h => ofO (hSl x l h)
theorem TrAll.cut {H : Hp} {vs : List V} {ds : List D} (t : TrAll H vs ds) (l h : Option Int) : TrAll H (cutV vs l h) (Eng.cut ds l h) := by
  have e : cutV vs l h = Eng.cut vs l h := rfl
  rw [e]
  unfold Eng.cut
  rw [t.length]
  exact (t.drop _).take _
theorem tO_then {σ : St} {H : Hp} {B : Bs} {P : List Addr} {ρ : CV} {Pm : List Addr} {k : Option Int → Rs (D × Md)} {Q : VK} {Q' : Option Int → Hp → Prop} (hio : Lk B C) (re : RE C.K C.T B P H σ ρ) (h : ER C W σ H Pm Q ((lo ρ).bind k))
    (hQ : ∀ d H1, Sm H H1 → RE C.K C.T B P H1 σ ρ → ER C W σ H1 Pm Q (k d) → Q' d H1) : tO C W lo σ H Q' := by
  refine ⟨B, P, ρ, hio, re, ?_⟩
  cases e : lo ρ with
  | ok a =>
    rw [e] at h
    exact fun H1 s tb => hQ a H1 s (re.sm s tb) (h.sm s)
  | er c => rw [e] at h; exact h
  | no => rw [e] at h; exact h
theorem se_sl (ha : PE X a (tE C W f)) (hl : PO X le (tO C W lo)) (hh : PO X he (tO C W hi)) (hK : X.K = C.K) : PE X (.Subscript a (.Slice le he none p2) pos) (tE C W (mSl f lo hi)) :=
  PE.imp (pe_slice (sl_list.or sl_str) ha hl hh) fun σ H Q w => by
    obtain ⟨B, P, ρ, hio, re, w⟩ := w
    refine tE_then hio re w fun d m v H1 s re1 vr w1 => ?_
    have o1 := VR.ov re.lst vr
    refine tO_then hio re1 w1 fun l H2 s2 re2 w2 => ?_
    refine tO_then hio re2 w2 fun h H3 s3 re3 w3 => ?_
    have o3 := (o1.sm s2).sm s3
    cases ez : hSl (d, m) l h with
    | none => rw [ez] at w3; exact w3.elim
    | some z =>
      rw [ez] at w3
      unfold hSl at ez
      dsimp only at ez o3
      split at ez
      · split at ez
        · rename_i hz
          cases ez
          exact .inr ⟨_, o3.str, hz, w3 _ H3 (Sm.refl _) re3.tab (.str _)⟩
        · cases ez
      · split at ez
        · rename_i hc
          cases ez
          obtain ⟨p, vs, rfl, hs, t, c⟩ := o3.seqL
          refine .inl ⟨p, vs, rfl, by rw [hK]; exact hs, fun r hr => ?_⟩
          refine new_fr (C := C) (Pm := B.M ++ P) re3.tab hr (TrAll.cut ?_ l h) w3
          rcases hc with z | z
          · exact c z
          · exact TrAll.lfMask re3.lst t z
        · cases ez
      · cases ez
end

/-! ### comparisons -/
def hLt (x y : D × Md) : Option Bool := match x.1, y.1 with | .int i, .int j => some (decide (i < j)) | _, _ => none
def hLe (x y : D × Md) : Option Bool := match x.1, y.1 with | .int i, .int j => some (decide (i ≤ j)) | .str a, .str b => some (!decide (b.cps.toList < a.cps.toList)) | _, _ => none
def hGt (x y : D × Md) : Option Bool := match x.1, y.1 with | .int i, .int j => some (decide (j < i)) | _, _ => none
def hGe (x y : D × Md) : Option Bool := match x.1, y.1 with | .int i, .int j => some (decide (j ≤ i)) | _, _ => none
theorem ok_lt {C : Cf} : CmpOk C (rI0 fun i j => .bl (decide (i < j))) hLt := by
  rintro Pm H x y ⟨dx, mx⟩ ⟨dy, my⟩ k Q l ox oy e q
  unfold hLt at e; dsimp only at e ox oy
  split at e <;> cases e
  exact ⟨_, _, ox.int, oy.int, q⟩
theorem ok_gt {C : Cf} : CmpOk C (rI0 fun i j => .bl (decide (j < i))) hGt := by
  rintro Pm H x y ⟨dx, mx⟩ ⟨dy, my⟩ k Q l ox oy e q
  unfold hGt at e; dsimp only at e ox oy
  split at e <;> cases e
  exact ⟨_, _, ox.int, oy.int, q⟩
theorem ok_ge {C : Cf} : CmpOk C (rI0 fun i j => .bl (decide (j ≤ i))) hGe := by
  rintro Pm H x y ⟨dx, mx⟩ ⟨dy, my⟩ k Q l ox oy e q
  unfold hGe at e; dsimp only at e ox oy
  split at e <;> cases e
  exact ⟨_, _, ox.int, oy.int, q⟩
def rLe2 : R2 := fun x y H Q => rI0 (fun i j => .bl (decide (i ≤ j))) x y H Q ∨ ∃ i j, x = .str i ∧ y = .str j ∧ Q (.bl (!decide (j.cps.toList < i.cps.toList))) H
theorem op_le2 {X : Cx} : OpR X (compareOp .LtE) rLe2 := op_le.or op_le_str
theorem ok_le {C : Cf} : CmpOk C rLe2 hLe := by
  rintro Pm H x y ⟨dx, mx⟩ ⟨dy, my⟩ k Q l ox oy e q
  unfold hLe at e; dsimp only at e ox oy
  split at e <;> cases e
  · exact .inl ⟨_, _, ox.int, oy.int, q⟩
  · exact .inr ⟨_, _, ox.str, oy.str, q⟩
def scD : D → D → Bool
  | .none, .none => true | .none, .int _ => true | .int _, .none => true | .none, .bool _ => true | .bool _, .none => true | .none, .str _ => true | .str _, .none => true
  | .int _, .int _ => true | .bool _, .bool _ => true | .str _, .str _ => true
  | .int _, .str _ => true | .str _, .int _ => true | .bool _, .str _ => true | .str _, .bool _ => true
  | _, _ => false
def eqS : D → D → Bool
  | .none, .none => true
  | .int a, .int b => decide (a = b)
  | .bool a, .bool b => decide (a = b)
  | .str a, .str b => decide (a = b)
  | _, _ => false
def hEq (x y : D × Md) : Option Bool := if scD x.1 y.1 = true then some (eqS x.1 y.1) else if SeqAt.shaped x.1 = true ∧ SeqAt.shaped y.1 = true then some (PyData.eqv x.1 y.1) else none
def hNe (x y : D × Md) : Option Bool := (hEq x y).map (!·)
theorem sc_v {K : PySem.W.Frag} {Pm : List Addr} {H : Hp} {x y : V} {dx dy : D} {mx my : Md} (ox : OV K Pm H mx x dx) (oy : OV K Pm H my y dy) (h : scD dx dy = true) : scal x y = true ∧ decide (x = y) = eqS dx dy := by
  cases dx <;> cases dy <;> first
    | (cases h; done)
    | (rw [ox.int, oy.int]; exact ⟨rfl, by simp [eqS]⟩)
    | (rw [ox.str, oy.str]; exact ⟨rfl, by simp [eqS]⟩)
    | (rw [ox.bool, oy.bool]; exact ⟨rfl, by simp [eqS]⟩)
    | (rw [ox.none, oy.none]; exact ⟨rfl, by simp [eqS]⟩)
    | (rw [ox.none, oy.int]; exact ⟨rfl, by simp [eqS]⟩)
    | (rw [ox.none, oy.str]; exact ⟨rfl, by simp [eqS]⟩)
    | (rw [ox.none, oy.bool]; exact ⟨rfl, by simp [eqS]⟩)
    | (rw [ox.int, oy.none]; exact ⟨rfl, by simp [eqS]⟩)
    | (rw [ox.str, oy.none]; exact ⟨rfl, by simp [eqS]⟩)
    | (rw [ox.bool, oy.none]; exact ⟨rfl, by simp [eqS]⟩)
    | (rw [ox.int, oy.str]; exact ⟨rfl, by simp [eqS]⟩)
    | (rw [ox.str, oy.int]; exact ⟨rfl, by simp [eqS]⟩)
    | (rw [ox.bool, oy.str]; exact ⟨rfl, by simp [eqS]⟩)
    | (rw [ox.str, oy.bool]; exact ⟨rfl, by simp [eqS]⟩)
def rEq2 (K : PySem.W.Frag) : R2 := fun x y H Q => rEq x y H Q ∨ rEqD K x y H Q
def rNe2 (K : PySem.W.Frag) : R2 := fun x y H Q => rNe x y H Q ∨ rNeD K x y H Q
theorem op_eq2 {X : Cx} (hu : X.A.units + 64 < cLine) : OpR X (compareOp .Eq) (rEq2 X.K) := op_eq.or (op_eqD hu)
theorem op_ne2 {X : Cx} (hu : X.A.units + 64 < cLine) : OpR X (compareOp .NotEq) (rNe2 X.K) := op_ne.or (op_neD hu)
theorem ok_eq {C : Cf} : CmpOk C (rEq2 C.K) hEq := by
  rintro Pm H x y ⟨dx, mx⟩ ⟨dy, my⟩ k Q l ox oy e q
  unfold hEq at e; dsimp only at e ox oy
  split at e
  · rename_i h
    cases e
    obtain ⟨h1, h2⟩ := sc_v ox oy h
    exact .inl ⟨h1, by rw [h2]; exact q⟩
  · split at e
    · rename_i h
      cases e
      exact .inr ⟨dx, dy, ox.dp, oy.dp, h.1, h.2, q⟩
    · cases e
theorem ok_ne {C : Cf} : CmpOk C (rNe2 C.K) hNe := by
  rintro Pm H x y ⟨dx, mx⟩ ⟨dy, my⟩ k Q l ox oy e q
  unfold hNe at e
  obtain ⟨b, e0, hb⟩ := Option.map_eq_some_iff.mp e
  subst hb
  clear e
  have e := e0
  unfold hEq at e; dsimp only at e ox oy
  split at e
  · rename_i h
    have e' := Option.some.inj e
    subst e'
    obtain ⟨h1, h2⟩ := sc_v ox oy h
    exact .inl ⟨h1, by rw [h2]; exact q⟩
  · split at e
    · rename_i h
      have e' := Option.some.inj e
      subst e'
      exact .inr ⟨dx, dy, ox.dp, oy.dp, h.1, h.2, q⟩
    · cases e
/-- is None, is not None (the right one is written None) -/
def isNoneD : D → Bool
  | .none => true
  | _ => false
def hIsN (x y : D × Md) : Option Bool := match y.1 with | .none => some (isNoneD x.1) | _ => none
def hNotN (x y : D × Md) : Option Bool := (hIsN x y).map (!·)
theorem non_v {K : PySem.W.Frag} {Pm : List Addr} {H : Hp} {x : V} {dx : D} {mx : Md} (ox : OV K Pm H mx x dx) : decide (x = .non) = isNoneD dx := by
  cases dx with
  | none => rw [ox.none]; rfl
  | bool b => rw [ox.bool]; rfl
  | int b => rw [ox.int]; rfl
  | str b => rw [ox.str]; rfl
  | list b => obtain ⟨p, vs, rfl, _⟩ := ox.seqL; rfl
  | tuple b => obtain ⟨p, vs, rfl, _⟩ := ox.seqT; rfl
  | dict b =>
    have h := ox.dp
    cases h
theorem ok_isN {C : Cf} : CmpOk C (fun x y H Q => y = .non ∧ Q (.bl (decide (x = .non))) H) hIsN := by
  rintro Pm H x y ⟨dx, mx⟩ ⟨dy, my⟩ k Q l ox oy e q
  unfold hIsN at e; dsimp only at e ox oy
  split at e
  · refine ⟨oy.none, ?_⟩
    rw [non_v ox]
    have e' := Option.some.inj e
    rw [e']
    exact q
  · cases e
theorem ok_notN {C : Cf} : CmpOk C (fun x y H Q => y = .non ∧ Q (.bl (!decide (x = .non))) H) hNotN := by
  rintro Pm H x y ⟨dx, mx⟩ ⟨dy, my⟩ k Q l ox oy e q
  unfold hNotN at e
  obtain ⟨b, e0, hb⟩ := Option.map_eq_some_iff.mp e
  subst hb
  clear e
  have e := e0
  unfold hIsN at e; dsimp only at e ox oy
  split at e
  · refine ⟨oy.none, ?_⟩
    rw [non_v ox]
    have e' := Option.some.inj e
    rw [e']
    exact q
  · cases e
/-- in: a sign in a text; a flat thing in a list or tuple of flat things -/
def flD : D → Bool
  | .none => true
  | .bool _ => true
  | .int _ => true
  | .str _ => true
  | _ => false
def eqF : D → D → Bool
  | .none, .none => true
  | .bool a, .bool b => a == b
  | .bool a, .int b => (if a then 1 else 0) == b
  | .int a, .bool b => a == (if b then 1 else 0)
  | .int a, .int b => a == b
  | .str a, .str b => a == b
  | _, _ => false
def inF (x : D) (ds : List D) : Bool := ds.any fun y => eqF y x
def hIn (x y : D × Md) : Option Bool := match x.1, y.1 with
  | .str a, .str b => if a.cps.size = 1 then some (decide (a.cps.toList.headD 0 ∈ b.cps.toList)) else none
  | d, .list ds => if flD d = true ∧ ds.all flD = true then some (inF d ds) else none
  | d, .tuple ds => if flD d = true ∧ ds.all flD = true then some (inF d ds) else none
  | _, _ => none
def hNotIn (x y : D × Md) : Option Bool := (hIn x y).map (!·)
theorem flat_v {K : PySem.W.Frag} {Pm : List Addr} {H : Hp} {x : V} {dx : D} {mx : Md} (ox : OV K Pm H mx x dx) (h : flD dx = true) : flatV x = true := by
  cases dx <;> first
    | (cases h; done)
    | (rw [ox.none]; rfl)
    | (rw [ox.bool]; rfl)
    | (rw [ox.int]; rfl)
    | (rw [ox.str]; rfl)
theorem Tr.flat {H : Hp} {x y : V} {dx dy : D} (t : Tr H x dx) (u : Tr H y dy) (h : flD dx = true) (h2 : flD dy = true) : flatV x = true ∧ eqV x y = eqF dx dy := by
  cases dx <;> cases dy <;> first
    | (cases h; done)
    | (cases h2; done)
    | (cases t; cases u; exact ⟨rfl, rfl⟩)
theorem TrAll.flat {H : Hp} {y : V} {dy : D} (u : Tr H y dy) (h2 : flD dy = true) : ∀ {vs : List V} {ds : List D}, TrAll H vs ds → ds.all flD = true → vs.all flatV = true ∧ inV y vs = inF dy ds
  | _, [], h, _ => by cases h; exact ⟨rfl, rfl⟩
  | _, d :: ds, h, f => by
    cases h with
    | cons a t =>
      (rw [List.all_cons, Bool.and_eq_true] at f)
      obtain ⟨i1, i2⟩ := TrAll.flat u h2 t f.2
      obtain ⟨j1, j2⟩ := a.flat u f.1 h2
      refine ⟨by rw [List.all_cons, j1, i1]; rfl, ?_⟩
      unfold inV inF at i2 ⊢
      rw [List.any_cons, List.any_cons, j2, i2]
def rIn3 (K : PySem.W.Frag) (neg : Bool) : R2 := fun x y H Q => (∃ (c : Nat) (z : Str), x = .str ⟨#[c]⟩ ∧ y = .str z ∧ Q (.bl (if neg then !decide (c ∈ z.cps.toList) else decide (c ∈ z.cps.toList))) H) ∨ rIn K neg x y H Q
theorem op_in3 {X : Cx} : OpR X (compareOp .In) (rIn3 X.K false) := op_in_sign.or op_in_seq
theorem op_notIn3 {X : Cx} : OpR X (compareOp .NotIn) (rIn3 X.K true) := op_notIn_sign.or op_notIn_seq
theorem one_sign {a : Str} (h : a.cps.size = 1) : a = ⟨#[a.cps.toList.headD 0]⟩ := by
  obtain ⟨⟨l⟩⟩ := a
  match l, h with
  | [c], _ => rfl
theorem in_core {C : Cf} (neg : Bool) : ∀ (Pm : List Addr) (H : Hp) (x y : V) (dx dy : D × Md) (k : Bool) (Q : VK), Lsts Pm H → OV C.K Pm H dx.2 x dx.1 → OV C.K Pm H dy.2 y dy.1 → hIn dx dy = some k → Q (.bl (if neg then !k else k)) H → rIn3 C.K neg x y H Q := by
  rintro Pm H x y ⟨dx, mx⟩ ⟨dy, my⟩ k Q l ox oy e q
  unfold hIn at e; dsimp only at e ox oy
  split at e
  · split at e
    · rename_i a b h
      cases e
      have h1 := ox.str
      rw [one_sign h] at h1
      exact .inl ⟨_, _, h1, oy.str, q⟩
    · cases e
  · split at e
    · rename_i h
      cases e
      obtain ⟨p, vs, rfl, hs, t, _⟩ := oy.seqL
      have hx : ∃ w, Tr H w dx ∧ w = x := by
        by_cases n : mx = .fz
        · subst n; cases ox <;> cases h.1
        · exact ⟨x, ox.tr n, rfl⟩
      obtain ⟨w, tw, rfl⟩ := hx
      obtain ⟨f1, f2⟩ := TrAll.flat tw h.1 t h.2
      exact .inr ⟨p, vs, rfl, .inl hs, flat_v ox h.1, f1, by rw [f2]; exact q⟩
    · cases e
  · split at e
    · rename_i h
      cases e
      obtain ⟨p, vs, rfl, hs, t, _⟩ := oy.seqT
      have hx : ∃ w, Tr H w dx ∧ w = x := by
        by_cases n : mx = .fz
        · subst n; cases ox <;> cases h.1
        · exact ⟨x, ox.tr n, rfl⟩
      obtain ⟨w, tw, rfl⟩ := hx
      obtain ⟨f1, f2⟩ := TrAll.flat tw h.1 t h.2
      exact .inr ⟨p, vs, rfl, .inr hs, flat_v ox h.1, f1, by rw [f2]; exact q⟩
    · cases e
  · cases e
theorem ok_in {C : Cf} : CmpOk C (rIn3 C.K false) hIn := fun Pm H x y dx dy k Q l ox oy e q => in_core false Pm H x y dx dy k Q l ox oy e (by simpa using q)
theorem ok_notIn {C : Cf} : CmpOk C (rIn3 C.K true) hNotIn := fun Pm H x y dx dy k Q l ox oy e q => by
  unfold hNotIn at e
  obtain ⟨b, e0, hb⟩ := Option.map_eq_some_iff.mp e
  subst hb
  exact in_core true Pm H x y dx dy b Q l ox oy e0 (by simpa using q)
end Eng

set_option Elab.async false
set_option linter.all false
set_option maxRecDepth 100000
set_option maxHeartbeats 1234567
namespace Eng
open PySem PySem.Spec
open PyProof.Rows L2

section
variable {K : PySem.W.Frag} {T : List Addr} {B : Bs} {P P' : List Addr} {H H' H1 : Hp} {σ σ' : St} {ρ ρ' : CV}
theorem mask_upd {Pm : List Addr} {p : Addr} {o : HO} (h : p ∈ Pm) : mask Pm (upd H p o) = mask Pm H := by
  funext a
  by_cases ha : a ∈ Pm
  · rw [mask_in ha, mask_in ha]
  · have ne : a ≠ p := fun z => ha (by rw [z]; exact h)
    rw [mask_out ha, mask_out ha, upd_ne ne]
theorem Fz.upd {v : V} {d : D} {p : Addr} {vs : List V} {o : HO} (h : Fz K H v d) (hp : H p = some (.lst vs)) : Fz K (L2.upd H p o) v d := by
  cases h with
  | lst e f =>
    rcases e with ⟨ob, e⟩ | e
    · refine .lst (.inl ⟨ob, ?_⟩) f
      rw [upd_ne fun z => by rw [z, hp] at e; cases e]
      exact e
    · exact .lst (.inr e) f
  | tup e f => exact .tup e f
/-- an owned list is changed -/
theorem RE0.mutOwn (r : RE0 K T B P H σ ρ) {i : Nat} {ds ds' : List D} {p : Addr} {vs vs' : List V} (h : ρ[i]? = some (.own ds)) (hs : σ[i]? = some (some (.ref p))) (hp : H p = some (.lst vs)) (t : TrAll (mask (B.M ++ P) H) vs' ds') :
    RE0 K T B P (upd H p (.lst vs')) σ (ρ.set i (.own ds')) := by
  obtain ⟨p0, vs0, h1, h2, h3, h4, h5⟩ := r.own i ds h
  rw [hs] at h1
  cases h1
  have hl : i < ρ.length := (List.getElem?_eq_some_iff.mp h).1
  have pm : p ∈ B.M ++ P := List.mem_append_right _ h2
  have me : mask (B.M ++ P) (upd H p (.lst vs')) = mask (B.M ++ P) H := mask_upd pm
  have here : ∀ {j : Nat} {c : Cell}, i = j → (ρ.set i (.own ds'))[j]? = some c → c = .own ds' := fun {j c} hj e => by
    subst hj
    rw [List.getElem?_set_self hl] at e
    exact (Option.some.inj e).symm
  have back : ∀ {j : Nat} {fs : List D}, (ρ.set i (.own ds'))[j]? = some (.own fs) → ∃ gs, ρ[j]? = some (.own gs) := fun {j fs} e => by
    by_cases hj : i = j
    · subst hj; exact ⟨ds, h⟩
    · rw [List.getElem?_set_ne hj] at e; exact ⟨fs, e⟩
  have lst : ∀ (S : List Addr), Lsts S H → Lsts S (upd H p (.lst vs')) := fun S l q hq => by
    by_cases e : q = p
    · exact ⟨_, by rw [e, upd_same], .lst⟩
    · obtain ⟨ws, g, c⟩ := l q hq
      exact ⟨ws, by rw [upd_ne e]; exact g, c⟩
  refine ⟨by rw [List.length_set]; exact r.len, fun j e g => ?_, fun j e g => ?_, fun j e g => ?_, fun j k es fs q hjk g1 g2 g3 => ?_, fun a o e hn => ?_, r.new, lst _ r.lst, lst _ r.iol, r.io0, r.ios, fun q hq => ?_, r.tab.upd fun ps e => by rw [hp] at e; cases e⟩
  · by_cases hj : i = j
    · cases here hj g
    · rw [List.getElem?_set_ne hj] at g
      rw [me]
      exact r.val j e g
  · by_cases hj : i = j
    · have z := here hj g
      cases z
      subst hj
      exact ⟨p, vs', hs, h2, h3, upd_same, by rw [me]; exact t⟩
    · rw [List.getElem?_set_ne hj] at g
      obtain ⟨q, ws, g1, g2, g3, g4, g5⟩ := r.own j e g
      have ne : q ≠ p := fun z => by
        subst z
        exact r.sep i j ds e q hj h g hs g1
      exact ⟨q, ws, g1, g2, g3, by rw [upd_ne ne]; exact g4, by rw [me]; exact g5⟩
  · by_cases hj : i = j
    · cases here hj g
    · rw [List.getElem?_set_ne hj] at g
      obtain ⟨v, g1, g2⟩ := r.fz j e g
      exact ⟨v, g1, g2.upd hp⟩
  · obtain ⟨es', g1'⟩ := back g1
    obtain ⟨fs', g2'⟩ := back g2
    exact r.sep j k es' fs' q hjk g1' g2' g3
  · have ne : a ≠ p := fun z => by
      subst z
      rcases r.new _ h2 with w | w
      · exact hn w
      · rw [e] at w; cases w
    rw [upd_ne ne]
    exact r.keep a o e hn
  · by_cases hj : i = q.1
    · exact ⟨ds', by rw [← hj]; exact List.getElem?_set_self hl⟩
    · rw [List.getElem?_set_ne hj]
      exact r.ioo q hq
/-- the state here as a base -/
def Bs.here (B : Bs) (P : List Addr) (H : Hp) : Bs := { H0 := H, M := B.M, io := B.io, ch := P, ob := B.ob, oa := B.oa }
theorem RE0.here (r : RE0 K T B P H σ ρ) : RE0 K T (B.here P H) P H σ ρ where
  len := r.len
  val := r.val
  own := r.own
  fz := r.fz
  sep := r.sep
  keep := fun a o e _ => .inl e
  new := fun p hp => .inl hp
  lst := r.lst
  iol := fun p hp => r.lst p (List.mem_append_right _ hp)
  io0 := fun p hp e => by
    obtain ⟨o, z, _⟩ := r.lst p (List.mem_append_right _ hp)
    have e' : H p = none := e
    rw [z] at e'; cases e'
  ios := r.ios
  ioo := r.ioo
  tab := r.tab
theorem RE0.back (r : RE0 K T B P H σ ρ) (r' : RE0 K T (B.here P H) P' H' σ' ρ') : RE0 K T B P' H' σ' ρ' where
  len := r'.len
  val := r'.val
  own := r'.own
  fz := r'.fz
  sep := r'.sep
  keep := fun a o e hn => by
    have na : a ∉ P := fun z => by
      rcases r.new a z with w | w
      · exact hn w
      · rw [e] at w; cases w
    rcases r.keep a o e hn with z | ⟨ps, ps', rfl, z⟩
    · exact r'.keep a o z na
    · rcases r'.keep a _ z na with z2 | ⟨_, qs, _, z2⟩
      · exact .inr ⟨ps, ps', rfl, z2⟩
      · exact .inr ⟨ps, qs, rfl, z2⟩
  new := fun p hp => by
    rcases r'.new p hp with z | z
    · exact r.new p z
    · exact .inr (r.fresh0 z)
  lst := r'.lst
  iol := fun p hp => by
    by_cases z : p ∈ P
    · exact r'.iol p z
    · obtain ⟨o, e, c⟩ := r.iol p hp
      rcases r'.keep p _ e z with w | ⟨_, _, w, _⟩
      · exact ⟨o, w, c⟩
      · subst w
        rcases c with ⟨_, y⟩ | ⟨_, _, _, y⟩ <;> cases y
  io0 := r.io0
  ios := r'.ios
  ioo := r'.ioo
  tab := r'.tab
theorem RE.mutV (r : RE K T B P H σ ρ) {i : Nat} {ds ds' : List D} {p : Addr} {vs vs' : List V} (h : ρ[i]? = some (.own ds)) (hs : (vw B H σ)[i]? = some (some (.ref p))) (hp : H p = some (.lst vs)) (t : TrAll (mask (B.M ++ P) H) vs' ds') :
    RE K T B P (upd H p (.lst vs')) σ (ρ.set i (.own ds')) := by
  have ie : InsEq H (upd H p (.lst vs')) := .upd fun _ _ _ z => by rw [hp] at z; cases z
  exact ⟨r.vok.eq ie fun _ _ _ _ h _ => h, by rw [vw_eq r.vok ie]; exact r.z.mutOwn h hs hp t⟩
/-- an owned list is changed -/
theorem RE.mutOwn (r : RE K T B P H σ ρ) {i : Nat} {ds ds' : List D} {p : Addr} {vs vs' : List V} (hl : B.lc i) (h : ρ[i]? = some (.own ds)) (hs : σ[i]? = some (some (.ref p))) (hp : H p = some (.lst vs)) (t : TrAll (mask (B.M ++ P) H) vs' ds') :
    RE K T B P (upd H p (.lst vs')) σ (ρ.set i (.own ds')) := r.mutV h (by rw [vw_get r.vok hl]; exact hs) hp t
theorem RE.here (r : RE K T B P H σ ρ) : RE K T (B.here P H) P H σ ρ := ⟨fun c e => r.vok c e, r.z.here⟩
theorem RE.back (r : RE K T B P H σ ρ) (r' : RE K T (B.here P H) P' H' σ' ρ') : RE K T B P' H' σ' ρ' := ⟨fun c e => r'.vok c e, r.z.back r'.z⟩
end

/-! ### statements -/
/-- what is returned -/
def RV (K : PySem.W.Frag) (B : Bs) (P : List Addr) (H : Hp) : Md → V → D → Prop
  | .fr, v, d => ∃ p vs ds, v = .ref p ∧ d = .list ds ∧ B.H0 p = none ∧ p ∉ B.M ++ P ∧ H p = some (.lst vs) ∧ TrAll (mask (p :: (B.M ++ P)) H) vs ds
  | .cl, v, d => Tr (mask (B.M ++ P) H) v d
  | .ow, v, d => ∃ p vs ds, v = .ref p ∧ d = .list ds ∧ p ∈ P ∧ p ∉ B.M ∧ p ∉ B.io.map (·.2) ∧ H p = some (.lst vs) ∧ TrAll (mask (B.M ++ P) H) vs ds
  | .vw, v, d => Tr H v d
  | .fz, v, d => Fz K H v d
section
variable (C : Cf) (W : WX)
def SR (D : Ends) (B : Bs) : Out → Prop
  | .nx ρ' => ∀ P' σ' H', RE C.K C.T B P' H' σ' ρ' → D.nx σ' H'
  | .rt d m ρ' => ∀ P' σ' H' v, RE C.K C.T B P' H' σ' ρ' → RV C.K B P' H' m v d → D.rt v H'
  | .bk ρ' => ∀ P' σ' H', RE C.K C.T B P' H' σ' ρ' → D.bk σ' H'
  | .ct ρ' => ∀ P' σ' H', RE C.K C.T B P' H' σ' ρ' → D.ct σ' H'
  | .er c ρ' => ∀ A P' σ' H', C.mg c = some (.ref A) → RE C.K C.T B P' H' σ' ρ' → W (.ref A) none σ' H'
  | .ex c => ∀ A P' σ' H' ρ', C.mg c = some (.ref A) → RE C.K C.T B P' H' σ' ρ' → W (.ref A) none σ' H'
  | .no => False
def tS (f : CV → Out) : TS := fun D σ H => ∃ B P ρ, Lk B C ∧ RE C.K C.T B P H σ ρ ∧ SR C W D B (f ρ)
end
theorem RV.back {K : PySem.W.Frag} {T : List Addr} {B : Bs} {P P' : List Addr} {H H' : Hp} {σ : St} {ρ : CV} {m : Md} {v : V} {d : D} (r : RE K T B P H σ ρ) (h : RV K (B.here P H) P' H' m v d) : RV K B P' H' m v d := by
  cases m with
  | fr =>
    obtain ⟨p, vs, ds, e1, e2, h0, h1, h2, h3⟩ := h
    exact ⟨p, vs, ds, e1, e2, r.fresh0 h0, h1, h2, h3⟩
  | cl => exact h
  | ow => exact h
  | vw => exact h
  | fz => exact h
section
variable {X : Cx} {C : Cf} {W : WX} {e a b : Expr} {st : Stmt} {rest body : List Stmt} {f g : CV → Rs (D × Md)} {t : CV → Rs Bool} {u w : CV → Out} {pos : Pos}
def oSeq (o : Out) (k : CV → Out) : Out := match o with
  | .nx ρ => k ρ
  | o => o
def sNx : CV → Out := fun ρ => .nx ρ
def sSeq (u w : CV → Out) : CV → Out := fun ρ => oSeq (u ρ) w
theorem ss_nil : PSs X [] (tS C W sNx) := PSs.imp pss_nil fun D σ H h => by
  obtain ⟨B, P, ρ, hio, re, h⟩ := h
  exact h P σ H re
theorem ss_cons (h1 : PS X st (tS C W u)) (h2 : PSs X rest (tS C W w)) : PSs X (st :: rest) (tS C W (sSeq u w)) := PSs.imp (pss_cons h1 h2) fun D σ H h => by
  obtain ⟨B, P, ρ, hio, re, h⟩ := h
  refine ⟨B, P, ρ, hio, re, ?_⟩
  unfold sSeq at h
  cases e : u ρ with
  | nx ρ' => rw [e] at h; exact fun P' σ' H' re' => ⟨B, P', ρ', hio, re', h⟩
  | rt d m ρ' => rw [e] at h; exact h
  | bk ρ' => rw [e] at h; exact h
  | ct ρ' => rw [e] at h; exact h
  | er c ρ' => rw [e] at h; exact h
  | ex c => rw [e] at h; exact h
  | no => rw [e] at h; exact h
theorem ss_one (h1 : PS X st (tS C W u)) : PSs X [st] (tS C W u) := pss_one h1
theorem ss_pass : PS X (.Pass pos) (tS C W sNx) := PS.imp ps_pass fun D σ H h => by
  obtain ⟨B, P, ρ, hio, re, h⟩ := h
  exact h P σ H re
theorem ss_doc {x : Str} {j : Nat} {p2 : Pos} : PS X (.Expr (.Constant (.str x) j p2) pos) (tS C W sNx) := PS.imp ps_doc fun D σ H h => by
  obtain ⟨B, P, ρ, hio, re, h⟩ := h
  exact h P σ H re
def sBk : CV → Out := fun ρ => .bk ρ
def sCt : CV → Out := fun ρ => .ct ρ
theorem ss_break : PS X (.Break pos) (tS C W sBk) := PS.imp ps_break fun D σ H h => by
  obtain ⟨B, P, ρ, hio, re, h⟩ := h
  exact h P σ H re
theorem ss_continue : PS X (.Continue pos) (tS C W sCt) := PS.imp ps_continue fun D σ H h => by
  obtain ⟨B, P, ρ, hio, re, h⟩ := h
  exact h P σ H re
/-- from an expression to a statement -/
theorem tS_then {σ : St} {H : Hp} {B : Bs} {P : List Addr} {ρ : CV} {k : D × Md → Out} {D' : Ends} {Q' : VK} (hio : Lk B C) (re : RE C.K C.T B P H σ ρ)
    (h : SR C W D' B (match f ρ with | .ok x => k x | .er c => .er c ρ | .no => .no))
    (hQ : ∀ d m v H1, Sm H H1 → RE C.K C.T B P H1 σ ρ → VR C.K (B.M ++ P) H H1 m v d → SR C W D' B (k (d, m)) → Q' v H1) : tE C W f σ H Q' := by
  refine ⟨B, P, ρ, hio, re, ?_⟩
  cases e : f ρ with
  | ok a =>
    obtain ⟨d, m⟩ := a
    rw [e] at h
    exact fun v H1 s t vr => hQ d m v H1 s (re.sm s t) vr h
  | er c =>
    rw [e] at h
    exact fun A H1 hm s t => h A P σ H1 hm (re.sm s t)
  | no => rw [e] at h; exact h
def sExpr (f : CV → Rs (D × Md)) : CV → Out := fun ρ => match f ρ with
  | .ok _ => .nx ρ
  | .er c => .er c ρ
  | .no => .no
theorem ss_expr (he : PE X e (tE C W f)) (hs : swapsWith e none pos.line X.env = pure false := by rfl) : PS X (.Expr e pos) (tS C W (sExpr f)) := PS.imp (ps_expr he hs) fun D σ H h => by
  obtain ⟨B, P, ρ, hio, re, h⟩ := h
  exact tS_then (k := fun _ => .nx ρ) hio re h fun d m v H1 s re1 vr h1 => h1 P σ H1 re1
/-- name = e -/
def setK (i : Nat) (ρ : CV) : D × Md → Out
  | (.list ds, .fr) => .nx (ρ.set i (.own ds))
  | (_, .fr) => .no
  | (d, .cl) => .nx (ρ.set i (.val d))
  | (d, .fz) => .nx (ρ.set i (.fz d))
  | (d, .ow) => .no
  | (d, .vw) => .no
def sSet (i : Nat) (f : CV → Rs (D × Md)) : CV → Out := fun ρ => match f ρ with
  | .ok x => setK i ρ x
  | .er c => .er c ρ
  | .no => .no
theorem setK_ok {σ : St} {H H1 : Hp} {B : Bs} {P : List Addr} {ρ : CV} {i : Nat} {d : PyData} {m : Md} {v : V} {D' : Ends} (hi : ¬ B.ro i) (re : RE C.K C.T B P H σ ρ) (s : Sm H H1) (re1 : RE C.K C.T B P H1 σ ρ) (vr : VR C.K (B.M ++ P) H H1 m v d) (h : SR C W D' B (setK i ρ (d, m))) :
    D'.nx (σ.set i (some v)) H1 := by
  cases m with
  | fr =>
    obtain ⟨p, vs, ds, rfl, rfl, h0, h1, t⟩ := vr
    exact h (p :: P) _ _ (re.setOwn s re1.tab hi h0 h1 t)
  | cl => exact (show SR C W D' B (.nx (ρ.set i (.val d))) by cases d <;> exact h) P _ _ (re1.setVal hi vr)
  | fz => exact (show SR C W D' B (.nx (ρ.set i (.fz d))) by cases d <;> exact h) P _ _ (re1.setFz hi vr)
  | ow => cases d <;> exact h.elim
  | vw => cases d <;> exact h.elim
theorem ss_set (i : Nat) {x : Str} {pos' : Pos} (hN : X.N.Nodup) (he : PE X e (tE C W f)) (hi : X.N[i]? = some x := by rfl) (hx : Loc X.env.scope x := by first | exact Or.inl rfl | exact Or.inr rfl) (hio : C.ro i = false := by rfl) (hs : swapsWith e (some (.Name x pos')) pos.line X.env = pure false := by rfl)
    (hf : X.fn x = true ∨ X.env.scope.names.lookup x = some .local := by first | exact .inl rfl | exact .inr rfl | assumption) :
    PS X (.Assign [.Name x pos'] e pos) (tS C W (sSet i f)) := PS.imp (ps_set hN hi hx he hs hf) fun D σ H h => by
  obtain ⟨B, P, ρ, hb, re, h⟩ := h
  have hi' : ¬ B.ro i := hb.ro hio
  exact tS_then (k := setK i ρ) hb re h fun d m v H1 s re1 vr h1 => setK_ok hi' re s re1 vr h1
/-- an owned list is shared ahead of a statement -/
def shr (i : Nat) (ρ : CV) : CV := match ρ[i]? with
  | some (.own ds) => ρ.set i (.val (.list ds))
  | _ => ρ
theorem shr_ok {σ : St} {H : Hp} {B : Bs} {P : List Addr} {ρ : CV} {i : Nat} (hi : ¬ B.ro i) (re : RE C.K C.T B P H σ ρ) : ∃ P', RE C.K C.T B P' H σ (shr i ρ) := by
  unfold shr
  split
  · rename_i ds e
    exact re.share hi e
  · exact ⟨P, re⟩
theorem ss_share (i : Nat) (h : PS X st (tS C W u)) (hio : C.ro i = false := by rfl) : PS X st (tS C W fun ρ => u (shr i ρ)) := PS.imp h fun D σ H h => by
  obtain ⟨B, P, ρ, hb, re, h⟩ := h
  have hi' : ¬ B.ro i := hb.ro hio
  obtain ⟨P', re'⟩ := shr_ok (i := i) hi' re
  exact ⟨B, P', shr i ρ, hb, re', h⟩
theorem ss_shares (i : Nat) (h : PSs X rest (tS C W u)) (hio : C.ro i = false := by rfl) : PSs X rest (tS C W fun ρ => u (shr i ρ)) := PSs.imp h fun D σ H h => by
  obtain ⟨B, P, ρ, hb, re, h⟩ := h
  have hi' : ¬ B.ro i := hb.ro hio
  obtain ⟨P', re'⟩ := shr_ok (i := i) hi' re
  exact ⟨B, P', shr i ρ, hb, re', h⟩
/-- return -/
def sRet (f : CV → Rs (D × Md)) : CV → Out := fun ρ => match f ρ with
  | .ok x => if x.2 = .ow then .no else .rt x.1 x.2 ρ
  | .er c => .er c ρ
  | .no => .no
theorem VR.rv {K : PySem.W.Frag} {T : List Addr} {B : Bs} {P : List Addr} {H H1 : Hp} {σ : St} {ρ : CV} {m : Md} {v : V} {d : D} (re : RE K T B P H σ ρ) (h : VR K (B.M ++ P) H H1 m v d) (n : m ≠ .ow) : RV K B P H1 m v d := by
  cases m with
  | fr =>
    obtain ⟨p, vs, ds, e1, e2, h0, h1, t⟩ := h
    exact ⟨p, vs, ds, e1, e2, re.fresh0 h0, lst_ne re.lst h0, h1, t⟩
  | cl => exact h
  | ow => exact absurd rfl n
  | vw => exact h
  | fz => exact h
theorem ss_ret (he : PE X e (tE C W f)) : PS X (.Return (some e) pos) (tS C W (sRet f)) := PS.imp (ps_ret he) fun D σ H h => by
  obtain ⟨B, P, ρ, hio, re, h⟩ := h
  refine tS_then (k := fun x => if x.2 = .ow then .no else .rt x.1 x.2 ρ) hio re h fun d m v H1 s re1 vr h1 => ?_
  by_cases n : m = .ow
  · subst n; exact h1.elim
  · have h1' : SR C W D B (if m = .ow then .no else .rt d m ρ) := h1
    rw [if_neg n] at h1'
    exact h1' P σ H1 v re1 (vr.rv re n)
/-- return of an owned list -/
def sRetOwn (i : Nat) : CV → Out := fun ρ => match ρ[i]? with
  | some (.own ds) => .rt (.list ds) .ow ρ
  | some (.val d) => .rt d .cl ρ
  | _ => .no
theorem ss_retOwn (i : Nat) {x : Str} {p2 : Pos} (hN : X.N[i]? = some x := by rfl) (hv : Vis X.env.scope x := by first | exact Or.inl rfl | exact Or.inr (Or.inl rfl) | exact Or.inr (Or.inr rfl)) (hio : C.ro i = false := by rfl) (hd : (x == ("__debug__" : Str)) = false := by decide)
    (hcd : (x == ("__classdict__" : Str)) = false := by decide) : PS X (.Return (some (.Name x p2)) pos) (tS C W (sRetOwn i)) := PS.imp (ps_ret (pe_var (i := i) hN hv hd hcd)) fun D σ H h => by
  obtain ⟨B, P, ρ, hb, re, h⟩ := h
  have hi' : ¬ B.ro i := hb.ro hio
  unfold sRetOwn at h
  split at h
  · rename_i ds e
    obtain ⟨p, vs, h1, h2, h3, h4, h5, h6⟩ := re.ownOut hi' e
    exact ⟨.ref p, h1, h P σ H _ re ⟨p, vs, ds, rfl, rfl, h2, h3, h4, h5, h6⟩⟩
  · rename_i d e
    obtain ⟨v, h1, h2⟩ := re.val (Bs.ro_lc hi') e
    exact ⟨v, h1, h P σ H _ re h2⟩
  · exact h.elim
def sRetN : CV → Out := fun ρ => .rt .none .cl ρ
theorem ss_retN : PS X (.Return none pos) (tS C W sRetN) := PS.imp ps_retN fun D σ H h => by
  obtain ⟨B, P, ρ, hio, re, h⟩ := h
  exact h P σ H _ re .non
/-- if -/
def sIf (t : CV → Rs Bool) (u w : CV → Out) : CV → Out := fun ρ => match t ρ with
  | .ok b => if b then u ρ else w ρ
  | .er c => .er c ρ
  | .no => .no
theorem ss_if {c : Expr} {sa sb : List Stmt} (hc : PT X c (tT C W t)) (ha : PSs X sa (tS C W u)) (hb : PSs X sb (tS C W w)) : PS X (.If c sa sb pos) (tS C W (sIf t u w)) := PS.imp (ps_if hc ha hb) fun D σ H h => by
  obtain ⟨B, P, ρ, hio, re, h⟩ := h
  refine ⟨B, P, ρ, hio, re, ?_⟩
  unfold sIf at h
  cases e : t ρ with
  | ok k =>
    rw [e] at h
    intro H1 s tb
    cases k with
    | true => exact iteT ⟨B, P, ρ, hio, re.sm s tb, h⟩
    | false => exact iteF ⟨B, P, ρ, hio, re.sm s tb, h⟩
  | er c => rw [e] at h; exact fun A H1 hm s tb => h A P σ H1 hm (re.sm s tb)
  | no => rw [e] at h; exact h

/-! ### loops -/
/-- what is walked: Pm, P at the start -/
def ItOk (Pm P : List Addr) (H : Hp) (J : It) (ds : List D) : Prop :=
  ∀ (H2 : Hp) (Pm2 : List Addr), (∀ a o, H a = some o → a ∉ P → H2 a = some o ∨ ∃ ps ps', o = .tbl ps ∧ H2 a = some (.tbl ps')) → (∀ p ∈ Pm2, p ∈ Pm ∨ H p = none) →
    (∀ i d, ds[i]? = some d → J.go i H2 ∧ ∀ x H3, J.yld i H2 x H3 → H3 = H2 ∧ Tr (mask Pm2 H2) x d) ∧ ∀ i, ds.length ≤ i → J.stop i H2
section
variable (C : Cf) (W : WX)
def IR (σ : St) (H : Hp) (Pm P : List Addr) (R : It → Hp → Prop) : Rs (List D) → Prop
  | .ok ds => ∀ J H', Sm H H' → Tab C.T H' → ItOk Pm P H' J ds → R J H'
  | .er c => ∀ A H', C.mg c = some (.ref A) → Sm H H' → Tab C.T H' → W (.ref A) none σ H'
  | .no => False
def tI (f : CV → Rs (List D)) : TI := fun σ H R => ∃ B P ρ, Lk B C ∧ RE C.K C.T B P H σ ρ ∧ IR C W σ H (B.M ++ P) P R (f ρ)
end
theorem PI.imp {tg it : Expr} {t t' : TI} (h : PI X tg it t) (i : ∀ σ H Q, t' σ H Q → t σ H Q) : PI X tg it t' := ⟨fun pins s σ H Q I w => h.run pins s σ H Q I (i σ H Q w)⟩
/-- data that stays while others change -/
theorem le_of_keep {Pm P Pm2 : List Addr} {H H2 : Hp} (sub : ∀ p ∈ P, p ∈ Pm) (k : ∀ a o, H a = some o → a ∉ P → H2 a = some o ∨ ∃ ps ps', o = .tbl ps ∧ H2 a = some (.tbl ps')) (n : ∀ p ∈ Pm2, p ∈ Pm ∨ H p = none) : SeqLe (mask Pm H) (mask Pm2 H2) := by
  have key : ∀ a o, mask Pm H a = some o → (∀ ps, o ≠ .tbl ps) → mask Pm2 H2 a = some o := fun a o e nt => by
    obtain ⟨h1, h2⟩ := mask_some e
    have h3 : a ∉ Pm2 := fun z => by
      rcases n a z with w | w
      · exact h1 w
      · rw [h2] at w; cases w
    rw [mask_out h3]
    rcases k a o h2 (fun z => h1 (sub a z)) with z | ⟨ps, _, z, _⟩
    · exact z
    · exact absurd z (nt ps)
  exact ⟨fun a xs e => key a _ e (fun _ z => by cases z), fun a xs e => key a _ e (fun _ z => by cases z)⟩
theorem itOk_list {Pm P : List Addr} {H : Hp} {K : PySem.W.Frag} {p : Addr} {vs : List V} {ds : List D} (sub : ∀ q ∈ P, q ∈ Pm) (hp : p ∉ P) (h : H p = some (.lst vs)) (t : TrAll (mask Pm H) vs ds) : ItOk Pm P H (Itl K p) ds := by
  intro H2 Pm2 k n
  have h2 : H2 p = some (.lst vs) := by
    rcases k p _ h hp with z | ⟨ps, _, z, _⟩
    · exact z
    · cases z
  have t2 := TrAll.mono (le_of_keep sub k n) _ _ t
  refine ⟨fun i d e => ?_, fun i hi => ⟨vs, SqL.of h2, by rw [t.length]; exact hi⟩⟩
  obtain ⟨v, e1, tv⟩ := t2.get e
  refine ⟨⟨vs, v, SqL.of h2, e1⟩, fun x H3 y => ?_⟩
  obtain ⟨rfl, y⟩ := y
  have e2 := y vs (SqL.of h2)
  rw [e1] at e2; cases e2
  exact ⟨rfl, tv⟩
theorem itOk_fz {Pm P : List Addr} {H : Hp} {K : PySem.W.Frag} {p : Addr} {ds : List D} {vs : List V} (hp : ∃ o, H p = some (.frz o (.lst vs))) (hn : p ∉ P) (f : Fl vs ds) : ItOk Pm P H (Itl K p) ds := by
  intro H2 Pm2 k n
  obtain ⟨o, h⟩ := hp
  have h2 : H2 p = some (.frz o (.lst vs)) := by
    rcases k p _ h hn with z | ⟨ps, _, z, _⟩
    · exact z
    · cases z
  have sq : SqL K H2 p vs := .inl (.inr ⟨o, h2⟩)
  have t2 : TrAll (mask Pm2 H2) vs ds := f.tr
  refine ⟨fun i d e => ?_, fun i hi => ⟨vs, sq, by rw [t2.length]; exact hi⟩⟩
  obtain ⟨v, e1, tv⟩ := t2.get e
  refine ⟨⟨vs, v, sq, e1⟩, fun x H3 y => ?_⟩
  obtain ⟨rfl, y⟩ := y
  have e2 := y vs sq
  rw [e1] at e2; cases e2
  exact ⟨rfl, tv⟩
/-- over a list: not an owned one (share it first) -/
def mIterL (f : CV → Rs (D × Md)) : CV → Rs (List D) := fun ρ => (f ρ).bind fun x => match x with
  | (.list ds, .fr) => .ok ds
  | (.list ds, .cl) => .ok ds
  | _ => .no
theorem si_list {tg l : Expr} (hl : PE X l (tE C W f)) : PI X tg l (tI C W (mIterL f)) := PI.imp (pi_list hl) fun σ H R h => by
  obtain ⟨B, P, ρ, hio, re, h⟩ := h
  refine ⟨B, P, ρ, hio, re, ?_⟩
  unfold mIterL at h
  cases e : f ρ with
  | ok a =>
    obtain ⟨d, m⟩ := a
    rw [e] at h
    intro v H1 s tb vr
    have sub : ∀ q ∈ P, q ∈ B.M ++ P := fun q hq => List.mem_append_right _ hq
    cases d <;> try exact h.elim
    rename_i ds
    cases m <;> try exact h.elim
    · obtain ⟨p, vs, ds', rfl, e2, h0, h1, t⟩ := vr
      cases e2
      have np := lst_ne re.lst h0
      refine ⟨p, rfl, ⟨vs, SqL.of h1⟩, h _ H1 s tb (itOk_list sub (fun z => np (sub p z)) h1 (TrAll.mono (mask_anti fun a ha => List.mem_cons_of_mem _ ha) _ _ t))⟩
    · cases vr with
      | lst e2 t =>
        obtain ⟨h1, h2⟩ := mask_some e2
        exact ⟨_, rfl, ⟨_, SqL.of h2⟩, h _ H1 s tb (itOk_list sub (fun z => h1 (sub _ z)) h2 t)⟩
  | er c => rw [e] at h; exact h
  | no => rw [e] at h; exact h
def rangeD (lo : Int) (n : Nat) : List D := (List.range n).map fun (i : Nat) => PyData.int (lo + (i : Int))
theorem itOk_range {Pm P : List Addr} {H : Hp} (lo : Int) (n : Nat) : ItOk Pm P H (Itr lo n) (rangeD lo n) := by
  intro H2 Pm2 k nn
  have hl : (rangeD lo n).length = n := by simp [rangeD]
  refine ⟨fun i d e => ?_, fun i hi => by rw [hl] at hi; exact hi⟩
  have hi : i < n := by
    have := (List.getElem?_eq_some_iff.mp e).1
    rwa [hl] at this
  have e' : d = .int (lo + (i : Nat)) := by
    unfold rangeD at e
    rw [List.getElem?_map, List.getElem?_range hi] at e
    exact (Option.some.inj e).symm
  subst e'
  refine ⟨hi, fun x H3 y => ?_⟩
  obtain ⟨rfl, rfl⟩ := y
  exact ⟨rfl, .int _⟩
def mRange1 (fa : CV → Rs (List (D × Md))) : CV → Rs (List D) := fun ρ => (fa ρ).bind fun x => match x with
  | [(.int j, _)] => if -1000000 < j ∧ j < 1000000 then .ok (rangeD 0 j.toNat) else .no
  | _ => .no
def mRange2 (fa : CV → Rs (List (D × Md))) : CV → Rs (List D) := fun ρ => (fa ρ).bind fun x => match x with
  | [(.int i, _), (.int j, _)] => if -1000000 < i ∧ i < 1000000 ∧ -1000000 < j ∧ j < 1000000 then .ok (rangeD i (j - i).toNat) else .no
  | _ => .no
variable {fa : CV → Rs (List (D × Md))}
theorem si_range1 {tg : Expr} {p : Pos} (hm : X.mg "range" = none) (ha : PA X [a] (tA C W fa)) (hg : Gl X "range" := by rfl) (hs : starEach [a] X.env = [(false, eval a X.env)] := by rfl) : PI X tg (.Call (.Name "range" p) [a] [] pos) (tI C W (mRange1 fa)) :=
  PI.imp (pi_range1 hg hm ha hs) fun σ H R h => by
    obtain ⟨B, P, ρ, hio, re, h⟩ := h
    refine ⟨B, P, ρ, hio, re, ?_⟩
    unfold mRange1 at h
    cases e : fa ρ with
    | ok xs =>
      rw [e] at h
      dsimp only [Rs.bind] at h
      intro vs H1 s tb ov
      split at h
      · rename_i j m
        split at h
        · rename_i hz
          match vs, ov with
          | [v], ov =>
            have ev := ov.1.int
            subst ev
            exact ⟨j, rfl, by omega, by omega, h _ H1 s tb (itOk_range 0 j.toNat)⟩
        · exact h.elim
      · exact h.elim
    | er c => rw [e] at h; exact h
    | no => rw [e] at h; exact h
theorem si_range2 {tg : Expr} {p : Pos} (hm : X.mg "range" = none) (ha : PA X [a, b] (tA C W fa)) (hg : Gl X "range" := by rfl) (hs : starEach [a, b] X.env = [(false, eval a X.env), (false, eval b X.env)] := by rfl) (hs2 : starEach [b] X.env = [(false, eval b X.env)] := by rfl) : PI X tg (.Call (.Name "range" p) [a, b] [] pos) (tI C W (mRange2 fa)) :=
  PI.imp (pi_range2 hg hm ha hs hs2) fun σ H R h => by
    obtain ⟨B, P, ρ, hio, re, h⟩ := h
    refine ⟨B, P, ρ, hio, re, ?_⟩
    unfold mRange2 at h
    cases e : fa ρ with
    | ok xs =>
      rw [e] at h
      dsimp only [Rs.bind] at h
      intro vs H1 s tb ov
      split at h
      · rename_i i m j m2
        split at h
        · rename_i hz
          match vs, ov with
          | [v, v2], ov =>
            have ev := ov.1.int
            have ev2 := ov.2.1.int
            subst ev ev2
            exact ⟨i, j, rfl, ⟨by omega, by omega, by omega, by omega⟩, h _ H1 s tb (itOk_range i (j - i).toNat)⟩
        · exact h.elim
      · exact h.elim
    | er c => rw [e] at h; exact h
    | no => rw [e] at h; exact h
def signsD (z : Str) : List D := z.cps.toList.map fun c => .str ⟨#[c]⟩
def mIterS (f : CV → Rs (D × Md)) : CV → Rs (List D) := fun ρ => (f ρ).bind fun x => match x.1 with
  | .str z => .ok (signsD z)
  | _ => .no
theorem itOk_str {Pm P : List Addr} {H : Hp} (z : Str) : ItOk Pm P H (Its z) (signsD z) := by
  intro H2 Pm2 k nn
  have hl : (signsD z).length = z.cps.size := by simp [signsD]
  refine ⟨fun i d e => ?_, fun i hi => by rw [hl] at hi; exact hi⟩
  have hi : i < z.cps.size := by
    have := (List.getElem?_eq_some_iff.mp e).1
    rwa [hl] at this
  unfold signsD at e
  rw [List.getElem?_map] at e
  obtain ⟨c, e1, rfl⟩ := Option.map_eq_some_iff.mp e
  refine ⟨hi, fun x H3 y => ?_⟩
  obtain ⟨rfl, c', e2, rfl⟩ := y
  rw [Array.getElem?_toList] at e1
  rw [e1] at e2; cases e2
  exact ⟨rfl, .str _⟩
theorem si_str {tg l : Expr} (hl : PE X l (tE C W f)) : PI X tg l (tI C W (mIterS f)) := PI.imp (pi_str hl) fun σ H R h => by
  obtain ⟨B, P, ρ, hio, re, h⟩ := h
  refine ⟨B, P, ρ, hio, re, ?_⟩
  unfold mIterS at h
  cases e : f ρ with
  | ok a =>
    obtain ⟨d, m⟩ := a
    rw [e] at h
    intro v H1 s tb vr
    have o := VR.ov re.lst vr
    cases d <;> try exact h.elim
    exact ⟨_, o.str, h _ H1 s tb (itOk_str _)⟩
  | er c => rw [e] at h; exact h
  | no => rw [e] at h; exact h

def forL (i : Nat) (u : CV → Out) : List D → CV → Out
  | [], ρ => .nx ρ
  | d :: ds, ρ => match u (ρ.set i (.val d)) with
    | .nx ρ' => forL i u ds ρ'
    | .ct ρ' => forL i u ds ρ'
    | .bk ρ' => .nx ρ'
    | o => o
def sFor (i : Nat) (it : CV → Rs (List D)) (u : CV → Out) : CV → Out := fun ρ => match it ρ with
  | .ok ds => forL i u ds ρ
  | .er c => .er c ρ
  | .no => .no
theorem for_core {D' : Ends} {B : Bs} {P : List Addr} {H : Hp} {σ : St} {ρ : CV} {i : Nat} {J : It} {ds : List D} (hio : Lk B C) (hi : ¬ B.ro i) (re : RE C.K C.T B P H σ ρ) (it : ItOk (B.M ++ P) P H J ds) (h : SR C W D' B (forL i u ds ρ)) :
    ∃ V : Nat → Nat → St → Hp → Prop, (∃ m, V 0 m σ H) ∧ ∀ j m σ' H', V j m σ' H' →
      (J.stop j H' ∧ D'.nx σ' H') ∨ (J.go j H' ∧ ∃ N : St → Hp → Prop, (∀ σ2 H2, N σ2 H2 → ∃ m', m' < m ∧ V (j + 1) m' σ2 H2) ∧ ∀ x H2, J.yld j H' x H2 → gName i x σ' H2 fun σ3 H3 => tS C W u { D' with nx := N, ct := N, bk := D'.nx } σ3 H3) := by
  have re0 := re.here
  refine ⟨fun j m σ' H' => m = ds.length - j ∧ j ≤ ds.length ∧ ∃ P' ρ', RE C.K C.T (B.here P H) P' H' σ' ρ' ∧ SR C W D' B (forL i u (ds.drop j) ρ'), ⟨ds.length, by simp, Nat.zero_le _, P, ρ, re0, h⟩, ?_⟩
  rintro j m σ' H' ⟨rfl, hj, P', ρ', re', h'⟩
  obtain ⟨items, stop⟩ := it H' (B.M ++ P') (fun a o e hn => re'.keep a o e hn) (fun p hp => by
    rcases (List.mem_append.mp hp) with z | z
    · exact .inl (List.mem_append_left _ z)
    · rcases re'.new p z with w | w
      · exact .inl (List.mem_append_right _ w)
      · exact .inr w)
  by_cases hlt : j < ds.length
  · have e := List.getElem?_eq_getElem hlt
    obtain ⟨go, yl⟩ := items j _ e
    refine .inr ⟨go, fun σ2 H2 => ∃ P2 ρ2, RE C.K C.T (B.here P H) P2 H2 σ2 ρ2 ∧ SR C W D' B (forL i u (ds.drop (j + 1)) ρ2), fun σ2 H2 hN => ⟨ds.length - (j + 1), by omega, rfl, hlt, hN⟩, fun x H2 y => ?_⟩
    obtain ⟨rfl, tx⟩ := yl x H2 y
    have ed : ds.drop j = ds[j] :: ds.drop (j + 1) := List.drop_eq_getElem_cons hlt
    rw [ed] at h'
    refine ⟨B.here P H, P', ρ'.set i (.val ds[j]), ⟨hio.io, hio.ob⟩, re'.setVal hi tx, ?_⟩
    unfold forL at h'
    cases eo : u (ρ'.set i (.val ds[j])) with
    | nx ρ2 => rw [eo] at h'; exact fun P2 σ2 H2 re2 => ⟨P2, ρ2, re2, h'⟩
    | ct ρ2 => rw [eo] at h'; exact fun P2 σ2 H2 re2 => ⟨P2, ρ2, re2, h'⟩
    | bk ρ2 => rw [eo] at h'; exact fun P2 σ2 H2 re2 => h' P2 σ2 H2 (re.back re2)
    | rt d m ρ2 => rw [eo] at h'; exact fun P2 σ2 H2 v re2 rv => h' P2 σ2 H2 v (re.back re2) (rv.back re)
    | er c ρ2 => rw [eo] at h'; exact fun A P2 σ2 H2 hm re2 => h' A P2 σ2 H2 hm (re.back re2)
    | ex c => rw [eo] at h'; exact fun A P2 σ2 H2 ρ2 hm re2 => h' A P2 σ2 H2 ρ2 hm (re.back re2)
    | no => rw [eo] at h'; exact h'
  · have ej : j = ds.length := by omega
    subst ej
    rw [List.drop_length] at h'
    exact .inl ⟨stop _ (Nat.le_refl _), h' P' σ' H' (re.back re')⟩
theorem ss_for (i : Nat) {x : Str} {p2 : Pos} {iter : Expr} {it : CV → Rs (List D)} (hp : PassesOwn (model X.prog X.w) X.A X.env X.xe) (hc : X.calm = true) (hN : X.N.Nodup) (hit : PI X (.Name x p2) iter (tI C W it)) (hb : PSs X body (tS C W u))
    (hi : X.N[i]? = some x := by rfl) (hx : Loc X.env.scope x := by first | exact Or.inl rfl | exact Or.inr rfl) (hio : C.ro i = false := by rfl) (hf : X.fn x = true ∨ X.env.scope.names.lookup x = some .local := by first | exact .inl rfl | exact .inr rfl | assumption)
    (hs : ∀ x, foldedSetIterable iter X.env x = pure x := by intro _; rfl) : PS X (.For (.Name x p2) iter body [] pos) (tS C W (sFor i it u)) :=
  PS.imp (ps_for hp hc hit (pg_name hN hi hx hf) hb hs) fun D' σ H h => by
    obtain ⟨B, P, ρ, hb, re, h⟩ := h
    have hi' : ¬ B.ro i := hb.ro hio
    refine ⟨B, P, ρ, hb, re, ?_⟩
    unfold sFor at h
    cases e : it ρ with
    | ok ds => rw [e] at h; exact fun J H1 s tb io => for_core hb hi' (re.sm s tb) io h
    | er c => rw [e] at h; exact fun A H1 hm s tb => h A P σ H1 hm (re.sm s tb)
    | no => rw [e] at h; exact h
/-- while, with fuel -/
def whL (t : CV → Rs Bool) (u : CV → Out) : Nat → CV → Out
  | 0, _ => .no
  | n + 1, ρ => match t ρ with
    | .ok true => (match u ρ with
      | .nx ρ' => whL t u n ρ'
      | .ct ρ' => whL t u n ρ'
      | .bk ρ' => .nx ρ'
      | o => o)
    | .ok false => .nx ρ
    | .er c => .er c ρ
    | .no => .no
theorem ss_while (n : Nat) {c : Expr} (hp : PassesOwn (model X.prog X.w) X.A X.env X.xe) (hc : PT X c (tT C W t)) (hb : PSs X body (tS C W u)) : PS X (.While c body [] pos) (tS C W (whL t u n)) :=
  PS.imp (ps_while hp hc hb) fun D' σ H h => by
    obtain ⟨B, P, ρ, hb, re, h⟩ := h
    refine ⟨fun m σ' H' => ∃ P' ρ', RE C.K C.T B P' H' σ' ρ' ∧ SR C W D' B (whL t u m ρ'), ⟨n, P, ρ, re, h⟩, ?_⟩
    rintro m σ' H' ⟨P', ρ', re', h'⟩
    cases m with
    | zero => exact h'.elim
    | succ m =>
      refine ⟨B, P', ρ', hb, re', ?_⟩
      unfold whL at h'
      cases e : t ρ' with
      | ok k =>
        rw [e] at h'
        intro H1 s tb
        have re1 := re'.sm s tb
        cases k with
        | true =>
          refine iteT ⟨fun σ2 H2 => ∃ P2 ρ2, RE C.K C.T B P2 H2 σ2 ρ2 ∧ SR C W D' B (whL t u m ρ2), fun σ2 H2 z => ⟨m, Nat.lt_succ_self m, z⟩, B, P', ρ', hb, re1, ?_⟩
          dsimp only at h'
          cases eo : u ρ' with
          | nx ρ2 => rw [eo] at h'; exact fun P2 σ2 H2 re2 => ⟨P2, ρ2, re2, h'⟩
          | ct ρ2 => rw [eo] at h'; exact fun P2 σ2 H2 re2 => ⟨P2, ρ2, re2, h'⟩
          | bk ρ2 => rw [eo] at h'; exact h'
          | rt d m ρ2 => rw [eo] at h'; exact h'
          | er c ρ2 => rw [eo] at h'; exact h'
          | ex c => rw [eo] at h'; exact h'
          | no => rw [eo] at h'; exact h'
        | false => exact iteF (h' P' σ' H1 re1)
      | er c => rw [e] at h'; exact fun A H1 hm s tb => h' A P' σ' H1 hm (re'.sm s tb)
      | no => rw [e] at h'; exact h'
end
end Eng

set_option Elab.async false
set_option linter.all false
set_option maxRecDepth 100000
set_option maxHeartbeats 1234567
namespace Eng
open PySem PySem.Spec
open PyProof.Rows L2

/-! ### calls of built-ins -/
section
variable {X : Cx} {C : Cf} {W : WX} {e a b : Expr} {es : List Expr} {st : Stmt} {rest body : List Stmt} {f g : CV → Rs (D × Md)} {t : CV → Rs Bool} {u w : CV → Out} {fa : CV → Rs (List (D × Md))} {pos : Pos}
theorem tA_then {σ : St} {H : Hp} {B : Bs} {P : List Addr} {ρ : CV} {k : List (D × Md) → Rs (D × Md)} {Q : VK} {Q' : List V → Hp → Prop} (hio : Lk B C) (re : RE C.K C.T B P H σ ρ) (h : ER C W σ H (B.M ++ P) Q ((fa ρ).bind k))
    (hQ : ∀ ds vs H1, Sm H H1 → RE C.K C.T B P H1 σ ρ → OVs C.K (B.M ++ P) H1 vs ds → ER C W σ H1 (B.M ++ P) Q (k ds) → Q' vs H1) : tA C W fa σ H Q' := by
  refine ⟨B, P, ρ, hio, re, ?_⟩
  cases e : fa ρ with
  | ok ds =>
    rw [e] at h
    exact fun vs H1 s t ov => hQ ds vs H1 s (re.sm s t) ov (h.sm s)
  | er c => rw [e] at h; exact h
  | no => rw [e] at h; exact h
def mCallB (h : List (D × Md) → Option (D × Md)) (fa : CV → Rs (List (D × Md))) : CV → Rs (D × Md) := fun ρ => (fa ρ).bind fun ds => ofO (h ds)
def CallOk (C : Cf) (r : List V → Hp → VK → Prop) (h : List (D × Md) → Option (D × Md)) : Prop :=
  ∀ (Pm : List Addr) (H : Hp) (vs : List V) (ds : List (D × Md)) (d : D × Md) (Q : VK), Lsts Pm H → Tab C.T H → OVs C.K Pm H vs ds → h ds = some d → (∀ v H', Sm H H' → Tab C.T H' → VR C.K Pm H H' d.2 v d.1 → Q v H') → r vs H Q
theorem tCB1 {r : List V → Hp → VK → Prop} {h : List (D × Md) → Option (D × Md)} (ok : CallOk C r h) (σ : St) (H : Hp) (Q : VK) (w : tE C W (mCallB h fa) σ H Q) : tCB r (tA C W fa) σ H Q := by
  obtain ⟨B, P, ρ, hio, re, w⟩ := w
  refine tA_then hio re w fun ds vs H1 s re1 ov w1 => ?_
  cases e : h ds with
  | none => rw [e] at w1; exact w1.elim
  | some z =>
    rw [e] at w1
    exact ok (B.M ++ P) H1 vs ds z Q re1.lst re1.tab ov e w1
theorem se_callB {x : Str} {p : Pos} {id : String} {r : List V → Hp → VK → Prop} {h : List (D × Md) → Option (D × Md)} (hc : CallR X (.builtin id) r) (ok : CallOk C r h) (hm : X.mg x = none) (hv : bootBuiltins x = some (.builtin id)) (ha : PA X (e :: es) (tA C W fa)) (hg : Gl X x := by rfl) (hn : x ≠ "__name__" := by decide)
    (hdb : (x == ("__debug__" : Str)) = false := by decide) (he : starEach (e :: es) X.env = (false, eval e X.env) :: starEach es X.env := by rfl) (hpl : (backTo pos (starEach es X.env)).any (·.1) = false := by rfl) : PE X (.Call (.Name x p) (e :: es) [] pos) (tE C W (mCallB h fa)) :=
  PE.imp (pe_callB hc hg hm hv ha hn hdb he hpl) fun σ H Q w => tCB1 ok σ H Q w
theorem se_callTy {x : Str} {p : Pos} {id : String} {r : List V → Hp → VK → Prop} {h : List (D × Md) → Option (D × Md)} (hc : CallR X (.type id) r) (ok : CallOk C r h) (hm : X.mg x = none) (hv : bootBuiltins x = some (.type id)) (ha : PA X (e :: es) (tA C W fa)) (hg : Gl X x := by rfl) (hn : x ≠ "__name__" := by decide)
    (hdb : (x == ("__debug__" : Str)) = false := by decide) (he : starEach (e :: es) X.env = (false, eval e X.env) :: starEach es X.env := by rfl) (hpl : (backTo pos (starEach es X.env)).any (·.1) = false := by rfl) : PE X (.Call (.Name x p) (e :: es) [] pos) (tE C W (mCallB h fa)) :=
  PE.imp (pe_callTy hc hg hm hv ha hn hdb he hpl) fun σ H Q w => tCB1 ok σ H Q w
theorem OVs.one {K : PySem.W.Frag} {Pm : List Addr} {H : Hp} {vs : List V} {d : D × Md} (h : OVs K Pm H vs [d]) : ∃ v, vs = [v] ∧ OV K Pm H d.2 v d.1 := by
  match vs, h with
  | [v], h => exact ⟨v, rfl, h.1⟩
theorem OVs.two {K : PySem.W.Frag} {Pm : List Addr} {H : Hp} {vs : List V} {d d2 : D × Md} (h : OVs K Pm H vs [d, d2]) : ∃ v v2, vs = [v, v2] ∧ OV K Pm H d.2 v d.1 ∧ OV K Pm H d2.2 v2 d2.1 := by
  match vs, h with
  | [v, v2], h => exact ⟨v, v2, rfl, h.1, h.2.1⟩
/-- len -/
def hLen : List (D × Md) → Option (D × Md)
  | [(.list ds, _)] => some (.int ds.length, .cl)
  | [(.tuple ds, _)] => some (.int ds.length, .cl)
  | [(.str s, _)] => if s.length ≤ sizeLine then some (.int s.length, .cl) else none
  | _ => none
def rLen2 (K : PySem.W.Frag) : List V → Hp → VK → Prop := fun xs H Q => (∃ p ys, xs = [.ref p] ∧ (SqL K H p ys ∨ SqT K H p ys) ∧ Q (.int ys.length) H) ∨ ∃ z, xs = [.str z] ∧ z.length ≤ sizeLine ∧ Q (.int z.length) H
theorem call_len2 : CallR X (.builtin "len") (rLen2 X.K) := call_len_seq.or call_len_str
theorem ok_len : CallOk C (rLen2 C.K) hLen := by
  intro Pm H vs ds d Q l tb ov e q
  unfold hLen at e
  split at e
  · cases e
    obtain ⟨v, rfl, o⟩ := ov.one
    obtain ⟨p, ws, rfl, hs, t, _⟩ := o.seqL
    exact .inl ⟨p, ws, rfl, .inl hs, by rw [t.length]; exact q _ H (Sm.refl _) tb (.int _)⟩
  · cases e
    obtain ⟨v, rfl, o⟩ := ov.one
    obtain ⟨p, ws, rfl, hs, t, _⟩ := o.seqT
    exact .inl ⟨p, ws, rfl, .inr hs, by rw [t.length]; exact q _ H (Sm.refl _) tb (.int _)⟩
  · split at e
    · rename_i hz
      cases e
      obtain ⟨v, rfl, o⟩ := ov.one
      exact .inr ⟨_, by rw [o.str], hz, q _ H (Sm.refl _) tb (.int _)⟩
    · cases e
  · cases e
/-- int of an int or a truth -/
def hInt : List (D × Md) → Option (D × Md)
  | [(.int i, _)] => some (.int i, .cl)
  | [(.bool b, _)] => some (.int (if b then 1 else 0), .cl)
  | _ => none
theorem ok_int1 : CallOk C (fun xs H Q => (∃ i, xs = [.int i] ∧ Q (.int i) H) ∨ ∃ k, xs = [.bl k] ∧ Q (.int (if k then 1 else 0)) H) hInt := by
  intro Pm H vs ds d Q l tb ov e q
  unfold hInt at e
  split at e
  · cases e
    obtain ⟨v, rfl, o⟩ := ov.one
    exact .inl ⟨_, by rw [o.int], q _ H (Sm.refl _) tb (.int _)⟩
  · cases e
    obtain ⟨v, rfl, o⟩ := ov.one
    exact .inr ⟨_, by rw [o.bool], q _ H (Sm.refl _) tb (.int _)⟩
  · cases e
/-- str of an int -/
def hStr : List (D × Md) → Option (D × Md)
  | [(.int i, _)] => if i.natAbs.log2 < 1920 then some (.str (toString i), .cl) else none
  | _ => none
theorem ok_str1 : CallOk C (fun xs H Q => ∃ i, xs = [.int i] ∧ i.natAbs.log2 < 1920 ∧ Q (.str (toString i)) H) hStr := by
  intro Pm H vs ds d Q l tb ov e q
  unfold hStr at e
  split at e
  · split at e
    · rename_i hz
      cases e
      obtain ⟨v, rfl, o⟩ := ov.one
      exact ⟨_, by rw [o.int], hz, q _ H (Sm.refl _) tb (.str _)⟩
    · cases e
  · cases e
def hMax2 : List (D × Md) → Option (D × Md)
  | [(.int i, _), (.int j, _)] => some (.int (if j > i then j else i), .cl)
  | _ => none
theorem ok_max2 : CallOk C (fun xs H Q => ∃ i j, xs = [.int i, .int j] ∧ Q (.int (if j > i then j else i)) H) hMax2 := by
  intro Pm H vs ds d Q l tb ov e q
  unfold hMax2 at e
  split at e
  · cases e
    obtain ⟨v, v2, rfl, o, o2⟩ := ov.two
    exact ⟨_, _, by rw [o.int, o2.int], q _ H (Sm.refl _) tb (.int _)⟩
  · cases e
def hMin2 : List (D × Md) → Option (D × Md)
  | [(.int i, _), (.int j, _)] => some (.int (if j < i then j else i), .cl)
  | _ => none
theorem ok_min2 : CallOk C (fun xs H Q => ∃ i j, xs = [.int i, .int j] ∧ Q (.int (if j < i then j else i)) H) hMin2 := by
  intro Pm H vs ds d Q l tb ov e q
  unfold hMin2 at e
  split at e
  · cases e
    obtain ⟨v, v2, rfl, o, o2⟩ := ov.two
    exact ⟨_, _, by rw [o.int, o2.int], q _ H (Sm.refl _) tb (.int _)⟩
  · cases e
def intsOf : List D → Option (List Int)
  | [] => some []
  | .int i :: r => (intsOf r).map (i :: ·)
  | _ => none
theorem intsOf_eq : ∀ {ds : List D} {ns : List Int}, intsOf ds = some ns → ds = ns.map PyData.int
  | [], ns, h => by cases h; rfl
  | .int i :: r, ns, h => by
    obtain ⟨ms, e, rfl⟩ := Option.map_eq_some_iff.mp (show (intsOf r).map (i :: ·) = some ns from h)
    rw [intsOf_eq e]; rfl
  | .none :: r, ns, h => by cases h
  | .bool _ :: r, ns, h => by cases h
  | .str _ :: r, ns, h => by cases h
  | .list _ :: r, ns, h => by cases h
  | .tuple _ :: r, ns, h => by cases h
  | .dict _ :: r, ns, h => by cases h
theorem intsOf_map (ns : List Int) : intsOf (ns.map PyData.int) = some ns := by
  induction ns with
  | nil => rfl
  | cons i r ih => show (intsOf (r.map PyData.int)).map (i :: ·) = _; rw [ih]; rfl
def maxI : List Int → Int
  | [] => 0
  | [x] => x
  | x :: y :: r => let m := maxI (y :: r); if m ≤ x then x else m
theorem maxI_mem : ∀ {l : List Int}, l ≠ [] → maxI l ∈ l
  | [], h => absurd rfl h
  | [x], _ => by simp [maxI]
  | x :: y :: r, _ => by
    have ih := maxI_mem (l := y :: r) (by simp)
    unfold maxI
    dsimp only
    split
    · exact List.mem_cons_self
    · exact List.mem_cons_of_mem _ ih
theorem maxI_le : ∀ {l : List Int} {x : Int}, x ∈ l → x ≤ maxI l
  | [], _, h => by simp at h
  | [y], x, h => by
    have : x = y := by simpa using h
    rw [this]; exact Int.le_refl _
  | y :: z :: r, x, h => by
    unfold maxI
    dsimp only
    rcases List.mem_cons.mp h with (rfl | h)
    · split <;> omega
    · have ih := maxI_le h
      split <;> omega
def hMaxL : List (D × Md) → Option (D × Md)
  | [(.list ds, _)] => match intsOf ds with
    | some (n :: r) => some (.int (maxI (n :: r)), .cl)
    | _ => none
  | _ => none
theorem ok_maxL : CallOk C (rMax C.K) hMaxL := by
  intro Pm H vs ds d Q l tb ov e q
  unfold hMaxL at e
  split at e
  · rename_i ds m
    split at e
    · rename_i n r he
      cases e
      obtain ⟨v, rfl, o⟩ := ov.one
      obtain ⟨p, ws, rfl, hs, t, _⟩ := o.seqL
      rw [intsOf_eq he] at t
      rw [t.ints] at hs
      refine ⟨p, n :: r, rfl, hs, by simp, fun m hm hl => ?_⟩
      have e1 : m = maxI (n :: r) := Int.le_antisymm (maxI_le hm) (hl _ (maxI_mem (by simp)))
      rw [e1]
      exact q _ H (Sm.refl _) tb (.int _)
    · cases e
  · cases e
/-- list of a list or tuple -/
def hListOf : List (D × Md) → Option (D × Md)
  | [(.list ds, m)] => if itCl m = true ∨ lfs ds = true then some (.list ds, .fr) else none
  | [(.tuple ds, m)] => if itCl m = true ∨ lfs ds = true then some (.list ds, .fr) else none
  | _ => none
theorem ok_listOf : CallOk C (fun xs H Q => ∃ p ys, xs = [.ref p] ∧ (SqL C.K H p ys ∨ SqT C.K H p ys) ∧ ∀ l, H l = none → Q (.ref l) (upd H l (.lst ys))) hListOf := by
  intro Pm H vs ds d Q l tb ov e q
  unfold hListOf at e
  split at e
  · split at e
    · rename_i hc
      cases e
      obtain ⟨v, rfl, o⟩ := ov.one
      obtain ⟨p, ws, rfl, hs, t, c⟩ := o.seqL
      refine ⟨p, ws, rfl, .inl hs, fun r hr => new_fr tb hr ?_ q⟩
      rcases hc with z | z
      · exact c z
      · exact TrAll.lfMask l t z
    · cases e
  · split at e
    · rename_i hc
      cases e
      obtain ⟨v, rfl, o⟩ := ov.one
      obtain ⟨p, ws, rfl, hs, t, c⟩ := o.seqT
      refine ⟨p, ws, rfl, .inr hs, fun r hr => new_fr tb hr ?_ q⟩
      rcases hc with z | z
      · exact c z
      · exact TrAll.lfMask l t z
    · cases e
  · cases e

/-! ### isinstance -/
def nameD : D → String
  | .none => "NoneType"
  | .bool _ => "bool"
  | .int _ => "int"
  | .str _ => "str"
  | .list _ => "list"
  | .tuple _ => "tuple"
  | .dict _ => "dict"
theorem OV.ty {K : PySem.W.Frag} {Pm : List Addr} {H : Hp} {m : Md} {x : V} {d : D} (o : OV K Pm H m x d) : TyX K H x (.type (nameD d)) := by
  by_cases n : m = .fz
  · subst n
    cases o with
    | lst e f =>
      rcases e with ⟨ob, e⟩ | ⟨ob, its, n, hk, hc, _⟩
      · exact .base (.frz e)
      · exact .kList hk hc
    | tup e f =>
      obtain ⟨ob, its, n, hk, hc, _⟩ := e
      exact .kTuple hk hc
  · have t := o.tr n
    cases t with
    | non => exact .base .non
    | bl b => exact .base (.bl b)
    | int i => exact .base (.int i)
    | str i => exact .base (.str i)
    | lst e t => exact .base (.lst e)
    | tup e t => exact .base (.tup e)
def isD (ty : String) : D → Bool
  | .none => ty == "NoneType"
  | .bool _ => ty == "bool" || ty == "int"
  | .int _ => ty == "int"
  | .str _ => ty == "str"
  | .list _ => ty == "list"
  | .tuple _ => ty == "tuple"
  | .dict _ => ty == "dict"
def TyOk (ty : String) : Prop := ty ∈ ["str", "int", "bool", "list", "tuple"]
theorem kit_all : ∀ ty ∈ ["str", "int", "bool", "list", "tuple"], kitB "NoneType" ty = some (ty == "NoneType") ∧ kitB "bool" ty = some (ty == "bool" || ty == "int") ∧ kitB "int" ty = some (ty == "int") ∧ kitB "str" ty = some (ty == "str") ∧
    kitB "list" ty = some (ty == "list") ∧ kitB "tuple" ty = some (ty == "tuple") ∧ kitB "dict" ty = some (ty == "dict") := by decide +kernel
theorem kit_isD {K : PySem.W.Frag} {ty : String} (h : TyOk ty) (d : D) : PySem.W.kitOne K (.type (nameD d)) (.type ty) = some (isD ty d) := by
  obtain ⟨h1, h2, h3, h4, h5, h6, h7⟩ := kit_all ty h
  cases d with
  | none => exact kit_ty h1
  | bool _ => exact kit_ty h2
  | int _ => exact kit_ty h3
  | str _ => exact kit_ty h4
  | list _ => exact kit_ty h5
  | tuple _ => exact kit_ty h6
  | dict _ => exact kit_ty h7
def mIsi (ty : String) (f : CV → Rs (D × Md)) : CV → Rs (D × Md) := fun ρ => (f ρ).bind fun x => .ok (.bool (isD ty x.1), .cl)
theorem se_isi {ty : String} {tn : Str} {p p2 : Pos} (hty : TyOk ty) (hm : X.mg "isinstance" = none) (hm2 : X.mg tn = none) (hv2 : bootBuiltins tn = some (.type ty)) (ha : PE X e (tE C W f)) (hK : X.K = C.K) (hg : Gl X "isinstance" := by rfl) (hg2 : Gl X tn := by rfl) (hn2 : tn ≠ "__name__" := by decide) (hd2 : (tn == ("__debug__" : Str)) = false := by decide)
    (he : starEach [e, .Name tn p2] X.env = (false, eval e X.env) :: starEach [.Name tn p2] X.env := by rfl) (he2 : starEach [.Name tn p2] X.env = (false, eval (.Name tn p2) X.env) :: starEach [] X.env := by rfl)
    (hpl : (backTo pos (starEach [.Name tn p2] X.env)).any (·.1) = false := by rfl) : PE X (.Call (.Name "isinstance" p) [e, .Name tn p2] [] pos) (tE C W (mIsi ty f)) :=
  PE.imp (pe_callB call_isi hg hm (by decide +kernel) (pa_cons ha (pa_cons (pe_bltn (v := .ty ty) hg2 hm2 hv2 rfl hn2 hd2) pa_nil he2) he) (by decide) (by decide) he hpl) fun σ H Q w => by
    obtain ⟨B, P, ρ, hio, re, w⟩ := w
    refine tE_then hio re w fun d m v H1 s re1 vr w1 => ?_
    have o := VR.ov re.lst vr
    exact ⟨v, .ty ty, .type (nameD d), .type ty, isD ty d, rfl, .ty ty, by rw [hK]; exact o.ty, kit_isD hty d, w1 _ H1 (Sm.refl _) re1.tab (.bl _)⟩

/-! ### displays -/
def okEl (x : D × Md) : Bool := isCl x.2 || (decide (x.2 ≠ .fz) && lf x.1)
theorem OV.el {K : PySem.W.Frag} {Pm : List Addr} {H : Hp} {x : D × Md} {v : V} (l : Lsts Pm H) (o : OV K Pm H x.2 v x.1) (h : okEl x = true) : Tr (mask Pm H) v x.1 := by
  unfold okEl at h
  rw [Bool.or_eq_true, Bool.and_eq_true, decide_eq_true_eq] at h
  rcases h with h | ⟨h1, h2⟩
  · exact o.clean h
  · exact (o.tr h1).lfMask l h2
theorem OVs.el {K : PySem.W.Frag} {Pm : List Addr} {H : Hp} (l : Lsts Pm H) : ∀ {vs : List V} {ds : List (D × Md)}, OVs K Pm H vs ds → ds.all okEl = true → TrAll (mask Pm H) vs (ds.map (·.1))
  | [], [], _, _ => .nil
  | v :: vs, d :: ds, h, a => by
    rw [List.all_cons, Bool.and_eq_true] at a
    exact .cons (h.1.el l a.1) (OVs.el l h.2 a.2)
  | [], _ :: _, h, _ => h.elim
  | _ :: _, [], h, _ => h.elim
def mTup (fa : CV → Rs (List (D × Md))) : CV → Rs (D × Md) := fun ρ => (fa ρ).bind fun ds => if ds.all okEl = true ∧ ds.length ≤ 1000 then .ok (.tuple (ds.map (·.1)), .cl) else .no
def mLst (fa : CV → Rs (List (D × Md))) : CV → Rs (D × Md) := fun ρ => (fa ρ).bind fun ds => if ds.all okEl = true ∧ ds.length ≤ 1000 then .ok (.list (ds.map (·.1)), .fr) else .no
theorem le_line {n : Nat} (h : n ≤ 1000) : n ≤ sizeLine := Nat.le_of_lt (small1000 h)
theorem se_tup {k : Nat} (ha : PA X es (tA C W fa)) : PE X (.Tuple es k pos) (tE C W (mTup fa)) := PE.imp (pe_tup ha) fun σ H Q w => by
  obtain ⟨B, P, ρ, hio, re, w⟩ := w
  refine tA_then hio re w fun ds vs H1 s re1 ov w1 => ?_
  split at w1
  · rename_i hz
    have t := ov.el re1.lst hz.1
    refine ⟨le_line (by rw [t.length, List.length_map]; exact hz.2), fun p hp => new_tup (C := C) (Pm := B.M ++ P) re1.lst re1.tab hp t w1⟩
  · exact w1.elim
theorem se_lst (ha : PA X es (tA C W fa)) : PE X (.List es pos) (tE C W (mLst fa)) := PE.imp (pe_lst ha) fun σ H Q w => by
  obtain ⟨B, P, ρ, hio, re, w⟩ := w
  refine tA_then hio re w fun ds vs H1 s re1 ov w1 => ?_
  split at w1
  · rename_i hz
    have t := ov.el re1.lst hz.1
    refine ⟨le_line (by rw [t.length, List.length_map]; exact hz.2), fun p hp => new_fr (C := C) (Pm := B.M ++ P) re1.tab hp t w1⟩
  · exact w1.elim

/-! ### texts -/
def strsOf : List D → Option (List Str)
  | [] => some []
  | .str i :: r => (strsOf r).map (i :: ·)
  | _ => none
theorem strsOf_eq : ∀ {ds : List D} {ns : List Str}, strsOf ds = some ns → ds = ns.map PyData.str
  | [], ns, h => by cases h; rfl
  | .str i :: r, ns, h => by
    obtain ⟨ms, e, rfl⟩ := Option.map_eq_some_iff.mp (show (strsOf r).map (i :: ·) = some ns from h)
    rw [strsOf_eq e]; rfl
  | .none :: r, ns, h => by cases h
  | .bool _ :: r, ns, h => by cases h
  | .int _ :: r, ns, h => by cases h
  | .list _ :: r, ns, h => by cases h
  | .tuple _ :: r, ns, h => by cases h
  | .dict _ :: r, ns, h => by cases h
theorem strsOf_map (ns : List Str) : strsOf (ns.map PyData.str) = some ns := by
  induction ns with
  | nil => rfl
  | cons i r ih => show (strsOf (r.map PyData.str)).map (i :: ·) = _; rw [ih]; rfl
def hJoin (a : Str) (y : D × Md) : Option (D × Md) := match y.1 with
  | .list ds => match strsOf ds with
    | some ys => if (ys.map (·.length)).sum + ys.length * a.length ≤ 16777216 then some (.str (Txt.join a ys), .cl) else none
    | none => none
  | _ => none
/-- a method of a text: what follows is asked once the text is known -/
def mStrM (f : CV → Rs (D × Md)) (k : Str → CV → Rs (D × Md)) : CV → Rs (D × Md) := fun ρ => (f ρ).bind fun x => match x.1 with
  | .str a => k a ρ
  | _ => .no
theorem se_join {o : Expr} {apos cpos : Pos} (ho : PE X o (tE C W f)) (ha : PE X e (tE C W g)) (hK : X.K = C.K) (hs : starEach [e] X.env = [(false, eval e X.env)] := by rfl) (hbase : attributeBase o "join" X.env (eval o X.env) = eval o X.env := by rfl) (hline : (apos.endLine == cpos.line) = true := by rfl) :
    PE X (.Call (.Attribute o "join" apos) [e] [] cpos) (tE C W (mStrM f fun a => mUn (hJoin a) g)) := PE.imp (pe_join ho ha hs hbase hline) fun σ H Q w => by
  obtain ⟨B, P, ρ, hio, re, w⟩ := w
  refine tE_then hio re w fun d m v H1 s re1 vr w1 => ?_
  have o1 := VR.ov re.lst vr
  cases d <;> try exact w1.elim
  rename_i a
  have e1 := o1.str
  subst e1
  refine ⟨⟨a, rfl⟩, tE_then hio re1 w1 fun d2 m2 v2 H2 s2 re2 vr2 w2 => ?_⟩
  have o2 := VR.ov re1.lst vr2
  cases ej : hJoin a (d2, m2) with
  | none => rw [ej] at w2; exact w2.elim
  | some z =>
    rw [ej] at w2
    unfold hJoin at ej
    dsimp only at ej o2
    split at ej
    · rename_i ds
      split at ej
      · rename_i ys hy
        split at ej
        · rename_i hz
          cases ej
          obtain ⟨p, ws, rfl, hs, t, _⟩ := o2.seqL
          rw [strsOf_eq hy] at t
          rw [t.strs] at hs
          exact ⟨a, p, ys, rfl, rfl, .inl (by rw [hK]; exact hs), hz, w2 _ H2 (Sm.refl _) re2.tab (.str _)⟩
        · cases ej
      · cases ej
    · cases ej
/-- s.split() -/
def hWords (a : Str) : Option (D × Md) := if a.length + 2 ≤ sizeLine then some (.list ((Txt.words a).map PyData.str), .fr) else none
theorem se_words {o : Expr} {apos cpos : Pos} (ho : PE X o (tE C W f)) (hbase : attributeBase o "split" X.env (eval o X.env) = eval o X.env := by rfl) (hline : (apos.endLine == cpos.line) = true := by rfl) :
    PE X (.Call (.Attribute o "split" apos) [] [] cpos) (tE C W (mStrM f fun a _ => ofO (hWords a))) := PE.imp (pe_words ho hbase hline) fun σ H Q w => by
  obtain ⟨B, P, ρ, hio, re, w⟩ := w
  refine tE_then hio re w fun d m v H1 s re1 vr w1 => ?_
  have o1 := VR.ov re.lst vr
  cases d <;> try exact w1.elim
  rename_i a
  have e1 := o1.str
  subst e1
  refine ⟨⟨a, rfl⟩, a, rfl, rfl, ?_⟩
  cases eh : hWords a with
  | none =>
    have w1 : ER C W σ H1 (B.M ++ P) Q (ofO (hWords a)) := w1
    rw [eh] at w1; exact w1.elim
  | some z =>
    have w1 : ER C W σ H1 (B.M ++ P) Q (ofO (hWords a)) := w1
    rw [eh] at w1
    unfold hWords at eh
    split at eh
    · rename_i hz
      cases eh
      refine ⟨hz, fun p hp => new_fr (C := C) (Pm := B.M ++ P) re1.tab hp (trAll_strs _) w1⟩
    · cases eh
end
end Eng

set_option Elab.async false
set_option linter.all false
set_option maxRecDepth 100000
set_option maxHeartbeats 1234567
namespace Eng
open PySem PySem.Spec
open PyProof.Rows L2

section
variable {K : PySem.W.Frag} {T : List Addr} {B : Bs} {P P' : List Addr} {H H' H1 : Hp} {σ σ' : St} {ρ ρ' : CV}
/-- a new list that no slot holds -/
theorem RE0.addP (r : RE0 K T B P H σ ρ) (s : Sm H H') (tb : Tab T H') {p : Addr} {vs : List V} (hp : H p = none) (hp' : H' p = some (.lst vs)) : RE0 K T B (p :: P) H' σ ρ := by
  have le : SeqLe (mask (B.M ++ P) H) (mask (B.M ++ p :: P) H') := by
    have key : ∀ a, a ∉ B.M ++ P → H a ≠ none → a ∉ B.M ++ p :: P := fun a h1 h2 z => by
      simp only [List.mem_append, List.mem_cons] at z h1
      rcases z with z | z | z
      · exact h1 (.inl z)
      · rw [z] at h2; exact h2 hp
      · exact h1 (.inr z)
    refine ⟨fun a xs e => ?_, fun a xs e => ?_⟩
    · obtain ⟨h1, h2⟩ := mask_some e
      rw [mask_out (key a h1 (by rw [h2]; simp))]
      exact s.lst h2
    · obtain ⟨h1, h2⟩ := mask_some e
      rw [mask_out (key a h1 (by rw [h2]; simp))]
      exact s.tup h2
  have u := r.sm s tb
  refine ⟨r.len, fun j e h => ?_, fun j e h => ?_, u.fz, r.sep, u.keep, fun q hq => ?_, fun q hq => ?_, u.iol, r.io0, r.ios, r.ioo, tb⟩
  · obtain ⟨v, h1, h2⟩ := r.val j e h
    exact ⟨v, h1, Tr.mono le _ _ h2⟩
  · obtain ⟨q, ws, h1, h2, h3, h4, h5⟩ := r.own j e h
    exact ⟨q, ws, h1, List.mem_cons_of_mem _ h2, h3, s.lst h4, TrAll.mono le _ _ h5⟩
  · rcases List.mem_cons.mp hq with (rfl | hq)
    · exact .inr (r.fresh0 hp)
    · exact r.new q hq
  · simp only [List.mem_append, List.mem_cons] at hq
    rcases hq with z | rfl | z
    · exact (r.lst.sm s) q (List.mem_append_left _ z)
    · exact ⟨_, hp', .lst⟩
    · exact (r.lst.sm s) q (List.mem_append_right _ z)
/-- a free owned list is changed -/
theorem RE0.mutFree (r : RE0 K T B P H σ ρ) {p : Addr} {vs vs' : List V} (hp : p ∈ P) (hn : p ∉ B.ch) (h : H p = some (.lst vs)) (free : ∀ (i : Nat) (ds : List D), ρ[i]? = some (.own ds) → σ[i]? ≠ some (some (.ref p))) : RE0 K T B P (upd H p (.lst vs')) σ ρ := by
  have me : mask (B.M ++ P) (upd H p (.lst vs')) = mask (B.M ++ P) H := mask_upd (List.mem_append_right _ hp)
  have lst : ∀ (S : List Addr), Lsts S H → Lsts S (upd H p (.lst vs')) := fun S l q hq => by
    by_cases e : q = p
    · exact ⟨_, by rw [e, upd_same], .lst⟩
    · obtain ⟨ws, g, c⟩ := l q hq
      exact ⟨ws, by rw [upd_ne e]; exact g, c⟩
  refine ⟨r.len, fun j e g => by rw [me]; exact r.val j e g, fun j e g => ?_, fun j e g => ?_, r.sep, fun a o e hna => ?_, r.new, lst _ r.lst, lst _ r.iol, r.io0, r.ios, r.ioo, r.tab.upd fun ps e => by rw [h] at e; cases e⟩
  · obtain ⟨q, ws, g1, g2, g3, g4, g5⟩ := r.own j e g
    have ne : q ≠ p := fun z => by
      subst z
      exact free j e g g1
    exact ⟨q, ws, g1, g2, g3, by rw [upd_ne ne]; exact g4, by rw [me]; exact g5⟩
  · obtain ⟨v, g1, g2⟩ := r.fz j e g
    exact ⟨v, g1, g2.upd h⟩
  · have ne : a ≠ p := fun z => by
      subst z
      rcases r.new _ hp with w | w
      · exact hn w
      · rw [e] at w; cases w
    rw [upd_ne ne]
    exact r.keep a o e hna
theorem RE.addP (r : RE K T B P H σ ρ) (s : Sm H H') (tb : Tab T H') {p : Addr} {vs : List V} (hp : H p = none) (hp' : H' p = some (.lst vs)) : RE K T B (p :: P) H' σ ρ :=
  ⟨r.vok.eq (.sm s) fun _ _ _ _ h _ => List.mem_cons_of_mem _ h, by rw [vw_eq r.vok (.sm s)]; exact r.z.addP s tb hp hp'⟩
theorem RE.mutFree (r : RE K T B P H σ ρ) {p : Addr} {vs vs' : List V} (hp : p ∈ P) (hn : p ∉ B.ch) (h : H p = some (.lst vs)) (free : ∀ (i : Nat) (ds : List D), ρ[i]? = some (.own ds) → (vw B H σ)[i]? ≠ some (some (.ref p))) : RE K T B P (upd H p (.lst vs')) σ ρ := by
  have ie : InsEq H (upd H p (.lst vs')) := .upd fun _ _ _ z => by rw [h] at z; cases z
  exact ⟨r.vok.eq ie fun _ _ _ _ h _ => h, by rw [vw_eq r.vok ie]; exact r.z.mutFree hp hn h free⟩
end

/-! ### list comprehensions -/
def noEr {α : Type} : Rs α → Rs α
  | .er _ => .no
  | r => r
def lcL (i : Nat) (tst : CV → Rs Bool) (el : CV → Rs (D × Md)) (ρ : CV) : List D → Option (List D)
  | [] => some []
  | d :: ds => match tst (ρ.set i (.val d)) with
    | .ok true => match el (ρ.set i (.val d)) with
      | .ok x => if okEl x = true then (lcL i tst el ρ ds).map (x.1 :: ·) else none
      | _ => none
    | .ok false => lcL i tst el ρ ds
    | _ => none
def mLc (i : Nat) (it : CV → Rs (List D)) (tst : CV → Rs Bool) (el : CV → Rs (D × Md)) : CV → Rs (D × Md) := fun ρ => (it ρ).bind fun ds =>
  if ds.length ≤ 1000000 then ofO ((lcL i tst el (ρ.set i .un) ds).map fun out => (.list out, .fr)) else .no
abbrev W0 : WX := fun _ _ _ _ => False
section
variable {X : Cx} {C : Cf} {W : WX} {e a b elt : Expr} {es ifs : List Expr} {st : Stmt} {rest body : List Stmt} {f g el : CV → Rs (D × Md)} {t tst : CV → Rs Bool} {u w : CV → Out} {fa : CV → Rs (List (D × Md))} {it : CV → Rs (List D)} {pos : Pos}
def mTrue : CV → Rs Bool := fun _ => .ok true
theorem PTs.imp {e : List Expr} {t t' : TT} (h : PTs X e t) (i : ∀ σ H Q, t' σ H Q → t σ H Q) : PTs X e t' := ⟨fun pins s σ H Q I w => h.run pins s σ H Q I (i σ H Q w)⟩
theorem sts_nil : PTs X [] (tT C W mTrue) := PTs.imp pts_nil fun σ H Q h => by
  obtain ⟨B, P, ρ, hio, re, h⟩ := h
  exact h H (Sm.refl _) re.tab
theorem sts_one {c : Expr} (h : PT X c (tT C W t)) : PTs X [c] (tT C W t) := pts_one h
theorem lcL_len {i : Nat} {ρ : CV} : ∀ {ds out : List D}, lcL i tst el ρ ds = some out → out.length ≤ ds.length
  | [], out, h => by cases h; exact Nat.le_refl _
  | d :: ds, out, h => by
    unfold lcL at h
    split at h
    · split at h
      · split at h
        · obtain ⟨r, e, rfl⟩ := Option.map_eq_some_iff.mp h
          have := lcL_len e
          (simp only [List.length_cons]); omega
        · cases h
      · cases h
    · have := lcL_len h
      (simp only [List.length_cons]); omega
    · cases h
theorem lc_sem {i : Nat} {x : Str} {B : Bs} {P : List Addr} {ρ : CV} {σ : St} {H : Hp} {Q : VK} (hio : Lk B C) (hi : ¬ B.ro i) (hch : B.ch ⊆ P ∨ True) (re : RE C.K C.T B P H σ ρ) (w : ER C W σ H (B.M ++ P) Q (mLc i it tst el ρ)) :
    tLc (tI C W it) (gName i) (tT C W0 tst) (tE C W0 el) [i] σ H Q := by
  refine ⟨B, P, ρ, hio, re, ?_⟩
  unfold mLc at w
  cases ei : it ρ with
  | er c => rw [ei] at w; exact w
  | no => rw [ei] at w; exact w
  | ok ds =>
    rw [ei] at w
    dsimp only [Rs.bind] at w
    split at w
    · rename_i hlen
      cases el0 : lcL i tst el (ρ.set i .un) ds with
      | none => rw [el0] at w; exact w.elim
      | some out =>
        rw [el0] at w
        have wq : ∀ v H', Sm H H' → Tab C.T H' → VR C.K (B.M ++ P) H H' .fr v (.list out) → Q v H' := w
        intro J H1 s1 tb1 itk D0 hD
        have re1 := re.sm s1 tb1
        have sD : Sm H1 (upd H1 D0 (.lst [])) := Sm.upd hD
        have reD := (re1.addP sD (tb1.new hD) hD upd_same).setUn (i := i) (o := none) hi
        have nch : D0 ∉ B.ch := fun z => by
          obtain ⟨o, e, _⟩ := re1.iol D0 z
          rw [hD] at e; cases e
        have free0 : ∀ (j : Nat) (fs : List D), ρ[j]? = some (.own fs) → (vw B H1 σ)[j]? ≠ some (some (.ref D0)) := fun j fs e z => by
          obtain ⟨q, vs, h1, _, _, h3, _⟩ := re1.z.own j fs e
          rw [z] at h1; cases h1
          rw [hD] at h3; cases h3
        have free : ∀ {H4 : Hp}, Sm H1 H4 → ∀ (j : Nat) (fs : List D), (ρ.set i .un)[j]? = some (.own fs) → (vw B H4 (σ.set i none))[j]? ≠ some (some (.ref D0)) := fun {H4} s4 j fs e => by
          rw [vw_eq (re1.vok.set hi) (.sm s4), vw_set re1.vok hi]
          by_cases hj : i = j
          · subst hj
            have hl : i < ρ.length := by
              have := (List.getElem?_eq_some_iff.mp e).1
              rwa [List.length_set] at this
            rw [List.getElem?_set_self hl] at e; cases e
          · rw [List.getElem?_set_ne hj] at e ⊢
            exact free0 j fs e
        have ew : wipe σ [i] = σ.set i none := rfl
        refine ⟨fun j m H' => m = ds.length - j ∧ j ≤ ds.length ∧ Sm H1 H' ∧ RE C.K C.T B (D0 :: P) H' (σ.set i none) (ρ.set i .un) ∧ ∃ acc outs r, H' D0 = some (.lst acc) ∧ TrAll (mask (B.M ++ D0 :: P) H') acc outs ∧ outs.length ≤ j ∧ lcL i tst el (ρ.set i .un) (ds.drop j) = some r ∧ out = outs ++ r,
          ⟨ds.length, by simp, Nat.zero_le _, sD, reD, [], [], out, upd_same, .nil, Nat.le_refl _, el0, rfl⟩, ?_⟩
        rintro j m H' ⟨rfl, hj, sm', re', acc, outs, r, hacc, tacc, hol, hr, ho⟩
        obtain ⟨items, stop⟩ := itk H' (B.M ++ D0 :: P) (fun a o e hn => sm' a o e) (fun p hp => by
          simp only [List.mem_append, List.mem_cons] at hp ⊢
          rcases hp with z | rfl | z
          · exact .inl (.inl z)
          · exact .inr hD
          · exact .inl (.inr z))
        by_cases hlt : j < ds.length
        · have e := List.getElem?_eq_getElem hlt
          obtain ⟨go, yl⟩ := items j _ e
          refine .inr ⟨go, fun H2 => Sm H1 H2 ∧ RE C.K C.T B (D0 :: P) H2 (σ.set i none) (ρ.set i .un) ∧ ∃ acc outs r, H2 D0 = some (.lst acc) ∧ TrAll (mask (B.M ++ D0 :: P) H2) acc outs ∧ outs.length ≤ j + 1 ∧ lcL i tst el (ρ.set i .un) (ds.drop (j + 1)) = some r ∧ out = outs ++ r,
            fun H2 hN => ⟨ds.length - (j + 1), by omega, rfl, hlt, hN⟩, fun x H2 y => ?_⟩
          obtain ⟨rfl, tx⟩ := yl x H2 y
          have ed : ds.drop j = ds[j] :: ds.drop (j + 1) := List.drop_eq_getElem_cons hlt
          rw [ed] at hr
          unfold lcL at hr
          have reV := re'.setVal (i := i) hi tx
          rw [List.set_set, List.set_set] at reV
          have hset : (wipe σ [i]).set i (some x) = σ.set i (some x) := by rw [ew, List.set_set]
          have eset : (ρ.set i .un).set i (.val ds[j]) = ρ.set i (.val ds[j]) := List.set_set ..
          rw [eset] at hr
          show wipe ((wipe σ [i]).set i (some x)) [i] = wipe σ [i] ∧ _
          rw [hset]
          refine ⟨by show (σ.set i (some x)).set i none = σ.set i none; rw [List.set_set], B, D0 :: P, ρ.set i (.val ds[j]), hio, reV, ?_⟩
          -- behind an expression
          have again : ∀ {H3 : Hp}, Sm H2 H3 → Tab C.T H3 → lcL i tst el (ρ.set i .un) (ds.drop (j + 1)) = some r → Sm H1 H3 ∧ RE C.K C.T B (D0 :: P) H3 (σ.set i none) (ρ.set i .un) ∧ ∃ acc outs r, H3 D0 = some (.lst acc) ∧ TrAll (mask (B.M ++ D0 :: P) H3) acc outs ∧ outs.length ≤ j + 1 ∧ lcL i tst el (ρ.set i .un) (ds.drop (j + 1)) = some r ∧ out = outs ++ r := fun {H3} s3 t3 hr' =>
            ⟨sm'.trans s3, re'.sm s3 t3, acc, outs, r, s3.lst hacc, TrAll.mono (s3.mask _) _ _ tacc, Nat.le_succ_of_le hol, hr', ho⟩
          cases et : tst (ρ.set i (.val ds[j])) with
          | er c => rw [et] at hr; cases hr
          | no => rw [et] at hr; cases hr
          | ok k =>
            rw [et] at hr
            intro H3 s3 t3
            cases k with
            | false => exact iteF (again s3 t3 hr)
            | true =>
              refine iteT ⟨B, D0 :: P, ρ.set i (.val ds[j]), hio, reV.sm s3 t3, ?_⟩
              dsimp only at hr
              cases ee : el (ρ.set i (.val ds[j])) with
              | er c => rw [ee] at hr; cases hr
              | no => rw [ee] at hr; cases hr
              | ok z =>
                rw [ee] at hr
                dsimp only at hr
                split at hr
                · rename_i hok
                  obtain ⟨r', hr', hrr⟩ := Option.map_eq_some_iff.mp hr
                  subst hrr
                  intro v H4 s4 t4 vr
                  have re4 := (re'.sm s3 t3).sm s4 t4
                  have s24 := s3.trans s4
                  have o4 := VR.ov (re'.sm s3 t3).lst vr
                  have tv := o4.el re4.lst hok
                  have hacc4 := s24.lst hacc
                  have tacc4 := TrAll.mono (s24.mask (B.M ++ D0 :: P)) _ _ tacc
                  refine ⟨acc, hacc4, ?_, ?_, re4.mutFree List.mem_cons_self nch hacc4 (free (sm'.trans s24)), acc ++ [v], outs ++ [z.1], r', upd_same, ?_, ?_, hr', ?_⟩
                  · have h1 : acc.length ≤ 1000000 := by rw [tacc.length]; omega
                    exact Nat.lt_of_le_of_lt h1 (by decide)
                  · intro a o eo
                    have ne : a ≠ D0 := fun z => by rw [z, hD] at eo; cases eo
                    rw [upd_ne ne]
                    exact (sm'.trans s24) a o eo
                  · rw [mask_upd (show D0 ∈ B.M ++ D0 :: P by simp)]
                    exact tacc4.append (.cons tv .nil)
                  · (rw [List.length_append, List.length_singleton]); omega
                  · rw [ho, List.append_assoc]; rfl
                · cases hr
        · have ej : j = ds.length := by omega
          subst ej
          rw [List.drop_length] at hr
          cases hr
          rw [List.append_nil] at ho
          subst ho
          refine .inl ⟨stop _ (Nat.le_refl _), wq _ H' (s1.trans sm') re'.tab ⟨D0, acc, out, rfl, rfl, s1.none hD, hacc, TrAll.mono (mask_anti fun a ha => ?_) _ _ tacc⟩⟩
          simp only [List.mem_append, List.mem_cons] at ha ⊢
          rcases ha with z | z | z
          · exact .inr (.inl z)
          · exact .inl z
          · exact .inr (.inr z)
    · exact w.elim
theorem se_lc (i : Nat) {x : Str} {p2 : Pos} {iter : Expr} {scope : Scope} (hc : X.calm = true) (hN : X.N.Nodup) (hi : PI X (.Name x p2) iter (tI C W it)) (ok : BlkOk X.N X.env.scope scope [(x, i)])
    (ht : ∀ (s : Shared) (H : Hp) (Ca : Addr) (cl : List (Str × Addr)) (fp : List Addr), PTs (X.blk s H scope (compEnvC scope cl Ca X.env) fp) ifs (tT C W0 tst))
    (he : ∀ (s : Shared) (H : Hp) (Ca : Addr) (cl : List (Str × Addr)) (fp : List Addr), PE (X.blk s H scope (compEnvC scope cl Ca X.env) fp) elt (tE C W0 el))
    (hx : X.N[i]? = some x := by rfl) (hv : ∀ (Ca : Addr) (cl : List (Str × Addr)), Loc (compEnvC scope cl Ca X.env).scope x := by intro _ _; first | exact Or.inl rfl | exact Or.inr rfl) (hf : ∀ (Ca : Addr) (cl : List (Str × Addr)), (scope.names.lookup x == some .cell) = true ∨ (compEnvC scope cl Ca X.env).scope.names.lookup x = some .local := by intro _ _; first | exact .inr rfl | exact .inl rfl)
    (hio : C.ro i = false := by rfl) (hs : ∀ x, foldedSetIterable iter X.env x = pure x := by intro _; rfl) :
    PE X (.ListComp elt [⟨.Name x p2, iter, ifs, 0⟩] scope pos) (tE C W (mLc i it tst el)) :=
  PE.imp (pe_lc (own := [(x, i)]) (g := gName i) hc hN hi ok (fun s H Ca cl fp => pg_name (i := i) hN hx (hv Ca cl) (hf Ca cl)) ht he hs) fun σ H Q h => by
    obtain ⟨B, P, ρ, hb, re, h⟩ := h
    have hi' : ¬ B.ro i := hb.ro hio
    exact lc_sem (x := x) hb hi' (.inr trivial) re h
theorem ss_setLc (j i : Nat) {x y : Str} {py p2 spos : Pos} {iter : Expr} {scope : Scope} (hc : X.calm = true) (hN : X.N.Nodup) (hi : PI X (.Name x p2) iter (tI C W it)) (ok : BlkOk X.N X.env.scope scope [(x, i)])
    (ht : ∀ (s : Shared) (H : Hp) (Ca : Addr) (cl : List (Str × Addr)) (fp : List Addr), PTs (X.blk s H scope (compEnvC scope cl Ca X.env) fp) ifs (tT C W0 tst))
    (he : ∀ (s : Shared) (H : Hp) (Ca : Addr) (cl : List (Str × Addr)) (fp : List Addr), PE (X.blk s H scope (compEnvC scope cl Ca X.env) fp) elt (tE C W0 el))
    (hsw : swapsWith (.ListComp elt [⟨.Name x p2, iter, ifs, 0⟩] scope pos) (some (.Name y py)) spos.line X.env = pure true)
    (hy : X.N[j]? = some y := by rfl) (hyl : X.env.scope.names.lookup y = some .local := by rfl)
    (hx : X.N[i]? = some x := by rfl) (hv : ∀ (Ca : Addr) (cl : List (Str × Addr)), Loc (compEnvC scope cl Ca X.env).scope x := by intro _ _; first | exact Or.inl rfl | exact Or.inr rfl) (hf : ∀ (Ca : Addr) (cl : List (Str × Addr)), (scope.names.lookup x == some .cell) = true ∨ (compEnvC scope cl Ca X.env).scope.names.lookup x = some .local := by intro _ _; first | exact .inr rfl | exact .inl rfl)
    (hio : C.ro i = false := by rfl) (hio2 : C.ro j = false := by rfl) (hs : ∀ x, foldedSetIterable iter X.env x = pure x := by intro _; rfl) :
    PS X (.Assign [.Name y py] (.ListComp elt [⟨.Name x p2, iter, ifs, 0⟩] scope pos) spos) (tS C W (sSet j (mLc i it tst el))) :=
  PS.imp (ps_setLc (own := [(x, i)]) (g := gName i) hc hN hy hyl hsw hi ok (fun s H Ca cl fp => pg_name (i := i) hN hx (hv Ca cl) (hf Ca cl)) ht he hs) fun D' σ H h => by
    obtain ⟨B, P, ρ, hb, re, h⟩ := h
    have hi' : ¬ B.ro i := hb.ro hio
    have hj' : ¬ B.ro j := hb.ro hio2
    refine lc_sem (W := W) (x := x) hb hi' (.inr trivial) re ?_
    unfold sSet at h
    cases e : mLc i it tst el ρ with
    | ok z =>
      obtain ⟨d, m⟩ := z
      rw [e] at h
      exact fun v H1 s t vr => setK_ok hj' re s (re.sm s t) vr h
    | er c => rw [e] at h; exact fun A H1 hm s t => h A P σ H1 hm (re.sm s t)
    | no => rw [e] at h; exact h
end
end Eng

set_option Elab.async false
set_option linter.all false
set_option maxRecDepth 100000
set_option maxHeartbeats 1234567
namespace Eng
open PySem PySem.Spec
open PyProof.Rows L2

/-! ### what changes an owned list -/
section
variable (C : Cf) (W : WX)
/-- an expression that may pop owned lists: its value stands apart from them -/
def XR (σ : St) (B : Bs) (P : List Addr) (Q : VK) : Rs (D × CV) → Prop
  | .ok (d, ρ') => ∀ v H', RE C.K C.T B P H' σ ρ' → Tr (mask (B.M ++ P) H') v d → Q v H'
  | .er c => False
  | .no => False
def tX (f : CV → Rs (D × CV)) : TE := fun σ H Q => ∃ B P ρ, Lk B C ∧ RE C.K C.T B P H σ ρ ∧ XR C σ B P Q (f ρ)
def XAR (σ : St) (B : Bs) (P : List Addr) (Q : List V → Hp → Prop) : Rs (List D × CV) → Prop
  | .ok (ds, ρ') => ∀ vs H', RE C.K C.T B P H' σ ρ' → TrAll (mask (B.M ++ P) H') vs ds → Q vs H'
  | .er c => False
  | .no => False
def tXA (f : CV → Rs (List D × CV)) : TA := fun σ H Q => ∃ B P ρ, Lk B C ∧ RE C.K C.T B P H σ ρ ∧ XAR C σ B P Q (f ρ)
end
section
variable {X : Cx} {C : Cf} {W : WX} {e a b : Expr} {es : List Expr} {st : Stmt} {rest body : List Stmt} {f g : CV → Rs (D × Md)} {t : CV → Rs Bool} {u w : CV → Out} {fx : CV → Rs (D × CV)} {fxa : CV → Rs (List D × CV)} {fa : CV → Rs (List (D × Md))} {pos : Pos}
def mLift (f : CV → Rs (D × Md)) : CV → Rs (D × CV) := fun ρ => match f ρ with
  | .ok x => if okEl x = true then .ok (x.1, ρ) else .no
  | _ => .no
theorem sx_lift (h : PE X e (tE C W f)) : PE X e (tX C (mLift f)) := PE.imp h fun σ H Q w => by
  obtain ⟨B, P, ρ, hio, re, w⟩ := w
  refine ⟨B, P, ρ, hio, re, ?_⟩
  unfold mLift at w
  cases ef : f ρ with
  | er c => rw [ef] at w; exact w.elim
  | no => rw [ef] at w; exact w.elim
  | ok x =>
    obtain ⟨d, m⟩ := x
    rw [ef] at w
    dsimp only at w
    split at w
    · rename_i hok
      intro v H1 s tb vr
      have re1 := re.sm s tb
      exact w v H1 re1 ((VR.ov re.lst vr).el re1.lst hok)
    · exact w.elim
def mPop (i : Nat) : CV → Rs (D × CV) := fun ρ => match ρ[i]? with
  | some (.own ds) => match ds[ds.length - 1]? with
    | some d => .ok (d, ρ.set i (.own ds.dropLast))
    | none => .no
  | _ => .no
theorem slot_own {B : Bs} {P : List Addr} {H : Hp} {σ : St} {ρ : CV} {i : Nat} {ds : List D} (hl : B.lc i) (re : RE C.K C.T B P H σ ρ) (h : ρ[i]? = some (.own ds)) : ∃ p vs, σ[i]? = some (some (.ref p)) ∧ H p = some (.lst vs) ∧ TrAll (mask (B.M ++ P) H) vs ds ∧ p ∈ P := by
  obtain ⟨p, vs, h1, h2, h3, h4, h5⟩ := re.own hl h
  exact ⟨p, vs, h1, h4, h5, h2⟩
theorem pop_tr {H : Hp} {vs : List V} {ds : List D} {d : D} (t : TrAll H vs ds) (e : ds[ds.length - 1]? = some d) : ∃ v, vs[vs.length - 1]? = some v ∧ Tr H v d := by
  rw [t.length]
  exact t.get e
theorem sx_pop (i : Nat) {x : Str} {p2 apos cpos : Pos} (hN : X.N[i]? = some x := by rfl) (hlc : C.lc i = true := by rfl) (hv : Vis X.env.scope x := by first | exact Or.inl rfl | exact Or.inr (Or.inl rfl) | exact Or.inr (Or.inr rfl)) (hd : (x == ("__debug__" : Str)) = false := by decide)
    (hcd : (x == ("__classdict__" : Str)) = false := by decide) (hbase : attributeBase (.Name x p2) "pop" X.env (eval (.Name x p2) X.env) = eval (.Name x p2) X.env := by rfl) (hline : (apos.endLine == cpos.line) = true := by rfl) :
    PE X (.Call (.Attribute (.Name x p2) "pop" apos) [] [] cpos) (tX C (mPop i)) :=
  PE.imp (pe_bm0 PySem.F.plainAttrs_list PySem.F.slot_list_pop PySem.F.type_list_pop mt_pop (pe_var (i := i) hN hv hd hcd) hbase hline) fun σ H Q w => by
    obtain ⟨B, P, ρ, hb, re, w⟩ := w
    unfold mPop at w
    split at w
    · rename_i ds e
      split at w
      · rename_i d ed
        obtain ⟨p, vs, h1, h2, h3, h4⟩ := slot_own (hb.lc hlc) re e
        obtain ⟨v, ev, tv⟩ := pop_tr h3 ed
        refine ⟨.ref p, h1, .inl ⟨rfl, vs, SqL.of h2⟩, p, vs, v, rfl, rfl, h2, ev, ?_⟩
        have re' := re.mutOwn (hb.lc hlc) e h1 h2 (TrAll.dropLast h3)
        exact w v _ re' (by rw [mask_upd (List.mem_append_right _ h4)]; exact tv)
      · exact w.elim
    · exact w.elim
def mNilX : CV → Rs (List D × CV) := fun ρ => .ok ([], ρ)
def mConsX (fx : CV → Rs (D × CV)) (fxa : CV → Rs (List D × CV)) : CV → Rs (List D × CV) := fun ρ => (fx ρ).bind fun x => (fxa x.2).bind fun y => .ok (x.1 :: y.1, y.2)
theorem sxa_nil : PA X [] (tXA C mNilX) := PA.imp pa_nil fun σ H Q w => by
  obtain ⟨B, P, ρ, hio, re, w⟩ := w
  exact w [] H re .nil
/-- what was there before stays while lists are popped -/
theorem sxa_cons (ha : PE X e (tX C fx)) (hr : PA X es (tXA C fxa)) (hs : starEach (e :: es) X.env = (false, eval e X.env) :: starEach es X.env := by rfl) : PA X (e :: es) (tXA C (mConsX fx fxa)) := PA.imp (pa_cons ha hr hs) fun σ H Q w => by
  obtain ⟨B, P, ρ, hio, re, w⟩ := w
  refine ⟨B, P, ρ, hio, re, ?_⟩
  unfold mConsX at w
  cases ex : fx ρ with
  | er c => rw [ex] at w; exact w.elim
  | no => rw [ex] at w; exact w.elim
  | ok x =>
    obtain ⟨d, ρ1⟩ := x
    rw [ex] at w
    dsimp only [Rs.bind] at w
    intro v H1 re1 tv
    -- the rest runs from a base here, so that what is no owned list stays
    refine ⟨B.here P H1, P, ρ1, ⟨hio.io, hio.ob⟩, re1.here, ?_⟩
    cases ey : fxa ρ1 with
    | er c => rw [ey] at w; exact w.elim
    | no => rw [ey] at w; exact w.elim
    | ok y =>
      obtain ⟨ds, ρ2⟩ := y
      rw [ey] at w
      intro vs H2 re2 tvs
      refine w (v :: vs) H2 (re1.back re2) (.cons ?_ tvs)
      refine Tr.mono (le_of_keep (P := P) (fun p hp => List.mem_append_right _ hp) (fun a o e hn => re2.keep a o e hn) (fun p hp => .inl hp)) _ _ tv
def mTupX (fxa : CV → Rs (List D × CV)) : CV → Rs (D × CV) := fun ρ => (fxa ρ).bind fun y => if y.1.length ≤ 1000 then .ok (.tuple y.1, y.2) else .no
theorem sx_tup {k : Nat} (ha : PA X es (tXA C fxa)) : PE X (.Tuple es k pos) (tX C (mTupX fxa)) := PE.imp (pe_tup ha) fun σ H Q w => by
  obtain ⟨B, P, ρ, hio, re, w⟩ := w
  refine ⟨B, P, ρ, hio, re, ?_⟩
  unfold mTupX at w
  cases ey : fxa ρ with
  | er c => rw [ey] at w; exact w.elim
  | no => rw [ey] at w; exact w.elim
  | ok y =>
    obtain ⟨ds, ρ1⟩ := y
    rw [ey] at w
    dsimp only [Rs.bind] at w
    intro vs H1 re1 tvs
    split at w
    · rename_i hz
      refine ⟨le_line (by rw [tvs.length]; exact hz), fun p hp => ?_⟩
      have s : Sm H1 (upd H1 p (.tup vs)) := Sm.upd hp
      refine w _ _ (re1.sm s (re1.tab.new hp)) (.tup (by rw [mask_out (lst_ne re1.lst hp), upd_same]) (TrAll.mono (s.mask _) _ _ tvs))
    · exact w.elim
/-- y = x.pop() and the like -/
def sSetX (j : Nat) (fx : CV → Rs (D × CV)) : CV → Out := fun ρ => match fx ρ with
  | .ok (d, ρ') => .nx (ρ'.set j (.val d))
  | _ => .no
theorem not_io {B : Bs} {i : Nat} (hb : Lk B C) (hio : C.ro i = false) : ¬ B.ro i := hb.ro hio
theorem ss_setX (i : Nat) {x : Str} {pos' : Pos} (hN : X.N.Nodup) (he : PE X e (tX C fx)) (hi : X.N[i]? = some x := by rfl) (hx : Loc X.env.scope x := by first | exact Or.inl rfl | exact Or.inr rfl) (hio : C.ro i = false := by rfl) (hs : swapsWith e (some (.Name x pos')) pos.line X.env = pure false := by rfl)
    (hf : X.fn x = true ∨ X.env.scope.names.lookup x = some .local := by first | exact .inl rfl | exact .inr rfl | assumption) :
    PS X (.Assign [.Name x pos'] e pos) (tS C W (sSetX i fx)) := PS.imp (ps_set hN hi hx he hs hf) fun D' σ H h => by
  obtain ⟨B, P, ρ, hb, re, h⟩ := h
  refine ⟨B, P, ρ, hb, re, ?_⟩
  unfold sSetX at h
  cases ef : fx ρ with
  | er c => rw [ef] at h; exact h.elim
  | no => rw [ef] at h; exact h.elim
  | ok y =>
    obtain ⟨d, ρ'⟩ := y
    rw [ef] at h
    exact fun v H1 re1 tv => h P _ H1 (re1.setVal (not_io hb hio) tv)
def sExprX (fx : CV → Rs (D × CV)) : CV → Out := fun ρ => match fx ρ with
  | .ok (_, ρ') => .nx ρ'
  | _ => .no
theorem ss_exprX (he : PE X e (tX C fx)) (hs : swapsWith e none pos.line X.env = pure false := by rfl) : PS X (.Expr e pos) (tS C W (sExprX fx)) := PS.imp (ps_expr he hs) fun D' σ H h => by
  obtain ⟨B, P, ρ, hb, re, h⟩ := h
  refine ⟨B, P, ρ, hb, re, ?_⟩
  unfold sExprX at h
  cases ef : fx ρ with
  | er c => rw [ef] at h; exact h.elim
  | no => rw [ef] at h; exact h.elim
  | ok y =>
    obtain ⟨d, ρ'⟩ := y
    rw [ef] at h
    exact fun v H1 re1 tv => h P _ H1 re1
/-- x.append(e) -/
def sApp (i : Nat) (fx : CV → Rs (D × CV)) : CV → Out := fun ρ => match ρ[i]? with
  | some (.own _) => match fx ρ with
    | .ok (d, ρ') => match ρ'[i]? with
      | some (.own ds) => if ds.length < 1000000 then .nx (ρ'.set i (.own (ds ++ [d]))) else .no
      | _ => .no
    | _ => .no
  | _ => .no
theorem ss_app (i : Nat) {x : Str} {p2 apos cpos : Pos} (ha : PE X e (tX C fx)) (hN : X.N[i]? = some x := by rfl) (hlc : C.lc i = true := by rfl) (hv : Vis X.env.scope x := by first | exact Or.inl rfl | exact Or.inr (Or.inl rfl) | exact Or.inr (Or.inr rfl)) (hd : (x == ("__debug__" : Str)) = false := by decide)
    (hcd : (x == ("__classdict__" : Str)) = false := by decide) (hbase : attributeBase (.Name x p2) "append" X.env (eval (.Name x p2) X.env) = eval (.Name x p2) X.env := by rfl)
    (hfew : ((backTo cpos (starEach [e] X.env)).all (fun x => !x.1) && (backToKw cpos (keywordEach [] X.env)).all (fun x => x.1.isSome) && decide (([e] : List Expr).length + ([] : List Keyword).length + (if ([] : List Keyword).isEmpty then 0 else 1) < 30)) = true := by rfl)
    (hline : (apos.endLine == cpos.line) = true := by rfl) (hs : starEach [e] X.env = (false, eval e X.env) :: starEach [] X.env := by rfl) (hplain : (backTo cpos (starEach [] X.env)).any (·.1) = false := by rfl)
    (hsw : swapsWith (.Call (.Attribute (.Name x p2) "append" apos) [e] [] cpos) none pos.line X.env = pure false := by rfl) : PS X (.Expr (.Call (.Attribute (.Name x p2) "append" apos) [e] [] cpos) pos) (tS C W (sApp i fx)) :=
  PS.imp (ps_expr (pe_bm PySem.F.plainAttrs_list PySem.F.slot_list_append PySem.F.type_list_append mt_append (pe_var (i := i) hN hv hd hcd) (pa_cons ha pa_nil hs) hbase hfew hline hs hplain) hsw) fun D' σ H h => by
    obtain ⟨B, P, ρ, hb, re, h⟩ := h
    unfold sApp at h
    split at h
    · rename_i ds0 e0
      obtain ⟨p, vs, h1, h2, h3, h4⟩ := slot_own (hb.lc hlc) re e0
      refine ⟨.ref p, h1, .inl ⟨rfl, vs, SqL.of h2⟩, B, P, ρ, hb, re, ?_⟩
      cases ef : fx ρ with
      | er c => rw [ef] at h; exact h.elim
      | no => rw [ef] at h; exact h.elim
      | ok y =>
        obtain ⟨d, ρ'⟩ := y
        rw [ef] at h
        dsimp only at h
        intro v H1 re1 tv
        split at h
        · rename_i ds e1
          split at h
          · rename_i hz
            obtain ⟨q, ws, g1, g2, g3, g4⟩ := slot_own (hb.lc hlc) re1 e1
            rw [h1] at g1
            cases g1
            refine ⟨p, ws, v, rfl, rfl, g2, ?_, h P σ _ (re1.mutOwn (hb.lc hlc) e1 h1 g2 (g3.append (.cons tv .nil)))⟩
            rw [g3.length]
            exact Nat.lt_trans hz (by decide)
          · exact h.elim
        · exact h.elim
    · exact h.elim
def sClear (i : Nat) : CV → Out := fun ρ => match ρ[i]? with
  | some (.own _) => .nx (ρ.set i (.own []))
  | _ => .no
theorem ss_clear (i : Nat) {x : Str} {p2 apos cpos : Pos} (hN : X.N[i]? = some x := by rfl) (hlc : C.lc i = true := by rfl) (hv : Vis X.env.scope x := by first | exact Or.inl rfl | exact Or.inr (Or.inl rfl) | exact Or.inr (Or.inr rfl)) (hd : (x == ("__debug__" : Str)) = false := by decide)
    (hcd : (x == ("__classdict__" : Str)) = false := by decide) (hbase : attributeBase (.Name x p2) "clear" X.env (eval (.Name x p2) X.env) = eval (.Name x p2) X.env := by rfl) (hline : (apos.endLine == cpos.line) = true := by rfl)
    (hsw : swapsWith (.Call (.Attribute (.Name x p2) "clear" apos) [] [] cpos) none pos.line X.env = pure false := by rfl) : PS X (.Expr (.Call (.Attribute (.Name x p2) "clear" apos) [] [] cpos) pos) (tS C W (sClear i)) :=
  PS.imp (ps_expr (pe_bm0 PySem.F.plainAttrs_list PySem.F.slot_list_clear PySem.F.type_list_clear mt_clear (pe_var (i := i) hN hv hd hcd) hbase hline) hsw) fun D' σ H h => by
    obtain ⟨B, P, ρ, hb, re, h⟩ := h
    unfold sClear at h
    split at h
    · rename_i ds0 e0
      obtain ⟨p, vs, h1, h2, h3, h4⟩ := slot_own (hb.lc hlc) re e0
      exact ⟨.ref p, h1, .inl ⟨rfl, vs, SqL.of h2⟩, p, vs, rfl, rfl, h2, h P σ _ (re.mutOwn (hb.lc hlc) e0 h1 h2 .nil)⟩
    · exact h.elim
/-- x[k] = e -/
def sSetIx (i : Nat) (fe fk : CV → Rs (D × Md)) : CV → Out := fun ρ => match fe ρ with
  | .ok x => if okEl x = true then (match fk ρ with
    | .ok (.int k, _) => (match ρ[i]? with
      | some (.own ds) => (match ixN ds.length k with
        | some j => .nx (ρ.set i (.own (ds.set j x.1)))
        | none => .no)
      | _ => .no)
    | _ => .no) else .no
  | _ => .no
theorem ss_setIx (i : Nat) {x : Str} {p2 p3 : Pos} {k : Expr} (he : PE X e (tE C W f)) (hk : PE X k (tE C W g)) (hN : X.N[i]? = some x := by rfl) (hlc : C.lc i = true := by rfl) (hv : Vis X.env.scope x := by first | exact Or.inl rfl | exact Or.inr (Or.inl rfl) | exact Or.inr (Or.inr rfl)) (hd : (x == ("__debug__" : Str)) = false := by decide)
    (hcd : (x == ("__classdict__" : Str)) = false := by decide)
    (ha : ∀ v, assign (.Subscript (.Name x p2) k p3) X.env v = (do let ov ← holding [v] (eval (.Name x p2) X.env); let iv ← holding [v, ov] (eval k X.env); standAt p3; holding [v, ov, iv] (setItem ov iv v); release [v, ov, iv] []) := by intro _; rfl)
    (hs : swapsWithSole [.Subscript (.Name x p2) k p3] e pos.line X.env = pure false := by rfl) (hw : swappedStores [.Subscript (.Name x p2) k p3] e X.env = pure none := by rfl)
    (h1 : (assignEach [.Subscript (.Name x p2) k p3] X.env).map (·.2) = [assign (.Subscript (.Name x p2) k p3) X.env] := by rfl) : PS X (.Assign [.Subscript (.Name x p2) k p3] e pos) (tS C W (sSetIx i f g)) :=
  PS.imp (ps_asg he (pg_sub (pe_var (i := i) hN hv hd hcd) hk set_list ha) hs hw h1) fun D' σ H h => by
    obtain ⟨B, P, ρ, hb, re, h⟩ := h
    refine ⟨B, P, ρ, hb, re, ?_⟩
    unfold sSetIx at h
    cases ef : f ρ with
    | er c => rw [ef] at h; exact h.elim
    | no => rw [ef] at h; exact h.elim
    | ok z =>
      obtain ⟨d, m⟩ := z
      rw [ef] at h
      dsimp only at h
      intro v H1 s tb vr
      have re1 := re.sm s tb
      have o1 := VR.ov re.lst vr
      split at h
      · rename_i hok
        cases eg : g ρ with
        | er c => rw [eg] at h; exact h.elim
        | no => rw [eg] at h; exact h.elim
        | ok z2 =>
          obtain ⟨d2, m2⟩ := z2
          rw [eg] at h
          cases d2 <;> try exact h.elim
          rename_i k0
          dsimp only at h
          split at h
          · rename_i ds ed
            split at h
            · rename_i j ej
              obtain ⟨p, vs, g1, g2, g3, g4⟩ := slot_own (hb.lc hlc) re1 ed
              refine ⟨.ref p, g1, B, P, ρ, hb, re1, ?_⟩
              rw [eg]
              intro v2 H2 s2 tb2 vr2
              have re2 := re1.sm s2 tb2
              have e2 := (VR.ov re1.lst vr2).int
              subst e2
              have tv := (o1.sm s2).el re2.lst hok
              have g3' := TrAll.mono (s2.mask (B.M ++ P)) _ _ g3
              refine ⟨p, vs, k0, j, rfl, rfl, s2.lst g2, by rw [g3.length]; exact ej, h P σ _ (re2.mutOwn (hb.lc hlc) ed g1 (s2.lst g2) (TrAll.set j g3' tv))⟩
            · exact h.elim
          · exact h.elim
      · exact h.elim
/-- a, b, .. = a tuple -/
def setAll : List Nat → List D → CV → CV
  | i :: is, d :: ds, ρ => setAll is ds (ρ.set i (.val d))
  | _, _, ρ => ρ
def sUnp (is : List Nat) (f : CV → Rs (D × Md)) : CV → Out := fun ρ => match f ρ with
  | .ok (.tuple ds, m) => if ds.length = is.length ∧ (itCl m = true ∨ lfs ds = true) then .nx (setAll is ds ρ) else .no
  | .er c => .er c ρ
  | _ => .no
/-- the targets of an unpacking: local names -/
inductive UnpT (X : Cx) : List Expr → List Nat → Prop
  | nil : UnpT X [] []
  | cons {x : Str} {p : Pos} {i : Nat} {es : List Expr} {is : List Nat} (hi : X.N[i]? = some x) (hx : Loc X.env.scope x) (hf : X.fn x = true ∨ X.env.scope.names.lookup x = some .local) (r : UnpT X es is) : UnpT X (.Name x p :: es) (i :: is)
def tgU : List Nat → TGs
  | [] => gNil
  | i :: is => gCons (gName i) (tgU is)
theorem unp_pg (hN : X.N.Nodup) : ∀ {es : List Expr} {is : List Nat}, UnpT X es is → PGs X es (tgU is)
  | _, _, .nil => pgs_nil
  | _, _, .cons hi hx hf r => pgs_cons (pg_name hN hi hx hf) (unp_pg hN r)
theorem unp_run {B : Bs} {P : List Addr} {H : Hp} (Qn : St → Hp → Prop) : ∀ (is : List Nat) (ds : List D) (vs : List V) (σ : St) (ρ : CV), (∀ i ∈ is, ¬ B.ro i) → ds.length = is.length → RE C.K C.T B P H σ ρ → TrAll (mask (B.M ++ P) H) vs ds →
    (∀ σ', RE C.K C.T B P H σ' (setAll is ds ρ) → Qn σ' H) → tgU is vs σ H Qn
  | [], [], vs, σ, ρ, _, _, re, t, q => by
    cases t
    exact ⟨rfl, q σ re⟩
  | i :: is, d :: ds, vs, σ, ρ, hi, hl, re, t, q => by
    cases t with
    | cons a t =>
      refine ⟨_, _, rfl, ?_⟩
      exact unp_run Qn is ds _ _ _ (fun j hj => hi j (List.mem_cons_of_mem _ hj)) (by simpa using hl) (re.setVal (hi i List.mem_cons_self) a) t q
  | [], _ :: _, _, _, _, _, hl, _, _, _ => by simp at hl
  | _ :: _, [], _, _, _, _, hl, _, _, _ => by simp at hl
theorem ss_unp (is : List Nat) {k : Nat} {p2 : Pos} (hc : X.calm = true) (hN : X.N.Nodup) (he : PE X e (tE C W f)) (hK : X.K = C.K) (hu : UnpT X es is) (hio : is.all (fun i => !C.ro i) = true := by rfl) (hn : (assignEach es X.env).length = is.length := by rfl)
    (hst : (assignEach es X.env).findIdx? (·.1) = none := by rfl) (hs : swapsWithSole [.Tuple es k p2] e pos.line X.env = pure false := by rfl) (hw : swappedStores [.Tuple es k p2] e X.env = pure none := by rfl)
    (h1 : (assignEach [.Tuple es k p2] X.env).map (·.2) = [assign (.Tuple es k p2) X.env] := by rfl) : PS X (.Assign [.Tuple es k p2] e pos) (tS C W (sUnp is f)) :=
  PS.imp (ps_asg he (pg_tup hc (unp_pg hN hu) hn hst) hs hw h1) fun D' σ H h => by
    obtain ⟨B, P, ρ, hb, re, h⟩ := h
    refine ⟨B, P, ρ, hb, re, ?_⟩
    have hi : ∀ i ∈ is, ¬ B.ro i := fun i m => by
      have := List.all_eq_true.mp hio i m
      refine not_io (C := C) hb ?_
      cases hc : C.ro i
      · rfl
      · rw [hc] at this; cases this
    unfold sUnp at h
    cases ef : f ρ with
    | er c => rw [ef] at h; exact fun A H1 hm s tb => h A P σ H1 hm (re.sm s tb)
    | no => rw [ef] at h; exact h.elim
    | ok z =>
      obtain ⟨d, m⟩ := z
      rw [ef] at h
      intro v H1 s tb vr
      have re1 := re.sm s tb
      have o1 := VR.ov re.lst vr
      cases d <;> try exact h.elim
      dsimp only at h
      split at h
      · rename_i ds hz
        obtain ⟨p, vs, rfl, hsq, t, c⟩ := o1.seqT
        have tc : TrAll (mask (B.M ++ P) H1) vs ds := by
          rcases hz.2 with z | z
          · exact c z
          · exact TrAll.lfMask re1.lst t z
        refine ⟨p, vs, rfl, by rw [hK]; exact hsq, by rw [t.length]; exact hz.1, ?_⟩
        exact unp_run _ is ds vs σ ρ hi hz.1 re1 tc fun σ' re' => h P σ' H1 re'
      · exact h.elim
end
end Eng

set_option Elab.async false
set_option linter.all false
set_option maxRecDepth 100000
set_option maxHeartbeats 1234567
namespace Eng
open PySem PySem.Spec
open PyProof.Rows L2

/-! ### own defs -/
abbrev RF := Rs ((D × Md) × CV)
def fin (o : Out) : RF := match o with
  | .nx ρ => .ok ((.none, .cl), ρ)
  | .rt d m ρ => .ok ((d, m), ρ)
  | .er c _ => .er c
  | .ex c => .er c
  | _ => .no
/-- a def's mirror: n the slots, b the body's -/
def runB (n : Nat) (b : CV → Out) (args : CV) : RF := fin (b (args ++ List.replicate (n - args.length) .un))
section
variable (C : Cf)
def FR (B : Bs) (Q : VK) (E : XK) : RF → Prop
  | .ok ((d, m), ρ') => ∀ P' σ' H' v, RE C.K C.T B P' H' σ' ρ' → RV C.K B P' H' m v d → Q v H'
  | .er c => ∀ A P' σ' H' ρ', C.mg c = some (.ref A) → RE C.K C.T B P' H' σ' ρ' → E (.ref A) none H'
  | .no => False
def spM (n : Nat) (M : CV → RF) : Sp := fun vs H Q E => ∃ B P args, vs.length = n ∧ Lk B C ∧ B.H0 = H ∧ B.ch = B.io.map (·.2) ∧ RE C.K C.T B P H (vs.map some) args ∧ FR C B Q E (M args)
end
section
variable {P : Program} {w : World} {base : Heap} {K : PySem.W.Frag} {mg : Str → Option Value}
theorem map_getD {vs : List V} {i : Nat} {o : Option V} {N : List Str} (h : (vs.map some)[i]? = some o) : (L2.start N vs)[i]? = some o := by
  unfold L2.start
  have hi := (List.getElem?_eq_some_iff.mp h).1
  rw [List.getElem?_append_left hi]
  exact h
theorem RE0.entry {C : Cf} {B : Bs} {P : List Addr} {H : Hp} {vs : List V} {args : CV} {N : List Str} (re : RE0 C.K C.T B P H (vs.map some) args) (hl : vs.length ≤ N.length) : RE0 C.K C.T B P H (L2.start N vs) (args ++ List.replicate (N.length - args.length) .un) := by
  have la : args.length = vs.length := by rw [← re.len, List.length_map]
  have old : ∀ {i : Nat} {c : Cell}, (args ++ List.replicate (N.length - args.length) Cell.un)[i]? = some c → c ≠ .un → args[i]? = some c := fun {i c} h n => by
    by_cases hi : i < args.length
    · rwa [List.getElem?_append_left hi] at h
    · rw [List.getElem?_append_right (by omega), List.getElem?_replicate] at h
      split at h
      · cases h; exact absurd rfl n
      · cases h
  have slot : ∀ {i : Nat} {o : Option V}, (vs.map some)[i]? = some o → (L2.start N vs)[i]? = some o := fun h => map_getD h
  have slotB : ∀ {i : Nat} {c : Cell}, args[i]? = some c → (L2.start N vs)[i]? = (vs.map some)[i]? := fun {i c} h => by
    have hi : i < (vs.map some).length := by rw [re.len]; exact (List.getElem?_eq_some_iff.mp h).1
    unfold L2.start
    rw [List.getElem?_append_left hi]
  refine ⟨?_, fun i d e => ?_, fun i ds e => ?_, fun i d e => ?_, fun i j ds es p hij h1 h2 h3 => ?_, re.keep, re.new, re.lst, re.iol, re.io0, fun q hq => slot (re.ios q hq), fun q hq => ?_, re.tab⟩
  · unfold L2.start
    rw [List.length_append, List.length_map, List.length_replicate, List.length_append, List.length_replicate, la]
  · obtain ⟨v, h1, h2⟩ := re.val i d (old e (fun z => by cases z))
    exact ⟨v, slot h1, h2⟩
  · obtain ⟨p, vs', h1, h2⟩ := re.own i ds (old e (fun z => by cases z))
    exact ⟨p, vs', slot h1, h2⟩
  · obtain ⟨v, h1, h2⟩ := re.fz i d (old e (fun z => by cases z))
    exact ⟨v, slot h1, h2⟩
  · have g1 := old h1 (fun z => by cases z)
    have g2 := old h2 (fun z => by cases z)
    rw [slotB g1] at h3
    rw [slotB g2]
    exact re.sep i j ds es p hij g1 g2 h3
  · obtain ⟨ds, e⟩ := re.ioo q hq
    refine ⟨ds, ?_⟩
    rw [List.getElem?_append_left (List.getElem?_eq_some_iff.mp e).1]
    exact e
theorem RE.entry {C : Cf} {B : Bs} {P : List Addr} {H : Hp} {vs : List V} {args : CV} {N : List Str} (h : B.ob = none) (re : RE C.K C.T B P H (vs.map some) args) (hl : vs.length ≤ N.length) : RE C.K C.T B P H (L2.start N vs) (args ++ List.replicate (N.length - args.length) .un) :=
  .of0 h ((re.to0 h).entry hl)
/-- from a body's outcome to the def's promise -/
theorem body_read {C : Cf} (hob : C.ob = none) {N : List Str} {n : Nat} {b : CV → Out} {vs : List V} {H : Hp} {Q : VK} {E : XK} (hn : n ≤ N.length) (h : spM C n (runB N.length b) vs H Q E) :
    tS C (fun cls d _ H => E cls d H) b { nx := fun _ H' => Q .non H', rt := Q } (L2.start N vs) H := by
  obtain ⟨B, P, args, hl, hio, h0, hch, re, h⟩ := h
  refine ⟨B, P, _, hio, re.entry (hio.ob.trans hob) (by omega), ?_⟩
  unfold runB at h
  cases e : b (args ++ List.replicate (N.length - args.length) .un) with
  | nx ρ => rw [e] at h; exact fun P' σ' H' re' => h P' σ' H' .non re' .non
  | rt d m ρ => rw [e] at h; exact fun P' σ' H' v re' rv => h P' σ' H' v re' rv
  | er c ρ => rw [e] at h; exact fun A P' σ' H' hm re' => h A P' σ' H' ρ hm re'
  | ex c => rw [e] at h; exact fun A P' σ' H' ρ' hm re' => h A P' σ' H' ρ' hm re'
  | bk ρ => rw [e] at h; exact h.elim
  | ct ρ => rw [e] at h; exact h.elim
  | no => rw [e] at h; exact h.elim
theorem fn_ok {C : Cf} {x qual : Str} {st : Stmt} {f : Addr} {fd : FuncData} {N ps : List Str} {k : Nat} {b : CV → Out} (F : Fun K x qual st f fd) (S : FnScope N ps (defScope st)) (hn : ps.length ≤ N.length)
    (body : ∀ (cdv : Value) (A : Around) (outer : List Env) (s : Shared) (H : Hp) (E : XK), Room k (A.deeper (envOfC qual (defScope st) s.heap.objs.size f cdv)) →
      PSs (cxOf (L2.CX P w) P w K mg base N qual (defScope st) f cdv A outer s H E) (defBody st) (tS C (fun cls d _ H => E cls d H) b)) (hob : C.ob = none := by rfl) :
    FnOk P w K mg base (L2.CX P w) (k + 1) f fd ps (spM C ps.length (runB N.length b)) := by
  refine F.okX S (fun vs H Q E h => ?_) (fun cdv A outer s H vs Q E hr h => ⟨_, body cdv A outer s H E hr, ?_⟩)
  · obtain ⟨B, P, args, hl, _⟩ := h
    exact hl
  · exact body_read hob hn h
end

/-! ### calls -/
def toCell (x : D × Md) : Cell := if x.2 = .fz then .fz x.1 else .val x.1
def clA (m : Md) : Bool := match m with | .fr => true | .cl => true | .fz => true | _ => false
def callMd (ac : Bool) (d : D) : Md → Option (D × Md)
  | .fr => match d with
    | .list ds => if ac = true ∨ lfs ds = true then some (.list ds, .fr) else none
    | _ => none
  | .ow => match d with
    | .list ds => if ac = true ∨ lfs ds = true then some (.list ds, .fr) else none
    | _ => none
  | .cl => if ac = true ∨ lf d = true then some (d, .cl) else some (d, .vw)
  | .vw => if lf d = true then some (d, .cl) else some (d, .vw)
  | .fz => none
def mCall (M : CV → RF) (fa : CV → Rs (List (D × Md))) : CV → Rs (D × Md) := fun ρ => (fa ρ).bind fun ds => match M (ds.map toCell) with
  | .ok ((d, m), _) => ofO (callMd (ds.all fun x => clA x.2) d m)
  | .er c => .er c
  | .no => .no
section
variable {X : Cx} {C : Cf} {W : WX} {e a b : Expr} {es : List Expr} {st : Stmt} {rest body : List Stmt} {f g : CV → Rs (D × Md)} {t : CV → Rs Bool} {u w : CV → Out} {fa : CV → Rs (List (D × Md))} {pos : Pos}
theorem OVs.length {K : PySem.W.Frag} {Pm : List Addr} {H : Hp} : ∀ {vs : List V} {ds : List (D × Md)}, OVs K Pm H vs ds → vs.length = ds.length
  | [], [], _ => rfl
  | _ :: _, _ :: _, h => by simp [OVs.length h.2]
  | [], _ :: _, h => h.elim
  | _ :: _, [], h => h.elim
theorem OVs.get {K : PySem.W.Frag} {Pm : List Addr} {H : Hp} : ∀ {vs : List V} {ds : List (D × Md)} {i : Nat} {d : D × Md}, OVs K Pm H vs ds → ds[i]? = some d → ∃ v, vs[i]? = some v ∧ OV K Pm H d.2 v d.1
  | v :: _, d :: _, 0, _, h, e => by simp at e; subst e; exact ⟨v, rfl, h.1⟩
  | _ :: vs, _ :: ds, i + 1, d, h, e => by simpa using OVs.get (i := i) h.2 (by simpa using e)
  | [], [], _, _, _, e => by simp at e
  | [], _ :: _, _, _, h, _ => h.elim
  | _ :: _, [], _, _, h, _ => h.elim
/-- the callee's entry: M the lists that its data must not reach -/
theorem entry_call0 {C : Cf} {Pm M : List Addr} {H : Hp} {vs : List V} {ds : List (D × Md)} (l : Lsts M H) (tb : Tab C.T H) (ov : OVs C.K Pm H vs ds) (cl : ∀ x v, OV C.K Pm H x.2 v x.1 → x.2 ≠ .fz → x ∈ ds → Tr (mask M H) v x.1) :
    RE0 C.K C.T { H0 := H, M := M, io := [], ch := [] } [] H (vs.map some) (ds.map toCell) where
  len := by rw [List.length_map, List.length_map, ov.length]
  val := fun i d e => by
    rw [List.getElem?_map] at e
    obtain ⟨x, ex, ec⟩ := Option.map_eq_some_iff.mp e
    obtain ⟨v, ev, o⟩ := ov.get ex
    refine ⟨v, by rw [List.getElem?_map, ev]; rfl, ?_⟩
    unfold toCell at ec
    split at ec
    · cases ec
    · rename_i n
      cases ec
      rw [List.append_nil]
      exact cl x v o n (List.mem_of_getElem? ex)
  own := fun i d e => by
    rw [List.getElem?_map] at e
    obtain ⟨x, ex, ec⟩ := Option.map_eq_some_iff.mp e
    unfold toCell at ec
    split at ec <;> cases ec
  fz := fun i d e => by
    rw [List.getElem?_map] at e
    obtain ⟨x, ex, ec⟩ := Option.map_eq_some_iff.mp e
    obtain ⟨v, ev, o⟩ := ov.get ex
    refine ⟨v, by rw [List.getElem?_map, ev]; rfl, ?_⟩
    unfold toCell at ec
    split at ec
    · rename_i n
      cases ec
      rw [n] at o
      exact o
    · cases ec
  sep := fun i j d1 d2 p _ e _ _ => by
    rw [List.getElem?_map] at e
    obtain ⟨x, ex, ec⟩ := Option.map_eq_some_iff.mp e
    unfold toCell at ec
    split at ec <;> cases ec
  keep := fun a o e _ => .inl e
  new := fun p hp => by simp at hp
  lst := by rw [List.append_nil]; exact l
  iol := fun p hp => by simp at hp
  io0 := fun p hp => by simp at hp
  ios := fun q hq => by simp at hq
  ioo := fun q hq => by simp at hq
  tab := tb
theorem entry_call {C : Cf} {Pm M : List Addr} {H : Hp} {vs : List V} {ds : List (D × Md)} (l : Lsts M H) (tb : Tab C.T H) (ov : OVs C.K Pm H vs ds) (cl : ∀ x v, OV C.K Pm H x.2 v x.1 → x.2 ≠ .fz → x ∈ ds → Tr (mask M H) v x.1) :
    RE C.K C.T { H0 := H, M := M, io := [], ch := [] } [] H (vs.map some) (ds.map toCell) := .of0 rfl (entry_call0 l tb ov cl)
theorem RE.smOf {K : PySem.W.Frag} {T : List Addr} {B : Bs} {P : List Addr} {H : Hp} {σ : St} {ρ : CV} (re : RE K T B P H σ ρ) (h : B.ch = []) : Sm B.H0 H := fun a o e => re.keep a o e (by rw [h]; simp)
/-- what a call gives back, to the caller -/
theorem call_back {C : Cf} {Pm M : List Addr} {H H' : Hp} {P' : List Addr} {σ' : St} {ρ' : CV} {m : Md} {v : V} {d : D} {z : D × Md} {ac : Bool} (l : Lsts Pm H) (hM : ac = true → M = Pm) (re : RE C.K C.T { H0 := H, M := M, io := [], ch := [] } P' H' σ' ρ') (rv : RV C.K { H0 := H, M := M, io := [], ch := [] } P' H' m v d)
    (e : callMd ac d m = some z) : VR C.K Pm H H' z.2 v z.1 := by
  have sm : Sm H H' := re.smOf rfl
  have l' : Lsts Pm H' := l.sm sm
  have fresh : ∀ {p : Addr} {ds : List D} {vs : List V}, H p = none → H' p = some (.lst vs) → (ac = true → TrAll (mask (p :: Pm) H') vs ds) → TrAll H' vs ds → (ac = true ∨ lfs ds = true) → VR C.K Pm H H' .fr (.ref p) (.list ds) := fun {p ds vs} h0 h1 t1 t2 hc => by
    refine ⟨p, vs, ds, rfl, rfl, h0, h1, ?_⟩
    rcases hc with hc | hc
    · exact t1 hc
    · refine TrAll.lfMask (fun q hq => ?_) t2 hc
      rcases List.mem_cons.mp hq with (rfl | hq)
      · exact ⟨_, h1, .lst⟩
      · exact l' q hq
  cases m with
  | fr =>
    obtain ⟨p, vs, ds, rfl, rfl, h0, h1, h2, h3⟩ := rv
    unfold callMd at e
    dsimp only at e
    split at e
    · rename_i hc
      cases e
      exact fresh h0 h2 (fun z => by
        have := hM z
        subst this
        exact TrAll.mono (mask_anti fun a ha => by
          simp only [List.mem_cons, List.mem_append] at ha ⊢
          rcases ha with z | z
          · exact .inl z
          · exact .inr (.inl z)) _ _ h3) (TrAll.mono mask_le _ _ h3) hc
    · cases e
  | ow =>
    obtain ⟨p, vs, ds, rfl, rfl, h1, h2, _, h4, h5⟩ := rv
    have h0 : H p = none := by
      rcases re.new p h1 with z | z
      · exact absurd z (by simp)
      · exact z
    unfold callMd at e
    dsimp only at e
    split at e
    · rename_i hc
      cases e
      exact fresh h0 h4 (fun z => by
        have := hM z
        subst this
        exact TrAll.mono (mask_anti fun a ha => by
          simp only [List.mem_cons, List.mem_append] at ha ⊢
          rcases ha with z | z
          · rw [z]; exact .inr h1
          · exact .inl z) _ _ h5) (TrAll.mono mask_le _ _ h5) hc
    · cases e
  | cl =>
    have rv : Tr (mask (M ++ P') H') v d := rv
    unfold callMd at e
    dsimp only at e
    split at e
    · rename_i hc
      cases e
      rcases hc with hc | hc
      · have := hM hc
        subst this
        exact Tr.mono (mask_anti fun a ha => List.mem_append_left _ ha) _ _ rv
      · exact Tr.lfMask l' (Tr.mono mask_le _ _ rv) hc
    · cases e
      exact Tr.mono mask_le _ _ rv
  | vw =>
    unfold callMd at e
    dsimp only at e
    split at e
    · rename_i hc
      cases e
      exact Tr.lfMask l' rv hc
    · cases e
      exact rv
  | fz => cases e
/-- a call by a promise: what the arguments' reading is followed by -/
theorem call_core {n : Nat} {M : CV → RF} {σ : St} {H : Hp} {Q : VK} (w : tE C W (mCall M fa) σ H Q) (hn : ∀ ρ ds, fa ρ = .ok ds → ds.length = n) :
    tA C W fa σ H fun vs H1 => spM { C with ios := [], ob := none } n M vs H1 Q (WE W σ) := by
  obtain ⟨B, P, ρ, hio, re, w⟩ := w
  refine ⟨B, P, ρ, hio, re, ?_⟩
  unfold mCall at w
  cases ea : fa ρ with
  | er c => rw [ea] at w; exact w
  | no => rw [ea] at w; exact w
  | ok ds =>
    rw [ea] at w
    dsimp only [Rs.bind] at w
    intro vs H1 s tb ov
    have re1 := re.sm s tb
    cases hac : ds.all fun x => clA x.2 with
    | true =>
      refine ⟨{ H0 := H1, M := B.M ++ P, io := [], ch := [] }, [], ds.map toCell, by rw [ov.length]; exact hn ρ ds ea, ⟨rfl, rfl⟩, rfl, rfl, entry_call re1.lst tb ov (fun x v o nf hx => ?_), ?_⟩
      · have := List.all_eq_true.mp hac x hx
        refine o.clean ?_
        obtain ⟨d, m⟩ := x
        cases m <;> first | rfl | (cases this; done) | exact absurd rfl nf
      · cases em : M (ds.map toCell) with
        | no => rw [em] at w; exact w
        | er c => rw [em] at w; exact fun A P' σ' H' ρ' hm re' => w A H' hm (s.trans (re'.smOf rfl)) re'.tab
        | ok z =>
          obtain ⟨⟨d, m⟩, ρ'⟩ := z
          rw [em] at w
          intro P' σ' H' v re' rv
          dsimp only at w
          rw [hac] at w
          cases ec : callMd true d m with
          | none => rw [ec] at w; exact w.elim
          | some z =>
            rw [ec] at w
            exact w v H' (s.trans (re'.smOf rfl)) re'.tab ((call_back re1.lst (fun _ => rfl) re' rv ec).sm s)
    | false =>
      refine ⟨{ H0 := H1, M := [], io := [], ch := [] }, [], ds.map toCell, by rw [ov.length]; exact hn ρ ds ea, ⟨rfl, rfl⟩, rfl, rfl, entry_call (fun q hq => by simp at hq) tb ov (fun x v o nf hx => by rw [mask_nil]; exact o.tr nf), ?_⟩
      cases em : M (ds.map toCell) with
      | no => rw [em] at w; exact w
      | er c => rw [em] at w; exact fun A P' σ' H' ρ' hm re' => w A H' hm (s.trans (re'.smOf rfl)) re'.tab
      | ok z =>
        obtain ⟨⟨d, m⟩, ρ'⟩ := z
        rw [em] at w
        intro P' σ' H' v re' rv
        dsimp only at w
        rw [hac] at w
        cases ec : callMd false d m with
        | none => rw [ec] at w; exact w.elim
        | some z =>
          rw [ec] at w
          exact w v H' (s.trans (re'.smOf rfl)) re'.tab ((call_back re1.lst (fun z => by cases z) re' rv ec).sm s)
/-- how many arguments -/
inductive LenA : Nat → (CV → Rs (List (D × Md))) → Prop
  | nil : LenA 0 mNil
  | cons {f : CV → Rs (D × Md)} {fa : CV → Rs (List (D × Md))} {n : Nat} : LenA n fa → LenA (n + 1) (mCons f fa)
theorem LenA.len {n : Nat} {fa : CV → Rs (List (D × Md))} (h : LenA n fa) : ∀ ρ ds, fa ρ = .ok ds → ds.length = n := by
  induction h with
  | nil => intro ρ ds e; cases e; rfl
  | @cons f fa n h ih =>
    intro ρ ds e
    unfold mCons at e
    cases ef : f ρ with
    | er c => rw [ef] at e; cases e
    | no => rw [ef] at e; cases e
    | ok x =>
      rw [ef] at e
      cases eg : fa ρ with
      | er c => rw [eg] at e; cases e
      | no => rw [eg] at e; cases e
      | ok xs =>
        rw [eg] at e
        cases e
        rw [List.length_cons, ih ρ xs eg]
theorem se_call {x : Str} {fA : Addr} {fd : FuncData} {ps : List Str} {k k' n : Nat} {M : CV → RF} {p : Pos} (G : FnOk X.prog X.w X.K X.mg X.base (L2.CX X.prog X.w) k fA fd ps (spM { C with ios := [], ob := none } n M)) (hr : Room k' X.A) (tk : Takes X W) (hm : X.mg x = some (.ref fA)) (hk : PySem.W.keepIn X.K (.ref fA) = true) (hb : Binds X.K fd ps [])
    (ha : PA X (e :: es) (tA C W fa)) (hl : LenA n fa) (hkk : k ≤ k' := by decide) (hg : Gl X x := by rfl) (hdb : (x == ("__debug__" : Str)) = false := by decide) (he : starEach (e :: es) X.env = (false, eval e X.env) :: starEach es X.env := by rfl) (hpl : (backTo pos (starEach es X.env)).any (·.1) = false := by rfl) :
    PE X (.Call (.Name x p) (e :: es) [] pos) (tE C W (mCall M fa)) :=
  PE.imp (pe_callS (E := WE W) G (hr.mono hkk) hg hm hk hb (fun σ => passAt tk σ) ha hdb he hpl) fun σ H Q w => call_core w hl.len

/-! ### raise -/
def sRaise (c : Str) : CV → Out := fun ρ => .er c ρ
theorem ss_raise {c m : Str} {j : Nat} {Ca : Addr} {bmB : List Value} {Bn newId initId : String} {p p2 p3 : Pos} (hc : X.calm = true) (tk : Takes X W) (F : ExcBaseFacts Bn newId initId bmB) (q : PySem.W.excIn X.K Ca bmB newId = true) (gC : X.mg c = some (.ref Ca)) (kC : PySem.W.keepIn X.K (.ref Ca) = true)
    (r : Raises X (.ref Ca)) (hmg : X.mg = C.mg) (hg : Gl X c := by rfl) (hdb : (c == ("__debug__" : Str)) = false := by decide) : PS X (.Raise (some (.Call (.Name c p) [.Constant (.str m) j p2] [] p3)) none pos) (tS C W (sRaise c)) :=
  PS.imp (ps_raise hc tk (pmk_own F q gC kC r hg hdb)) fun D' σ H h => by
    obtain ⟨B, P, ρ, hb, re, h⟩ := h
    exact h Ca P σ H (by rw [← hmg]; exact gC) re
def sRaiseA (c : Str) (fa : CV → Rs (List (D × Md))) : CV → Out := fun ρ => match fa ρ with
  | .ok ds => if ds.length ≤ 1000 then .er c ρ else .no
  | .er c => .er c ρ
  | .no => .no
theorem ss_raiseA {c : Str} {Ca : Addr} {bmB : List Value} {Bn newId initId : String} {p p3 : Pos} (hc : X.calm = true) (tk : Takes X W) (F : ExcBaseFacts Bn newId initId bmB) (q : PySem.W.excIn X.K Ca bmB newId = true) (gC : X.mg c = some (.ref Ca)) (kC : PySem.W.keepIn X.K (.ref Ca) = true)
    (r : Raises X (.ref Ca)) (hmg : X.mg = C.mg) (ha : PA X (e :: es) (tA C W fa)) (hg : Gl X c := by rfl) (hdb : (c == ("__debug__" : Str)) = false := by decide) (he : starEach (e :: es) X.env = (false, eval e X.env) :: starEach es X.env := by rfl) (hpl : (backTo p3 (starEach es X.env)).any (·.1) = false := by rfl) :
    PS X (.Raise (some (.Call (.Name c p) (e :: es) [] p3)) none pos) (tS C W (sRaiseA c fa)) :=
  PS.imp (ps_raise hc tk (pmk_ownA F q gC kC r hg ha hdb he hpl)) fun D' σ H h => by
    obtain ⟨B, P, ρ, hb, re, h⟩ := h
    refine ⟨B, P, ρ, hb, re, ?_⟩
    unfold sRaiseA at h
    cases ea : fa ρ with
    | er c => rw [ea] at h; exact fun A H1 hm s t => h A P σ H1 hm (re.sm s t)
    | no => rw [ea] at h; exact h
    | ok ds =>
      rw [ea] at h
      dsimp only at h
      intro vs H1 s tb ov
      split at h
      · rename_i hz
        exact ⟨le_line (by rw [ov.length]; exact hz), h Ca P σ H1 (by rw [← hmg]; exact gC) (re.sm s tb)⟩
      · exact h.elim

/-! ### try -/
/-- names: the errors that may come; sub: which of them the clause takes -/
def sTry (names : List Str) (sub : Str → Bool) (u w : CV → Out) : CV → Out := fun ρ => match u ρ with
  | .er c ρ' => if names.contains c then (if sub c then (match w ρ' with | .er _ _ => .no | .ex _ => .no | o => o) else .er c ρ') else .no
  | .ex _ => .no
  | o => o
theorem SR_w0 {D' : Ends} {B : Bs} {o : Out} (h : SR C W D' B (match o with | .er _ _ => .no | .ex _ => .no | o => o)) : SR C W0 D' B o := by
  cases o <;> first | exact h | exact h.elim
theorem ss_try1 {x : Str} {cv : Value} {b₀ : Stmt} {suite : List Stmt} {np pos' : Pos} (names : List Str) (sub : Str → Bool) (hs : X.stack = X.env :: X.outer) (hf : X.env.frame = some X.env.locals) (hc : Names X x cv) (tk : Takes X W)
    (hsub : ∀ c A, c ∈ names → C.mg c = some (.ref A) → PySem.W.exmOne X.K (.ref A) cv = some (sub c))
    (hb : ∀ (W : WX) (pn : List (Addr × Obj)) (xe : Value → Shared → Prop), Takes (X.tr pn xe) W → PassesOwn (model X.prog X.w) X.A X.env xe → PSs (X.tr pn xe) body (tS C W u))
    (hsu : ∀ (a : Addr) (oe : Obj) (cls : Value) (d : Option Addr) (pn : List (Addr × Obj)), Zc cls d oe → (∃ vs, oe.data = .fields vs) → PSs (X.suite a ((a, oe) :: pn)) (b₀ :: suite) (tS C W0 w)) :
    PS X (.Try body [.ExceptHandler (some (.Name x np)) none (b₀ :: suite) pos'] [] [] pos) (tS C W (sTry names sub u w)) :=
  PS.imp (ps_try_only (tb := fun W => tS C W u) (ts := fun _ _ _ => tS C W0 w) hs hf hc tk hb hsu) fun D' σ H h => by
    obtain ⟨B, P, ρ, hio, re, h⟩ := h
    refine ⟨B, P, ρ, hio, re, ?_⟩
    unfold sTry at h
    cases eu : u ρ with
    | nx ρ' => rw [eu] at h; exact h
    | rt d m ρ' => rw [eu] at h; exact h
    | bk ρ' => rw [eu] at h; exact h
    | ct ρ' => rw [eu] at h; exact h
    | no => rw [eu] at h; exact h
    | ex c => rw [eu] at h; exact h.elim
    | er c ρ' =>
      rw [eu] at h
      dsimp only at h
      intro A P' σ' H' hm re'
      split at h
      · rename_i hn
        refine ⟨sub c, hsub c A (List.contains_iff_mem.mp hn) hm, fun hs a ha => ?_, fun hs => ?_⟩
        · rw [hs, if_pos rfl] at h
          exact ⟨B, P', ρ', hio, re', SR_w0 h⟩
        · rw [hs, if_neg Bool.false_ne_true] at h
          exact h A P' σ' H' hm re'
      · exact h.elim
end
end Eng

set_option Elab.async false
set_option linter.all false
set_option maxRecDepth 100000
set_option maxHeartbeats 1234567
namespace Eng
open PySem PySem.Spec
open PyProof.Rows L2

/-! ### a def, as its callers know it -/
structure Cal (P : Program) (w : World) (K : PySem.W.Frag) (mg : Str → Option Value) (base : Heap) (T : List Addr) (x : Str) (n k : Nat) (M : CV → RF) : Prop where
  ex : ∃ (f : Addr) (fd : FuncData) (ps : List Str), FnOk P w K mg base (L2.CX P w) k f fd ps (spM { K := K, T := T, mg := mg, ios := [] } n M) ∧ mg x = some (.ref f) ∧ PySem.W.keepIn K (.ref f) = true ∧ Binds K fd ps []
theorem Cal.of {P : Program} {w : World} {K : PySem.W.Frag} {mg : Str → Option Value} {base : Heap} {T : List Addr} {x qual : Str} {st : Stmt} {f : Addr} {fd : FuncData} {n k : Nat} {M : CV → RF} {C : Cf} {ps : List Str} (hC : C = { K := K, T := T, mg := mg, ios := [] })
    (F : Fun K x qual st f fd) (hm : mg x = some (.ref f)) (hb : Binds K fd ps []) (h : FnOk P w K mg base (L2.CX P w) k f fd ps (spM C n M)) : Cal P w K mg base T x n k M := ⟨f, fd, ps, hC ▸ h, hm, F.kp, hb⟩
section
variable {X : Cx} {C : Cf} {W : WX} {e a b : Expr} {es : List Expr} {fa : CV → Rs (List (D × Md))} {pos : Pos}
theorem se_callC {x : Str} {k k' n : Nat} {M : CV → RF} {p : Pos} (G : Cal X.prog X.w X.K X.mg X.base C.T x n k M) (hr : Room k' X.A) (tk : Takes X W) (ha : PA X (e :: es) (tA C W fa)) (hl : LenA n fa) (hC : { C with ios := [], ob := none } = { K := X.K, T := C.T, mg := X.mg, ios := [], ob := none : Cf } := by rfl)
    (hkk : k ≤ k' := by decide) (hg : Gl X x := by rfl) (hdb : (x == ("__debug__" : Str)) = false := by decide) (he : starEach (e :: es) X.env = (false, eval e X.env) :: starEach es X.env := by rfl) (hpl : (backTo pos (starEach es X.env)).any (·.1) = false := by rfl) :
    PE X (.Call (.Name x p) (e :: es) [] pos) (tE C W (mCall M fa)) := by
  obtain ⟨f, fd, ps, h1, h2, h3, h4⟩ := G.ex
  exact se_call (hC ▸ h1) hr tk h2 h3 h4 ha hl hkk hg hdb he hpl
/-- a global that was written: a list or tuple -/
structure GlobF (K : PySem.W.Frag) (mg : Str → Option Value) (x : Str) (d : D) : Prop where
  ex : ∃ A : Addr, mg x = some (.ref A) ∧ ∀ H, Fz K H (.ref A) d
theorem se_globFx {x : Str} {d : D} (h : GlobF X.K X.mg x d) (hK : C.K = X.K := by rfl) (hg : Gl X x := by rfl) (hd : (x == ("__debug__" : Str)) = false := by decide) : PE X (.Name x pos) (tE C W (mFz d)) := by
  obtain ⟨A, h1, h2⟩ := h.ex
  exact se_globF h1 (hK ▸ h2) hg hd
/-- list(zip(a, b)) -/
def hListZip : List (D × Md) → Option (D × Md)
  | [(.tuple xs, m), (.tuple ys, m2)] => if (itCl m = true ∨ lfs xs = true) ∧ (itCl m2 = true ∨ lfs ys = true) ∧ xs.length ≤ 1000 then some (.list ((xs.zip ys).map fun p => .tuple [p.1, p.2]), .fr) else none
  | _ => none
end
end Eng

set_option Elab.async false
set_option linter.all false
set_option maxRecDepth 100000
set_option maxHeartbeats 1234567
namespace Eng
open PySem PySem.Spec
open PyProof.Rows L2

/-! ### list(zip(a, b)) of two tuples -/
section
variable {prog : Program} {w : World} {A : Around} {E : Value → Shared → Prop} {s : Shared} {z TI TO T i1 i2 l1 l2 : Addr} {f : Bool} {oT : Obj} {k : Nat} {xs ys : Array Value} {x y : Value}
/-- the zip's next step while its first tuple is still held -/
theorem held_item {Q : Option Value → Shared → Prop} (D : ZipApart z TI TO i1 i2 l1 l2) (hz : IsZipHeld s.heap z TI TO T f) (alive : s.heap.get? T = some oT) (pr : IsPair s.heap TI (.ref i1) (.ref i2))
    (c1 : s.heap.IsTupleIter i1 l1 k) (c2 : s.heap.IsTupleIter i2 l2 k) (m1 : s.heap.IsTuple l1 xs) (m2 : s.heap.IsTuple l2 ys) (hx : xs[k]? = some x) (hy : ys[k]? = some y)
    (go : ∀ hp, IsZipHeld hp z TI TO T true → hp.IsTupleIter i1 l1 (k + 1) → hp.IsTupleIter i2 l2 (k + 1) → IsPair hp s.heap.objs.size x y → hp.objs.size = s.heap.objs.size + 1 → (∀ c o, c ∉ [z, i1, i2] → s.heap.get? c = some o → hp.get? c = some o) → Q (some (.ref s.heap.objs.size)) { s with heap := hp }) :
    (wpAny (model prog w) A (pyNext (.ref z)) Q E s) := by
  have ty : s.TypeIs (.ref z) "zip" := ⟨_, hz, rfl⟩
  unfold pyNext
  refine wpAny_bind (wpAny_attempt (wpAny_callSpecial?_slot (name := Str.ofString "__next__") ty F.slot_zip_next (wpAny_call_entry F.slot_zip_next ty F.entry_zip_next ?_ (F.args_zip_next_1 _))))
  show wpAny _ _ (field (.ref z) 2 >>= fun _ => _) _ _ _
  refine wpAny_bind (wpAny_field hz rfl (x := .bool false) rfl (show wpAny _ _ (field (.ref z) 3 >>= fun _ => _) _ _ _ from wpAny_bind (wpAny_field hz rfl (x := .ref TI) rfl (wpAny_bind (wpAny_seqItems pr rfl (show wpAny _ _ (Builtin.SmallTypes.ownedTupleIsFree (.ref z) >>= fun _ => _) _ _ _ from wpAny_bind (wpAny_tupleHeld_zip hz alive fun ha za sa => ?_)))))))
  (simp only [Bool.false_eq_true, if_false])
  refine wpAny_bind (?_ : wpAny _ _ _ _ _ _)
  simp only [← Array.forIn_toList, List.forIn_cons, List.forIn_nil]
  refine wpAny_bind (wpAny_bind (wpAny_holding (show wpAny _ _ (Builtin.SmallTypes.nextOf (.ref i1) >>= fun _ => _) _ _ _ from wpAny_bind (RZ.nextOf_tuple_item (s := { s with heap := ha }) (c1.extBut sa.extBut D.i1z) (m1.extBut sa.extBut D.l1z) hx fun hb b1 sb => wpAny_pure (wpAny_pure ?_)))))
  refine wpAny_bind (wpAny_bind (wpAny_holding (show wpAny _ _ (Builtin.SmallTypes.nextOf (.ref i2) >>= fun _ => _) _ _ _ from wpAny_bind (RZ.nextOf_tuple_item (s := { s with heap := hb }) ((c2.extBut sa.extBut D.i2z).extBut sb.extBut D.i12.symm) ((m2.extBut sa.extBut D.l2z).extBut sb.extBut D.l2i1) hy fun hc b2 sc => wpAny_pure (wpAny_pure (wpAny_pure ?_))))))
  show wpAny _ _ (newTuple [x, y] >>= fun _ => _) _ _ _
  have size : hc.objs.size = s.heap.objs.size := sc.1.trans (sb.1.trans sa.1)
  have kept : ∀ c o, c ∉ [z, i1, i2] → s.heap.get? c = some o → hc.get? c = some o := fun c o n e => by
    simp only [List.mem_cons, List.not_mem_nil, or_false, not_or] at n
    exact sc.extBut c o n.2.2 (sb.extBut c o n.2.1 (sa.extBut c o n.1 e))
  have zc : IsZipHeld hc z TI TO T true := sc.extBut _ _ D.i2z.symm (sb.extBut _ _ D.i1z.symm za)
  refine wpAny_bind (wpAny_newTuple (wpAny_pure ⟨_, rfl, ?_⟩))
  have up : ∀ c o, hc.get? c = some o → (hc.push { cls := .type "tuple", data := .seq #[x, y] }).get? c = some o := fun c o e => Heap.get?_push_of_some _ e
  have new : IsPair (hc.push { cls := .type "tuple", data := .seq #[x, y] }) hc.objs.size x y := Heap.get?_push_size _ rfl
  have more : (hc.push { cls := .type "tuple", data := .seq #[x, y] }).objs.size = hc.objs.size + 1 := Heap.size_push ..
  have fin := go (hc.push { cls := .type "tuple", data := .seq #[x, y] }) (up _ _ zc) ((b1.extBut sc.extBut D.i12).at fun o e => up _ o e) (b2.at fun o e => up _ o e) (size ▸ new) (by rw [more, size]) fun c o n e => up c o (kept c o n e)
  rw [← size] at fin
  exact wpAny_pure fin
theorem held_end {Q : Option Value → Shared → Prop} (hh : A.handled = none) (D : ZipApart z TI TO i1 i2 l1 l2) (hz : IsZipHeld s.heap z TI TO T f) (alive : s.heap.get? T = some oT) (pr : IsPair s.heap TI (.ref i1) (.ref i2))
    (c1 : s.heap.IsTupleIter i1 l1 k) (c2 : s.heap.IsTupleIter i2 l2 k) (m1 : s.heap.IsTuple l1 xs) (m2 : s.heap.IsTuple l2 ys) (stop : xs[k]? = none ∨ ys[k]? = none)
    (go : ∀ hp, (∀ c o, c ∉ [z, i1, i2] → s.heap.get? c = some o → hp.get? c = some o) → Q none { s with heap := hp }) : wpAny (model prog w) A (pyNext (.ref z)) Q E s := by
  have ty : s.TypeIs (.ref z) "zip" := ⟨_, hz, rfl⟩
  unfold pyNext
  refine wpAny_bind (wpAny_attempt (wpAny_callSpecial?_slot (name := Str.ofString "__next__") ty F.slot_zip_next (wpAny_call_entry F.slot_zip_next ty F.entry_zip_next ?_ (F.args_zip_next_1 _))))
  show wpAny _ _ (field (.ref z) 2 >>= fun _ => _) _ _ _
  refine wpAny_bind (wpAny_field hz rfl (x := .bool false) rfl (show wpAny _ _ (field (.ref z) 3 >>= fun _ => _) _ _ _ from wpAny_bind (wpAny_field hz rfl (x := .ref TI) rfl (wpAny_bind (wpAny_seqItems pr rfl (show wpAny _ _ (Builtin.SmallTypes.ownedTupleIsFree (.ref z) >>= fun _ => _) _ _ _ from wpAny_bind (wpAny_tupleHeld_zip hz alive fun ha za sa => ?_)))))))
  (simp only [Bool.false_eq_true, if_false])
  refine wpAny_bind (?_ : wpAny _ _ _ _ _ _)
  simp only [← Array.forIn_toList, List.forIn_cons, List.forIn_nil]
  have out : ∀ {sx : Shared} {e : Addr} {M : Model} {A2 : Around} {E2 : Value → Shared → Prop} {g : Bool → Sem (Option Value)}, (∃ o, sx.heap.get? e = some o ∧ o.cls = .type "StopIteration") → wpAny M A2 (g true) Q E2 sx → wpAny M A2 (isInstance (.ref e) (.type "StopIteration") >>= g) Q E2 sx := fun ⟨o, h1, h2⟩ h => wpAny_bind (wpAny_isInstance (T := "StopIteration") (b := true) ⟨o, h1, h2⟩ isSubtype_stop h)
  cases h : xs[k]? with
  | none =>
    refine wpAny_bind (wpAny_bind (wpAny_holding (show wpAny _ _ (Builtin.SmallTypes.nextOf (.ref i1) >>= fun _ => _) _ _ _ from wpAny_bind (RZ.nextOf_tuple_end (s := { s with heap := ha }) hh (c1.extBut sa.extBut D.i1z) (m1.extBut sa.extBut D.l1z) h fun hb e sb ex => out ex (wpAny_pure (go hb fun c o n q => ?_))))))
    simp only [List.mem_cons, List.not_mem_nil, or_false, not_or] at n
    exact sb c o n.2.1 (sa.extBut c o n.1 q)
  | some x =>
    have hy : ys[k]? = none := stop.resolve_left (by rw [h]; simp)
    refine wpAny_bind (wpAny_bind (wpAny_holding (show wpAny _ _ (Builtin.SmallTypes.nextOf (.ref i1) >>= fun _ => _) _ _ _ from wpAny_bind (RZ.nextOf_tuple_item (s := { s with heap := ha }) (c1.extBut sa.extBut D.i1z) (m1.extBut sa.extBut D.l1z) h fun hb b1 sb => wpAny_pure (wpAny_pure ?_)))))
    refine wpAny_bind (wpAny_bind (wpAny_holding (show wpAny _ _ (Builtin.SmallTypes.nextOf (.ref i2) >>= fun _ => _) _ _ _ from wpAny_bind (RZ.nextOf_tuple_end (s := { s with heap := hb }) hh ((c2.extBut sa.extBut D.i2z).extBut sb.extBut D.i12.symm) ((m2.extBut sa.extBut D.l2z).extBut sb.extBut D.l2i1) hy fun hc e sc ex => out ex (wpAny_pure (go hc fun c o n q => ?_))))))
    simp only [List.mem_cons, List.not_mem_nil, or_false, not_or] at n
    exact sc c o n.2.2 (sb.extBut c o n.2.1 (sa.extBut c o n.1 q))
/-- the zip before its k-th item -/
def Zs (z TI TO i1 i2 l1 l2 : Addr) (h : Heap) (k : Nat) : Prop := h.IsTupleIter i1 l1 k ∧ h.IsTupleIter i2 l2 k ∧ IsPair h TI (.ref i1) (.ref i2) ∧ (∃ oO, h.get? TO = some oO) ∧
  ((IsZip h z TI TO .none ∧ ∃ a b, IsPair h TO a b) ∨ ∃ T f oT, IsZipHeld h z TI TO T f ∧ h.get? T = some oT ∧ T ∉ [z, TI, TO, i1, i2])
theorem Zs.kept {h h' : Heap} (st : Zs z TI TO i1 i2 l1 l2 h k) (kp : ∀ b o, h.get? b = some o → h'.get? b = some o) : Zs z TI TO i1 i2 l1 l2 h' k := by
  obtain ⟨a1, a2, a3, ⟨oO, a5⟩, a4⟩ := st
  refine ⟨a1.at fun o e => kp _ o e, a2.at fun o e => kp _ o e, kp _ _ a3, ⟨oO, kp _ _ a5⟩, ?_⟩
  rcases a4 with ⟨b1, x, y, b2⟩ | ⟨T, f, oT, b1, b2, b3⟩
  · exact .inl ⟨kp _ _ b1, x, y, kp _ _ b2⟩
  · exact .inr ⟨T, f, oT, kp _ _ b1, kp _ _ b2, b3⟩
theorem znext_item {Q : Option Value → Shared → Prop} (D : ZipApart z TI TO i1 i2 l1 l2) (st : Zs z TI TO i1 i2 l1 l2 s.heap k) (m1 : s.heap.IsTuple l1 xs) (m2 : s.heap.IsTuple l2 ys) (hx : xs[k]? = some x) (hy : ys[k]? = some y)
    (go : ∀ hp, Zs z TI TO i1 i2 l1 l2 hp (k + 1) → IsPair hp s.heap.objs.size x y → hp.objs.size = s.heap.objs.size + 1 → (∀ c o, c ∉ [z, TI, TO, i1, i2] → s.heap.get? c = some o → hp.get? c = some o) → Q (some (.ref s.heap.objs.size)) { s with heap := hp }) :
    (wpAny (model prog w) A (pyNext (.ref z)) Q E s) := by
  obtain ⟨a1, a2, a3, ⟨oO, a5⟩, a4⟩ := st
  have nin : s.heap.objs.size ∉ [z, TI, TO, i1, i2] ∨ ¬ (TO < s.heap.objs.size) := by
    by_cases h : TO < s.heap.objs.size
    · left
      have b1 : z < s.heap.objs.size := by
        rcases a4 with ⟨q, _⟩ | ⟨_, _, _, q, _⟩ <;> exact Heap.lt_size q
      have b2 : TI < s.heap.objs.size := Heap.lt_size a3
      have b3 : i1 < s.heap.objs.size := by obtain ⟨_, q, _⟩ := a1; exact Heap.lt_size q
      have b4 : i2 < s.heap.objs.size := by obtain ⟨_, q, _⟩ := a2; exact Heap.lt_size q
      simp only [List.mem_cons, List.not_mem_nil, or_false, not_or]
      exact ⟨Nat.ne_of_gt b1, Nat.ne_of_gt b2, Nat.ne_of_gt h, Nat.ne_of_gt b3, Nat.ne_of_gt b4⟩
    · exact .inr h
  rcases a4 with ⟨b1, p, q, b2⟩ | ⟨T, f, oT, b1, b2, b3⟩
  · refine RZ.pyNext_zipT_item D b1 a3 b2 a1 a2 m1 m2 hx hy fun hp n1 n2 n3 n4 n5 n6 n7 => go hp ⟨n3, n4, n7 _ _ D.TIz D.TITO D.TIi1 D.TIi2 a3, ⟨_, n2⟩, .inr ⟨s.heap.objs.size, false, _, n1, n5, nin.resolve_right fun z => z (Heap.lt_size b2)⟩⟩ n5 n6 fun c o n e => ?_
    simp only [List.mem_cons, List.not_mem_nil, or_false, not_or] at n
    exact n7 c o n.1 n.2.2.1 n.2.2.2.1 n.2.2.2.2 e
  · refine held_item D b1 b2 a3 a1 a2 m1 m2 hx hy fun hp n1 n2 n3 n4 n5 n6 => go hp ⟨n2, n3, n6 _ _ (by simp only [List.mem_cons, List.not_mem_nil, or_false, not_or]; exact ⟨D.TIz, D.TIi1, D.TIi2⟩) a3, ⟨_, n6 _ _ (by simp only [List.mem_cons, List.not_mem_nil, or_false, not_or]; exact ⟨D.TOz, D.TOi1, D.TOi2⟩) a5⟩, .inr ⟨T, true, oT, n1, n6 _ _ ?_ b2, b3⟩⟩ n4 n5 fun c o n e => n6 c o ?_ e
    · simp only [List.mem_cons, List.not_mem_nil, or_false, not_or] at b3 ⊢
      exact ⟨b3.1, b3.2.2.2.1, b3.2.2.2.2⟩
    · simp only [List.mem_cons, List.not_mem_nil, or_false, not_or] at n ⊢
      exact ⟨n.1, n.2.2.2.1, n.2.2.2.2⟩
theorem znext_end {Q : Option Value → Shared → Prop} (hh : A.handled = none) (D : ZipApart z TI TO i1 i2 l1 l2) (st : Zs z TI TO i1 i2 l1 l2 s.heap k) (m1 : s.heap.IsTuple l1 xs) (m2 : s.heap.IsTuple l2 ys) (stop : xs[k]? = none ∨ ys[k]? = none)
    (go : ∀ hp, (∀ c o, c ∉ [z, TI, TO, i1, i2] → s.heap.get? c = some o → hp.get? c = some o) → Q none { s with heap := hp }) : wpAny (model prog w) A (pyNext (.ref z)) Q E s := by
  obtain ⟨a1, a2, a3, _, a4⟩ := st
  rcases a4 with ⟨b1, p, q, b2⟩ | ⟨T, f, oT, b1, b2, b3⟩
  · refine RZ.pyNext_zipT_end hh D b1 a3 b2 a1 a2 m1 m2 stop fun hp n7 => go hp fun c o n e => ?_
    simp only [List.mem_cons, List.not_mem_nil, or_false, not_or] at n
    exact n7 c o n.1 n.2.2.1 n.2.2.2.1 n.2.2.2.2 e
  · refine held_end hh D b1 b2 a3 a1 a2 m1 m2 stop fun hp n6 => go hp fun c o n e => n6 c o ?_ e
    simp only [List.mem_cons, List.not_mem_nil, or_false, not_or] at n ⊢
    exact ⟨n.1, n.2.2.2.1, n.2.2.2.2⟩
end
theorem Zs.upd {h : Heap} {z TI TO i1 i2 l1 l2 q : Addr} {k : Nat} {g : Obj → Obj} {o : Obj} (st : Zs z TI TO i1 i2 l1 l2 h k) (n : q ∉ [z, TI, TO, i1, i2]) (hq : h.get? q = some o) (alive : ∃ o2, (h.update q g).get? q = some o2) : Zs z TI TO i1 i2 l1 l2 (h.update q g) k := by
  have kp : ∀ b, b ≠ q → (h.update q g).get? b = h.get? b := fun b ne => Heap.get?_update_other _ _ (Ne.symm ne)
  simp only [List.mem_cons, List.not_mem_nil, or_false, not_or] at n
  obtain ⟨a1, a2, a3, ⟨oO, a5⟩, a4⟩ := st
  refine ⟨a1.at fun o e => (kp _ (Ne.symm n.2.2.2.1)).trans e, a2.at fun o e => (kp _ (Ne.symm n.2.2.2.2)).trans e, (kp _ (Ne.symm n.2.1)).trans a3, ⟨oO, (kp _ (Ne.symm n.2.2.1)).trans a5⟩, ?_⟩
  rcases a4 with ⟨b1, x, y, b2⟩ | ⟨T, f, oT, b1, b2, b3⟩
  · exact .inl ⟨(kp _ (Ne.symm n.1)).trans b1, x, y, (kp _ (Ne.symm n.2.2.1)).trans b2⟩
  · by_cases e : T = q
    · obtain ⟨o2, e2⟩ := alive
      exact .inr ⟨T, f, o2, (kp _ (Ne.symm n.1)).trans b1, by rw [e]; exact e2, b3⟩
    · exact .inr ⟨T, f, oT, (kp _ (Ne.symm n.1)).trans b1, (kp _ e).trans b2, b3⟩
/-- the pairs that stand in the list so far -/
def Items (H : Hp) (q : Addr) (xs ys acc : List V) : Prop := ∀ i, i < acc.length → ∃ T x y, acc[i]? = some (.ref T) ∧ xs[i]? = some x ∧ ys[i]? = some y ∧ H T = some (.tup [x, y]) ∧ T ≠ q
section
variable {X : Cx} {pins : List (Addr × Obj)} {σ : L2.St} {A1 : Around} {Rs : Result → Shared → Prop} {q z TI TO i1 i2 l1 l2 : Addr} {xs ys : List V} {H0 : Hp}
theorem zloop (hh : A1.handled = none) (D : ZipApart z TI TO i1 i2 l1 l2) (hlen : xs.length ≤ 1000)
    (fin : ∀ H acc s, Inv X pins σ H s → (∀ b o, H0 b = some o → H b = some o) → H q = some (.lst acc) → Items H q xs ys acc → (acc.length = xs.length ∨ acc.length = ys.length) → Rs (.ok (.ret .none)) s) :
    ∀ (m : Nat) (acc : List V) (H : Hp) (s : Shared), xs.length - acc.length = m → Inv X pins σ H s → (∀ b o, H0 b = some o → H b = some o) → H0 q = none → H q = some (.lst acc) → SqT X.K H0 l1 xs → SqT X.K H0 l2 ys → Items H q xs ys acc → acc.length ≤ xs.length → acc.length ≤ ys.length →
      (∀ b ∈ [z, TI, TO, i1, i2], FpOk X pins H b) → Zs z TI TO i1 i2 l1 l2 s.heap acc.length → codeAny (model X.prog X.w) A1 (.builtin "list.extend.loop" ⟨[.ref q, .ref z, .none], []⟩) Rs s := by
  intro m
  induction m using (Nat.strongRecOn) with
  | _ m ih =>
    intro acc H s hm I ext q0 hq t1 t2 its nx ny hf st
    have sq : ∀ {l : Addr} {vs : List V}, SqT X.K H0 l vs → SqT X.K H l vs := fun {l vs} h => by
      rcases h with ((h | ⟨o, h⟩) | h)
      · exact .inl (.inl (ext _ _ h))
      · exact .inl (.inr ⟨o, ext _ _ h⟩)
      · exact .inr h
    obtain ⟨js, rv, m1, _⟩ := I.tuple (sq t1)
    obtain ⟨js2, rv2, m2, _⟩ := I.tuple (sq t2)
    have lx := rv.length
    have ly := rv2.length
    have qf : q ∉ [z, TI, TO, i1, i2] := fun h => by
      have := (hf q h).1
      rw [hq] at this
      cases this
    apply codeAny_builtin PySem.F.entry_extend_loop
    (rw [Around.under_plainId PySem.F.plain_extend_loop _])
    show wpAny _ A1.in1 (pyNext (.ref z) >>= fun _ => _) _ _ s
    by_cases hlt : acc.length < xs.length ∧ acc.length < ys.length
    · have gx := List.getElem?_eq_getElem hlt.1
      have gy := List.getElem?_eq_getElem hlt.2
      generalize xs[acc.length] = vx at gx
      generalize ys[acc.length] = vy at gy
      obtain ⟨u, hu, ru⟩ := rv.get gx
      obtain ⟨u2, hu2, ru2⟩ := rv2.get gy
      refine wpAny_bind (znext_item D st m1 m2 (x := u) (y := u2) (by simpa using hu) (by simpa using hu2) fun hp st2 pr sz kp => ?_)
      have n0 : H s.heap.objs.size = none := I.hok.fresh (Nat.le_refl _)
      have new : ObjOk X.prog X.w (upd H s.heap.objs.size (.tup [vx, vy])) hp s.heap.objs.size (.tup [vx, vy]) := ⟨by show 2 ≤ sizeLine; decide, [u, u2], .cons ru (.cons ru2 .nil), ⟨_, pr, rfl, _, rfl⟩⟩
      have J := I.turnedNew (t' := s.toks) (ch := [z, TI, TO, i1, i2]) (fun c o hb e => kp c o hb e) hf (Nat.le_refl _) new
      have nq : q ≠ s.heap.objs.size := fun e => by rw [e, n0] at hq; cases hq
      have hq2 : upd H s.heap.objs.size (.tup [vx, vy]) q = some (.lst acc) := (upd_ne nq).trans hq
      obtain ⟨_, js3, c3, r3, l3, e3⟩ := J.lstM hq2
      show wpAny _ A1.in1 (updateSeq q (·.push (.ref s.heap.objs.size)) >>= fun _ => _) _ _ _
      have room1 : js3.length ≤ 1000 := by omega
      refine wpAny_bind (wpAny_updateSeq e3 rfl (wpAny_pure ⟨plainId_quiet PySem.F.plain_extend_loop _, ?_⟩) (by rw [List.size_toArray]; exact le_line room1) (by show (js3.toArray.push _).size ≤ sizeLine + 1; rw [Array.size_push, List.size_toArray]; exact Nat.succ_le_succ (le_line room1)))
      have J2 := J.lset (f := (·.push (.ref s.heap.objs.size))) (its' := js3 ++ [.ref s.heap.objs.size]) (ys := acc ++ [.ref s.heap.objs.size]) (t' := s.toks) hq2 e3 (by simp) (r3.append (.cons (show RelV (V.ref s.heap.objs.size) (Value.ref s.heap.objs.size) from rfl) .nil)) (by rw [List.length_append, List.length_singleton]; exact le_line (by omega))
      have ext2 : ∀ b o, H0 b = some o → upd (upd H s.heap.objs.size (.tup [vx, vy])) q (.lst (acc ++ [.ref s.heap.objs.size])) b = some o := fun b o e => by
        have e1 := ext b o e
        have nb : b ≠ q := fun z => by rw [z, q0] at e; cases e
        have nb2 : b ≠ s.heap.objs.size := fun z => by rw [z, n0] at e1; cases e1
        rw [upd_ne nb, upd_ne nb2]
        exact e1
      have la : (acc ++ [V.ref s.heap.objs.size]).length = acc.length + 1 := by rw [List.length_append, List.length_singleton]
      refine ih (xs.length - (acc ++ [V.ref s.heap.objs.size]).length) (by rw [la]; omega) _ _ _ rfl J2 ext2 q0 upd_same t1 t2 (fun i hi => ?_) (by rw [la]; omega) (by rw [la]; omega) (fun b hb => ?_) ?_
      · by_cases hi2 : i < acc.length
        · obtain ⟨T, x, y, g1, g2, g3, g4, g5⟩ := its i hi2
          have nT : T ≠ s.heap.objs.size := fun z => by rw [z, n0] at g4; cases g4
          exact ⟨T, x, y, by rw [List.getElem?_append_left hi2]; exact g1, g2, g3, by rw [upd_ne g5, upd_ne nT]; exact g4, g5⟩
        · have ei : i = acc.length := by rw [la] at hi; omega
          subst ei
          exact ⟨s.heap.objs.size, vx, vy, by rw [List.getElem?_append_right (Nat.le_refl _), Nat.sub_self]; rfl, gx, gy, by rw [upd_ne (Ne.symm nq), upd_same], Ne.symm nq⟩
      · obtain ⟨f1, f2⟩ := hf b hb
        have nb : b ≠ q := fun z => qf (z ▸ hb)
        have nb2 : b ≠ s.heap.objs.size := fun z => by
          obtain ⟨s1, s2, s3, ⟨oO, s5⟩, s4⟩ := st
          have lt : b < s.heap.objs.size := by
            (simp only [List.mem_cons, List.not_mem_nil, or_false] at hb)
            rcases hb with rfl | rfl | rfl | rfl | rfl
            · rcases s4 with ⟨w1, _⟩ | ⟨_, _, _, w1, _⟩ <;> exact Heap.lt_size w1
            · exact Heap.lt_size s3
            · exact Heap.lt_size s5
            · obtain ⟨_, w1, _⟩ := s1; exact Heap.lt_size w1
            · obtain ⟨_, w1, _⟩ := s2; exact Heap.lt_size w1
          exact Nat.ne_of_lt lt z
        exact ⟨by rw [upd_ne nb, upd_ne nb2]; exact f1, f2⟩
      · rw [la]
        exact st2.upd qf e3 ⟨_, Heap.get?_update_self _ e3 rfl⟩
    · refine wpAny_bind (znext_end hh D st m1 m2 (by simp; omega) fun hp kp => wpAny_pure ?_)
      have J := I.turnedL (t' := s.toks) (ch := [z, TI, TO, i1, i2]) (h' := hp) (fun c o hb e => kp c o hb e) hf
      exact fin H acc _ J ext hq its (by omega)
theorem zip_no_len : typeLookup (.type "zip") "__len__" = pure none := by rw [typeLookup_type, builtinLookup_eq_fast]; kernel_rfl
theorem zip_no_hint : typeLookup (.type "zip") "__length_hint__" = pure none := by rw [typeLookup_type, builtinLookup_eq_fast]; kernel_rfl
theorem call_listZ {s : Shared} {H : Hp} {Q : Value → Shared → Prop} (hd : X.A.handled = none) (D : ZipApart z TI TO i1 i2 l1 l2) (I : Inv X pins σ H s) (hlen : xs.length ≤ 1000) (t1 : SqT X.K H l1 xs) (t2 : SqT X.K H l2 ys) (hf : ∀ b ∈ [z, TI, TO, i1, i2], FpOk X pins H b) (old : ∀ b ∈ [z, TI, TO, i1, i2], b < s.heap.objs.size) (hz : IsZip s.heap z TI TO .none) (st : Zs z TI TO i1 i2 l1 l2 s.heap 0)
    (fin : ∀ H2 acc s2 q, Inv X pins σ H2 s2 → (∀ b o, H b = some o → H2 b = some o) → H q = none → H2 q = some (.lst acc) → Items H2 q xs ys acc → (acc.length = xs.length ∨ acc.length = ys.length) → Q (.ref q) s2) :
    wpAny (model X.prog X.w) X.A (call (.type "list") [.ref z]) Q X.xe s := by
  have keep0 : ∀ b o, s.heap.get? b = some o → (s.heap.push { cls := .type "list", data := .seq #[] }).get? b = some o := fun b o e => Heap.get?_push_of_some _ e
  have mine : (s.heap.push { cls := .type "list", data := .seq #[] }).get? s.heap.objs.size = some { cls := .type "list", data := .seq #[] } := Heap.get?_push_size _ rfl
  have n0 : H s.heap.objs.size = none := I.hok.fresh (Nat.le_refl _)
  have qf : s.heap.objs.size ∉ [z, TI, TO, i1, i2] := fun h => Nat.lt_irrefl _ (old _ h)
  have new : ObjOk X.prog X.w (upd H s.heap.objs.size (.lst [])) (s.heap.push { cls := .type "list", data := .seq #[] }) s.heap.objs.size (.lst []) := ⟨Nat.zero_le _, [], 0, .nil, mine⟩
  have J := I.laid (t' := s.toks) keep0 (Nat.le_refl _) new
  refine callType_codes (Q₁ := fun obj s₁ => obj = .ref s.heap.objs.size ∧ s₁ = { s with heap := s.heap.push { cls := .type "list", data := .seq #[] } }) PySem.F.called_list (PySem.F.typeCall_list_1 _) PySem.F.entry_list_init (code_list_new _ ⟨rfl, rfl⟩) ?_
  rintro obj s1 ⟨rfl, rfl⟩
  refine ⟨⟨_, mine, rfl⟩, PySem.F.args_list_init_2 _ _, ?_⟩
  show wpAny _ X.A.in1.in1 (Builtin.List.listItems (.ref s.heap.objs.size) >>= fun old => Builtin.List.listUpdate (.ref s.heap.objs.size) (fun _ => #[]) >>= fun _ => letGo old.toList.reverse >>= fun _ => Builtin.List.listExtendWith (.ref s.heap.objs.size) (.ref z) .none) _ _ _
  have far : ∀ b ∈ [z, TI, TO, i1, i2], b ≠ s.heap.objs.size := fun b hb e => qf (e ▸ hb)
  have zz : z ≠ s.heap.objs.size := far z (by simp)
  unfold Builtin.List.listItems Builtin.List.listUpdate
  refine wpAny_bind (wpAny_bind (wpAny_seqItems mine rfl (wpAny_pure ?_)))
  refine wpAny_bind (wpAny_updateSeq mine rfl (wpAny_bind (wpAny_letGo ?_)))
  have J1 := J.lset (f := fun _ => #[]) (its := []) (its' := []) (ys := []) (t' := s.toks) upd_same mine rfl .nil (Nat.zero_le _)
  have st0 := st.kept keep0
  have st1 := st0.upd (g := Obj.mapSeq fun _ => #[]) qf mine ⟨_, Heap.get?_update_self _ mine rfl⟩
  have hz1 : IsZip ((s.heap.push { cls := .type "list", data := .seq #[] }).update s.heap.objs.size (Obj.mapSeq fun _ => #[])) z TI TO .none := (Heap.get?_update_other _ _ (Ne.symm zz)).trans (keep0 _ _ hz)
  obtain ⟨_, js1, c1, r1, _, e1⟩ := J1.lstM upd_same
  cases r1
  generalize (s.heap.push { cls := .type "list", data := .seq #[] }).update s.heap.objs.size (Obj.mapSeq fun _ => #[]) = hp1 at J1 st1 hz1 e1 ⊢
  have same : Builtin.List.listSameRef (.ref s.heap.objs.size) (.ref z) = false := by simp [Builtin.List.listSameRef, Ne.symm zz]
  (unfold Builtin.List.listExtendWith)
  refine wpAny_bind (wpAny_typeOf (T := "zip") ⟨_, hz1, rfl⟩ ?_)
  simp only [same, show (Value.type "zip" == Value.type "list") = false from by decide, show (Value.type "zip" == Value.type "tuple") = false from by decide, Bool.or_false, Bool.false_eq_true, if_false]
  refine wpAny_bind (wpAny_pyIter_zip hz1 (wpAny_bind (wpAny_holding ?_)))
  (unfold Builtin.List.listLengthHint)
  refine wpAny_bind (wpAny_specialOf (T := "zip") ⟨_, hz1, rfl⟩ zip_no_len (show wpAny _ _ (specialOf (Value.ref z) (Str.ofString "__length_hint__") >>= fun _ => _) _ _ _ from wpAny_bind (wpAny_specialOf (T := "zip") ⟨_, hz1, rfl⟩ zip_no_hint (wpAny_pure ?_))))
  show wpAny _ _ (rule "list.extend.makes-room" >>= fun _ => (updateSeq s.heap.objs.size (·.push .none) >>= fun _ => updateSeq s.heap.objs.size (·.pop)) >>= fun _ => again (.builtin "list.extend.loop" ⟨[.ref s.heap.objs.size, .ref z, .none], []⟩)) _ _ _
  refine wpAny_bind (wpAny_rule (wpAny_bind (wpAny_bind (wpAny_updateSeq e1 rfl ?_))))
  have J2 := J1.lset (f := (·.push Value.none)) (its := []) (its' := [Value.none]) (ys := [.non]) (t' := s.toks) upd_same e1 rfl (.cons rfl .nil) (by show 1 ≤ sizeLine; rw [sizeLine_eq]; decide)
  have st2 := st1.upd (g := Obj.mapSeq (·.push Value.none)) qf e1 ⟨_, Heap.get?_update_self _ e1 rfl⟩
  obtain ⟨_, js2, c2, r2, _, e2⟩ := J2.lstM upd_same
  obtain ⟨u2, rfl, ru2⟩ := r2.one
  refine wpAny_updateSeq e2 rfl (wpAny_pure ⟨plainId_quiet PySem.F.plain_extend_loop _, ?_⟩) (by show 1 ≤ sizeLine; rw [sizeLine_eq]; decide) (Nat.zero_le _)
  have J3 := J2.lset (f := (·.pop)) (its := [u2]) (its' := []) (ys := []) (t' := s.toks) upd_same e2 rfl .nil (Nat.zero_le _)
  have st3 := st2.upd (g := Obj.mapSeq (·.pop)) qf e2 ⟨_, Heap.get?_update_self _ e2 rfl⟩
  rw [upd_upd, upd_upd, upd_upd] at J3
  refine zloop (A1 := X.A.in1) hd D hlen (fun H2 acc s2 K2 ext hq its hl => ?_) xs.length [] _ _ (by rw [List.length_nil]; rfl) J3 (fun b o e => ?_) n0 upd_same t1 t2 (fun i hi => absurd hi (Nat.not_lt_zero i)) (Nat.zero_le _) (Nat.zero_le _) (fun b hb => ?_) st3
  · exact ⟨rfl, fin H2 acc s2 _ K2 ext n0 hq its hl⟩
  · have nb : b ≠ s.heap.objs.size := fun z => by rw [z, n0] at e; cases e
    rw [upd_ne nb]
    exact e
  · obtain ⟨f1, f2⟩ := hf b hb
    exact ⟨by rw [upd_ne (far b hb)]; exact f1, f2⟩
end
theorem trAll_of {H : Hp} : ∀ {ds : List D} {vs : List V}, vs.length = ds.length → (∀ (i : Nat) (d : D), ds[i]? = some d → ∃ v, vs[i]? = some v ∧ Tr H v d) → TrAll H vs ds
  | [], [], _, _ => .nil
  | d :: ds, v :: vs, hl, h => by
    obtain ⟨v', e, t⟩ := h 0 d rfl
    cases e
    exact .cons t (trAll_of (by simpa using hl) fun i d' e => h (i + 1) d' e)
  | [], _ :: _, hl, _ => (by simp at hl)
  | _ :: _, [], hl, _ => (by simp at hl)
section
variable {X : Cx} {C : Cf} {W : WX} {a b : Expr} {fa : CV → Rs (List (D × Md))}
theorem se_listZip {k : Nat} {p p2 pos2 pos : Pos} (hr : Room k X.A) (hm : X.mg "list" = none) (hmz : X.mg "zip" = none) (ha : PA X [a, b] (tA C W fa)) (hK : X.K = C.K := by rfl) (hg : Gl X "list" := by rfl) (hg2 : Gl X "zip" := by rfl)
    (hs : starEach [a, b] X.env = (false, eval a X.env) :: starEach [b] X.env := by rfl) (hpl : (backTo pos2 (starEach [b] X.env)).any (·.1) = false := by rfl) (he0 : starEach [.Call (.Name "zip" p2) [a, b] [] pos2] X.env = (false, eval (.Call (.Name "zip" p2) [a, b] [] pos2) X.env) :: starEach [] X.env := by rfl) :
    PE X (.Call (.Name "list" p) [.Call (.Name "zip" p2) [a, b] [] pos2] [] pos) (tE C W (mCallB hListZip fa)) := by
  constructor
  intro pins s σ H Q I w
  have want : tA C W fa σ H fun vs H1 => ∃ l1 l2 xs ys, vs = [.ref l1, .ref l2] ∧ SqT X.K H1 l1 xs ∧ SqT X.K H1 l2 ys ∧ xs.length ≤ 1000 ∧ ∀ H2 acc q, (∀ b o, H1 b = some o → H2 b = some o) → H1 q = none → H2 q = some (.lst acc) → Items H2 q xs ys acc → (acc.length = xs.length ∨ acc.length = ys.length) → Q (.ref q) H2 := by
    obtain ⟨B, P, ρ, hio, re, w⟩ := w
    refine tA_then hio re w fun ds vs H1 s1 re1 ov w1 => ?_
    cases e : hListZip ds with
    | none => rw [e] at w1; exact w1.elim
    | some r =>
      rw [e] at w1
      unfold hListZip at e
      split at e
      · rename_i xs m ys m2
        split at e
        · rename_i hc
          cases e
          obtain ⟨v, v2, rfl, o1, o2⟩ := ov.two
          obtain ⟨q1, ws1, rfl, sq1, tr1, cl1⟩ := o1.seqT
          obtain ⟨q2, ws2, rfl, sq2, tr2, cl2⟩ := o2.seqT
          have g1 : TrAll (mask (B.M ++ P) H1) ws1 xs := by
            rcases hc.1 with z | z
            · exact cl1 z
            · exact TrAll.lfMask re1.lst tr1 z
          have g2 : TrAll (mask (B.M ++ P) H1) ws2 ys := by
            rcases hc.2.1 with z | z
            · exact cl2 z
            · exact TrAll.lfMask re1.lst tr2 z
          refine ⟨q1, q2, ws1, ws2, rfl, by rw [hK]; exact sq1, by rw [hK]; exact sq2, by rw [g1.length]; exact hc.2.2, fun H2 acc q ext n0 hq its hl => ?_⟩
          have sm : Sm H1 H2 := fun b o e => .inl (ext b o e)
          refine w1 _ H2 sm (re1.tab.sm fun P' hP' => ?_) ⟨q, acc, _, rfl, rfl, n0, hq, ?_⟩
          · obtain ⟨ps, e1, _⟩ := re1.tab P' hP'
            rw [ext _ _ e1, e1]
          · have lx := g1.length
            have ly := g2.length
            have nq : ∀ c o, H1 c = some o → c ≠ q := fun c o e z => by rw [z, n0] at e; cases e
            have le : SeqLe (mask (B.M ++ P) H1) (mask (q :: (B.M ++ P)) H2) := by
              refine ⟨fun c zs e => ?_, fun c zs e => ?_⟩
              · obtain ⟨h1, h2⟩ := mask_some e
                rw [mask_out (by simp only [List.mem_cons, not_or]; exact ⟨nq _ _ h2, h1⟩)]
                exact ext _ _ h2
              · obtain ⟨h1, h2⟩ := mask_some e
                rw [mask_out (by simp only [List.mem_cons, not_or]; exact ⟨nq _ _ h2, h1⟩)]
                exact ext _ _ h2
            have lz : acc.length ≤ xs.length ∧ acc.length ≤ ys.length := by
              have key : ∀ i, i < acc.length → i < ws1.length ∧ i < ws2.length := fun i hi => by
                obtain ⟨_, _, _, _, g2, g3, _⟩ := its i hi
                exact ⟨(List.getElem?_eq_some_iff.mp g2).1, (List.getElem?_eq_some_iff.mp g3).1⟩
              cases hn : acc.length with
              | zero => exact ⟨Nat.zero_le _, Nat.zero_le _⟩
              | succ n =>
                obtain ⟨k1, k2⟩ := key n (by omega)
                omega
            have la : acc.length = ((xs.zip ys).map fun p => PyData.tuple [p.1, p.2]).length := by
              rw [List.length_map, List.length_zip]
              omega
            refine trAll_of la fun i d hd => ?_
            have hi : i < acc.length := by rw [la]; exact (List.getElem?_eq_some_iff.mp hd).1
            obtain ⟨T, x, y, i1, i2, i3, i4, i5⟩ := its i hi
            refine ⟨.ref T, i1, ?_⟩
            rw [List.getElem?_map] at hd
            obtain ⟨⟨dx, dy⟩, hz, rfl⟩ := Option.map_eq_some_iff.mp hd
            obtain ⟨z1, z2⟩ := List.getElem?_zip_eq_some.mp hz
            obtain ⟨x', e1, tx⟩ := g1.get z1
            obtain ⟨y', e2, ty⟩ := g2.get z2
            rw [i2] at e1
            cases e1
            rw [i3] at e2
            cases e2
            refine .tup ?_ (.cons (Tr.mono le _ _ tx) (.cons (Tr.mono le _ _ ty) .nil))
            rw [mask_out (by
              simp only [List.mem_cons, not_or]
              refine ⟨i5, fun z => ?_⟩
              obtain ⟨o, e, c⟩ := (re1.lst.sm sm) T z
              rw [i4] at e
              cases e
              rcases c with ⟨_, y⟩ | ⟨_, _, _, y⟩ <;> cases y)]
            exact i4
        · cases e
      · cases e
  refine wpAny_Call_Name_kw (ld_blt I hg hm (show bootBuiltins "list" = some (.type "list") by decide +kernel) (PyProof.Rows.callWith_type1 ?_ he0 rfl))
  rw [he0]
  show wpAny _ _ (spliced ((false, eval (.Call (.Name "zip" p2) [a, b] [] pos2) X.env) :: backTo pos (starEach [] X.env))) _ _ s
  refine Calls.spliced_cons (wpAny_Call_Name_kw (ld_blt I hg2 hmz PyProof.Rows.boot_zip (PyProof.Rows.callWith_type1 (thn (ha.run pos2 pins s σ H _ I want) fun us s1 ⟨vs, H1, I1, r1, q1⟩ => ?_) hs hpl)))
  obtain ⟨l1, l2, xs, ys, rfl, t1, t2, hlen, next⟩ := q1
  cases r1 with
  | cons r rr =>
    cases rr with
    | cons r' rr =>
      cases rr
      cases r
      cases r'
      obtain ⟨js, rv, m1, _⟩ := I1.tuple t1
      obtain ⟨js2, rv2, m2, _⟩ := I1.tuple t2
      have b1 : l1 < s1.heap.objs.size := by obtain ⟨o, h, _⟩ := id m1; exact Heap.lt_size h
      have b2 : l2 < s1.heap.objs.size := by obtain ⟨o, h, _⟩ := id m2; exact Heap.lt_size h
      refine RZ.call_zipT (show s1.heap.IsTuple l1 js.toArray from m1) (show s1.heap.IsTuple l2 js2.toArray from m2) fun hp hz pr out c1 c2 sz kp => Calls.spliced_nil ?_
      have I2 : Inv X pins σ H1 { s1 with heap := hp } := I1.kept (t' := s1.toks) kp
      refine call_listZ (s := { s1 with heap := hp }) hr.hd (PySem.W.ktu_apart s1.heap.objs.size l1 l2 b1 b2) I2 hlen t1 t2 (fun c hc => ?_) (fun c hc => ?_) hz ⟨c1, c2, pr, ⟨_, out⟩, .inl ⟨hz, _, _, out⟩⟩ fun H2 acc s2 q J ext n0 hq its hl => ⟨.ref q, H2, J, rfl, next H2 acc q ext n0 hq its hl⟩
      · have ge : s1.heap.objs.size ≤ c := by
          simp only [List.mem_cons, List.not_mem_nil, or_false] at hc
          rcases hc with rfl | rfl | rfl | rfl | rfl
          · exact Nat.le_add_right _ _
          · exact Nat.le_add_right _ _
          · exact Nat.le_add_right _ _
          · exact Nat.le_refl _
          · exact Nat.le_add_right _ _
        exact I1.fpOk ge (I1.hok.fresh ge)
      · show c < hp.objs.size
        rw [sz]
        simp only [List.mem_cons, List.not_mem_nil, or_false] at hc
        rcases hc with rfl | rfl | rfl | rfl | rfl
        · exact Nat.add_lt_add_left (by decide) _
        · exact Nat.add_lt_add_left (by decide) _
        · exact Nat.add_lt_add_left (by decide) _
        · exact Nat.lt_add_of_pos_right (by decide)
        · exact Nat.add_lt_add_left (by decide) _
end
end Eng

set_option Elab.async false
set_option linter.all false
set_option maxRecDepth 100000
set_option maxHeartbeats 2345678
namespace Eng
open PySem PySem.Spec
open PyProof.Rows L2 GxR

/-! ### all(f(x) for x in a text), f a def -/
/-- the element, asked only where the base still stands, at bounded depth -/
def EltD (prog : Program) (w : World) (K : PySem.W.Frag) (mg : Str → Option Value) (base : Heap) (D U : Nat) (scope : Scope) (x : Str) (elt : Expr) (pb : Nat → Bool) : Prop :=
  Mod K mg base → ∀ (cenv : Env) (A' : Around) (E' : Value → Shared → Prop) (c : Nat) (t : Tok) (s₂ : Shared) (m₂ : Str → Option Value), cenv.scope = scope → cenv.globals = mainGlobals → A'.handled = none → A'.depth ≤ D → A'.units ≤ U →
    (∀ b o, base.get? b = some o → s₂.heap.get? b = some o) → s₂.heap.Ns cenv.locals m₂ → m₂ x = some (.str ⟨#[c]⟩ t) →
    wpAny (model prog w) A' (eval elt cenv) (fun u st => u = .bool (pb c) ∧ Keeps s₂ st) E' s₂
/-- an element that is asked so is quiet: its frame C, the walked iterator alone is written -/
theorem quiet_elt {prog : Program} {w : World} {K : PySem.W.Frag} {mg : Str → Option Value} {base : Heap} {dep cu : Nat} {sc : Scope} {y : Str} {el : Expr} {pb : Nat → Bool} {env : Env} {cl : List (Str × Addr)} {fr bi it : Addr} {co : Value} {txt : Str} {fpr : List Addr} {hr : Heap}
    (he : EltD prog w K mg base dep cu sc y el pb) (md : Mod K mg base) (hglob : env.globals = mainGlobals) (hstay : ∀ b o, base.get? b = some o → b ∈ fpr ∧ b ≠ it ∧ hr.get? b = some o) :
    QuietGenD prog w (genEnv sc cl fr co bi env) y [] el fpr [it] (SignAt txt) (fun _ => true) (fun i u => ∃ n, txt.cps[i]? = some n ∧ u = .bool (pb n)) hr dep cu := by
  constructor
  · intros
    exact wpAny_pure (by exact ⟨rfl, keeps_refl _⟩)
  · rintro A1 E1 i v st mp hh1 hdp hcu ⟨n, tk, hn, rfl⟩ - hns hy hsame
    have asked := he md (genEnv sc cl fr co bi env) A1 E1 n tk st mp rfl hglob hh1 hdp hcu (fun b o hb => (hstay b o hb).elim fun m1 r => hsame b m1 (by simpa using r.1) o r.2) hns hy
    exact wpAny_mono asked (fun u st2 hu => ⟨⟨n, hn, hu.1⟩, hu.2⟩) fun _ _ z => z
/-- the code object of a generator expression: found in the def's table, or made and put there -/
theorem gen_code {prog : Program} {w : World} {A : Around} {E : Value → Shared → Prop} {env : Env} {co tb : Addr} {at_ : Pos} {qn : Str} {sc : Scope} {rows : Array Value} {st : Shared} {Q : Value → Shared → Prop}
    (hcode : env.code = .ref co) (cd : PySem.W.CodeHd st.heap co tb) (htb : st.heap.get? tb = some { cls := .none, data := .fields rows }) (ht : TriplesOk rows.toList)
    (go : ∀ (cv : Value) (hp : Heap) (tk : Nat) (add : Array Value), Heap.ExtBut tb st.heap hp → st.heap.objs.size ≤ hp.objs.size → hp.get? tb = some { cls := .none, data := .fields (rows ++ add) } → TriplesOk (rows ++ add).toList → Q cv { st with heap := hp, toks := tk }) :
    wpAny (model prog w) A (genexprCode env at_ qn sc) Q E st := by
  cases found : codeAmong at_ rows.toList with
  | some cv =>
    have r0 : rows ++ #[] = rows := by simp
    exact wpAny_genexprCode_hit hcode (cd.code htb ht) found (go cv st.heap st.toks #[] (Heap.ExtBut.refl _ _) (Nat.le_refl _) (by rw [r0]; exact htb) (by rw [r0]; exact ht))
  | none =>
    refine wpAny_genexprCodeX hcode (cd.code htb ht) (cd.tab htb) found ?_
    intro cn hp tk ext ge lt isC _ isT _
    have trip : TriplesOk (rows ++ #[rawInt at_.line, rawInt at_.col, .ref cn]).toList := by
      unfold Heap.IsCode at isC
      obtain ⟨_, _, _, _, _, _, _, _, _, _, _, _, _, _, _, _, _, _, _, tr, _⟩ := isC
      exact tr
    exact go (.ref cn) hp tk _ ext (by omega) isT.2 trip
section
variable {X : Cx} {pins : List (Addr × Obj)} {σ : L2.St}
/-- all(el for y in a text): the promise for the element asked at bounded depth -/
theorem pe_allD {co tb : Addr} {el src : Expr} {y : Str} {py p pos gp : Pos} {sc : Scope} {pb : Nat → Bool} {te : TE} {k : Nat}
    (hr : Room k X.A) (hg : Gl X "all") (hm : X.mg "all" = none) (hb : bootBuiltins "all" = some (.builtin "all")) (TB : TabB X.base X.mg co tb) (hcode : X.env.code = .ref co) (S : GenS X.env sc y) (hsrc : PE X src te)
    (hel : EltD X.prog X.w X.K X.mg X.base (X.A.depth + 1) (X.A.units + 8) sc y el pb) (hs : ∀ v, genFold src X.env v = pure v)
    (he : starEach [.GeneratorExp el [⟨.Name y py, src, [], 0⟩] sc gp] X.env = (false, eval (.GeneratorExp el [⟨.Name y py, src, [], 0⟩] sc gp) X.env) :: starEach [] X.env := by rfl) :
    PE X (.Call (.Name "all" p) [.GeneratorExp el [⟨.Name y py, src, [], 0⟩] sc gp] [] pos) (tAllS tb pb te) := by
  constructor
  intro pins st σ Hp0 Q inv0 want
  apply wpAny_Call_Name_kw
  refine ld_blt inv0 hg hm hb (PyProof.Rows.callWith_builtin1 ?_ he (by rfl))
  rw [he]
  apply Calls.spliced_cons
  refine wpAny_GeneratorExp_walksQD hr.hd S.co (closure_ok S.free) S.cell S.dot S.loc S.kind hr.depth ?_ hs
  refine wpAny_mono (hsrc.run pins st σ Hp0 _ inv0 want) ?_ fun _ _ z => z
  rintro xv st1 ⟨v, H1, inv, rel, txt, rfl, ⟨rows, hrows, trip⟩, next⟩
  cases rel with
  | intro tk e =>
  subst e
  apply wpAny_pyIter_str
  intro itO W walks w0
  -- what stands before the generator
  have tabS := inv.hok tb _ hrows
  replace tabS : st1.heap.get? tb = some { cls := .none, data := .fields rows } := tabS
  have stays : ∀ b o, st1.heap.get? b = some o → (st1.heap.push itO).get? b = some o := fun b o q => Heap.get?_push_of_some _ q
  have grown : (st1.heap.push itO).objs.size = st1.heap.objs.size + 1 := Heap.size_push ..
  have stat : cStatics < st1.heap.objs.size ∧ cStatics ≠ tb := by
    obtain ⟨_, q, _⟩ := inv.nolimit
    refine ⟨q.lt, ?_⟩
    rintro rfl
    obtain ⟨ob, es, ep, h1, h2, _⟩ := q
    rw [tabS] at h1
    cases h1
    cases h2
  have tbIt : tb < st1.heap.objs.size := Heap.lt_size tabS
  refine ⟨inv.nolimit.push itO, gen_code hcode (TB.code.keeps fun b o q => stays b o (inv.bk b o q)) (stays tb _ tabS) trip ?_⟩
  intro cv hp tk2 add ext ge tabN tripN
  have onTop : ∀ b o, b ≠ tb → st1.heap.get? b = some o → hp.get? b = some o := fun b o n q => ext b o n (stays b o q)
  have big : st1.heap.objs.size + 1 ≤ hp.objs.size := by rw [← grown]; exact ge
  obtain ⟨bm, ob, m1, m2, m3, m4, m5, m6, m7, m8⟩ := TB.bm
  apply wpAny_builtinsFor (m := X.mg) _ m1 m2 (onTop bm ob m4 (inv.bk bm ob m5)) m6 m7 m8
  rotate_left
  · rw [inv.ok.glob]
    exact ((inv.mod.glob.keeps inv.bk).push itO).extBut ext TB.gP
  let I : Addr := st1.heap.objs.size
  refine ⟨I, [I], [I], txt.cps.size, SignAt txt, W, fun _ => true, _, rfl, walks, ?st0, ?below, (inv.nolimit.push itO).extBut ext stat.2, ?notS, fun hf hhf => quiet_elt hel inv.mod inv.ok.glob ?still, ?made⟩
  case st0 =>
    apply (walks X.A hr.hd).frame _ _ _ w0
    intro b hb o q
    rw [List.mem_singleton.mp hb] at q ⊢
    exact ext _ o (Nat.ne_of_gt tbIt) q
  case below =>
    intro b hb
    rw [List.mem_singleton.mp hb]
    exact big
  case notS =>
    intro z
    exact Nat.lt_irrefl _ ((List.mem_singleton.mp z) ▸ stat.1)
  case still =>
    intro b o q
    have q1 := inv.bk b o q
    have lt := Heap.lt_size q1
    refine ⟨List.mem_range.mpr (Nat.lt_of_lt_of_le lt (Nat.le_of_succ_le big)), Nat.ne_of_lt lt, hhf b o (onTop b o ?_ q1)⟩
    rintro rfl
    exact absurd ((inv.bs b o q).2.symm.trans hrows) (by simp)
  case made =>
    intro g h5 tk5 gs bare gt sz keep5 WS at0
    have n0 : (passing (fun _ => true) txt.cps.size 0) = List.range txt.cps.size := GxR.passing_true _
    rw [n0, List.length_range] at WS
    -- the state behind the call, whatever the walk has moved
    have held : ∀ s2, Moved (hp.objs.size :: [I]) (GenOnlyQ st1.gens.size) { st1 with gens := st1.gens.push gs, toks := tk5, heap := h5 } s2 → Inv X pins σ (upd H1 tb (.tbl (rows ++ add))) s2 := by
      intro s2 mv
      have same : ∀ b o, st1.heap.get? b = some o → b ∉ hp.objs.size :: [I] := by
        intro b o q z
        have lt : b < I := Heap.lt_size q
        simp only [List.mem_cons, List.not_mem_nil, or_false] at z
        rcases z with rfl | rfl
        · exact absurd (Nat.lt_of_lt_of_le lt (Nat.le_of_succ_le big)) (Nat.lt_irrefl _)
        · exact Nat.lt_irrefl _ lt
      have fin := inv_tab (σ := σ) (more := add) (h' := s2.heap) (g' := s2.gens) (d' := s2.drawn) (t' := s2.toks) inv hrows (fun b o n q => mv.heap b o (same b o q) (keep5 b o (onTop b o n q))) (mv.heap tb _ (same tb _ tabS) (keep5 tb _ tabN)) (AllBare.movedS (inv.bare.push bare) mv)
      rwa [sh_eta st1 s2 mv.os] at fin
    apply Calls.spliced_nil
    have WS1 := WS.in4_1
    refine call_all_walkS (WS1.self 0 _ _ _ at0 ⟨g, _, _, _, _, _, _, trF pb txt.cps.toList, rfl, WS1, at0, ?truth, fun s2 mv => ?_⟩)
    case truth =>
      rintro j u sj Qj Ej ⟨i, hi, n, hn, rfl⟩ qj
      have ij : i = j := by
        have := (List.getElem?_eq_some_iff.mp hi).2
        simpa using this.symm
      subst ij
      apply wpAny_truthy_bool
      rw [← trF_some (pb := pb) (l := txt.cps.toList) (j := i) (by simpa using hn)]
      exact qj
    · rw [all_signs txt pb]
      exact ⟨.bl _, _, held s2 mv, rfl, next _ ⟨⟨_, upd_same, tripN⟩, fun b n => upd_ne n⟩⟩
end

/-! ### the element f(x), f's body one test of the sign -/
/-- a def's call from the generator's frame; body: what its one sign makes of it -/
theorem elt_call {prog : Program} {w : World} {K : PySem.W.Frag} {mg : Str → Option Value} {base : Heap} {D U : Nat} {f : Addr} {fd : FuncData} {st : Stmt} {fn x y : Str} {p1 p2 p3 : Pos} {scope : Scope} {pb : Nat → Bool}
    (F : Fun K fn fn st f fd) (S : FnScope [y] [y] (defScope st)) (hbd : Binds K fd [y] []) (hf : mg fn = some (.ref f)) (hD : D < recursionLimit)
    (hk : scope.kind = .function) (hg : scope.names.lookup fn = some .globalImplicit) (hl : scope.names.lookup x = some .local)
    (body : ∀ (env : Env) (A' : Around) (E' : Value → Shared → Prop) (c : Nat) (t : Tok) (s₂ : Shared) (m₂ : Str → Option Value), env.scope = defScope st → env.globals = mainGlobals → A'.handled = none →
      s₂.heap.Ns mainGlobals mg → s₂.heap.Ns env.locals m₂ → m₂ y = some (.str ⟨#[c]⟩ t) → wpAny (model prog w) A' (execs (defBody st) env) (fun r s₃ => r = .ret (.bool (pb c)) ∧ Keeps s₂ s₃) E' s₂)
    (hyl : (defScope st).names.lookup y = some .local) (hd : (fn == ("__debug__" : Str)) = false := by decide) (hd2 : (x == ("__debug__" : Str)) = false := by decide)
    (he : ∀ env : Env, starEach [.Name x p2] env = (false, eval (.Name x p2) env) :: starEach [] env := by intro _; rfl) (hpl : ∀ env : Env, (backTo p3 (starEach [] env)).any (·.1) = false := by intro _; rfl) :
    EltD prog w K mg base D U scope x (.Call (.Name fn p1) [.Name x p2] [] p3) pb := by
  intro M cenv A' E' c t s₂ m₂ hsc hgl hA hdp hun hbk hn hm
  have kin : K.In s₂.heap := M.kin.keeps hbk
  have lim : s₂.heap.NoLimit := M.nolimit.keeps hbk
  obtain ⟨_, _, _, _, _, _, cdv, _, _, rfl, lk, hcd⟩ := F.ex
  refine wpAny_Call_Name_kw (Calls.Name_function_global (by rw [hsc]; exact hk) (show cenv.scope.names.lookup fn = _ by rw [hsc]; exact hg) (Calls.loadGlobal_global (by rw [hgl]; exact M.glob.keeps hbk) hf ?_) hd)
  refine PySem.W.callWith_K (h₀ := s₂.heap) kin F.kp ?_ (he cenv) (hpl cenv)
  rw [he cenv]
  show wpAny _ _ (spliced ((false, eval (.Name x p2) cenv) :: backTo p3 (starEach [] cenv))) _ _ s₂
  refine Calls.spliced_cons (wpAny_Name (wpAny_loadName_local (by rw [hsc]; exact hk) (show cenv.scope.names.lookup x = some .local by rw [hsc]; exact hl) hn hm ?_) hd2)
  refine Calls.spliced_nil ⟨kin, ?_⟩
  have b := hbd s₂ [.str ⟨#[c]⟩ t] kin rfl
  rw [List.append_nil] at b
  have hkind : ∀ z ∈ [y].zip [Value.str ⟨#[c]⟩ t], (defScope st).names.lookup z.1 = some .local ∨ ((defScope st).names.lookup z.1 = some .cell ∧ ((cellsFrom (s₂.heap.objs.size + 1) (defScope st).names []).lookup z.1).isSome = true) := fun ⟨n, v⟩ hz => by
    rcases S.par n (List.of_mem_zip hz).1 with q | q
    · exact .inl q
    · exact .inr (And.intro q (PySem.W.cellsFrom_some _ _ _ (.inl q)))
  refine wpAny_call (codeAny_call_function (by have := hD; omega) (kin _ _ lk) rfl S.co S.gen rfl (PySem.W.codeRec_of kin hcd) (b _ _ _ _ ?_))
  refine wpAny_newFunctionEnv_cells S.kind hkind fun env heq s1 xin => ?_
  subst heq
  refine ⟨lim.keeps xin.toInCall.keep, codeAny_func ?_⟩
  obtain ⟨h', tk, es, hkp⟩ := xin.done
  refine wpAny_mono (body _ _ _ c t s1 _ rfl rfl ?hh ((M.glob.keeps hbk).keeps xin.toInCall.keep) xin.toInCall.ns (bindL_get (i := 0) (by simp) rfl rfl hyl)) (fun r s3 hq => ?_) fun _ _ e => e
  · exact hA
  · obtain ⟨rfl, h2, k2, e2, kp2⟩ := hq
    refine ⟨rfl, h2, k2, ?_, fun b o e => kp2 b o (xin.toInCall.keep b o e)⟩
    rw [e2, es]
/-- return '!' <= y <= '~' and y not in SINGLES -/
def inB (z : Str) (c : Nat) : Bool := !decide ([c] < [33]) && (!decide ([126] < [c]) && !decide (c ∈ z.cps.toList))
theorem keeps_trans {s s1 s2 : Shared} (a : Keeps s s1) (b : Keeps s1 s2) : Keeps s s2 := by
  obtain ⟨h1, t1, rfl, k1⟩ := a
  obtain ⟨h2, t2, rfl, k2⟩ := b
  exact ⟨h2, t2, rfl, fun b o e => k2 b o (k1 b o e)⟩
theorem body_inner {prog : Program} {w : World} {mg : Str → Option Value} {st : Stmt} {y : Str} {z : Str} {j1 j2 : Nat} {p1 p2 p3 p4 p5 p6 p7 p8 p9 : Pos} (hks : (defScope st).kind = .function) (hy : (defScope st).names.lookup y = some .local)
    (hs : (defScope st).names.lookup ("SINGLES" : Str) = some .globalImplicit) (hz : ∃ t, mg "SINGLES" = some (.str z t))
    (hb : defBody st = [.Return (some (.BoolOp .And [.Compare (.Constant (.str "!") j1 p1) [.LtE, .LtE] [.Name y p2, .Constant (.str "~") j2 p3] p4, .Compare (.Name y p5) [.NotIn] [.Name "SINGLES" p6] p7] p8)) p9]) (hd : (y == ("__debug__" : Str)) = false) :
    ∀ (env : Env) (A' : Around) (E' : Value → Shared → Prop) (c : Nat) (t : Tok) (s₂ : Shared) (m₂ : Str → Option Value), env.scope = defScope st → env.globals = mainGlobals → A'.handled = none →
      s₂.heap.Ns mainGlobals mg → s₂.heap.Ns env.locals m₂ → m₂ y = some (.str ⟨#[c]⟩ t) → wpAny (model prog w) A' (execs (defBody st) env) (fun r s₃ => r = .ret (.bool (inB z c)) ∧ Keeps s₂ s₃) E' s₂ := by
  intro env A' E' c t s₂ m₂ hsc hgl hA hns hn hm
  obtain ⟨tz, hz⟩ := hz
  rw [hb]
  have ldy : ∀ {p : Pos} {Q : Value → Shared → Prop} {s3 : Shared}, Keeps s₂ s3 → Q (.str ⟨#[c]⟩ t) s3 → wpAny (model prog w) A' (eval (.Name y p) env) Q E' s3 := fun {p Q s3} k q => by
    obtain ⟨h', tk, rfl, kp⟩ := k
    exact wpAny_Name (wpAny_loadName_local (by rw [hsc]; exact hks) (show env.scope.names.lookup y = some .local by rw [hsc]; exact hy) (hn.keeps kp) hm q) hd
  have lds : ∀ {p : Pos} {Q : Value → Shared → Prop} {s3 : Shared}, Keeps s₂ s3 → Q (.str z tz) s3 → wpAny (model prog w) A' (eval (.Name "SINGLES" p) env) Q E' s3 := fun {p Q s3} k q => by
    obtain ⟨h', tk, rfl, kp⟩ := k
    exact Calls.Name_function_global (by rw [hsc]; exact hks) (show env.scope.names.lookup _ = some .globalImplicit by rw [hsc]; exact hs) (Calls.loadGlobal_global (by rw [hgl]; exact hns.keeps kp) hz q)
  have kk : ∀ {s3 : Shared} {n : Nat}, Keeps s₂ s3 → Keeps s₂ { s3 with toks := n } := fun {s3 n} k => keeps_trans k (keeps_tok s3 n)
  have k1 : Keeps s₂ { s₂ with toks := s₂.toks + 1 } := keeps_tok s₂ _
  refine wpAny_execs_cons (thn (wpAny_Return_some (Q := fun fl s3 => fl = .ret (.bool (inB z c)) ∧ Keeps s₂ s3) (wpAny_And2 ?_)) fun fl s3 ⟨e, k⟩ => ?_)
  · have chain : ∀ (Qc : Bool → Shared → Prop), (∀ b s3, b = (!decide ([c] < [33]) && !decide ([126] < [c])) → Keeps s₂ s3 → Qc b s3) →
        wpAny (model prog w) A' (eval (.Compare (.Constant (.str "!") j1 p1) [.LtE, .LtE] [.Name y p2, .Constant (.str "~") j2 p3] p4) env) (fun v s3 => ∃ b, v = .bool b ∧ Qc b s3) E' s₂ := fun Qc hq => by
      refine Compare_chain (Calls.Constant_str (chain_link (ldy k1 (PySem.P.le_str (wpAny_truthy_bool ?_))))) rfl
      have e1 : (!decide ((⟨#[c]⟩ : Str).cps.toList < ("!" : Str).cps.toList)) = !decide ([c] < [33]) := rfl
      rw [e1]
      cases h1 : !decide ([c] < [33]) with
      | false => exact ite_ff ⟨false, rfl, hq false _ (by rw [h1]; rfl) k1⟩
      | true =>
        refine ite_tt (chain_last (Calls.Constant_str (PySem.P.le_str ⟨_, rfl, hq _ _ ?_ (kk k1)⟩)))
        rw [h1]
        rfl
    refine wpAny_mono (chain (fun b s3 => b = (!decide ([c] < [33]) && !decide ([126] < [c])) ∧ Keeps s₂ s3) fun b s3 e k => ⟨e, k⟩) (fun v s3 ⟨b, ev, eb, k⟩ => ?_) fun _ _ e => e
    subst ev
    refine wpAny_truthy_bool ?_
    cases hb2 : b with
    | false =>
      refine ite_ff ⟨?_, k⟩
      rw [hb2] at eb
      unfold inB
      rw [← Bool.and_assoc, ← eb]
      rfl
    | true =>
      refine ite_tt (wpAny_Compare1 (ldy k (lds k (PyProof.Rows.notIn_str ⟨?_, k⟩))))
      rw [hb2] at eb
      unfold inB
      rw [← Bool.and_assoc, ← eb, Bool.true_and, ← PySem.StrLaws.found_one z c]
  · subst e
    exact ⟨rfl, k⟩
end Eng

set_option Elab.async false
set_option linter.all false
set_option maxRecDepth 100000
set_option maxHeartbeats 1234567
namespace Eng
open PySem PySem.Spec
open PyProof.Rows L2 GxR

/-- fn(x) as an element, wherever it stands -/
structure EltF (prog : Program) (w : World) (K : PySem.W.Frag) (mg : Str → Option Value) (base : Heap) (fn x : Str) (pb : Nat → Bool) : Prop where
  run : ∀ (p1 p2 p3 : Pos) (scope : Scope) (D U : Nat), D < recursionLimit → scope.kind = .function → scope.names.lookup fn = some .globalImplicit → scope.names.lookup x = some .local → EltD prog w K mg base D U scope x (.Call (.Name fn p1) [.Name x p2] [] p3) pb
theorem eltF_of {prog : Program} {w : World} {K : PySem.W.Frag} {mg : Str → Option Value} {base : Heap} {f : Addr} {fd : FuncData} {st : Stmt} {fn x y : Str} {pb : Nat → Bool}
    (F : Fun K fn fn st f fd) (S : FnScope [y] [y] (defScope st)) (hbd : Binds K fd [y] []) (hf : mg fn = some (.ref f))
    (body : ∀ (env : Env) (A' : Around) (E' : Value → Shared → Prop) (c : Nat) (t : Tok) (s₂ : Shared) (m₂ : Str → Option Value), env.scope = defScope st → env.globals = mainGlobals → A'.handled = none →
      s₂.heap.Ns mainGlobals mg → s₂.heap.Ns env.locals m₂ → m₂ y = some (.str ⟨#[c]⟩ t) → wpAny (model prog w) A' (execs (defBody st) env) (fun r s₃ => r = .ret (.bool (pb c)) ∧ Keeps s₂ s₃) E' s₂)
    (hyl : (defScope st).names.lookup y = some .local) (hd : (fn == ("__debug__" : Str)) = false := by decide) (hd2 : (x == ("__debug__" : Str)) = false := by decide) : EltF prog w K mg base fn x pb :=
  ⟨fun p1 p2 p3 scope D U hD hk hg hl => elt_call F S hbd hf hD hk hg hl body hyl hd hd2⟩
/-- all(fn(x) for x in a text) -/
def mAllS (pb : Nat → Bool) (f : CV → Rs (D × Md)) : CV → Rs (D × Md) := fun ρ => (f ρ).bind fun x => match x.1 with
  | .str a => .ok (.bool (a.cps.toList.all pb), .cl)
  | _ => .no
section
variable {X : Cx} {C : Cf} {W : WX} {f : CV → Rs (D × Md)} {iter : Expr}
theorem Tabbed.sm {P : Addr} {T : List Addr} {H H' : Hp} (t : Tab T H) (hP : P ∈ T) (h : Tabbed P H H') : Sm H H' ∧ Tab T H' := by
  obtain ⟨h1, h2⟩ := h
  obtain ⟨ps, e1, e2⟩ := t P hP
  obtain ⟨ps', f1, f2⟩ := h1
  refine ⟨fun a o e => ?_, fun q hq => ?_⟩
  · by_cases ha : a = P
    · subst ha
      rw [e1] at e
      cases e
      exact .inr ⟨ps, ps', rfl, f1⟩
    · exact .inl (by rw [h2 a ha]; exact e)
  · by_cases ha : q = P
    · subst ha
      exact ⟨ps', f1, f2⟩
    · obtain ⟨qs, g1, g2⟩ := t q hq
      exact ⟨qs, by rw [h2 q ha]; exact g1, g2⟩
theorem se_allF {c Pt : Addr} {k : Nat} {fn x : Str} {pb : Nat → Bool} {scope : Scope} {px p pos gpos p1 p2 p3 : Pos} (E : EltF X.prog X.w X.K X.mg X.base fn x pb) (hr : Room k X.A) (hP : Pt ∈ C.T) (TB : TabB X.base X.mg c Pt) (hcode : X.env.code = .ref c) (hm : X.mg "all" = none) (hi : PE X iter (tE C W f))
    (hkd : scope.kind = .function := by rfl) (hco : scope.isCoroutine = false := by rfl) (hce : ∀ y ∈ scope.names, y.2 ≠ .cell := by decide +kernel) (hfr : ∀ y ∈ scope.names, y.2 ≠ .free := by decide +kernel) (hdt : scope.names.lookup (".0" : Str) = some NameKind.local := by rfl)
    (hfn : scope.names.lookup fn = some .globalImplicit := by rfl) (hx : scope.names.lookup x = some .local := by rfl) (hg : Gl X "all" := by rfl) (hs : ∀ v, genFold iter X.env v = pure v := by intro _; rfl)
    (he : starEach [.GeneratorExp (.Call (.Name fn p1) [.Name x p2] [] p3) [⟨.Name x px, iter, [], 0⟩] scope gpos] X.env = (false, eval (.GeneratorExp (.Call (.Name fn p1) [.Name x p2] [] p3) [⟨.Name x px, iter, [], 0⟩] scope gpos) X.env) :: starEach [] X.env := by rfl) :
    PE X (.Call (.Name "all" p) [.GeneratorExp (.Call (.Name fn p1) [.Name x p2] [] p3) [⟨.Name x px, iter, [], 0⟩] scope gpos] [] pos) (tE C W (mAllS pb f)) :=
  PE.imp (pe_allD hr hg hm (by decide +kernel) TB hcode ⟨hkd, hco, hce, hdt, hx, fun y hy e => absurd e (hfr y hy)⟩ hi (E.run p1 p2 p3 scope _ _ (by have := hr.dp; omega) hkd hfn hx) hs he) fun σ H Q w => by
    obtain ⟨B, P, ρ, hio, re, w⟩ := w
    refine tE_then hio re w fun d m v H1 s re1 vr w1 => ?_
    have o1 := VR.ov re.lst vr
    cases d <;> try exact w1.elim
    rename_i a
    refine ⟨a, o1.str, re1.tab Pt hP, fun H2 tb => ?_⟩
    obtain ⟨s2, t2⟩ := Tabbed.sm re1.tab hP tb
    exact w1 _ H2 s2 t2 (.bl _)
end
section
variable {P : Program} {w : World} {base : Heap} {K : PySem.W.Frag} {mg : Str → Option Value}
/-- a def that has a code table of its own -/
theorem fn_okT {C : Cf} {x qual : Str} {st : Stmt} {f : Addr} {fd : FuncData} {N ps : List Str} {k : Nat} {b : CV → Out} (F : Fun K x qual st f fd) (S : FnScope N ps (defScope st)) (hn : ps.length ≤ N.length)
    (body : ∀ (cdv : Value) (A : Around) (outer : List Env) (s : Shared) (H : Hp) (E : XK), cdv = fd.code → Room k (A.deeper (envOfC qual (defScope st) s.heap.objs.size f cdv)) →
      PSs (cxOf (L2.CX P w) P w K mg base N qual (defScope st) f cdv A outer s H E) (defBody st) (tS C (fun cls d _ H => E cls d H) b)) (hob : C.ob = none := by rfl) :
    FnOk P w K mg base (L2.CX P w) (k + 1) f fd ps (spM C ps.length (runB N.length b)) := by
  obtain ⟨_, _, _, _, _, _, cdv, _, _, rfl, lk, hcd⟩ := F.ex
  refine fn_of lk hcd S (fun vs H Q E h => ?_) fun A outer s H vs Q E hr h => ⟨_, body cdv A outer s H E rfl hr, ?_⟩
  · obtain ⟨B, P, args, hl, _⟩ := h
    exact hl
  · exact body_read hob hn h
end
/-- the end: defs of the text that have code tables -/
theorem walk_ofDefs {l : PySem.W.OpenLaw} {n k : Nat} {q : Program} {loose : List Str} {XP : (Str → Option Value) → Heap → Prop} {YP : World → Heap → Prop} {d : DefRec} {K : Params → PySem.W.Frag} {CX : World → CXT} {x : Str} (nms : List Str)
    (hn : l.most = some n) (hn2 : n ≤ sizeLine) (hdf : d.params.defaults = []) (hr : Room k callerA) (hrec : ∀ nm ∈ nms, ((recsOf q).any fun e => e.name == nm) = true) (hY : ∀ (w : World) (h : Heap), YP w h → (K w.params).In h)
    (F : ∀ (w : World) (mg : Str → Option Value) (fa : Addr) (h : Heap), YP w h → (K w.params).In h → h.Ns mainGlobals mg → mg d.name = some (.ref fa) → (∀ nm ∈ nms, ∀ f, mg nm = some (.ref f) → LamX.OwnTab (K w.params) f h) → LamX.LawAtS l w (K w.params) (CX w) k n x mg fa h)
    (noErr : ∀ (w : World) (H : Hp) (st st2 : Shared) (u : Value), CX w [] H st (fun _ _ _ => False) u st2 → False) : PySem.W.WalkO q loose XP YP l.row.toRowW d [] fun f vs => PySem.call f vs := by
  apply Att.attach_callB hn hdf
  intro w st0 st mg mb fa o pm cd doc a vs ns gr yp ho hd hcd hmg hobj hints hlen hbits hgens
  have kin := hY w _ yp
  have tables : ∀ nm ∈ nms, ∀ f, mg nm = some (.ref f) → LamX.OwnTab (K w.params) f st.heap := by
    intro nm hnm f hf c P o1 fd1 _ _ vs1 _ look isF code lookC at11
    obtain ⟨rec, rm, rn⟩ := List.any_eq_true.mp (hrec nm hnm)
    have tb := gr.T.tab rec rm
    rw [beq_iff_eq.mp rn, hf] at tb
    obtain ⟨_, _, _, _, _, ea, q2, q3, q4, _, ⟨⟨_, _, q5, _, q6, q7⟩, emp⟩⟩ := tb
    cases ea
    have eo := (kin _ _ look).symm.trans q2
    cases eo
    have ef := isF.symm.trans q3
    cases ef
    have ec := code.symm.trans q4
    cases ec
    have e5 := (kin _ _ lookC).symm.trans q5
    cases e5
    cases q6
    have e7 := at11.symm.trans q7
    cases e7
    exact emp
  obtain ⟨fd, cs, sp, t1, t2, t3, bind, prom, ok⟩ := F w mg fa _ yp kin gr.T.g hmg tables
  apply LamX.law_callTs kin gr.T.g gr.T.b gr.T.builtins gr.T.nolimit hgens t1 t2 t3 gr.T.bmain hobj hints (Nat.le_trans hlen hn2) hr ok bind
  · exact fun H hH hS => prom H a ns hlen hbits hH hS
  · exact fun H u st2 z => noErr w H st st2 u z
/-- the script as a cell -/
def scrC (ns : List Int) : Md → Cell := fun m => toCell (.list (ns.map PyData.int), m)
theorem fl_ints : ∀ ns : List Int, Fl (ns.map V.int) (ns.map PyData.int)
  | [] => .nil
  | _ :: r => .int (fl_ints r)
theorem law_entry {K : PySem.W.Frag} {T : List Addr} {mg : Str → Option Value} {M : CV → RF} {H : Hp} {a : Addr} {ns : List Int} (hT : ∀ p ∈ T, H p = some (.tbl #[])) (hS : SqL K H a (ns.map V.int))
    (hm : ∀ m, m = .fz ∨ m = .cl → ∃ ρ, M [scrC ns m] = .ok ((.bool true, .cl), ρ)) : spM { K := K, T := T, mg := mg, ios := [] } 1 M [.ref a] H (fun v _ => v = .bl true) fun _ _ _ => False := by
  have tb : Tab T H := fun p hp => ⟨#[], hT p hp, trivial⟩
  have nl : Lsts [] H := fun p hp => by simp at hp
  have key : ∀ m, m = .fz ∨ m = .cl → OV K [] H m (.ref a) (.list (ns.map PyData.int)) → spM { K := K, T := T, mg := mg, ios := [] } 1 M [.ref a] H (fun v _ => v = .bl true) fun _ _ _ => False := fun m hmd o => by
    obtain ⟨ρ, e⟩ := hm m hmd
    refine ⟨{ H0 := H, M := [], io := [], ch := [] }, [], [scrC ns m], rfl, ⟨rfl, rfl⟩, rfl, rfl, entry_call (C := { K := K, T := T, mg := mg, ios := [] }) (Pm := []) (ds := [(.list (ns.map PyData.int), m)]) nl tb ⟨o, trivial⟩ (fun x v ov n hx => ?_), ?_⟩
    · rw [mask_nil]
      exact ov.tr n
    · rw [e]
      intro P' σ' H' v re rv
      cases rv
      rfl
  rcases hS with hS | hS
  · rcases hS with e | ⟨o, e⟩
    · exact key .cl (.inr rfl) (.lst (by rw [mask_nil]; exact e) (trAll_ints ns))
    · exact key .fz (.inl rfl) (.lst (.inl ⟨o, e⟩) (fl_ints ns))
  · exact key .fz (.inl rfl) (.lst (.inr hS) (fl_ints ns))
/-- the table of a def's code object -/
theorem own_tab {K : PySem.W.Frag} {h : Heap} {f c P : Addr} {o : Obj} {fd : FuncData} (own : LamX.OwnTab K f h) (l : K.lookup f = some o) (hd : o.data = .func fd) (hc : fd.code = .ref c) (hh : PySem.W.codeHdIn K c P = true) : h.get? P = some { cls := .none, data := .fields #[] } := by
  unfold PySem.W.codeHdIn at hh
  split at hh
  · rename_i vs _ hk
    simp only [Bool.and_eq_true] at hh
    obtain ⟨⟨⟨⟨⟨e1, _⟩, _⟩, _⟩, _⟩, _⟩ := hh
    split at e1
    · rename_i P' h11
      have hP := beq_iff_eq.mp e1
      subst hP
      exact own c P' o fd _ _ _ _ l hd hc hk h11
    · cases e1
  · cases hh
theorem cx_false {P : Program} {w : World} {H : Hp} {s s' : Shared} {e : Value} (h : L2.CX P w [] H s (fun _ _ _ => False) e s') : False := by
  obtain ⟨_, _, _, _, _, _, _, _, _, _, _, _, h⟩ := h
  exact h
theorem tabB_of {base : Heap} {mg : Str → Option Value} {c P : Addr} (t : LamX.TabB base mg c P) : GxR.TabB base mg c P := ⟨t.code, t.bm, t.gP⟩
def cfOk (vs : Array Value) : Bool := (match vs.getD 18 .none with | .str _ _ => true | _ => false) && (match vs.getD 7 .none with | .int _ _ => true | _ => false) && (match vs.getD 9 .none with | .bool _ => true | _ => false) && (match vs.getD 10 .none with | .int _ _ => true | _ => false)
theorem codeHdIn_of {K : PySem.W.Frag} {c P : Addr} {dd : Option Addr} {vs : Array Value} {sl : Array (Option Value)} (lc : K.lookup c = some ⟨.type "code", dd, .fields vs, sl⟩) (h : vs[11]? = some (.ref P)) (d : cfOk vs = true) (ne : (c != P) = true) : PySem.W.codeHdIn K c P = true := by
  unfold cfOk at d
  simp only [Bool.and_eq_true] at d
  obtain ⟨⟨⟨d1, d2⟩, d3⟩, d4⟩ := d
  unfold PySem.W.codeHdIn
  split
  · rename_i vs' _ hk
    rw [lc] at hk
    cases hk
    simp only [Bool.and_eq_true]
    refine ⟨⟨⟨⟨⟨?_, d1⟩, d2⟩, d3⟩, d4⟩, ne⟩
    split
    · rename_i P' h11
      rw [h] at h11
      cases h11
      simp
    · rename_i hx
      exact absurd h (hx P)
  · rename_i hx
    exact absurd lc (hx _ _ _)
end Eng

set_option Elab.async false
set_option linter.all false
set_option maxRecDepth 100000
set_option maxHeartbeats 1234567
namespace Eng
open PySem PySem.Spec
open PyProof.Rows L2
/-! ### to reckon with the mirrors -/
def retR (r : RF) : Rs (D × Md) := match r with
  | .ok (x, _) => .ok x
  | .er c => .er c
  | .no => .no
theorem ret_ex {r : RF} {x : D × Md} (h : retR r = .ok x) : ∃ ρ, r = .ok (x, ρ) := by
  cases r with
  | ok y =>
    obtain ⟨z, ρ⟩ := y
    cases h
    exact ⟨ρ, rfl⟩
  | er c => cases h
  | no => cases h
def callR (ac : Bool) : Rs (D × Md) → Rs (D × Md)
  | .ok x => ofO (callMd ac x.1 x.2)
  | .er c => .er c
  | .no => .no
theorem mCall_eq (M : CV → RF) (fa : CV → Rs (List (D × Md))) (ρ : CV) : mCall M fa ρ = (fa ρ).bind fun ds => callR (ds.all fun x => clA x.2) (retR (M (ds.map toCell))) := by
  unfold mCall
  congr 1
  funext ds
  cases M (ds.map toCell) with
  | ok y => obtain ⟨⟨d, m⟩, ρ'⟩ := y; rfl
  | er c => rfl
  | no => rfl
theorem joinL_nil : ∀ ys : List (List Nat), TL.joinL [] ys = ys.flatten
  | [] => rfl
  | [p] => by simp [TL.joinL]
  | p :: q :: r => by
    show p ++ ([] ++ TL.joinL [] (q :: r)) = _
    rw [joinL_nil (q :: r)]
    simp
def tS0 (l : List Nat) : Str := ⟨l.toArray⟩
theorem tS0_len (l : List Nat) : (tS0 l).length = l.length := by simp [tS0, Str.length]
theorem tS0_l (l : List Nat) : (tS0 l).cps.toList = l := rfl
theorem tS0_eq {a b : List Nat} : tS0 a = tS0 b ↔ a = b := by
  constructor
  · intro h
    have := congrArg (fun s => s.cps.toList) h
    simpa [tS0] using this
  · rintro rfl; rfl
theorem tS0_append (a b : List Nat) : tS0 a ++ tS0 b = tS0 (a ++ b) := by
  show Str.mk (a.toArray ++ b.toArray) = ⟨(a ++ b).toArray⟩
  simp
theorem str_tS0 (s : Str) : s = tS0 s.cps.toList := by cases s; rfl
theorem join_tS0 (ys : List (List Nat)) : Txt.join "" (ys.map tS0) = tS0 ys.flatten := by
  have e : Txt.join ("" : Str) (ys.map tS0) = tS0 (TL.joinL [] ys) := by
    have h := TL.tl_join ("" : Str) (ys.map tS0)
    rw [← TL.join_eq] at h
    have e1 : (ys.map tS0).map TL.tl = ys := by
      rw [List.map_map]
      exact List.map_id'' (fun _ => rfl) ys
    rw [e1] at h
    have e2 : TL.tl ("" : Str) = [] := by decide +kernel
    rw [e2] at h
    exact TL.ext_tl h
  rw [e, joinL_nil]
theorem lcL_map {i : Nat} {el : CV → Rs (D × Md)} {ρ : CV} {g : D → D} : ∀ {ds : List D}, (∀ d ∈ ds, ∃ m, el (ρ.set i (.val d)) = .ok (g d, m) ∧ okEl (g d, m) = true) → lcL i mTrue el ρ ds = some (ds.map g)
  | [], _ => rfl
  | d :: ds, h => by
    obtain ⟨m, e, o⟩ := h d List.mem_cons_self
    show (match mTrue (ρ.set i (.val d)) with
      | .ok true => match el (ρ.set i (.val d)) with
        | .ok x => if okEl x = true then (lcL i mTrue el ρ ds).map (x.1 :: ·) else none
        | _ => none
      | .ok false => lcL i mTrue el ρ ds
      | _ => none) = _
    rw [e, lcL_map (ds := ds) fun x hx => h x (List.mem_cons_of_mem _ hx)]
    simp [mTrue, o]
theorem retR_ok (x : D × Md) (ρ : CV) : retR (.ok (x, ρ)) = .ok x := rfl
theorem retR_er (c : Str) : retR (.er c) = .er c := rfl
theorem retR_no : retR .no = .no := rfl
theorem callR_ok (ac : Bool) (x : D × Md) : callR ac (.ok x) = ofO (callMd ac x.1 x.2) := rfl
theorem mRange1_int {fa : CV → Rs (List (D × Md))} {ρ : CV} {j : Int} {m : Md} (h : fa ρ = .ok [(.int j, m)]) (h1 : -1000000 < j ∧ j < 1000000) : mRange1 fa ρ = .ok (rangeD 0 j.toNat) := by
  unfold mRange1
  rw [h]
  exact if_pos h1
theorem nat_mil {n : Nat} (h1 : n ≤ 1000) : (-1000000 : Int) < (n : Int) ∧ (n : Int) < 1000000 := ⟨by omega, by omega⟩
theorem mRange1_ok {fa : CV → Rs (List (D × Md))} {ρ : CV} {n : Nat} {m : Md} (h : fa ρ = .ok [(.int n, m)]) (h1 : n ≤ 1000) : mRange1 fa ρ = .ok (rangeD 0 n) := mRange1_int h (nat_mil h1)
theorem hDiv_ok {i j : Int} {m m2 : Md} (h : 0 < j) (h2 : j ≤ 1000) : hDiv (.int i, m) (.int j, m2) = some (.int (i / j), .cl) := by
  unfold hDiv
  dsimp only
  rw [if_pos ⟨h, by omega⟩]
theorem hMod_ok {i j : Int} {m m2 : Md} (h : 0 < j) : hMod (.int i, m) (.int j, m2) = some (.int (i % j), .cl) := by
  unfold hMod
  dsimp only
  rw [if_pos h]
theorem mem_range0 {x : D} {n : Nat} (h : x ∈ rangeD 0 n) : ∃ k : Nat, k < n ∧ x = .int k := by
  unfold rangeD at h
  obtain ⟨k, hk, rfl⟩ := List.mem_map.mp h
  exact ⟨k, List.mem_range.mp hk, by simp⟩
theorem range0_map {α : Type} (n : Nat) (g : D → α) : (rangeD 0 n).map g = (List.range n).map fun k => g (.int (k : Nat)) := by
  unfold rangeD
  rw [List.map_map]
  congr 1
  funext k
  simp
theorem mLc_ok {i : Nat} {it : CV → Rs (List D)} {el : CV → Rs (D × Md)} {ρ : CV} {g : D → D} {ds : List D} (h : it ρ = .ok ds) (hn : ds.length ≤ 1000) (hd : ∀ d ∈ ds, ∃ m, el ((ρ.set i .un).set i (.val d)) = .ok (g d, m) ∧ okEl (g d, m) = true) : mLc i it mTrue el ρ = .ok (.list (ds.map g), .fr) := by
  unfold mLc
  rw [h]
  dsimp only [Rs.bind]
  rw [if_pos (by omega), lcL_map hd]
  rfl
theorem rangeD_len (lo : Int) (n : Nat) : (rangeD lo n).length = n := by simp [rangeD]
theorem hJoin_ok {ys : List (List Nat)} {m : Md} (h : (ys.map (·.length)).sum ≤ 1000) : hJoin "" (PyData.list (ys.map fun y => .str (tS0 y)), m) = some (.str (tS0 ys.flatten), .cl) := by
  unfold hJoin
  have e : strsOf (ys.map fun y => PyData.str (tS0 y)) = some (ys.map tS0) := by
    have := strsOf_map (ys.map tS0)
    rw [List.map_map] at this
    exact this
  dsimp only
  rw [e]
  dsimp only
  have e2 : ((ys.map tS0).map (·.length)) = ys.map (·.length) := by
    rw [List.map_map]
    exact List.map_congr_left fun y _ => tS0_len y
  have e3 : ("" : Str).length = 0 := by decide +kernel
  rw [e2, e3, if_pos (by omega), join_tS0]
section
variable {f g : CV → Rs (D × Md)} {ρ ρ' : CV} {x y : D × Md} {t : CV → Rs Bool} {u w : CV → Out} {i : Nat}
theorem sSet_ok (h : f ρ = .ok x) : sSet i f ρ = setK i ρ x := by unfold sSet; rw [h]
theorem mStrM_ok {k : Str → CV → Rs (D × Md)} {a : Str} {m : Md} (h : f ρ = .ok (.str a, m)) : mStrM f k ρ = k a ρ := by unfold mStrM; rw [h]; rfl
theorem mUn_ok {h : D × Md → Option (D × Md)} (e : f ρ = .ok x) (e2 : h x = some y) : mUn h f ρ = .ok y := by
  unfold mUn
  rw [e]
  simp only [Rs.bind]
  rw [e2]
  rfl
theorem mBin_ok {h : D × Md → D × Md → Option (D × Md)} {z : D × Md} (e : f ρ = .ok x) (e1 : g ρ = .ok y) (e2 : h x y = some z) : mBin h f g ρ = .ok z := by
  unfold mBin
  rw [e]
  simp only [Rs.bind]
  rw [e1]
  simp only
  rw [e2]
  rfl
theorem mCmp_ok {h : D × Md → D × Md → Option Bool} {z : Bool} (e : f ρ = .ok x) (e1 : g ρ = .ok y) (e2 : h x y = some z) : mCmp h f g ρ = .ok z := by
  unfold mCmp
  rw [e]
  simp only [Rs.bind]
  rw [e1]
  simp only
  rw [e2]
  rfl
theorem mVal_ok {b : Bool} (e : t ρ = .ok b) : mVal t ρ = .ok (.bool b, .cl) := by
  unfold mVal
  rw [e]
  rfl
theorem sIf_ok {b : Bool} (e : t ρ = .ok b) : sIf t u w ρ = if b then u ρ else w ρ := by
  unfold sIf
  rw [e]
theorem sSeq_nx (e : u ρ = .nx ρ') : sSeq u w ρ = w ρ' := by
  unfold sSeq
  rw [e]
  rfl
theorem sSeq_rt {d : D} {m : Md} (e : u ρ = .rt d m ρ') : sSeq u w ρ = .rt d m ρ' := by
  unfold sSeq
  rw [e]
  rfl
theorem sRet_ok {d : D} {m : Md} (e : f ρ = .ok (d, m)) (n : m ≠ .ow) : sRet f ρ = .rt d m ρ := by
  unfold sRet
  rw [e]
  simp [n]
theorem mCall_ok {M : CV → RF} {fa : CV → Rs (List (D × Md))} {ds : List (D × Md)} (e : fa ρ = .ok ds) (e2 : retR (M (ds.map toCell)) = .ok x) : mCall M fa ρ = ofO (callMd (ds.all fun x => clA x.2) x.1 x.2) := by
  rw [mCall_eq, e]
  simp only [Rs.bind]
  rw [e2]
  rfl
end
theorem setK_cl {i : Nat} {ρ : CV} {d : D} : setK i ρ (d, .cl) = .nx (ρ.set i (.val d)) := by cases d <;> rfl
theorem callMd_cl {d : D} : callMd true d .cl = some (d, .cl) := rfl
theorem hDiv_big {i j : Int} {m m2 : Md} (h : 0 < j ∧ j < 1073741824) : hDiv (.int i, m) (.int j, m2) = some (.int (i / j), .cl) := by
  unfold hDiv
  dsimp only
  rw [if_pos h]
theorem mCons_ok {f : CV → Rs (D × Md)} {g : CV → Rs (List (D × Md))} {ρ : CV} {x : D × Md} {xs : List (D × Md)} (e : f ρ = .ok x) (e2 : g ρ = .ok xs) : mCons f g ρ = .ok (x :: xs) := by
  unfold mCons
  rw [e]
  simp only [Rs.bind]
  rw [e2]
theorem mNil_ok {ρ : CV} : mNil ρ = .ok [] := rfl
theorem mK_ok {ρ : CV} {d : D} : mK d ρ = .ok (d, .cl) := rfl
theorem hAdd_int {i j : Int} {m m2 : Md} : hAdd (.int i, m) (.int j, m2) = some (.int (i + j), .cl) := rfl
theorem hSub_int {i j : Int} {m m2 : Md} : hSub (.int i, m) (.int j, m2) = some (.int (i - j), .cl) := rfl
theorem hMul_int {i j : Int} {m m2 : Md} (h : mulOk i j = true) : hMul (.int i, m) (.int j, m2) = some (.int (i * j), .cl) := by
  unfold hMul
  dsimp only
  rw [if_pos h]
theorem mulOk_r {i j : Int} (h : -1000000 < j ∧ j < 1000000) : mulOk i j = true := by
  unfold mulOk
  simp only [Bool.or_eq_true, Bool.and_eq_true, decide_eq_true_eq]
  right
  omega
theorem mulOk_l {i j : Int} (h : -1000000 < i ∧ i < 1000000) : mulOk i j = true := by
  unfold mulOk
  simp only [Bool.or_eq_true, Bool.and_eq_true, decide_eq_true_eq]
  left
  omega
theorem mSl_ok {f : CV → Rs (D × Md)} {lo hi : CV → Rs (Option Int)} {ρ : CV} {x y : D × Md} {l h : Option Int} (e : f ρ = .ok x) (e1 : lo ρ = .ok l) (e2 : hi ρ = .ok h) (e3 : hSl x l h = some y) : mSl f lo hi ρ = .ok y := by
  unfold mSl
  rw [e]
  simp only [Rs.bind]
  rw [e1]
  simp only
  rw [e2]
  simp only
  rw [e3]
  rfl
theorem mNoP_ok {ρ : CV} : mNoP ρ = .ok none := rfl
theorem mPart_ok {f : CV → Rs (D × Md)} {ρ : CV} {i : Int} {m : Md} (e : f ρ = .ok (.int i, m)) : mPart f ρ = .ok (some i) := by
  unfold mPart
  rw [e]
  rfl
theorem mAnd_ok {t u : CV → Rs Bool} {ρ : CV} {a b : Bool} (e : t ρ = .ok a) (e2 : a = true → u ρ = .ok b) : mAnd t u ρ = .ok (a && b) := by
  unfold mAnd
  rw [e]
  cases a with
  | false => rfl
  | true => exact e2 rfl
theorem mOr_ok {t u : CV → Rs Bool} {ρ : CV} {a b : Bool} (e : t ρ = .ok a) (e2 : a = false → u ρ = .ok b) : mOr t u ρ = .ok (a || b) := by
  unfold mOr
  rw [e]
  cases a with
  | true => rfl
  | false => exact e2 rfl
theorem mNot_ok {t : CV → Rs Bool} {ρ : CV} {a : Bool} (e : t ρ = .ok a) : mNot t ρ = .ok (!a) := by
  unfold mNot
  rw [e]
  rfl
theorem mBool_ok {f : CV → Rs (D × Md)} {ρ : CV} {a : Bool} {m : Md} (e : f ρ = .ok (.bool a, m)) : mBool f ρ = .ok a := by
  unfold mBool
  rw [e]
  rfl
theorem sNx_ok {ρ : CV} : sNx ρ = .nx ρ := rfl
theorem mCallB_ok {h : List (D × Md) → Option (D × Md)} {fa : CV → Rs (List (D × Md))} {ρ : CV} {ds : List (D × Md)} {y : D × Md} (e : fa ρ = .ok ds) (e2 : h ds = some y) : mCallB h fa ρ = .ok y := by
  unfold mCallB
  rw [e]
  simp only [Rs.bind]
  rw [e2]
  rfl
theorem mLst_ok {fa : CV → Rs (List (D × Md))} {ρ : CV} {ds : List (D × Md)} (e : fa ρ = .ok ds) (h : ds.all okEl = true ∧ ds.length ≤ 1000) : mLst fa ρ = .ok (.list (ds.map (·.1)), .fr) := by
  unfold mLst
  rw [e]
  exact if_pos h
theorem mTup_ok {fa : CV → Rs (List (D × Md))} {ρ : CV} {ds : List (D × Md)} (e : fa ρ = .ok ds) (h : ds.all okEl = true ∧ ds.length ≤ 1000) : mTup fa ρ = .ok (.tuple (ds.map (·.1)), .cl) := by
  unfold mTup
  rw [e]
  exact if_pos h
theorem mVar_val {i : Nat} {ρ : CV} {d : D} (h : ρ[i]? = some (.val d)) : mVar i ρ = .ok (d, .cl) := by
  unfold mVar
  rw [h]
theorem mVar_own {i : Nat} {ρ : CV} {ds : List D} (h : ρ[i]? = some (.own ds)) : mVar i ρ = .ok (.list ds, .ow) := by
  unfold mVar
  rw [h]
theorem shr_val {i : Nat} {ρ : CV} {d : D} (h : ρ[i]? = some (.val d)) : shr i ρ = ρ := by
  unfold shr
  rw [h]
theorem forL_inv {i : Nat} {u : CV → Out} {I : CV → Prop} : ∀ {ds : List D}, (∀ d ∈ ds, ∀ ρ, I ρ → ∃ ρ', u (ρ.set i (.val d)) = .nx ρ' ∧ I ρ') → ∀ ρ, I ρ → ∃ ρ', forL i u ds ρ = .nx ρ' ∧ I ρ'
  | [], _, ρ, h => ⟨ρ, rfl, h⟩
  | d :: ds, hs, ρ, h => by
    obtain ⟨ρ1, e, h1⟩ := hs d List.mem_cons_self ρ h
    obtain ⟨ρ2, e2, h2⟩ := forL_inv (fun x hx => hs x (List.mem_cons_of_mem _ hx)) ρ1 h1
    refine ⟨ρ2, ?_, h2⟩
    unfold forL
    rw [e]
    exact e2
theorem sFor_ok {i : Nat} {it : CV → Rs (List D)} {u : CV → Out} {ρ : CV} {ds : List D} (e : it ρ = .ok ds) : sFor i it u ρ = forL i u ds ρ := by
  unfold sFor
  rw [e]
theorem sRetOwn_own {i : Nat} {ρ : CV} {ds : List D} (h : ρ[i]? = some (.own ds)) : sRetOwn i ρ = .rt (.list ds) .ow ρ := by
  unfold sRetOwn
  rw [h]
theorem sRetOwn_val {i : Nat} {ρ : CV} {d : D} (h : ρ[i]? = some (.val d)) : sRetOwn i ρ = .rt d .cl ρ := by
  unfold sRetOwn
  rw [h]
theorem ixN_nat {n k : Nat} (h : k < n) : ixN n (k : Int) = some k := by
  unfold ixN
  (rw [if_pos (by omega), if_pos (by omega)])
  simp
theorem sSetIx_ok {i : Nat} {fe fk : CV → Rs (D × Md)} {ρ : CV} {x : D × Md} {k : Nat} {m : Md} {ds : List D} (e : fe ρ = .ok x) (ok : okEl x = true) (e2 : fk ρ = .ok (.int (k : Int), m)) (e3 : ρ[i]? = some (.own ds)) (hk : k < ds.length) : sSetIx i fe fk ρ = .nx (ρ.set i (.own (ds.set k x.1))) := by
  unfold sSetIx
  rw [e]
  simp only
  rw [if_pos ok, e2]
  simp only
  rw [e3]
  simp only
  rw [ixN_nat hk]
theorem forL_invN {i : Nat} {u : CV → Out} {I : Nat → CV → Prop} : ∀ {ds : List D} (n : Nat), (∀ d ∈ ds, ∀ j ρ, I j ρ → ∃ ρ', u (ρ.set i (.val d)) = .nx ρ' ∧ I (j + 1) ρ') → ∀ ρ, I n ρ → ∃ ρ', forL i u ds ρ = .nx ρ' ∧ I (n + ds.length) ρ'
  | [], n, _, ρ, h => ⟨ρ, rfl, h⟩
  | d :: ds, n, hs, ρ, h => by
    obtain ⟨ρ1, e, h1⟩ := hs d List.mem_cons_self n ρ h
    obtain ⟨ρ2, e2, h2⟩ := forL_invN (n + 1) (fun x hx => hs x (List.mem_cons_of_mem _ hx)) ρ1 h1
    refine ⟨ρ2, ?_, ?_⟩
    · unfold forL
      rw [e]
      exact e2
    · rw [List.length_cons, show n + (ds.length + 1) = n + 1 + ds.length by omega]
      exact h2
theorem mLift_ok {f : CV → Rs (D × Md)} {ρ : CV} {x : D × Md} (e : f ρ = .ok x) (ok : okEl x = true) : mLift f ρ = .ok (x.1, ρ) := by
  unfold mLift
  rw [e]
  exact if_pos ok
theorem sApp_ok {i : Nat} {fx : CV → Rs (D × CV)} {ρ : CV} {d : D} {ds : List D} (h : ρ[i]? = some (.own ds)) (e : fx ρ = .ok (d, ρ)) (hl : ds.length ≤ 1000) : sApp i fx ρ = .nx (ρ.set i (.own (ds ++ [d]))) := by
  unfold sApp
  rw [h]
  simp only
  rw [e]
  simp only
  rw [h]
  simp only
  rw [if_pos (by omega)]
theorem mRange2_int {fa : CV → Rs (List (D × Md))} {ρ : CV} {i j : Int} {m m2 : Md} (h : fa ρ = .ok [(.int i, m), (.int j, m2)]) (h1 : -1000000 < i ∧ i < 1000000 ∧ -1000000 < j ∧ j < 1000000) : mRange2 fa ρ = .ok (rangeD i (j - i).toNat) := by
  unfold mRange2
  rw [h]
  exact if_pos h1
theorem whL_step {t : CV → Rs Bool} {u : CV → Out} {n : Nat} {ρ ρ' : CV} (e : t ρ = .ok true) (e2 : u ρ = .nx ρ') : whL t u (n + 1) ρ = whL t u n ρ' := by
  show (match t ρ with | .ok true => _ | .ok false => _ | .er c => _ | .no => _) = _
  rw [e]
  simp only
  rw [e2]
theorem whL_done {t : CV → Rs Bool} {u : CV → Out} {n : Nat} {ρ : CV} (e : t ρ = .ok false) : whL t u (n + 1) ρ = .nx ρ := by
  show (match t ρ with | .ok true => _ | .ok false => _ | .er c => _ | .no => _) = _
  rw [e]
theorem mIsi_ok {ty : String} {f : CV → Rs (D × Md)} {ρ : CV} {x : D × Md} (e : f ρ = .ok x) : mIsi ty f ρ = .ok (.bool (isD ty x.1), .cl) := by
  unfold mIsi
  rw [e]
  rfl
theorem sSetX_ok {i : Nat} {fx : CV → Rs (D × CV)} {ρ ρ' : CV} {d : D} (e : fx ρ = .ok (d, ρ')) : sSetX i fx ρ = .nx (ρ'.set i (.val d)) := by
  unfold sSetX
  rw [e]
theorem mPop_ok {i : Nat} {ρ : CV} {ds : List D} {d : D} (h : ρ[i]? = some (.own (ds ++ [d]))) : mPop i ρ = .ok (d, ρ.set i (.own ds)) := by
  unfold mPop
  rw [h]
  simp
theorem mIterL_fr {f : CV → Rs (D × Md)} {ρ : CV} {ds : List D} (e : f ρ = .ok (.list ds, .fr)) : mIterL f ρ = .ok ds := by
  unfold mIterL
  rw [e]
  rfl
theorem mIterL_cl {f : CV → Rs (D × Md)} {ρ : CV} {ds : List D} (e : f ρ = .ok (.list ds, .cl)) : mIterL f ρ = .ok ds := by
  unfold mIterL
  rw [e]
  rfl
theorem hListOf_ok {ds : List D} {m : Md} (h : itCl m = true) : hListOf [(.list ds, m)] = some (.list ds, .fr) := by
  unfold hListOf
  dsimp only
  rw [if_pos (.inl h)]
end Eng

set_option Elab.async false
set_option linter.all false
set_option maxRecDepth 100000
set_option maxHeartbeats 1234567
namespace Eng
open PySem PySem.Spec
open PyProof.Rows L2

/-! ### calls of defs that change lists of the caller -/
inductive Arg where
  | v (x : D × Md)
  | io (i : Nat)
def OVI (K : PySem.W.Frag) (Pm : List Addr) (σ : St) (H : Hp) : List V → List Arg → Prop
  | [], [] => True
  | v :: vs, .v d :: ds => OV K Pm H d.2 v d.1 ∧ OVI K Pm σ H vs ds
  | v :: vs, .io i :: ds => σ[i]? = some (some v) ∧ OVI K Pm σ H vs ds
  | _, _ => False
section
variable (C : Cf) (W : WX)
def AIR (σ : St) (H : Hp) (Pm : List Addr) (Q : List V → Hp → Prop) : Rs (List Arg) → Prop
  | .ok ds => ∀ vs H', Sm H H' → Tab C.T H' → OVI C.K Pm σ H' vs ds → Q vs H'
  | .er c => ∀ A H', C.mg c = some (.ref A) → Sm H H' → Tab C.T H' → W (.ref A) none σ H'
  | .no => False
def tAI (f : CV → Rs (List Arg)) : TA := fun σ H Q => ∃ B P ρ, Lk B C ∧ RE C.K C.T B P H σ ρ ∧ AIR C W σ H (B.M ++ P) Q (f ρ)
end
section
variable {X : Cx} {C : Cf} {W : WX} {e a b : Expr} {es : List Expr} {f g : CV → Rs (D × Md)} {fa : CV → Rs (List Arg)} {pos : Pos}
theorem AIR.sm {σ : St} {H H1 : Hp} {Pm : List Addr} {Q : List V → Hp → Prop} {r : Rs (List Arg)} (s : Sm H H1) (h : AIR C W σ H Pm Q r) : AIR C W σ H1 Pm Q r := by
  cases r with
  | ok a => exact fun vs H' s' t vr => h vs H' (s.trans s') t vr
  | er c => exact fun A H' hm s' t => h A H' hm (s.trans s') t
  | no => exact h
def mNilI : CV → Rs (List Arg) := fun _ => .ok []
def mConsV (f : CV → Rs (D × Md)) (g : CV → Rs (List Arg)) : CV → Rs (List Arg) := fun ρ => (f ρ).bind fun x => (g ρ).bind fun xs => .ok (.v x :: xs)
def mConsIo (i : Nat) (g : CV → Rs (List Arg)) : CV → Rs (List Arg) := fun ρ => match ρ[i]? with
  | some (.own _) => (g ρ).bind fun xs => .ok (.io i :: xs)
  | _ => .no
theorem sai_nil : PA X [] (tAI C W mNilI) := PA.imp pa_nil fun σ H Q w => by
  obtain ⟨B, P, ρ, hio, re, w⟩ := w
  exact w [] H (Sm.refl _) re.tab trivial
theorem sai_cons (ha : PE X e (tE C W f)) (hr : PA X es (tAI C W fa)) (hs : starEach (e :: es) X.env = (false, eval e X.env) :: starEach es X.env := by rfl) : PA X (e :: es) (tAI C W (mConsV f fa)) := PA.imp (pa_cons ha hr hs) fun σ H Q w => by
  obtain ⟨B, P, ρ, hio, re, w⟩ := w
  refine ⟨B, P, ρ, hio, re, ?_⟩
  unfold mConsV at w
  cases ef : f ρ with
  | er c => rw [ef] at w; exact w
  | no => rw [ef] at w; exact w
  | ok x =>
    obtain ⟨d, m⟩ := x
    rw [ef] at w
    dsimp only [Rs.bind] at w
    intro v H1 s tb vr
    have o1 := VR.ov re.lst vr
    refine ⟨B, P, ρ, hio, re.sm s tb, ?_⟩
    cases eg : fa ρ with
    | ok xs =>
      rw [eg] at w
      exact fun vs H2 s2 t2 ovs => w (v :: vs) H2 (s.trans s2) t2 ⟨o1.sm s2, ovs⟩
    | er c => rw [eg] at w; exact fun A H2 hm s2 t2 => w A H2 hm (s.trans s2) t2
    | no => rw [eg] at w; exact w
theorem sai_io (i : Nat) {x : Str} {p2 : Pos} (hr : PA X es (tAI C W fa)) (hN : X.N[i]? = some x := by rfl) (hlc : C.lc i = true := by rfl) (hv : Vis X.env.scope x := by first | exact Or.inl rfl | exact Or.inr (Or.inl rfl) | exact Or.inr (Or.inr rfl)) (hd : (x == ("__debug__" : Str)) = false := by decide)
    (hcd : (x == ("__classdict__" : Str)) = false := by decide) (hs : starEach (.Name x p2 :: es) X.env = (false, eval (.Name x p2) X.env) :: starEach es X.env := by rfl) : PA X (.Name x p2 :: es) (tAI C W (mConsIo i fa)) := PA.imp (pa_cons (pe_var (i := i) hN hv hd hcd) hr hs) fun σ H Q w => by
  obtain ⟨B, P, ρ, hio, re, w⟩ := w
  unfold mConsIo at w
  split at w
  · rename_i ds e
    obtain ⟨p, vs, h1, _⟩ := re.own (hio.lc hlc) e
    refine ⟨.ref p, h1, B, P, ρ, hio, re, ?_⟩
    cases eg : fa ρ with
    | ok xs =>
      rw [eg] at w
      exact fun vs H2 s2 t2 ovs => w (.ref p :: vs) H2 s2 t2 ⟨h1, ovs⟩
    | er c => rw [eg] at w; exact w
    | no => rw [eg] at w; exact w
  · exact w.elim
/-- how many arguments -/
inductive LenI : Nat → (CV → Rs (List Arg)) → Prop
  | nil : LenI 0 mNilI
  | v {f : CV → Rs (D × Md)} {fa : CV → Rs (List Arg)} {n : Nat} : LenI n fa → LenI (n + 1) (mConsV f fa)
  | io {i : Nat} {fa : CV → Rs (List Arg)} {n : Nat} : LenI n fa → LenI (n + 1) (mConsIo i fa)
theorem LenI.len {n : Nat} {fa : CV → Rs (List Arg)} (h : LenI n fa) : ∀ ρ ds, fa ρ = .ok ds → ds.length = n := by
  induction h with
  | nil => intro ρ ds e; cases e; rfl
  | @v f fa n h ih =>
    intro ρ ds e
    unfold mConsV at e
    cases ef : f ρ with
    | er c => rw [ef] at e; cases e
    | no => rw [ef] at e; cases e
    | ok x =>
      rw [ef] at e
      cases eg : fa ρ with
      | er c => rw [eg] at e; cases e
      | no => rw [eg] at e; cases e
      | ok xs =>
        rw [eg] at e
        cases e
        rw [List.length_cons, ih ρ xs eg]
  | @io i fa n h ih =>
    intro ρ ds e
    unfold mConsIo at e
    split at e
    · cases eg : fa ρ with
      | er c => rw [eg] at e; cases e
      | no => rw [eg] at e; cases e
      | ok xs =>
        rw [eg] at e
        cases e
        rw [List.length_cons, ih ρ xs eg]
    · cases e
/-- the places of the lists that change: (argument, slot) -/
def ioOf : List Arg → Nat → List (Nat × Nat)
  | [], _ => []
  | .v _ :: r, n => ioOf r (n + 1)
  | .io i :: r, n => (n, i) :: ioOf r (n + 1)
theorem ioOf_mem : ∀ {as : List Arg} {n k i : Nat}, (k, i) ∈ ioOf as n ↔ n ≤ k ∧ as[k - n]? = some (.io i)
  | [], n, k, i => by simp [ioOf]
  | .v x :: r, n, k, i => by
    have ih := ioOf_mem (as := r) (n := n + 1) (k := k) (i := i)
    show (k, i) ∈ ioOf r (n + 1) ↔ _
    rw [ih]
    constructor
    · rintro ⟨h, e⟩
      refine ⟨by omega, ?_⟩
      have : k - n = (k - (n + 1)) + 1 := by omega
      rw [this]
      exact e
    · rintro ⟨h, e⟩
      by_cases hk : k = n
      · subst hk
        rw [Nat.sub_self] at e
        cases e
      · refine ⟨by omega, ?_⟩
        have : k - n = (k - (n + 1)) + 1 := by omega
        rw [this] at e
        exact e
  | .io j :: r, n, k, i => by
    have ih := ioOf_mem (as := r) (n := n + 1) (k := k) (i := i)
    show (k, i) ∈ (n, j) :: ioOf r (n + 1) ↔ _
    rw [List.mem_cons, ih]
    constructor
    · rintro (h | ⟨h, e⟩)
      · cases h
        refine ⟨Nat.le_refl _, ?_⟩
        rw [Nat.sub_self]
        rfl
      · refine ⟨by omega, ?_⟩
        have : k - n = (k - (n + 1)) + 1 := by omega
        rw [this]
        exact e
    · rintro ⟨h, e⟩
      by_cases hk : k = n
      · subst hk
        rw [Nat.sub_self] at e
        cases e
        exact .inl rfl
      · refine .inr ⟨by omega, ?_⟩
        have : k - n = (k - (n + 1)) + 1 := by omega
        rw [this] at e
        exact e
def cellOf (ρ : CV) : Arg → Cell
  | .v x => toCell x
  | .io i => ρ.getD i .un
def clI (ρ : CV) : Arg → Bool
  | .v x => clA x.2
  | .io i => match ρ[i]? with
    | some (.own _) => true
    | _ => false
def ioSet : List (Nat × Nat) → CV → CV → CV
  | [], ρ, _ => ρ
  | (j, i) :: r, ρ, ρ2 => ioSet r (ρ.set i (ρ2.getD j .un)) ρ2
def nodupB : List Nat → Bool
  | [] => true
  | x :: r => !r.contains x && nodupB r
theorem nodupB_iff : ∀ {l : List Nat}, nodupB l = true → l.Nodup
  | [], _ => List.nodup_nil
  | x :: r, h => by
    unfold nodupB at h
    rw [Bool.and_eq_true] at h
    refine List.nodup_cons.mpr ⟨fun z => ?_, nodupB_iff h.2⟩
    have h1 := h.1
    rw [List.contains_iff_mem.mpr z] at h1
    cases h1
def mCallIo (ios : List Nat) (M : CV → RF) (fa : CV → Rs (List Arg)) : CV → Rs (D × CV) := fun ρ => match fa ρ with
  | .ok as => if as.all (clI ρ) = true ∧ (ioOf as 0).map (·.1) = ios ∧ nodupB ((ioOf as 0).map (·.2)) = true then
      match M (as.map (cellOf ρ)) with
      | .ok ((d, m), ρ2) => match callMd true d m with
        | some z => if okEl z = true then .ok (z.1, ioSet (ioOf as 0) ρ ρ2) else .no
        | none => .no
      | _ => .no
    else .no
  | _ => .no
theorem ioSet_len : ∀ (js : List (Nat × Nat)) (ρ ρ2 : CV), (ioSet js ρ ρ2).length = ρ.length
  | [], _, _ => rfl
  | (j, i) :: r, ρ, ρ2 => by
    show (ioSet r (ρ.set i _) ρ2).length = _
    rw [ioSet_len r, List.length_set]
theorem ioSet_out : ∀ {js : List (Nat × Nat)} {ρ ρ2 : CV} {k : Nat}, k ∉ js.map (·.2) → (ioSet js ρ ρ2)[k]? = ρ[k]?
  | [], _, _, _, _ => rfl
  | (j, i) :: r, ρ, ρ2, k, h => by
    simp only [List.map_cons, List.mem_cons, not_or] at h
    show (ioSet r (ρ.set i _) ρ2)[k]? = _
    rw [ioSet_out h.2, List.getElem?_set_ne fun z => h.1 z.symm]
theorem ioSet_in : ∀ {js : List (Nat × Nat)} {ρ ρ2 : CV} {j i : Nat}, (js.map (·.2)).Nodup → (j, i) ∈ js → i < ρ.length → (ioSet js ρ ρ2)[i]? = some (ρ2.getD j .un)
  | [], _, _, _, _, _, h, _ => absurd h (by simp)
  | (j0, i0) :: r, ρ, ρ2, j, i, nd, h, hl => by
    have nd' : i0 ∉ r.map (·.2) ∧ (r.map (·.2)).Nodup := by simpa using nd
    rcases List.mem_cons.mp h with (h | h)
    · have hj : j = j0 := congrArg (·.1) h
      have hi : i = i0 := congrArg (·.2) h
      subst hj hi
      show (ioSet r (ρ.set i _) ρ2)[i]? = _
      rw [ioSet_out nd'.1, List.getElem?_set_self hl]
    · show (ioSet r (ρ.set i0 _) ρ2)[i]? = _
      exact ioSet_in nd'.2 h (by rw [List.length_set]; exact hl)
theorem OVI.length {K : PySem.W.Frag} {Pm : List Addr} {σ : St} {H : Hp} : ∀ {vs : List V} {ds : List Arg}, OVI K Pm σ H vs ds → vs.length = ds.length
  | [], [], _ => rfl
  | _ :: _, .v _ :: _, h => by simp [OVI.length h.2]
  | _ :: _, .io _ :: _, h => by simp [OVI.length h.2]
  | [], _ :: _, h => h.elim
  | _ :: _, [], h => h.elim
theorem OVI.getV {K : PySem.W.Frag} {Pm : List Addr} {σ : St} {H : Hp} : ∀ {vs : List V} {ds : List Arg} {k : Nat} {d : D × Md}, OVI K Pm σ H vs ds → ds[k]? = some (.v d) → ∃ v, vs[k]? = some v ∧ OV K Pm H d.2 v d.1
  | v :: _, .v d :: _, 0, _, h, e => by
    cases e
    exact ⟨v, rfl, h.1⟩
  | v :: _, .io _ :: _, 0, _, h, e => by cases e
  | _ :: vs, .v _ :: ds, k + 1, d, h, e => by simpa using OVI.getV (k := k) h.2 (by simpa using e)
  | _ :: vs, .io _ :: ds, k + 1, d, h, e => by simpa using OVI.getV (k := k) h.2 (by simpa using e)
  | [], [], _, _, _, e => by simp at e
  | [], _ :: _, _, _, h, _ => h.elim
  | _ :: _, [], _, _, h, _ => h.elim
theorem OVI.getI {K : PySem.W.Frag} {Pm : List Addr} {σ : St} {H : Hp} : ∀ {vs : List V} {ds : List Arg} {k i : Nat}, OVI K Pm σ H vs ds → ds[k]? = some (.io i) → ∃ v, vs[k]? = some v ∧ σ[i]? = some (some v)
  | v :: _, .v d :: _, 0, _, h, e => by cases e
  | v :: _, .io j :: _, 0, i, h, e => by
    cases e
    exact ⟨v, rfl, h.1⟩
  | _ :: vs, .v _ :: ds, k + 1, d, h, e => by simpa using OVI.getI (k := k) h.2 (by simpa using e)
  | _ :: vs, .io _ :: ds, k + 1, d, h, e => by simpa using OVI.getI (k := k) h.2 (by simpa using e)
  | [], [], _, _, _, e => by simp at e
  | [], _ :: _, _, _, h, _ => h.elim
  | _ :: _, [], _, _, h, _ => h.elim
/-- the address that a slot holds -/
def adr (σ : St) (i : Nat) : Addr := match σ[i]? with
  | some (some (.ref p)) => p
  | _ => 0
theorem adr_of {σ : St} {i : Nat} {p : Addr} (h : σ[i]? = some (some (.ref p))) : adr σ i = p := by
  unfold adr
  rw [h]
theorem nodup_snd {js : List (Nat × Nat)} (nd : (js.map (·.2)).Nodup) : ∀ {j j' i : Nat}, (j, i) ∈ js → (j', i) ∈ js → j = j' := by
  induction js with
  | nil => intro _ _ _ h; simp at h
  | cons q r ih =>
    intro j j' i h h'
    have nd' : q.2 ∉ r.map (·.2) ∧ (r.map (·.2)).Nodup := by simpa using nd
    rcases List.mem_cons.mp h with (h | h) <;> rcases List.mem_cons.mp h' with (h' | h')
    · rw [← h] at h'
      exact (congrArg (·.1) h').symm
    · exact absurd (List.mem_map.mpr ⟨_, h', by rw [← h]⟩) nd'.1
    · exact absurd (List.mem_map.mpr ⟨_, h, by rw [← h']⟩) nd'.1
    · exact ih nd'.2 h h'
section
variable {K : PySem.W.Frag} {T : List Addr} {B : Bs} {P P' P2 : List Addr} {H H' H1 H2 : Hp} {σ σ' σ2 : St} {ρ ρ' ρ2 : CV}
/-- the callee's base -/
def ioBs (B : Bs) (P : List Addr) (H : Hp) (σ : St) (js : List (Nat × Nat)) : Bs := { H0 := H, M := B.M ++ P, io := js.map fun q => (q.1, adr σ q.2), ch := js.map fun q => adr σ q.2 }
structure IoOk (B : Bs) (P : List Addr) (H : Hp) (σ : St) (ρ : CV) (as : List Arg) : Prop where
  cl : as.all (clI ρ) = true
  nd : ((ioOf as 0).map (·.2)).Nodup
theorem IoOk.own {as : List Arg} (ok : IoOk B P H σ ρ as) {k i : Nat} (h : as[k]? = some (.io i)) : ∃ ds, ρ[i]? = some (.own ds) := by
  have := List.all_eq_true.mp ok.cl _ (List.mem_of_getElem? h)
  unfold clI at this
  dsimp only at this
  split at this
  · rename_i ds e
    exact ⟨ds, e⟩
  · cases this
theorem IoOk.mem {as : List Arg} {k i : Nat} (h : (k, i) ∈ ioOf as 0) : as[k]? = some (.io i) := (ioOf_mem.mp h).2
theorem IoOk.adr {as : List Arg} (ok : IoOk B P H σ ρ as) (re : RE0 K T B P H σ ρ) {k i : Nat} (h : as[k]? = some (.io i)) : ∃ ds vs, ρ[i]? = some (.own ds) ∧ σ[i]? = some (some (.ref (adr σ i))) ∧ adr σ i ∈ P ∧ H (adr σ i) = some (.lst vs) ∧ TrAll (mask (B.M ++ P) H) vs ds := by
  obtain ⟨ds, e⟩ := ok.own h
  obtain ⟨p, vs, h1, h2, _, h4, h5⟩ := re.own i ds e
  refine ⟨ds, vs, e, ?_⟩
  rw [adr_of h1]
  exact ⟨h1, h2, h4, h5⟩
theorem IoOk.ch {as : List Arg} (ok : IoOk B P H σ ρ as) (re : RE0 K T B P H σ ρ) {p : Addr} (h : p ∈ (ioOf as 0).map fun q => Eng.adr σ q.2) : p ∈ P ∧ ∃ vs, H p = some (.lst vs) := by
  obtain ⟨⟨k, i⟩, hq, rfl⟩ := List.mem_map.mp h
  obtain ⟨ds, vs, _, _, h1, h2, _⟩ := ok.adr re (IoOk.mem hq)
  exact ⟨h1, vs, h2⟩
theorem entry_io {as : List Arg} {vs : List V} (re : RE0 K T B P H σ ρ) (ok : IoOk B P H σ ρ as) (ov : OVI K (B.M ++ P) σ H vs as) : RE0 K T (ioBs B P H σ (ioOf as 0)) ((ioOf as 0).map fun q => adr σ q.2) H (vs.map some) (as.map (cellOf ρ)) := by
  have sub : ∀ a ∈ (B.M ++ P) ++ ((ioOf as 0).map fun q => adr σ q.2), a ∈ B.M ++ P := fun a ha => by
    rcases List.mem_append.mp ha with z | z
    · exact z
    · exact List.mem_append_right _ (ok.ch re z).1
  have le : SeqLe (mask (B.M ++ P) H) (mask ((B.M ++ P) ++ ((ioOf as 0).map fun q => adr σ q.2)) H) := mask_anti sub
  have at_ : ∀ {k : Nat} {c : Cell}, (as.map (cellOf ρ))[k]? = some c → (∃ x, as[k]? = some (.v x) ∧ c = toCell x) ∨ ∃ i ds, as[k]? = some (.io i) ∧ ρ[i]? = some (.own ds) ∧ c = .own ds := fun {k c} e => by
    rw [List.getElem?_map] at e
    obtain ⟨a, ea, ec⟩ := Option.map_eq_some_iff.mp e
    cases a with
    | v x => exact .inl ⟨x, ea, ec.symm⟩
    | io i =>
      obtain ⟨ds, ed⟩ := ok.own ea
      refine .inr ⟨i, ds, ea, ed, ?_⟩
      rw [← ec]
      show ρ.getD i .un = _
      rw [List.getD_eq_getElem?_getD, ed]
      rfl
  have cell : ∀ {x : D × Md} {d : D}, toCell x = .val d → x.1 = d ∧ x.2 ≠ .fz := fun {x d} e => by
    unfold toCell at e
    split at e
    · cases e
    · rename_i n
      cases e
      exact ⟨rfl, n⟩
  have cellF : ∀ {x : D × Md} {d : D}, toCell x = .fz d → x.1 = d ∧ x.2 = .fz := fun {x d} e => by
    unfold toCell at e
    split at e
    · rename_i n
      cases e
      exact ⟨rfl, n⟩
    · cases e
  have cellO : ∀ {x : D × Md} {ds : List D}, toCell x ≠ .own ds := fun {x d} e => by
    unfold toCell at e
    split at e <;> cases e
  refine ⟨by rw [List.length_map, List.length_map, ov.length], fun k d e => ?_, fun k ds e => ?_, fun k d e => ?_, fun k k' ds es p hk h1 h2 h3 => ?_, fun a o e _ => .inl e, fun p hp => .inl hp, fun p hp => re.lst p (sub p hp), fun p hp => let ⟨_, vs, e⟩ := ok.ch re hp; ⟨_, e, .lst⟩, fun p hp => ?_, fun q hq => ?_, fun q hq => ?_, re.tab⟩
  · rcases at_ e with ⟨x, ea, ec⟩ | ⟨i, ds, _, _, ec⟩
    · obtain ⟨rfl, n⟩ := cell ec.symm
      obtain ⟨v, ev, o⟩ := ov.getV ea
      refine ⟨v, by rw [List.getElem?_map, ev]; rfl, ?_⟩
      have hc := List.all_eq_true.mp ok.cl _ (List.mem_of_getElem? ea)
      have hc : clA x.2 = true := hc
      refine Tr.mono le _ _ (o.clean ?_)
      obtain ⟨d, m⟩ := x
      cases m <;> first | rfl | (cases hc; done) | exact absurd rfl n
    · cases ec
  · rcases at_ e with ⟨x, ea, ec⟩ | ⟨i, ds', ea, ed, ec⟩
    · exact absurd ec.symm cellO
    · cases ec
      obtain ⟨ds', ws, e1, e2, e3, e4, e5⟩ := ok.adr re ea
      rw [ed] at e1; cases e1
      obtain ⟨v, ev, es⟩ := ov.getI ea
      rw [e2] at es; cases es
      have hq : (k, i) ∈ ioOf as 0 := ioOf_mem.mpr ⟨Nat.zero_le _, ea⟩
      refine ⟨adr σ i, ws, by rw [List.getElem?_map, ev]; rfl, List.mem_map.mpr ⟨(k, i), hq, rfl⟩, fun z => absurd ?_ z, e4, TrAll.mono le _ _ e5⟩
      exact List.mem_map.mpr ⟨(k, adr σ i), List.mem_map.mpr ⟨(k, i), hq, rfl⟩, rfl⟩
  · rcases at_ e with ⟨x, ea, ec⟩ | ⟨i, ds, _, _, ec⟩
    · obtain ⟨rfl, n⟩ := cellF ec.symm
      obtain ⟨v, ev, o⟩ := ov.getV ea
      rw [n] at o
      exact ⟨v, by rw [List.getElem?_map, ev]; rfl, o⟩
    · cases ec
  · rcases at_ h1 with ⟨x, ea, ec⟩ | ⟨i, ds', ea, ed, ec⟩
    · exact absurd ec.symm cellO
    · rcases at_ h2 with ⟨x, ea2, ec2⟩ | ⟨i2, ds2, ea2, ed2, ec2⟩
      · exact absurd ec2.symm cellO
      · have hq : (k, i) ∈ ioOf as 0 := ioOf_mem.mpr ⟨Nat.zero_le _, ea⟩
        have hq2 : (k', i2) ∈ ioOf as 0 := ioOf_mem.mpr ⟨Nat.zero_le _, ea2⟩
        have ne : i ≠ i2 := fun z => by
          subst z
          exact hk (nodup_snd ok.nd hq hq2)
        obtain ⟨v, ev, es⟩ := ov.getI ea
        obtain ⟨v2, ev2, es2⟩ := ov.getI ea2
        rw [List.getElem?_map, ev] at h3
        rw [List.getElem?_map, ev2]
        have h3' : v = .ref p := by
          have := Option.some.inj h3
          exact Option.some.inj this
        subst h3'
        have := re.sep i i2 ds' ds2 p ne ed ed2 es
        intro z
        have z' : v2 = .ref p := by
          have := Option.some.inj z
          exact Option.some.inj this
        rw [z'] at es2
        exact this es2
  · obtain ⟨vs, z⟩ := (ok.ch re hp).2
    intro w
    have w : H p = none := w
    rw [z] at w
    cases w
  · obtain ⟨⟨k, i⟩, hm, rfl⟩ := List.mem_map.mp hq
    obtain ⟨ds, ws, e1, e2, _⟩ := ok.adr re (IoOk.mem hm)
    obtain ⟨v, ev, es⟩ := ov.getI (IoOk.mem hm)
    rw [e2] at es; cases es
    show (vs.map some)[k]? = _
    rw [List.getElem?_map, ev]
    rfl
  · obtain ⟨⟨k, i⟩, hm, rfl⟩ := List.mem_map.mp hq
    obtain ⟨ds, e1⟩ := ok.own (IoOk.mem hm)
    refine ⟨ds, ?_⟩
    show (as.map (cellOf ρ))[k]? = _
    rw [List.getElem?_map, IoOk.mem hm]
    show some (ρ.getD i .un) = _
    rw [List.getD_eq_getElem?_getD, e1]
    rfl
theorem back_io {as : List Arg} (re : RE0 K T B P H σ ρ) (ok : IoOk B P H σ ρ as) (re2 : RE0 K T (ioBs B P H σ (ioOf as 0)) P2 H2 σ2 ρ2) : RE0 K T B P H2 σ (ioSet (ioOf as 0) ρ ρ2) := by
  have kp : ∀ a o, H a = some o → a ∉ ((ioOf as 0).map fun q => adr σ q.2) → H2 a = some o ∨ ∃ ps ps', o = .tbl ps ∧ H2 a = some (.tbl ps') := re2.keep
  have le : SeqLe (mask (B.M ++ P) H) (mask (B.M ++ P) H2) := le_of_keep (P := (ioOf as 0).map fun q => adr σ q.2) (fun p hp => List.mem_append_right _ (ok.ch re hp).1) kp (fun p hp => .inl hp)
  have lsts : Lsts (B.M ++ P) H2 := fun p hp => re2.lst p (List.mem_append_left _ hp)
  -- an owned slot behind the call
  have back : ∀ {j : Nat} {ds : List D}, (ioSet (ioOf as 0) ρ ρ2)[j]? = some (.own ds) → (j ∉ (ioOf as 0).map (·.2) ∧ ρ[j]? = some (.own ds)) ∨ ∃ k, (k, j) ∈ ioOf as 0 ∧ ρ2[k]? = some (.own ds) := fun {j ds} h => by
    by_cases hj : j ∈ (ioOf as 0).map (·.2)
    · obtain ⟨⟨k, i⟩, hm, rfl⟩ := List.mem_map.mp hj
      obtain ⟨ds0, e0⟩ := ok.own (IoOk.mem hm)
      have hl := (List.getElem?_eq_some_iff.mp e0).1
      rw [ioSet_in ok.nd hm hl] at h
      refine .inr ⟨k, hm, ?_⟩
      have h := Option.some.inj h
      rw [List.getD_eq_getElem?_getD] at h
      cases e : ρ2[k]? with
      | none => exact absurd (e ▸ h) (by simp)
      | some c => rw [e] at h; exact congrArg some h
    · rw [ioSet_out hj] at h
      exact .inl ⟨hj, h⟩
  have io2 : ∀ {k i : Nat}, (k, i) ∈ ioOf as 0 → ∃ ds, ρ2[k]? = some (.own ds) := fun {k i} hm => re2.ioo (k, adr σ i) (List.mem_map.mpr ⟨(k, i), hm, rfl⟩)
  have inn : ∀ {j : Nat} {c : Cell}, j ∈ (ioOf as 0).map (·.2) → (ioSet (ioOf as 0) ρ ρ2)[j]? = some c → ∃ ds, c = .own ds := fun {j c} hj h => by
    obtain ⟨⟨k, i⟩, hm, rfl⟩ := List.mem_map.mp hj
    obtain ⟨ds0, e0⟩ := ok.own (IoOk.mem hm)
    have hl := (List.getElem?_eq_some_iff.mp e0).1
    rw [ioSet_in ok.nd hm hl] at h
    obtain ⟨ds, e⟩ := io2 hm
    rw [List.getD_eq_getElem?_getD, e] at h
    exact ⟨ds, (Option.some.inj h).symm⟩
  have notCh : ∀ {a : Addr} {o : HO}, H a = some o → (∀ vs, o ≠ .lst vs) → a ∉ ((ioOf as 0).map fun q => adr σ q.2) := fun {a o} e n z => by
    obtain ⟨_, vs, e2⟩ := ok.ch re z
    rw [e] at e2; cases e2
    exact n vs rfl
  -- the address of an owned slot
  have where_ : ∀ {j : Nat} {ds : List D}, (ioSet (ioOf as 0) ρ ρ2)[j]? = some (.own ds) → ∃ ds0, ρ[j]? = some (.own ds0) := fun {j ds} h => by
    rcases back h with ⟨_, h⟩ | ⟨k, hm, _⟩
    · exact ⟨ds, h⟩
    · exact ok.own (IoOk.mem hm)
  refine ⟨by rw [ioSet_len]; exact re.len, fun j d h => ?_, fun j ds h => ?_, fun j d h => ?_, fun i j ds es p hij h1 h2 h3 => ?_, fun a o e hn => ?_, fun p hp => re.new p hp, lsts, fun p hp => ?_, re.io0, re.ios, fun q hq => ?_, re2.tab⟩
  · by_cases hj : j ∈ (ioOf as 0).map (·.2)
    · obtain ⟨ds, z⟩ := inn hj h
      cases z
    · rw [ioSet_out hj] at h
      obtain ⟨v, h1, h2⟩ := re.val j d h
      exact ⟨v, h1, Tr.mono le _ _ h2⟩
  · rcases back h with ⟨hj, h⟩ | ⟨k, hm, h⟩
    · obtain ⟨p, vs, h1, h2, h3, h4, h5⟩ := re.own j ds h
      have np : p ∉ ((ioOf as 0).map fun q => adr σ q.2) := fun z => by
        obtain ⟨⟨k, i⟩, hm, e⟩ := List.mem_map.mp z
        obtain ⟨ds', vs', e1, e2, _⟩ := ok.adr re (IoOk.mem hm)
        have e : adr σ i = p := e
        rw [e] at e2
        have hij : j ≠ i := fun y => hj (List.mem_map.mpr ⟨(k, i), hm, y.symm⟩)
        exact re.sep j i ds ds' p hij h e1 h1 e2
      have h4' : H2 p = some (.lst vs) := by
        rcases kp p _ h4 np with z | ⟨_, _, z, _⟩
        · exact z
        · cases z
      exact ⟨p, vs, h1, h2, h3, h4', TrAll.mono le _ _ h5⟩
    · obtain ⟨ds0, vs0, e1, e2, e3, e4, _⟩ := ok.adr re (IoOk.mem hm)
      obtain ⟨p0, vs1, f1, f2, f3, f4, f5⟩ := re.own j ds0 e1
      rw [e2] at f1; cases f1
      obtain ⟨p, vs, g1, g2, g3, g4, g5⟩ := re2.own k ds h
      have gs : σ2[k]? = some (some (.ref (adr σ j))) := re2.ios (k, adr σ j) (List.mem_map.mpr ⟨(k, j), hm, rfl⟩)
      rw [gs] at g1; cases g1
      refine ⟨adr σ j, vs, e2, f2, f3, g4, TrAll.mono (mask_anti fun a ha => ?_) _ _ g5⟩
      exact List.mem_append_left _ ha
  · by_cases hj : j ∈ (ioOf as 0).map (·.2)
    · obtain ⟨ds, z⟩ := inn hj h
      cases z
    · rw [ioSet_out hj] at h
      obtain ⟨v, h1, h2⟩ := re.fz j d h
      refine ⟨v, h1, ?_⟩
      cases h2 with
      | lst e f =>
        rcases e with ⟨o, e⟩ | e
        · rcases kp _ _ e (notCh e fun vs z => by cases z) with z | ⟨_, _, z, _⟩
          · exact .lst (.inl ⟨o, z⟩) f
          · cases z
        · exact .lst (.inr e) f
      | tup e f => exact .tup e f
  · obtain ⟨ds0, g1⟩ := where_ h1
    obtain ⟨es0, g2⟩ := where_ h2
    exact re.sep i j ds0 es0 p hij g1 g2 h3
  · have na : a ∉ ((ioOf as 0).map fun q => adr σ q.2) := fun z => by
      rcases re.new a (ok.ch re z).1 with w | w
      · exact hn w
      · rw [e] at w; cases w
    rcases re.keep a o e hn with z | ⟨ps, ps', rfl, z⟩
    · exact kp a o z na
    · rcases kp a _ z na with z2 | ⟨_, qs, _, z2⟩
      · exact .inr ⟨ps, ps', rfl, z2⟩
      · exact .inr ⟨ps, qs, rfl, z2⟩
  · obtain ⟨o, e, c⟩ := re.iol p hp
    by_cases z : p ∈ ((ioOf as 0).map fun q => adr σ q.2)
    · exact lsts p (List.mem_append_right _ (ok.ch re z).1)
    · rcases kp p _ e z with w | ⟨_, _, w, _⟩
      · exact ⟨o, w, c⟩
      · subst w
        rcases c with ⟨_, y⟩ | ⟨_, _, _, y⟩ <;> cases y
  · obtain ⟨ds, e⟩ := re.ioo q hq
    by_cases hj : q.1 ∈ (ioOf as 0).map (·.2)
    · obtain ⟨⟨k, i⟩, hm, z⟩ := List.mem_map.mp hj
      have z : i = q.1 := z
      obtain ⟨ds2, e2⟩ := io2 hm
      refine ⟨ds2, ?_⟩
      rw [← z] at e ⊢
      rw [ioSet_in ok.nd hm (List.getElem?_eq_some_iff.mp e).1, List.getD_eq_getElem?_getD, e2]
      rfl
    · exact ⟨ds, by rw [ioSet_out hj]; exact e⟩
/-- what such a call gives back -/
theorem val_io {as : List Arg} (re : RE0 K T B P H σ ρ) (ok : IoOk B P H σ ρ as) (re2 : RE0 K T (ioBs B P H σ (ioOf as 0)) P2 H2 σ2 ρ2) {m : Md} {v : V} {d : D} {z : D × Md} (rv : RV K (ioBs B P H σ (ioOf as 0)) P2 H2 m v d) (e : callMd true d m = some z) (h : okEl z = true) : Tr (mask (B.M ++ P) H2) v z.1 := by
  have lsts : Lsts (B.M ++ P) H2 := fun p hp => re2.lst p (List.mem_append_left _ hp)
  cases m with
  | fr =>
    obtain ⟨p, vs, ds, rfl, rfl, h0, h1, h2, h3⟩ := rv
    cases e
    have n : p ∉ B.M ++ P := fun w => h1 (List.mem_append_left _ w)
    refine .lst (by rw [mask_out n]; exact h2) (TrAll.mono (mask_anti fun a ha => ?_) _ _ h3)
    exact List.mem_cons_of_mem _ (List.mem_append_left _ ha)
  | ow =>
    obtain ⟨p, vs, ds, rfl, rfl, h1, h2, h3, h4, h5⟩ := rv
    cases e
    exact .lst (by rw [mask_out (show p ∉ B.M ++ P from h2)]; exact h4) (TrAll.mono (mask_anti fun a ha => List.mem_append_left _ ha) _ _ h5)
  | cl =>
    cases e
    exact Tr.mono (mask_anti fun a ha => List.mem_append_left _ ha) _ _ (show Tr (mask ((B.M ++ P) ++ P2) H2) v d from rv)
  | vw =>
    unfold callMd at e
    dsimp only at e
    split at e
    · rename_i hl
      cases e
      exact Tr.lfMask lsts rv hl
    · cases e
      unfold okEl at h
      rw [Bool.or_eq_true, Bool.and_eq_true] at h
      rcases h with h | h
      · cases h
      · exact Tr.lfMask lsts rv h.2
  | fz => cases e
end
theorem callIo_core {n : Nat} {ios : List Nat} {M : CV → RF} {σ : St} {H : Hp} {Q : VK} {E : XK} (w : tX C (mCallIo ios M fa) σ H Q) (hl : LenI n fa) (hob : C.ob = none) : tAI C W fa σ H fun vs H1 => spM { C with ios := ios, ob := none } n M vs H1 Q E := by
  obtain ⟨B, P, ρ, hio, re, w⟩ := w
  refine ⟨B, P, ρ, hio, re, ?_⟩
  unfold mCallIo at w
  cases ea : fa ρ with
  | er c => rw [ea] at w; exact w.elim
  | no => rw [ea] at w; exact w.elim
  | ok as =>
    rw [ea] at w
    dsimp only at w
    split at w
    · rename_i hc
      obtain ⟨h1, h2, h3⟩ := hc
      intro vs H1 s tb ov
      have hb0 := hio.ob.trans hob
      have re1 := (re.sm s tb).to0 hb0
      have ok : IoOk B P H1 σ ρ as := ⟨h1, nodupB_iff h3⟩
      refine ⟨ioBs B P H1 σ (ioOf as 0), (ioOf as 0).map fun q => adr σ q.2, as.map (cellOf ρ), by rw [ov.length]; exact hl.len ρ as ea, ⟨?_, rfl⟩, rfl, ?_, .of0 rfl (entry_io re1 ok ov), ?_⟩
      · rw [← h2]
        show ((ioOf as 0).map fun q => (q.1, adr σ q.2)).map (·.1) = _
        rw [List.map_map]
        rfl
      · show ((ioOf as 0).map fun q => adr σ q.2) = ((ioOf as 0).map fun q => (q.1, adr σ q.2)).map (·.2)
        rw [List.map_map]
        rfl
      · cases em : M (as.map (cellOf ρ)) with
        | er c => rw [em] at w; exact w.elim
        | no => rw [em] at w; exact w.elim
        | ok y =>
          obtain ⟨⟨d, m⟩, ρ2⟩ := y
          rw [em] at w
          dsimp only at w
          intro P2 σ2 H2 v re2 rv
          cases ez : callMd true d m with
          | none => rw [ez] at w; exact w.elim
          | some z =>
            rw [ez] at w
            dsimp only at w
            split at w
            · rename_i hk
              exact w v H2 (.of0 hb0 (back_io re1 ok (re2.to0 rfl))) (val_io re1 ok (re2.to0 rfl) rv ez hk)
            · exact w.elim
    · exact w.elim
/-- a def that changes lists, as its callers know it -/
structure CalIo (P : Program) (w : World) (K : PySem.W.Frag) (mg : Str → Option Value) (base : Heap) (T : List Addr) (x : Str) (n k : Nat) (ios : List Nat) (M : CV → RF) : Prop where
  ex : ∃ (f : Addr) (fd : FuncData) (ps : List Str), FnOk P w K mg base (L2.CX P w) k f fd ps (spM { K := K, T := T, mg := mg, ios := ios } n M) ∧ mg x = some (.ref f) ∧ PySem.W.keepIn K (.ref f) = true ∧ Binds K fd ps []
theorem CalIo.of {P : Program} {w : World} {K : PySem.W.Frag} {mg : Str → Option Value} {base : Heap} {T : List Addr} {x qual : Str} {st : Stmt} {f : Addr} {fd : FuncData} {n k : Nat} {ios : List Nat} {M : CV → RF} {C : Cf} {ps : List Str} (hC : C = { K := K, T := T, mg := mg, ios := ios })
    (F : Fun K x qual st f fd) (hm : mg x = some (.ref f)) (hb : Binds K fd ps []) (h : FnOk P w K mg base (L2.CX P w) k f fd ps (spM C n M)) : CalIo P w K mg base T x n k ios M := ⟨f, fd, ps, hC ▸ h, hm, F.kp, hb⟩
theorem sx_callIo {x : Str} {k k' n : Nat} {ios : List Nat} {M : CV → RF} {p : Pos} (G : CalIo X.prog X.w X.K X.mg X.base C.T x n k ios M) (hr : Room k' X.A) (tk : Takes X W) (ha : PA X (e :: es) (tAI C W fa)) (hl : LenI n fa) (hC : { C with ios := ios, ob := none } = { K := X.K, T := C.T, mg := X.mg, ios := ios : Cf } := by rfl) (hob : C.ob = none := by rfl)
    (hkk : k ≤ k' := by decide) (hg : Gl X x := by rfl) (hdb : (x == ("__debug__" : Str)) = false := by decide) (he : starEach (e :: es) X.env = (false, eval e X.env) :: starEach es X.env := by rfl) (hpl : (backTo pos (starEach es X.env)).any (·.1) = false := by rfl) :
    PE X (.Call (.Name x p) (e :: es) [] pos) (tX C (mCallIo ios M fa)) := by
  obtain ⟨f, fd, ps, h1, h2, h3, h4⟩ := G.ex
  exact PE.imp (pe_callS (E := WE W) (hC ▸ h1) (hr.mono hkk) hg h2 h3 h4 (fun σ => passAt tk σ) ha hdb he hpl) fun σ H Q w => callIo_core w hl hob
end
end Eng

set_option Elab.async false
set_option linter.all false
set_option maxRecDepth 100000
set_option maxHeartbeats 1234567
namespace Eng
open PySem PySem.Spec
open PyProof.Rows L2

/-! ### in, of things of any depth -/
def rInW (K : PySem.W.Frag) (neg : Bool) : R2 := fun x y H Q => ∃ d ds, Dp K H x d ∧ (Dp K H y (.list ds) ∨ Dp K H y (.tuple ds)) ∧ d.canLay0 = true ∧ PyData.canLayAll0 ds = true ∧ min (PyData.depthAll ds) d.depth ≤ 150 ∧ Q (.bl (if neg then !(ds.any fun z => PyData.eqv z d) else ds.any fun z => PyData.eqv z d)) H
/-- both operands as the state reads them -/
theorem two_read {X : Cx} {pins : List (Addr × Obj)} {σ : St} {H : Hp} {st : Shared} {a c : V} {ua uc : Value} {da dc : D} (inv : Inv X pins σ H st) (ha : Dp X.K H a da) (hc : Dp X.K H c dc) (ra : RelV a ua) (rc : RelV c uc) : (∃ l, Reads st.heap ua da l) ∧ ∃ l, Reads st.heap uc dc l := ⟨inv |> fun w => Dp.reads w _ _ _ ha ra, inv |> fun w => Dp.reads w _ _ _ hc rc⟩
theorem op_inW {X : Cx} (hu : X.A.units + 200 < cLine) : OpR X (compareOp .In) (rInW X.K false) := fun pins st σ Hp a c ua uc Q inv ra rc want => by
  obtain ⟨da, ds, h1, h2, lay, lays, dep, fin⟩ := want
  have room : X.A.units + 1 + min (PyData.depthAll ds) da.depth < cLine := by omega
  cases h2 with
  | inl h2 =>
    obtain ⟨⟨_, k1⟩, _, k2⟩ := two_read inv h1 h2 ra rc
    exact SeqAt.in_list_reads k2 k1 lays lay room ⟨.bl _, Hp, inv, rfl, fin⟩
  | inr h2 =>
    obtain ⟨⟨_, k1⟩, _, k2⟩ := two_read inv h1 h2 ra rc
    exact SeqAt.in_tuple_reads k2 k1 lays lay room ⟨.bl _, Hp, inv, rfl, fin⟩
theorem op_notInW {X : Cx} (hu : X.A.units + 200 < cLine) : OpR X (compareOp .NotIn) (rInW X.K true) := fun pins st σ Hp a c ua uc Q inv ra rc want => by
  obtain ⟨da, ds, h1, h2, lay, lays, dep, fin⟩ := want
  have room : X.A.units + 1 + min (PyData.depthAll ds) da.depth < cLine := by omega
  cases h2 with
  | inl h2 =>
    obtain ⟨⟨_, k1⟩, _, k2⟩ := two_read inv h1 h2 ra rc
    exact SeqAt.notIn_list_reads k2 k1 lays lay room ⟨.bl _, Hp, inv, rfl, fin⟩
  | inr h2 =>
    obtain ⟨⟨_, k1⟩, _, k2⟩ := two_read inv h1 h2 ra rc
    exact SeqAt.notIn_tuple_reads k2 k1 lays lay room ⟨.bl _, Hp, inv, rfl, fin⟩
def inW (x : D) (ds : List D) : Option Bool := if x.canLay0 = true ∧ PyData.canLayAll0 ds = true ∧ min (PyData.depthAll ds) x.depth ≤ 150 then some (ds.any fun z => PyData.eqv z x) else none
def hInW (x y : D × Md) : Option Bool := match y.1 with
  | .list ds => inW x.1 ds
  | .tuple ds => inW x.1 ds
  | _ => none
def hNotInW (x y : D × Md) : Option Bool := (hInW x y).map (!·)
theorem inW_core {C : Cf} (neg : Bool) : ∀ (Pm : List Addr) (H : Hp) (x y : V) (dx dy : D × Md) (k : Bool) (Q : VK), OV C.K Pm H dx.2 x dx.1 → Dp C.K H y dy.1 → hInW dx dy = some k → Q (.bl (if neg then !k else k)) H → rInW C.K neg x y H Q := by
  rintro Pm H x y ⟨dx, mx⟩ ⟨dy, my⟩ k Q ox oy e q
  have go : ∀ ds, (Dp C.K H y (.list ds) ∨ Dp C.K H y (.tuple ds)) → inW dx ds = some k → rInW C.K neg x y H Q := fun ds hy e => by
    unfold inW at e
    split at e
    · rename_i h
      cases e
      exact ⟨dx, ds, ox.dp, hy, h.1, h.2.1, h.2.2, q⟩
    · cases e
  unfold hInW at e
  dsimp only at e oy
  split at e
  · exact go _ (.inl oy) e
  · exact go _ (.inr oy) e
  · cases e
theorem ok_inW {C : Cf} : CmpOk C (rInW C.K false) hInW := fun Pm H x y dx dy k Q l ox oy e q => inW_core false Pm H x y dx dy k Q ox oy.dp e (by simpa using q)
theorem ok_notInW {C : Cf} : CmpOk C (rInW C.K true) hNotInW := fun Pm H x y dx dy k Q l ox oy e q => by
  unfold hNotInW at e
  obtain ⟨b, e0, hb⟩ := Option.map_eq_some_iff.mp e
  subst hb
  exact inW_core true Pm H x y dx dy b Q ox oy.dp e0 (by simpa using q)
/-- a written global of any depth -/
structure GlobD (K : PySem.W.Frag) (mg : Str → Option Value) (x : Str) (d : D) : Prop where
  ex : ∃ A : Addr, mg x = some (.ref A) ∧ ∀ H, Dp K H (.ref A) d
theorem kd_tup {K : PySem.W.Frag} {H : Hp} {a : Addr} {dd : Option Addr} {its : Array Value} {n : Nat} {sl : Array (Option Value)} {xs : List V} {ds : List D} (l : K.lookup a = some ⟨.type "tuple", dd, .seq its n, sl⟩) (hs : its.size ≤ 1000) (v : Vals xs its.toList) (d : DpAll K H xs ds) : Dp K H (.ref a) (.tuple ds) :=
  .tup (.inr ⟨_, its, n, l, rfl, rfl, le_line hs, v⟩) d
def mInG (ds : List D) (f : CV → Rs (D × Md)) : CV → Rs Bool := fun ρ => (f ρ).bind fun x => ofO (inW x.1 ds)
section
variable {X : Cx} {C : Cf} {W : WX} {a : Expr} {f : CV → Rs (D × Md)} {pos p2 : Pos} {x : Str} {ds : List D}
theorem tInG {σ : St} {H : Hp} {A : Addr} {Q : Bool → Hp → Prop} {Q' : VK} (hG : ∀ H, Dp C.K H (.ref A) (.tuple ds)) {B : Bs} {P : List Addr} {ρ : CV} (hio : Lk B C) (re : RE C.K C.T B P H σ ρ) (w : BR C W σ H Q (mInG ds f ρ)) (hq : ∀ k H1, Q k H1 → Q' (.bl k) H1) :
    tOp (rInW C.K false) (tE C W f) (tC (.ref A)) σ H Q' := by
  refine tT_then hio re w fun d m v H1 s re1 vr w1 => ?_
  have o1 := VR.ov re.lst vr
  cases e : inW d ds with
  | none => rw [e] at w1; exact w1.elim
  | some k =>
    rw [e] at w1
    exact inW_core false (B.M ++ P) H1 v (.ref A) (d, m) (.tuple ds, .cl) k Q' o1 (hG H1) e (hq _ _ (w1 H1 (Sm.refl _) re1.tab))
theorem st_inG (hu : X.A.units + 200 < cLine) (hG : GlobD X.K X.mg x (.tuple ds)) (ha : PE X a (tE C W f)) (hK : C.K = X.K := by rfl) (hg : Gl X x := by rfl) (hd : (x == ("__debug__" : Str)) = false := by decide) (hm : behindInMarks .In (.Name x p2) = false := by first | exact nomark _ | rfl) : PT X (.Compare a [.In] [.Name x p2] pos) (tT C W (mInG ds f)) := by
  obtain ⟨A, h1, h2⟩ := hG.ex
  refine PT.imp (pt_cmpR (op_inW hu) ha (pe_glob hg h1 (v := .ref A) rfl hd) hm) fun σ H Q w => ?_
  obtain ⟨B, P, ρ, hio, re, w⟩ := w
  rw [← hK]
  exact tInG (hK ▸ h2) hio re w fun k H1 q => ⟨k, rfl, q⟩
theorem se_inG (hu : X.A.units + 200 < cLine) (hG : GlobD X.K X.mg x (.tuple ds)) (ha : PE X a (tE C W f)) (hK : C.K = X.K := by rfl) (hg : Gl X x := by rfl) (hd : (x == ("__debug__" : Str)) = false := by decide) (hm : behindInMarks .In (.Name x p2) = false := by first | exact nomark _ | rfl) : PE X (.Compare a [.In] [.Name x p2] pos) (tE C W (mVal (mInG ds f))) := by
  obtain ⟨A, h1, h2⟩ := hG.ex
  refine PE.imp (pe_cmpR (op_inW hu) ha (pe_glob hg h1 (v := .ref A) rfl hd) hm) fun σ H Q w => ?_
  obtain ⟨B, P, ρ, hio, re, w⟩ := w
  rw [← hK]
  exact tInG (hK ▸ h2) hio re (ER_val w) fun k H1 q => q
end
theorem room200 {k : Nat} {A : Around} (h : Room k A) : A.units + 200 < cLine := by have := h.un; omega
abbrev sShr (i : Nat) (u : CV → Out) : CV → Out := fun ρ => u (shr i ρ)
end Eng

set_option Elab.async false
set_option linter.all false
set_option maxRecDepth 100000
set_option maxHeartbeats 2345678
namespace Eng
open PySem PySem.Spec
open PyProof.Rows L2 GxR

/-! ### all(..) over an iterator whose turns run own code -/
/-- the truths that the iterator at it hands out; St: where it stands, Fin: what is left at the end -/
structure Turns (prog : Program) (w : World) (A : Around) (it : Addr) (bs : List Bool) (St : Nat → Shared → Prop) (Fin : Shared → Prop) : Prop where
  item : ∀ (i : Nat) (c : Bool) (s : Shared) (Q : Option Value → Shared → Prop) (E : Value → Shared → Prop), bs[i]? = some c → St i s → (∀ s', St (i + 1) s' → Q (some (.bool c)) s') → wpAny (model prog w) A (pyNext (.ref it)) Q E s
  done : ∀ (s : Shared) (Q : Option Value → Shared → Prop) (E : Value → Shared → Prop), St bs.length s → (∀ s', Fin s' → Q none s') → wpAny (model prog w) A (pyNext (.ref it)) Q E s
  fin : ∀ i s, St i s → Fin s
section
variable {prog : Program} {w : World} {A : Around} {it : Addr} {bs : List Bool} {St : Nat → Shared → Prop} {Fin : Shared → Prop} {R : Result → Shared → Prop} {Q : Value → Shared → Prop} {E : Value → Shared → Prop}
theorem turns_loop (W : Turns prog w A.in1 it bs St Fin) : ∀ (cs : List Bool) (i : Nat) (s : Shared), bs.drop i = cs → i ≤ bs.length → St i s → (∀ s', Fin s' → R (.ok (.ret (.bool (cs.all fun b => b)))) s') →
    codeAny (model prog w) A (.builtin "all.loop" ⟨[.ref it], []⟩) R s := by
  intro cs
  induction cs with
  | nil =>
    intro i s hd hi st hR
    have e : i = bs.length := by
      have := List.drop_eq_nil_iff.mp hd
      omega
    rw [e] at st
    apply codeAny_builtin F.entry_all_loop
    (rw [Around.under_plainId F.plain_all_loop _])
    show wpAny _ (A.in1) (pyNext (.ref it) >>= _) _ _ s
    exact wpAny_bind (W.done s _ _ st fun s' f => wpAny_bind (wpAny_rule (wpAny_pure (hR s' f))))
  | cons c cs ih =>
    intro i s hd hi st hR
    have ec : bs[i]? = some c := by
      have := congrArg (fun l => l[0]?) hd
      simpa using this
    have en : bs.drop (i + 1) = cs := by
      rw [← List.drop_drop, hd]
      rfl
    apply codeAny_builtin F.entry_all_loop
    (rw [Around.under_plainId F.plain_all_loop _])
    show wpAny _ (A.in1) (pyNext (.ref it) >>= _) _ _ s
    refine wpAny_bind (W.item i c s _ _ ec st fun s' st' => wpAny_bind (wpAny_holding (wpAny_truthy_bool (wpAny_bind (wpAny_letGo ?_)))))
    cases c with
    | false =>
      (rw [if_neg Bool.false_ne_true])
      exact wpAny_bind (wpAny_rule (wpAny_pure (hR s' (W.fin _ _ st'))))
    | true =>
      rw [if_pos rfl]
      exact wpAny_pure ⟨plainId_quiet F.plain_all_loop _, ih (i + 1) s' en (List.getElem?_eq_some_iff.mp ec).1 st' hR⟩
theorem turns_all {x : Value} {s : Shared} (h : wpAny (model prog w) A.in1 (pyIter x) (fun v s2 => ∃ it bs St Fin, v = .ref it ∧ Turns prog w A.in1 it bs St Fin ∧ St 0 s2 ∧ ∀ s', Fin s' → Q (.bool (bs.all fun b => b)) s') E s) :
    (wpAny (model prog w) A (call (.builtin "all") [x]) Q E s) := by
  apply call_function_tree F.kind_all F.plain_all F.entry_all (F.args_all1 _)
  unfold Builtin.«all»
  refine wpAny_bind (m := oneArg "all" _) (wpAny_pure (wpAny_bind (thn h fun v s2 hv => ?_)))
  obtain ⟨it, bs, St, Fin, rfl, W, st, hQ⟩ := hv
  exact wpAny_pure ⟨plainId_quiet F.plain_all_loop _, turns_loop W bs 0 s2 rfl (Nat.zero_le _) st hQ⟩
end

/-! ### the generator's frame -/
theorem setGen_get {s : Shared} {g : Nat} {x : GenState} (h : g < s.gens.size) : (s.setGen g x).gens[g]? = some x := by
  show (Array.setIfInBounds s.gens g x)[g]? = some x
  rw [Array.getElem?_setIfInBounds_self_of_lt h]
theorem setGen_bare {s : Shared} {g : Nat} {x : GenState} (h : AllBare s.gens) (hx : x.bare = true) : AllBare (s.setGen g x).gens := by
  intro y hy
  rcases Array.mem_or_eq_of_mem_setIfInBounds hy with z | z
  · exact h y z
  · rw [z]; exact hx
section
variable {X : Cx} {pins : List (Addr × Obj)} {σ : L2.St} {T : List Addr} {H0 H H' : Hp} {L I a l : Addr} {g i : Nat} {s : Shared} {cenv : Env}
theorem Inv.gensTo {G : Array GenState} (J : Inv X pins σ H s) (h : AllBare G) : Inv X pins σ H { s with gens := G } := ⟨J.ok, J.os, h, J.base, J.loc, J.cell, J.free, J.freeC, J.pin, J.hok, J.len⟩
/-- the caller's state, whatever was told since -/
def Home (X : Cx) (pins : List (Addr × Obj)) (σ : L2.St) (T : List Addr) (H0 : Hp) (s : Shared) : Prop := ∃ H, Sm H0 H ∧ Tab T H ∧ Inv X pins σ H s
/-- three addresses of ours: the frame, the list's iterator, the generator -/
structure Ours (X : Cx) (pins : List (Addr × Obj)) (L I a : Addr) : Prop where
  fp : ∀ b, b = L ∨ b = I ∨ b = a → ∀ H, H b = none → FpOk X pins H b
  li : L ≠ I
  la : L ≠ a
  ia : I ≠ a
  new : X.base.get? L = none
/-- between two items; i: the next one -/
structure GJ (X : Cx) (pins : List (Addr × Obj)) (σ : L2.St) (T : List Addr) (H0 : Hp) (L I a l : Addr) (g i : Nat) (s : Shared) : Prop where
  hp : ∃ H, Sm H0 H ∧ Tab T H ∧ Inv X pins σ H s ∧ ∀ b, b = L ∨ b = I ∨ b = a → H b = none
  it : s.heap.IsListIter I l i
  ns : ∃ m, s.heap.Ns L m
  gen : s.heap.IsGen a g
  lt : g < s.gens.size
theorem GJ.home (J : GJ X pins σ T H0 L I a l g i s) : Home X pins σ T H0 s := let ⟨H, h1, h2, h3, _⟩ := J.hp; ⟨H, h1, h2, h3⟩
theorem GJ.setGen {x : GenState} (J : GJ X pins σ T H0 L I a l g i s) (hx : x.bare = true) : GJ X pins σ T H0 L I a l g i (s.setGen g x) := by
  obtain ⟨⟨H, h1, h2, h3, h4⟩, j1, j2, j3, j4⟩ := J
  exact ⟨⟨H, h1, h2, Inv.gensTo h3 (setGen_bare h3.bare hx), h4⟩, j1, j2, j3, by rw [GenW.setGen_size]; exact j4⟩
theorem Ours.turned (O : Ours X pins L I a) (J : Inv X pins σ H s) {b : Addr} (hb : b = L ∨ b = I ∨ b = a) (n : H b = none) {h' : Heap} {t' : Nat} (k : Heap.SameBut b s.heap h') : Inv X pins σ H { s with heap := h', toks := t' } := by
  obtain ⟨q1, q2, q3, q4, q5, q6⟩ := O.fp b hb H n
  exact J.turned (t' := t') (fun c o hc e => k.extBut c o hc e) q1 q2 q4 q5 q6
theorem GJ.turn (O : Ours X pins L I a) (J : GJ X pins σ T H0 L I a l g i s) {h' : Heap} {t' : Nat} (it' : h'.IsListIter I l (i + 1)) (k : Heap.SameBut I s.heap h') : GJ X pins σ T H0 L I a l g (i + 1) { s with heap := h', toks := t' } := by
  obtain ⟨⟨H, h1, h2, h3, h4⟩, j1, ⟨m, j2⟩, j3, j4⟩ := J
  refine ⟨⟨H, h1, h2, O.turned h3 (.inr (.inl rfl)) (h4 I (.inr (.inl rfl))) k, h4⟩, it', ⟨m, j2.sameBut k O.li⟩, ?_, j4⟩
  obtain ⟨o, nm, qn, ho, r⟩ := j3
  exact ⟨o, nm, qn, k.extBut a o O.ia.symm ho, r⟩
theorem GJ.store (O : Ours X pins L I a) (J : GJ X pins σ T H0 L I a l g i s) {h' : Heap} {m : Str → Option Value} {t' : Nat} (ns' : h'.Ns L m) (k : Heap.SameBut L s.heap h') : GJ X pins σ T H0 L I a l g i { s with heap := h', toks := t' } := by
  obtain ⟨⟨H, h1, h2, h3, h4⟩, ⟨ob, j1, j1'⟩, _, ⟨o, nm, qn, ho, r⟩, j4⟩ := J
  exact ⟨⟨H, h1, h2, O.turned h3 (.inl rfl) (h4 L (.inl rfl)) k, h4⟩, ⟨ob, k.extBut I ob O.li.symm j1, j1'⟩, ⟨m, ns'⟩, ⟨o, nm, qn, k.extBut a o O.la.symm ho, r⟩, j4⟩
/-- behind a call from the generator's frame -/
theorem GJ.called (O : Ours X pins L I a) (J : GJ X pins σ T H0 L I a l g i s) (hf : cenv.frame = some L) (hJ : Inv X pins σ H s) (h4 : ∀ b, b = L ∨ b = I ∨ b = a → H b = none) {s' : Shared} (h1 : Sm H0 H') (h2 : Tab T H') (hos : s'.os = s.os) (hb : AllBare s'.gens)
    (un : Un (frs (cenv :: X.stack)) [] H H' s.heap s'.heap) (hok : HOk X.prog X.w H' s'.heap) (hg : s.gens.size ≤ s'.gens.size) : GJ X pins σ T H0 L I a l g i s' := by
  have fr : frs (cenv :: X.stack) = L :: frs X.stack := by
    unfold frs
    rw [List.filterMap_cons, hf]
  rw [fr] at un
  have nf : ∀ b, b = L ∨ b = I ∨ b = a → b ∉ frs X.stack := fun b hb' z => by
    obtain ⟨_, q2, q3, _⟩ := O.fp b hb' H (h4 b hb')
    rcases List.mem_cons.mp (hJ.stkSub b z) with w | w
    · exact q2 w
    · exact q3 w
  have hI : ∀ o, s.heap.get? I = some o → s'.heap.get? I = some o := fun o e => un.keep I o e (h4 I (.inr (.inl rfl))) (fun z => (List.mem_cons.mp z).elim (fun w => O.li w.symm) (nf I (.inr (.inl rfl)))) (by simp)
  have ha : ∀ o, s.heap.get? a = some o → s'.heap.get? a = some o := fun o e => un.keep a o e (h4 a (.inr (.inr rfl))) (fun z => (List.mem_cons.mp z).elim (fun w => O.la w.symm) (nf a (.inr (.inr rfl)))) (by simp)
  obtain ⟨_, ⟨ob, j1, j1'⟩, ⟨m, ol, es, ep, hol, r⟩, ⟨o, nm, qn, ho, r2⟩, j4⟩ := J
  obtain ⟨sl, eL⟩ := un.any hol (h4 L (.inl rfl)) (by simp)
  refine ⟨⟨H', h1, h2, ?_, fun b hb' => ?_⟩, ⟨ob, hI ob j1, j1'⟩, ⟨m, _, es, ep, eL, r⟩, ⟨o, nm, qn, ha o ho, r2⟩, Nat.lt_of_lt_of_le j4 hg⟩
  · refine hJ.call' (ch := [L]) hos ⟨fun b o e n h1 h2 => un.keep b o e n (fun z => (List.mem_cons.mp z).elim (fun w => h2 (by rw [w]; exact List.mem_singleton.mpr rfl)) h1) (by simp), fun b o e n h1 _ => un.slot b o e n (List.mem_cons_of_mem _ h1) (by simp),
      fun b o e n _ => un.free b o e n (by simp), fun b o e _ => un.there b o e (by simp), un.tups, un.frzs, un.tbls⟩ hok hb fun b hb' => ?_
    rw [List.mem_singleton.mp hb']
    obtain ⟨_, q2, _, q4, q5, q6⟩ := O.fp L (.inl rfl) H (h4 L (.inl rfl))
    exact ⟨q4, q2, q5, q6⟩
  · rcases hb' with z | z | z
    · rw [z]; exact un.free L _ hol (h4 L (.inl rfl)) (by simp)
    · rw [z]; exact un.free I _ j1 (h4 I (.inr (.inl rfl))) (by simp)
    · rw [z]; exact un.free a _ ho (h4 a (.inr (.inr rfl))) (by simp)
end
section
variable {X : Cx} {pins : List (Addr × Obj)} {σ : L2.St} {T : List Addr} {H0 : Hp} {L I a l : Addr} {g j k : Nat} {sc : Scope} {fn tn y : Str} {p1 p2 p3 p4 py gp : Pos} {src : Expr} {f : Addr} {fd : FuncData} {ps : List Str} {sp : Sp} {vt : V} {vs : List V} {bs : List Bool} {co bi : Value}
/-- the generator's names: y its own, tn the def's that it captured, fn a global def -/
structure GSc (X : Cx) (sc : Scope) (fn tn y : Str) : Prop where
  kind : sc.kind = .function
  co : sc.isCoroutine = false
  cell : ∀ z ∈ sc.names, z.2 ≠ .cell
  dot : sc.names.lookup (".0" : Str) = some NameKind.local
  loc : sc.names.lookup y = some .local
  fn : sc.names.lookup fn = some .globalImplicit
  cap : sc.names.lookup tn = some .free
  only : ∀ z ∈ sc.names, z.2 = .free → z.1 = tn
  own : X.env.scope.names.lookup tn = some .cell
theorem GSc.free (S : GSc X sc fn tn y) (ok : X.Ok) : ∀ z ∈ sc.names, z.2 = .free → ∃ c, X.env.cells.lookup z.1 = some c := fun z hz e => by
  rw [S.only z hz e]
  exact ok.has tn (.inl S.own)
/-- fn(tn, y) -/
abbrev gElt (fn tn y : Str) (p1 p2 p3 p4 : Pos) : Expr := .Call (.Name fn p1) [.Name tn p2, .Name y p3] [] p4
abbrev gEnv (X : Cx) (sc : Scope) (L : Addr) (co : Value) (bi : Addr) : Env := genEnv sc (cloFrom X.env.cells sc.names []) L co bi X.env
/-- the called def: x -> c, whatever was told since H0 -/
structure GFn (X : Cx) (σ : L2.St) (T : List Addr) (H0 : Hp) (fn tn y : Str) (j k l : Nat) (f : Addr) (fd : FuncData) (ps : List Str) (sp : Sp) (vt : V) (vs : List V) (bs : List Bool) : Prop where
  F : FnOk X.prog X.w X.K X.mg X.base (L2.CX X.prog X.w) k f fd ps sp
  hm : X.mg fn = some (.ref f)
  kp : PySem.W.keepIn X.K (.ref f) = true
  hb : Binds X.K fd ps []
  hj : X.N[j]? = some tn
  hv : σ[j]? = some (some vt)
  hl : H0 l = some (.lst vs)
  len : bs.length = vs.length
  d1 : (fn == ("__debug__" : Str)) = false
  d2 : (tn == ("__debug__" : Str)) = false
  d3 : (y == ("__debug__" : Str)) = false
  d4 : (tn == ("__classdict__" : Str)) = false
  does : ∀ (i : Nat) (x : V) (c : Bool), vs[i]? = some x → bs[i]? = some c → ∀ H2 : Hp, Sm H0 H2 → Tab T H2 → sp [vt, x] H2 (fun u H3 => u = .bl c ∧ Sm H2 H3 ∧ Tab T H3) (fun _ _ _ => False)
theorem elt_turn {A' : Around} {E : Value → Shared → Prop} {bi : Addr} {i q : Nat} {c : Bool} {x : V} {ux : Value} {s : Shared} {m : Str → Option Value} (G : GFn X σ T H0 fn tn y j k l f fd ps sp vt vs bs) (S : GSc X sc fn tn y) (rm : Room k A')
    (hfr : A'.frames = some (gEnv X sc L co bi :: X.stack)) (O : Ours X pins L I a) (J : GJ X pins σ T H0 L I a l g q s) (hn : s.heap.Ns L m) (hy : m y = some ux) (rx : RelV x ux) (ex : vs[i]? = some x) (ec : bs[i]? = some c) :
    wpAny (model X.prog X.w) A' (eval (gElt fn tn y p1 p2 p3 p4) (gEnv X sc L co bi)) (fun v s' => v = .bool c ∧ GJ X pins σ T H0 L I a l g q s') E s := by
  obtain ⟨H, h1, h2, hJ, h4⟩ := J.hp
  have gl : s.heap.Ns (gEnv X sc L co bi).globals X.mg := by
    show s.heap.Ns X.env.globals X.mg
    rw [hJ.ok.glob]
    exact hJ.mod.glob.keeps hJ.bk
  refine wpAny_Call_Name_kw (Calls.Name_function_global S.kind S.fn (Calls.loadGlobal_global gl G.hm ?_) G.d1)
  refine PySem.W.callWith_K (h₀ := X.base) hJ.ok.mod.kin G.kp ?_ rfl rfl
  show wpAny _ _ (spliced ((false, eval (.Name tn p2) (gEnv X sc L co bi)) :: (false, eval (.Name y p3) (gEnv X sc L co bi)) :: [])) _ _ s
  obtain ⟨m2, n2, hl⟩ := hJ.loc
  obtain ⟨ut, rt, lk⟩ := hl j tn vt G.hj G.hv (.inr (.inl S.own))
  obtain ⟨c0, hc0, hcell⟩ : ∃ c0, X.env.cells.lookup tn = some c0 ∧ s.heap.IsCell c0 (some ut) := by
    rcases lk with ⟨z, _⟩ | ⟨_, z⟩
    · have z : X.env.scope.names.lookup tn = some .local := z
      rw [S.own] at z
      cases z
    · exact z
  refine Calls.spliced_cons (wpAny_Name (wpAny_loadName_free S.kind S.cap (NdefX.clo_has (S.free hJ.ok) (PySem.mem_of_lookup S.cap) hc0) hcell ?_ G.d4) G.d2)
  refine Calls.spliced_cons (wpAny_Name (wpAny_loadName_local S.kind S.loc hn hy ?_) G.d3)
  refine Calls.spliced_nil ⟨hJ.kIn, ?_⟩
  have r : Vals [vt, x] [ut, ux] := .cons rt (.cons rx .nil)
  have hs := G.does i x c ex ec H h1 h2
  have lp : ps.length = 2 := (G.F.len _ _ _ _ hs).symm
  have b := G.hb s [ut, ux] hJ.kIn (by rw [lp]; rfl)
  rw [List.append_nil] at b
  have e0 : Env0 X.prog X.w X.K X.mg X.base A' (gEnv X sc L co bi :: X.stack) s H :=
    ⟨hfr, hJ.ok.mod, hJ.bs, Nat.le_trans hJ.ok.bsz hJ.sz, .cons (by show sc.kind ≠ .module; rw [S.kind]; decide) rfl hn O.new hJ.stack, fun b hb => by
      rcases List.mem_cons.mp hb with (z | z)
      · rw [z]; exact h4 L (.inl rfl)
      · exact hJ.stkFree b z, hJ.hok, hJ.bare⟩
  refine GenW.wpAny_gsz (Nat.le_refl _) (wpAny_call (codeAny_mono (G.F.run A' _ s H ⟨[ut, ux], []⟩ [ut, ux] [vt, x] _ _ rm e0 b r hs) fun r s' hq => ?_))
  cases r with
  | error e =>
    obtain ⟨_, _, _, _, _, _, _, _, _, _, _, _, z⟩ := hq
    exact z.elim
  | ok fl =>
    cases fl with
    | next => exact False.elim hq
    | brk => exact False.elim hq
    | cont => exact False.elim hq
    | ret u =>
      obtain ⟨v, H', os, bare, un, hok, rv, rfl, sm, tb⟩ := hq
      intro hg
      exact ⟨rv, J.called O (cenv := gEnv X sc L co bi) rfl hJ h4 (h1.trans sm) tb os bare un hok hg⟩

/-! ### its loop -/
abbrev gExp (fn tn y : Str) (p1 p2 p3 p4 py gp : Pos) (src : Expr) (sc : Scope) : Expr := .GeneratorExp (gElt fn tn y p1 p2 p3 p4) [⟨.Name y py, src, [], 0⟩] sc gp
def GEnds (X : Cx) (pins : List (Addr × Obj)) (σ : L2.St) (T : List Addr) (H0 : Hp) : GenEnd := fun n _ r s => r = .ok .next ∧ (n = 0 ∧ Home X pins σ T H0 s)
def GPro (X : Cx) (pins : List (Addr × Obj)) (σ : L2.St) (T : List Addr) (H0 : Hp) (L I a l : Addr) (g : Nat) (bs : List Bool) : Protocol := fun n _ v s kap =>
  ∃ i c, bs[i]? = some c ∧ v = .bool c ∧ n + (i + 1) = bs.length ∧ GJ X pins σ T H0 L I a l g (i + 1) s ∧ ∀ s', GJ X pins σ T H0 L I a l g (i + 1) s' → kap (.send .none) s'
theorem GJ.list {i : Nat} {s : Shared} (J : GJ X pins σ T H0 L I a l g i s) (hl : H0 l = some (.lst vs)) : ∃ its : List Value, Vals vs its ∧ s.heap.IsList l its.toArray := by
  obtain ⟨H, h1, _, hJ, _⟩ := J.hp
  rcases h1 l _ hl with e | ⟨_, _, e, _⟩
  · obtain ⟨_, its, n, r, e2⟩ := hJ.hok l _ e
    exact ⟨its, r, _, e2, rfl, n, rfl⟩
  · cases e
theorem gl_loop {A : Around} {bi : Addr} (G : GFn X σ T H0 fn tn y j k l f fd ps sp vt vs bs) (S : GSc X sc fn tn y) (hh : A.handled = none) (rm : Room k (A.over (.compLoop (gExp fn tn y p1 p2 p3 p4 py gp src sc) 0 (.ref I) .none (gEnv X sc L co bi)) []))
    (hfr : (A.over (.compLoop (gExp fn tn y p1 p2 p3 p4 py gp src sc) 0 (.ref I) .none (gEnv X sc L co bi)) []).frames = some (gEnv X sc L co bi :: X.stack)) (O : Ours X pins L I a) : ∀ (cs : List Bool) (i : Nat) (s0 s : Shared), bs.drop i = cs → i ≤ bs.length → GJ X pins σ T H0 L I a l g i s →
    Seg (model X.prog X.w) A (GEnds X pins σ T H0) (GPro X pins σ T H0 L I a l g bs) cs.length s0 (.compLoop (gExp fn tn y p1 p2 p3 p4 py gp src sc) 0 (.ref I) .none (gEnv X sc L co bi))
      ((model X.prog X.w).den (.compLoop (gExp fn tn y p1 p2 p3 p4 py gp src sc) 0 (.ref I) .none (gEnv X sc L co bi))) [] s := by
  have hh' : (A.over (.compLoop (gExp fn tn y p1 p2 p3 p4 py gp src sc) 0 (.ref I) .none (gEnv X sc L co bi)) []).handled = none := hh
  intro cs
  induction cs with
  | nil =>
    intro i s0 s hd hi J
    have ei : i = bs.length := by
      have := List.drop_eq_nil_iff.mp hd
      omega
    obtain ⟨its, r, hl⟩ := J.list G.hl
    have hx : its.toArray[i]? = none := by
      rw [List.getElem?_toArray]
      exact List.getElem?_eq_none (by rw [← r.length, ← G.len, ei]; exact Nat.le_refl _)
    show Seg _ A _ _ _ s0 _ ((compTurn (gExp fn tn y p1 p2 p3 p4 py gp src sc) 0 (.ref I) .none (gEnv X sc L co bi)).onRaise (leaving (gEnv X sc L co bi))) [] s
    (rw [compTurn_gen, Sem.onRaise_eq_wrap])
    refine seg_bind_wrap (wpAny_standAt (seg_bind_wrap (wpAny_pyNext_list_end hh' J.it hl hx fun h' hk => ?_)))
    obtain ⟨H, h1, h2, h3, h4⟩ := J.hp
    obtain ⟨q1, q2, q3, q4, q5, q6⟩ := O.fp I (.inr (.inl rfl)) H (h4 I (.inr (.inl rfl)))
    exact seg_end (.ok .next) ⟨rfl, rfl, H, h1, h2, h3.turned (t' := s.toks) (fun b o hb e => hk b o hb e) q1 q2 q4 q5 q6⟩
  | cons c cs ih =>
    intro i s0 s hd hi J
    have ec : bs[i]? = some c := by
      have := congrArg (fun l => l[0]?) hd
      simpa using this
    have en : bs.drop (i + 1) = cs := by
      rw [← List.drop_drop, hd]
      rfl
    have lt := (List.getElem?_eq_some_iff.mp ec).1
    obtain ⟨its, r, hl⟩ := J.list G.hl
    obtain ⟨x, ex⟩ : ∃ x, vs[i]? = some x := ⟨_, List.getElem?_eq_getElem (by rw [← G.len]; exact lt)⟩
    obtain ⟨ux, eu, rx⟩ := r.get ex
    show Seg _ A _ _ _ s0 _ ((compTurn (gExp fn tn y p1 p2 p3 p4 py gp src sc) 0 (.ref I) .none (gEnv X sc L co bi)).onRaise (leaving (gEnv X sc L co bi))) [] s
    (rw [compTurn_gen, Sem.onRaise_eq_wrap])
    refine seg_bind_wrap (wpAny_standAt (seg_bind_wrap (wpAny_pyNext_list_item J.it hl (by rw [List.getElem?_toArray]; exact eu) fun h1 it1 k1 => ?_)))
    have J1 := J.turn (t' := s.toks) O it1 k1
    obtain ⟨m1, n1⟩ := J1.ns
    refine seg_bind_wrap (wpAny_of_eq (rfl : letOwnedTupleGo (.Name y py) (.ref I) ux = pure ()) ?_)
    refine seg_bind_wrap (wpAny_assign_Name (wpAny_storeName_local (show (gEnv X sc L co bi).kindOf y = some .local from S.loc) n1 (fun h2 n2 k2 => ?_) (by show (sc.kind == .class || (sc.kind == .module && _)) = false; rw [S.kind]; rfl)))
    have J2 := J1.store (t' := s.toks + 1) O n2 k2
    simp only [List.forIn_nil]
    refine seg_bind_wrap (wpAny_pure ?_)
    have hy : ∀ v, yieldOut (gEnv X sc L co bi) v = yieldValue v := fun v => by
      unfold yieldOut
      rw [show (gEnv X sc L co bi).scope.isCoroutine = false from S.co]
      rfl
    simp only [if_true, hy]
    (rw [Sem.bind_eq_wrap', Sem.bind_eq_wrap', Sem.wrap_wrap, Sem.wrap_wrap])
    refine seg_wrap (thn (elt_turn G S rm hfr O J2 n2 (if_pos rfl) rx ex ec) fun v s4 hv => ?_)
    obtain ⟨rfl, J4⟩ := hv
    have hlen : cs.length + (i + 1) = bs.length := by
      rw [← en, List.length_drop]
      omega
    exact seg_at (seg_yield rfl rfl rfl ⟨i, c, ec, rfl, hlen, J4, fun s5 J5 => seg_again rfl (ih (i + 1) s5 s5 en lt J5)⟩)
theorem gl_start {A : Around} {bi : Addr} (G : GFn X σ T H0 fn tn y j k l f fd ps sp vt vs bs) (S : GSc X sc fn tn y) (hh : A.handled = none) (rm : Room k (A.over (.compLoop (gExp fn tn y p1 p2 p3 p4 py gp src sc) 0 (.ref I) .none (gEnv X sc L co bi)) []))
    (hfr : (A.over (.compLoop (gExp fn tn y p1 p2 p3 p4 py gp src sc) 0 (.ref I) .none (gEnv X sc L co bi)) []).frames = some (gEnv X sc L co bi :: X.stack)) (O : Ours X pins L I a) {s0 s : Shared} (J : GJ X pins σ T H0 L I a l g 0 s) :
    Seg (model X.prog X.w) A (GEnds X pins σ T H0) (GPro X pins σ T H0 L I a l g bs) bs.length s0 (.compStart (gExp fn tn y p1 p2 p3 p4 py gp src sc) 0 (.ref I) .none (gEnv X sc L co bi))
      ((model X.prog X.w).den (.compStart (gExp fn tn y p1 p2 p3 p4 py gp src sc) 0 (.ref I) .none (gEnv X sc L co bi))) [] s := by
  have go := gl_loop (p1 := p1) (p2 := p2) (p3 := p3) (p4 := p4) (py := py) (gp := gp) (src := src) G S hh rm hfr O bs 0 s0 s rfl (Nat.zero_le _) J
  show Seg _ A _ _ _ s0 _ ((compStart (gExp fn tn y p1 p2 p3 p4 py gp src sc) 0 (.ref I) .none (gEnv X sc L co bi)).onRaise (leaving (gEnv X sc L co bi))) [] s
  unfold compStart
  rw [Sem.onRaise_eq_wrap]
  show Seg _ A _ _ _ s0 _ ((ask >>= _).wrap _ _ _ _) [] s
  refine (seg_bind_wrap (wpAny_askSetting ?_))
  split
  · exact seg_again rfl go
  · first
      | exact seg_bind_wrap (wpAny_rule (seg_bind_wrap (wpAny_standAt (seg_bind_wrap (wpAny_pyIter_listiter J.it (seg_again rfl go))))))
      | (refine seg_bind_wrap (wpAny_rule ?_)
         show Seg _ A _ _ _ s0 _ ((standAt _ >>= _).wrap _ _ _ _) [] s
         exact seg_bind_wrap (wpAny_standAt (seg_bind_wrap (wpAny_pyIter_listiter J.it (seg_again rfl go)))))
/-- the generator, drawn from -/
def GSt (X : Cx) (A : Around) (pins : List (Addr × Obj)) (σ : L2.St) (T : List Addr) (H0 : Hp) (L I a l : Addr) (g : Nat) (bs : List Bool) (i : Nat) (s : Shared) : Prop :=
  GJ X pins σ T H0 L I a l g i s ∧ ∃ gs, s.gens[g]? = some gs ∧ ∀ s', GJ X pins σ T H0 L I a l g i s' → gs.Goes (model X.prog X.w) A.in1 (GEnds X pins σ T H0) (GPro X pins σ T H0 L I a l g bs) (bs.length - i) (.send .none) s'
theorem gen_turns {A : Around} (hh : A.handled = none) (hroom : A.depth < recursionLimit) : Turns X.prog X.w A a bs (GSt X A pins σ T H0 L I a l g bs) (Home X pins σ T H0) where
  item := fun i c s Q E ec st hQ => by
    obtain ⟨J, gs, hgs, hgo⟩ := st
    have lt := (List.getElem?_eq_some_iff.mp ec).1
    obtain ⟨H, _, _, hJ, _⟩ := J.hp
    obtain ⟨n, hn⟩ : ∃ n, bs.length - i = n + 1 := ⟨bs.length - i - 1, by omega⟩
    rw [hn] at hgo
    refine wpAny_pyNext_genexpQ (P := fun n _ s1 => n = 0 ∧ Home X pins σ T H0 s1) hh hJ.nolimit hroom J.gen hgs (hgo _ (J.setGen rfl)) (fun v s1 gs' hb hv => ?_) (fun s1 hp h' hk => ?_)
    · obtain ⟨i', c', ec', rfl, hl, J', hkap⟩ := hv
      have ei : i' = i := by omega
      subst ei
      rw [ec] at ec'
      cases ec'
      refine hQ _ ⟨J'.setGen hb, gs', setGen_get J'.lt, fun s' J2 => ?_⟩
      have e : bs.length - (i' + 1) = n := by omega
      rw [e]
      exact hkap s' J2
    · exact absurd hp.1 (Nat.succ_ne_zero n)
  done := fun s Q E st hQ => by
    obtain ⟨J, gs, hgs, hgo⟩ := st
    obtain ⟨H, _, _, hJ, _⟩ := J.hp
    rw [Nat.sub_self] at hgo
    refine wpAny_pyNext_genexpQ (P := fun n _ s1 => n = 0 ∧ Home X pins σ T H0 s1) hh hJ.nolimit hroom J.gen hgs (hgo _ (J.setGen rfl)) (fun v s1 gs' hb hv => ?_) (fun s1 hp h' hk => ?_)
    · obtain ⟨i', c', ec', rfl, hl, J', hkap⟩ := hv
      exact (hkap s1 J').elim
    · obtain ⟨_, H2, h1, h2, h3⟩ := hp
      exact hQ _ ⟨H2, h1, h2, (Inv.gensTo h3 (setGen_bare h3.bare rfl)).kept (t' := (s1.setGen g .finished).toks) hk⟩
  fin := fun i s st => st.1.home

/-! ### all(fn(tn, y) for y in a list) -/
def tAllG (T : List Addr) (tb : Addr) (j : Nat) (sp : Sp) (te : TE) : TE := fun σ H Q => te σ H fun v H1 => ∃ (l : Addr) (vs : List V) (vt : V) (bs : List Bool), v = .ref l ∧ H1 l = some (.lst vs) ∧ σ[j]? = some (some vt) ∧ Tab T H1 ∧ tb ∈ T ∧ bs.length = vs.length ∧
  (∀ (i : Nat) (x : V) (c : Bool), vs[i]? = some x → bs[i]? = some c → ∀ H2 : Hp, Sm H1 H2 → Tab T H2 → sp [vt, x] H2 (fun u H3 => u = .bl c ∧ Sm H2 H3 ∧ Tab T H3) (fun _ _ _ => False)) ∧ ∀ H2, Sm H1 H2 → Tab T H2 → Q (.bl (bs.all fun b => b)) H2
theorem pe_allG {cd tb : Addr} {te : TE} {p pos : Pos} (hr : Room (k + 1) X.A) (hg : Gl X "all") (hma : X.mg "all" = none) (hb : bootBuiltins "all" = some (.builtin "all")) (TB : TabB X.base X.mg cd tb) (hcode : X.env.code = .ref cd) (S : GSc X sc fn tn y) (hsrc : PE X src te)
    (F : FnOk X.prog X.w X.K X.mg X.base (L2.CX X.prog X.w) k f fd ps sp) (hm : X.mg fn = some (.ref f)) (kp : PySem.W.keepIn X.K (.ref f) = true) (hbn : Binds X.K fd ps []) (hj : X.N[j]? = some tn) (d1 : (fn == ("__debug__" : Str)) = false) (d2 : (tn == ("__debug__" : Str)) = false)
    (d3 : (y == ("__debug__" : Str)) = false) (d4 : (tn == ("__classdict__" : Str)) = false) (hs : ∀ v, genFold src X.env v = pure v)
    (he : starEach [gExp fn tn y p1 p2 p3 p4 py gp src sc] X.env = (false, eval (gExp fn tn y p1 p2 p3 p4 py gp src sc) X.env) :: starEach [] X.env := by rfl) :
    PE X (.Call (.Name "all" p) [gExp fn tn y p1 p2 p3 p4 py gp src sc] [] pos) (tAllG T tb j sp te) := by
  refine ⟨fun pins s σ H Q I0 want => ?_⟩
  refine wpAny_Call_Name_kw (ld_blt I0 hg hma hb (PyProof.Rows.callWith_builtin1 ?_ he (by rfl)))
  rw [he]
  refine Calls.spliced_cons ?_
  refine wpAny_GeneratorExp_make S.co (closure_ok (S.free I0.ok)) S.cell S.dot S.kind (by have := hr.dp; omega) ?_ hs
  refine thn (hsrc.run pins s σ H _ I0 want) ?_
  rintro xv s1 ⟨v, H1, inv, rel, l, vs, vt, bs, rfl, hl, hv, tab, tbT, hlen, hdo, next⟩
  cases rel
  obtain ⟨rows, hrows, trip⟩ := tab tb tbT
  obtain ⟨_, its, cap, r, el⟩ := inv.hok l _ hl
  have isl : s1.heap.IsList l its.toArray := ⟨_, el, rfl, cap, rfl⟩
  refine wpAny_pyIter_list isl ?_
  have tabS : s1.heap.get? tb = some { cls := .none, data := .fields rows } := inv.hok tb _ hrows
  have stays : ∀ b o, s1.heap.get? b = some o → (s1.heap.push { cls := .type "list_iterator", data := .fields #[.ref l, .int 0 0] }).get? b = some o := fun b o q => Heap.get?_push_of_some _ q
  have grown : (s1.heap.push { cls := .type "list_iterator", data := .fields #[.ref l, .int 0 0] }).objs.size = s1.heap.objs.size + 1 := Heap.size_push ..
  have tbI : tb < s1.heap.objs.size := Heap.lt_size tabS
  refine ⟨inv.nolimit.push _, gen_code hcode (TB.code.keeps fun b o q => stays b o (inv.bk b o q)) (stays tb _ tabS) trip ?_⟩
  intro cv hp tk2 add ext ge tabN tripN
  rw [grown] at ge
  obtain ⟨bm, ob, m1, m2, m3, m4, m5, m6, m7, m8⟩ := TB.bm
  have onTop : ∀ b o, b ≠ tb → s1.heap.get? b = some o → hp.get? b = some o := fun b o n q => ext b o n (stays b o q)
  refine wpAny_builtinsFor (m := X.mg) (by rw [inv.ok.glob]; exact ((inv.mod.glob.keeps inv.bk).push _).extBut ext TB.gP) m1 m2 (onTop bm ob m4 (inv.bk bm ob m5)) m6 m7 m8 ?_
  intro h' hn' hs'
  have sz' : h'.objs.size = hp.objs.size + 1 := by rw [hs'.1, Heap.size_push]
  have keep' : ∀ b o, hp.get? b = some o → h'.get? b = some o := fun b o e => hs'.extBut b o (Nat.ne_of_lt (Heap.lt_size e)) (Heap.get?_push_of_some _ e)
  have gLt : s1.gens.size < (s1.gens.push (.fresh (.compStart (gExp fn tn y p1 p2 p3 p4 py gp src sc) 0 (.ref s1.heap.objs.size) .none (gEnv X sc hp.objs.size cv builtinsNs)))).size := by
    rw [Array.size_push]; exact Nat.lt_succ_self _
  have isI : hp.IsListIter s1.heap.objs.size l 0 := ⟨_, ext _ _ (Nat.ne_of_gt tbI) (Heap.get?_push_size _ rfl), rfl, rfl⟩
  have O : Ours X pins hp.objs.size s1.heap.objs.size h'.objs.size := by
    refine ⟨fun b hb H hn => inv.fpOk (H' := H) ?_ hn, Nat.ne_of_gt (by omega), Nat.ne_of_lt (by omega), Nat.ne_of_lt (by omega), Heap.get?_none_of_le ?_⟩
    · rcases hb with z | z | z <;> (rw [z]; first | exact Nat.le_refl _ | (show s1.heap.objs.size ≤ _; omega))
    · have q1 := inv.ok.bsz
      have q2 := inv.sz
      show X.base.objs.size ≤ hp.objs.size
      omega
  have sm5 : Sm H1 (upd H1 tb (.tbl (rows ++ add))) := fun b o e => by
    by_cases hb' : b = tb
    · rw [hb'] at e ⊢
      rw [hrows] at e
      cases e
      exact .inr ⟨rows, _, rfl, upd_same⟩
    · exact .inl (by rw [upd_ne hb']; exact e)
  have tab5 : Tab T (upd H1 tb (.tbl (rows ++ add))) := fun q hq => by
    by_cases hb' : q = tb
    · rw [hb']
      exact ⟨_, upd_same, tripN⟩
    · obtain ⟨qs, e1, e2⟩ := tab q hq
      exact ⟨qs, by rw [upd_ne hb']; exact e1, e2⟩
  apply Calls.spliced_nil
  have G : GFn X σ T H1 fn tn y j k l f fd ps sp vt vs bs := ⟨F, hm, kp, hbn, hj, hv, hl, hlen, d1, d2, d3, d4, hdo⟩
  have J0 : GJ X pins σ T H1 hp.objs.size s1.heap.objs.size h'.objs.size l s1.gens.size 0 { s1 with gens := s1.gens.push (.fresh (.compStart (gExp fn tn y p1 p2 p3 p4 py gp src sc) 0 (.ref s1.heap.objs.size) .none (gEnv X sc hp.objs.size cv builtinsNs))), toks := tk2 + 1 + 1 + 1, heap := h'.push { cls := .type "generator", data := .fields #[.int s1.gens.size 0, .str "<genexpr>" (tk2 + 1), .str (X.env.qual ++ "<genexpr>") (tk2 + 1 + 1)] } } := by
    refine ⟨⟨_, sm5, tab5, ?_, fun b hb' => ?_⟩, ?_, ⟨_, hn'.push _⟩, ⟨_, _, _, Heap.get?_push_size _ rfl, rfl, rfl, rfl⟩, gLt⟩
    · exact inv_tab (σ := σ) (more := add) (d' := s1.drawn) inv hrows (fun b o n q => Heap.get?_push_of_some _ (keep' b o (onTop b o n q))) (Heap.get?_push_of_some _ (keep' tb _ tabN)) (fun z hz => by
        rcases Array.mem_push.mp hz with w | w
        · exact inv.bare z w
        · rw [w]; rfl)
    · have hge : s1.heap.objs.size ≤ b := by rcases hb' with z | z | z <;> (rw [z]; first | exact Nat.le_refl _ | (show s1.heap.objs.size ≤ _; omega))
      rw [upd_ne (Nat.ne_of_gt (Nat.lt_of_lt_of_le tbI hge))]
      exact inv.hok.fresh hge
    · obtain ⟨oi, i1, i2⟩ := isI
      exact ⟨oi, Heap.get?_push_of_some _ (keep' _ _ i1), i2⟩
  refine turns_all (wpAny_pyIter_gen J0.gen ⟨_, bs, _, Home X pins σ T H1, rfl, gen_turns (l := l) (A := X.A.in1) hr.hd (by show X.A.depth < _; have := hr.dp; omega), ⟨J0, _, Array.getElem?_push_size .., fun s' J' => ⟨rfl, ?_⟩⟩, fun s' hs2 => ?_⟩)
  · refine gl_start (A := X.A.in1.in1) G S hr.hd ⟨hr.hd, ?_, ?_⟩ ?_ O J'
    · have e : (X.A.in1.in1.over (.compLoop (gExp fn tn y p1 p2 p3 p4 py gp src sc) 0 (.ref s1.heap.objs.size) .none (gEnv X sc hp.objs.size cv builtinsNs)) []).depth ≤ X.A.depth + 1 := Nat.le_of_eq rfl
      have := hr.dp
      omega
    · have e : (X.A.in1.in1.over (.compLoop (gExp fn tn y p1 p2 p3 p4 py gp src sc) 0 (.ref s1.heap.objs.size) .none (gEnv X sc hp.objs.size cv builtinsNs)) []).units ≤ X.A.units + 5 := Nat.le_of_eq rfl
      have := hr.un
      omega
    · have e := inv.ok.frames
      revert e
      generalize X.A = A
      intro e
      have e : A.in1.in1.frames = some X.stack := e
      unfold Around.over
      dsimp only
      rw [e]
      rfl
  · obtain ⟨H2, s2, t2, i2⟩ := hs2
    exact ⟨.bl _, H2, i2, rfl, next H2 s2 t2⟩
end

/-! ### its mirror -/
def bits (f : D → RF) : List D → Option (List Bool)
  | [] => some []
  | x :: xs => match f x with
    | .ok ((.bool c, _), _) => (bits f xs).map (c :: ·)
    | _ => none
theorem bits_ok {f : D → RF} : ∀ {ds : List D} {bs : List Bool}, bits f ds = some bs → bs.length = ds.length ∧ ∀ (i : Nat) (d : D) (c : Bool), ds[i]? = some d → bs[i]? = some c → ∃ m ρ, f d = .ok ((.bool c, m), ρ)
  | [], bs, h => by
    cases h
    exact ⟨rfl, fun i d c e => by simp at e⟩
  | x :: xs, bs, h => by
    unfold bits at h
    split at h
    · rename_i c0 m0 ρ0 e0
      obtain ⟨cs, hc, rfl⟩ := Option.map_eq_some_iff.mp h
      obtain ⟨h1, h2⟩ := bits_ok hc
      refine ⟨by simp [h1], fun i d c e1 e2 => ?_⟩
      cases i with
      | zero =>
        simp at e1 e2
        subst e1
        subst e2
        exact ⟨m0, ρ0, e0⟩
      | succ i => exact h2 i d c (by simpa using e1) (by simpa using e2)
    · cases h
theorem bits_make {f : D → RF} {g : D → Bool} : ∀ {ds : List D}, (∀ d ∈ ds, ∃ m ρ, f d = .ok ((.bool (g d), m), ρ)) → bits f ds = some (ds.map g)
  | [], _ => rfl
  | x :: xs, h => by
    obtain ⟨m, ρ, e⟩ := h x (by simp)
    unfold bits
    rw [e]
    show (bits f xs).map _ = _
    rw [bits_make fun d hd => h d (List.mem_cons_of_mem _ hd)]
    rfl
/-- all(f(t, y) for y in a list), t the slot j -/
def mAllG (M : CV → RF) (j : Nat) (fs : CV → Rs (D × Md)) : CV → Rs (D × Md) := fun ρ => (fs ρ).bind fun x => match x, ρ[j]? with
  | (.list ds, m), some (.val t) => if m = .fz then .no else match bits (fun d => M [.val t, .val d]) ds with
    | some bs => .ok (.bool (bs.all fun b => b), .cl)
    | none => .no
  | _, _ => .no
theorem TrAll.item {H : Hp} : ∀ {vs : List V} {ds : List D} {i : Nat} {v : V}, TrAll H vs ds → vs[i]? = some v → ∃ d, ds[i]? = some d ∧ Tr H v d
  | _, _, 0, _, .cons t _, e => by simp at e; subst e; exact ⟨_, rfl, t⟩
  | _, _, i + 1, _, .cons _ t, e => by simpa using TrAll.item (i := i) t (by simpa using e)
  | _, _, _, _, .nil, e => (by simp at e)
theorem TrAll.lenEq {H : Hp} : ∀ {vs : List V} {ds : List D}, TrAll H vs ds → vs.length = ds.length
  | _, _, .nil => rfl
  | _, _, .cons _ t => by simp [TrAll.lenEq t]
section
variable {X : Cx} {C : Cf} {W : WX} {fs : CV → Rs (D × Md)} {src : Expr}
theorem se_allG {cd tb : Addr} {k : Nat} {M : CV → RF} {fn tn y : Str} {sc : Scope} {p1 p2 p3 p4 py gp p pos : Pos} (j : Nat) (G : Cal X.prog X.w X.K X.mg X.base C.T fn 2 k M) (hr : Room (k + 1) X.A) (hP : tb ∈ C.T) (TB : TabB X.base X.mg cd tb) (hcode : X.env.code = .ref cd) (hma : X.mg "all" = none) (hi : PE X src (tE C W fs))
    (hC : { C with ios := [], ob := none } = { K := X.K, T := C.T, mg := X.mg, ios := [], ob := none : Cf } := by rfl) (hj : X.N[j]? = some tn := by rfl) (hlc : C.lc j = true := by rfl)
    (hkd : sc.kind = .function := by rfl) (hco : sc.isCoroutine = false := by rfl) (hce : ∀ y ∈ sc.names, y.2 ≠ .cell := by decide +kernel) (hon : ∀ z ∈ sc.names, z.2 = .free → z.1 = tn := by decide +kernel) (hdt : sc.names.lookup (".0" : Str) = some NameKind.local := by rfl)
    (hfn : sc.names.lookup fn = some .globalImplicit := by rfl) (hcap : sc.names.lookup tn = some .free := by rfl) (hy : sc.names.lookup y = some .local := by rfl) (hown : X.env.scope.names.lookup tn = some .cell := by rfl) (hg : Gl X "all" := by rfl) (hs : ∀ v, genFold src X.env v = pure v := by intro _; rfl)
    (d1 : (fn == ("__debug__" : Str)) = false := by decide) (d2 : (tn == ("__debug__" : Str)) = false := by decide) (d3 : (y == ("__debug__" : Str)) = false := by decide) (d4 : (tn == ("__classdict__" : Str)) = false := by decide)
    (he : starEach [gExp fn tn y p1 p2 p3 p4 py gp src sc] X.env = (false, eval (gExp fn tn y p1 p2 p3 p4 py gp src sc) X.env) :: starEach [] X.env := by rfl) :
    PE X (.Call (.Name "all" p) [gExp fn tn y p1 p2 p3 p4 py gp src sc] [] pos) (tE C W (mAllG M j fs)) := by
  obtain ⟨f, fd, ps, h1, h2, h3, h4⟩ := G.ex
  refine PE.imp (pe_allG (T := C.T) hr hg hma (by decide +kernel) TB hcode ⟨hkd, hco, hce, hdt, hy, hfn, hcap, hon, hown⟩ hi h1 h2 h3 h4 hj d1 d2 d3 d4 hs he) fun σ H Q w => ?_
  obtain ⟨B, P, ρ, hio, re, w⟩ := w
  refine tE_then hio re w fun d m v H1 s re1 vr w1 => ?_
  have o1 := VR.ov re.lst vr
  split at w1
  · rename_i ds m0 t ed et
    cases ed
    split at w1
    · exact w1.elim
    rename_i hm
    split at w1
    · rename_i bs eb
      obtain ⟨l1, l2⟩ := bits_ok eb
      obtain ⟨vt, hvt, tt⟩ := re1.val (hio.lc hlc) et
      cases o1.tr hm with
      | lst hl tl =>
        rename_i a vs
        refine ⟨a, vs, vt, bs, rfl, hl, hvt, re1.tab, hP, by rw [l1, tl.lenEq], fun i x c ex ec H2 s2 t2 => ?_, fun H2 s2 t2 => w1 _ H2 s2 t2 (.bl _)⟩
        obtain ⟨dx, edx, tx⟩ := tl.item ex
        obtain ⟨mx, ρx, eM⟩ := l2 i dx c edx ec
        have q1 : Tr H2 vt t := Tr.mono s2.seq _ _ (Tr.mono mask_le _ _ tt)
        have q2 : Tr H2 x dx := Tr.mono s2.seq _ _ tx
        refine ⟨{ H0 := H2, M := [], io := [], ch := [] }, [], [.val t, .val dx], rfl, ⟨rfl, rfl⟩, rfl, rfl, entry_call (C := { K := X.K, T := C.T, mg := X.mg, ios := [] }) (Pm := []) (M := []) (ds := [(t, .cl), (dx, .cl)]) (fun q hq => by simp at hq) t2 ⟨by show Tr (mask [] H2) vt t; rw [mask_nil]; exact q1, by show Tr (mask [] H2) x dx; rw [mask_nil]; exact q2, trivial⟩ (fun z u o nf hz => ?_), ?_⟩
        · rw [mask_nil]
          exact o.tr nf
        · rw [eM]
          intro P' σ' H' v' re' rv
          refine ⟨?_, re'.smOf rfl, re'.tab⟩
          cases mx with
          | fr => obtain ⟨_, _, _, _, e, _⟩ := rv; cases e
          | ow => obtain ⟨_, _, _, _, e, _⟩ := rv; cases e
          | cl =>
            have rv : Tr (mask ([] ++ P') H') v' (.bool c) := rv
            cases rv
            rfl
          | vw =>
            have rv : Tr H' v' (.bool c) := rv
            cases rv
            rfl
          | fz =>
            have rv : Fz X.K H' v' (.bool c) := rv
            cases rv
    · exact w1.elim
  · exact w1.elim
end
end Eng

set_option Elab.async false
set_option linter.all false
set_option maxRecDepth 100000
set_option maxHeartbeats 1234567
namespace Eng
open PySem PySem.Spec
open PyProof.Rows L2

/-! ### the truth of a list or a tuple -/
def mTruth (f : CV → Rs (D × Md)) : CV → Rs Bool := fun ρ => (f ρ).bind fun x => match x.1 with
  | .bool b => .ok b
  | .list ds => .ok (!ds.isEmpty)
  | .tuple ds => .ok (!ds.isEmpty)
  | _ => .no
theorem isEmpty_len {α β : Type} {a : List α} {b : List β} (h : a.length = b.length) : (!a.isEmpty) = !b.isEmpty := by
  cases a <;> cases b <;> first | rfl | cases h
def hSlT (x : D × Md) (l h : Option Int) : Option (D × Md) := match x with
  | (.tuple ds, .cl) => some (.tuple (cut ds l h), .cl)
  | (.tuple ds, .vw) => some (.tuple (cut ds l h), .vw)
  | _ => none
def mSlT (f : CV → Rs (D × Md)) (lo hi : CV → Rs (Option Int)) : CV → Rs (D × Md) := fun ρ => (f ρ).bind fun x => (lo ρ).bind fun l => (hi ρ).bind fun h => ofO (hSlT x l h)
section
variable {X : Cx} {C : Cf} {W : WX} {a e : Expr} {le he : Option Expr} {f : CV → Rs (D × Md)} {lo hi : CV → Rs (Option Int)} {pos p2 : Pos}
theorem st_truth (ha : PE X e (tE C W f)) (hK : X.K = C.K := by rfl) (he : ∀ whole, isTrue e X.env whole = (do let v ← whole; standAt e.pos; holding [v] (truthy v)) := by intro _; rfl) : PT X e (tT C W (mTruth f)) :=
  PT.imp (pt_truth ha he) fun σ H Q w => by
    obtain ⟨B, P, ρ, hio, re, w⟩ := w
    refine tT_then hio re w fun d m v H1 s re1 vr w1 => ?_
    have o1 := VR.ov re.lst vr
    cases d with
    | bool b =>
      by_cases n : m = .fz
      · subst n
        cases o1
      · have t := o1.tr n
        cases t
        exact ⟨_, rfl, w1 H1 (Sm.refl _) re1.tab⟩
    | list ds =>
      obtain ⟨p, vs, rfl, hs, t, c⟩ := o1.seqL
      exact ⟨_, .inl ⟨vs, by rw [hK]; exact hs, (isEmpty_len t.lenEq).symm⟩, w1 H1 (Sm.refl _) re1.tab⟩
    | tuple ds =>
      obtain ⟨p, vs, rfl, hs, t, c⟩ := o1.seqT
      exact ⟨_, .inr (.inl ⟨vs, by rw [hK]; exact hs, (isEmpty_len t.lenEq).symm⟩), w1 H1 (Sm.refl _) re1.tab⟩
    | _ => exact w1.elim
/-- t[lo:hi], t a tuple -/
theorem se_slT (ha : PE X a (tE C W f)) (hl : PO X le (tO C W lo)) (hh : PO X he (tO C W hi)) (hK : X.K = C.K) : PE X (.Subscript a (.Slice le he none p2) pos) (tE C W (mSlT f lo hi)) :=
  PE.imp (pe_slice sl_tupA ha hl hh) fun σ H Q w => by
    obtain ⟨B, P, ρ, hio, re, w⟩ := w
    refine tE_then hio re w fun d m v H1 s re1 vr w1 => ?_
    have o1 := VR.ov re.lst vr
    refine tO_then hio re1 w1 fun l H2 s2 re2 w2 => ?_
    refine tO_then hio re2 w2 fun h H3 s3 re3 w3 => ?_
    have o3 := (o1.sm s2).sm s3
    have go : ∀ (G : Hp) (ds : List D), SeqLe G H3 → (∀ p, H3 p = none → ∀ vs, TrAll G vs ds → TrAll G (cutV vs l h) (Eng.cut ds l h)) → Tr G v (.tuple ds) → (Tr G v (.tuple (Eng.cut ds l h)) → Q v H3) →
        (∀ vs p, H3 p = none → TrAll G (cutV vs l h) (Eng.cut ds l h) → Q (.ref p) (upd H3 p (.tup (cutV vs l h)))) → rSlA X.K v l h H3 Q := by
      intro G ds le _ tr q1 q2
      cases tr with
      | @tup p vs ds e t =>
        have hlen : vs.length = ds.length := t.lenEq
        refine ⟨p, vs, rfl, SqT.of (le.2 _ _ e), fun hw => ?_, fun _ r hr => q2 vs r hr (t.cut l h)⟩
        have ec : Eng.cut ds l h = ds := by
          unfold Eng.cut
          rw [hlen] at hw
          rw [hw.1, hw.2]
          simp
        exact q1 (by rw [ec]; exact .tup e t)
    cases d <;> try exact w3.elim
    rename_i ds
    cases m with
    | cl => exact go _ ds mask_le (fun _ _ vs t => t.cut l h) o3 (fun t => w3 _ H3 (Sm.refl _) re3.tab t) fun vs p hp t => new_tup (C := C) (Pm := B.M ++ P) re3.lst re3.tab hp t w3
    | vw => exact go _ ds ⟨fun _ _ h => h, fun _ _ h => h⟩ (fun _ _ vs t => t.cut l h) o3 (fun t => w3 _ H3 (Sm.refl _) re3.tab t) fun vs p hp t => w3 _ _ (Sm.upd hp) (re3.tab.new hp) (.tup upd_same (TrAll.mono (Sm.upd hp).seq _ _ t))
    | fr => exact w3.elim
    | ow => exact w3.elim
    | fz => exact w3.elim
/-! ### xs.extend(t), t a tuple -/
theorem meets_extT (l b : Addr) (items items2 : Array Value) (n : Nat) (hz : items.size + items2.size ≤ sizeLine) :
    Meets (Builtin.«list.extend» ⟨[.ref l, .ref b], []⟩) (fun _ R s => s.heap.get? l = some { cls := .type "list", data := .seq items n } ∧ IsTup s.heap b items2 ∧ R (.ok (.ret Value.none)) { s with heap := s.heap.update l (Obj.mapSeq fun x => x ++ items2), toks := s.toks }) :=
  Meets.of_wp fun prog w A R s h => by
    obtain ⟨hl, ⟨o, ho, hc, n2, hd⟩, hR⟩ := h
    show wpAny _ _ (Builtin.List.listExtendWith (.ref l) (.ref b) .none) _ _ s
    (unfold Builtin.List.listExtendWith)
    refine wpAny_bind (wpAny_typeOf ⟨_, ho, hc⟩ ?_)
    have h1 : (Builtin.List.listSameRef (.ref l) (.ref b) || Value.type "tuple" == Value.type "list" || Value.type "tuple" == Value.type "tuple") = true := by simp
    rw [if_pos h1]
    have h2 : ¬ (!items.isEmpty && Builtin.List.listTooLong (items.size + items2.size)) = true := by
      rw [notLongL hz, Bool.and_false]
      exact Bool.false_ne_true
    have h3 : items.size ≤ sizeLine := by omega
    refine wpAny_bind (wpAny_bind (wpAny_seqItems ho hd (wpAny_pure ?_)))
    refine wpAny_bind (wpAny_bind (wpAny_seqItems hl rfl (wpAny_pure ?_)))
    rw [if_neg h2]
    exact wpAny_bind (wpAny_updateSeq hl rfl (wpAny_pure ⟨_, rfl, hR⟩))
def rExtT : V → List V → Hp → VK → Prop := fun x vs H Q => ∃ l b xs zs, x = .ref l ∧ vs = [.ref b] ∧ H l = some (.lst xs) ∧ H b = some (.tup zs) ∧ xs.length + zs.length ≤ sizeLine ∧ Q .non (upd H l (.lst (xs ++ zs)))
theorem mt_extT : MtM X "list.extend" rExtT := by
  intro pins s σ H x vs v us Q J rx rv want
  obtain ⟨l, b, xs, zs, rfl, rfl, hH, hB, hz, go⟩ := want
  cases rx
  obtain ⟨u, rfl, ru⟩ := rv.one
  cases ru
  obtain ⟨z, its, n, r, hl, e⟩ := J.lstM hH
  obtain ⟨its2, r2, ht, _⟩ := J.tuple (SqT.of hB)
  have hl2 := r2.length
  refine call_meets F.slot_list_extend ⟨_, e, rfl⟩ F.entry_list_extend (F.args_list_extend_2 _ _) (meets_extT l b its.toArray its2.toArray n (by rw [List.size_toArray, List.size_toArray]; omega)) ⟨e, ht, ?_⟩
  refine ⟨.non, _, J.lset (its' := its ++ its2) hH e (by simp) (r.append r2) ?_, rfl, go⟩
  rw [List.length_append]
  omega
def sExt (i : Nat) (f : CV → Rs (D × Md)) : CV → Out := fun ρ => match ρ[i]? with
  | some (.own ds) => match f ρ with
    | .ok (.tuple es, .cl) => if ds.length + es.length < 1000000 then .nx (ρ.set i (.own (ds ++ es))) else .no
    | _ => .no
  | _ => .no
theorem ss_ext (i : Nat) {x : Str} {p2 apos cpos : Pos} (ha : PE X e (tE C W f)) (hN : X.N[i]? = some x := by rfl) (hlc : C.lc i = true := by rfl) (hv : Vis X.env.scope x := by first | exact Or.inl rfl | exact Or.inr (Or.inl rfl) | exact Or.inr (Or.inr rfl)) (hd : (x == ("__debug__" : Str)) = false := by decide)
    (hcd : (x == ("__classdict__" : Str)) = false := by decide) (hbase : attributeBase (.Name x p2) "extend" X.env (eval (.Name x p2) X.env) = eval (.Name x p2) X.env := by rfl)
    (hfew : ((backTo cpos (starEach [e] X.env)).all (fun x => !x.1) && (backToKw cpos (keywordEach [] X.env)).all (fun x => x.1.isSome) && decide (([e] : List Expr).length + ([] : List Keyword).length + (if ([] : List Keyword).isEmpty then 0 else 1) < 30)) = true := by rfl)
    (hline : (apos.endLine == cpos.line) = true := by rfl) (hs : starEach [e] X.env = (false, eval e X.env) :: starEach [] X.env := by rfl) (hplain : (backTo cpos (starEach [] X.env)).any (·.1) = false := by rfl)
    (hsw : swapsWith (.Call (.Attribute (.Name x p2) "extend" apos) [e] [] cpos) none pos.line X.env = pure false := by rfl) : PS X (.Expr (.Call (.Attribute (.Name x p2) "extend" apos) [e] [] cpos) pos) (tS C W (sExt i f)) :=
  PS.imp (ps_expr (pe_bm PySem.F.plainAttrs_list PySem.F.slot_list_extend PySem.F.type_list_extend mt_extT (pe_var (i := i) hN hv hd hcd) (pa_cons ha pa_nil hs) hbase hfew hline hs hplain) hsw) fun D' σ H h => by
    obtain ⟨B, P, ρ, hb, re, h⟩ := h
    unfold sExt at h
    split at h
    · rename_i ds0 e0
      obtain ⟨p, vs, h1, h2, h3, h4⟩ := slot_own (hb.lc hlc) re e0
      refine ⟨.ref p, h1, .inl ⟨rfl, vs, SqL.of h2⟩, B, P, ρ, hb, re, ?_⟩
      split at h
      · rename_i es ef
        rw [ef]
        intro v H1 s tb vr
        have re1 := re.sm s tb
        split at h
        · rename_i hz
          have vr : Tr (mask (B.M ++ P) H1) v (.tuple es) := vr
          cases vr with
          | tup e t =>
            obtain ⟨q, ws, g1, g2, g3, g4⟩ := slot_own (hb.lc hlc) re1 e0
            rw [h1] at g1
            cases g1
            refine ⟨p, _, ws, _, rfl, rfl, g2, (mask_some e).2, ?_, h P σ _ (re1.mutOwn (hb.lc hlc) e0 h1 g2 (g3.append t))⟩
            rw [g3.lenEq, t.lenEq]
            exact Nat.le_of_lt (Nat.lt_trans hz (by decide))
        · exact h.elim
      · exact h.elim
    · exact h.elim
end
end Eng

set_option Elab.async false
set_option linter.all false
set_option maxRecDepth 100000
set_option maxHeartbeats 1234567
namespace V_k06
open PySem PySem.Spec
open PyProof.Rows L2 Eng

/-! ### the text -/
def topS (i : Nat) : Stmt := PySem.Challenge.pw_precread_k06_trees_belong.main.body.getD i (.Pass ⟨0, 0, 0, 0⟩)
abbrev s_is_word : Stmt := topS 3
abbrev N_is_word : List Str := ["thing"]
theorem sc_is_word : FnScope N_is_word ["thing"] (defScope s_is_word) := ⟨rfl, rfl, rfl, by decide +kernel, rfl, by decide +kernel, by decide +kernel⟩
abbrev s_is_inner : Stmt := topS 4
abbrev N_is_inner : List Str := ["sign"]
theorem sc_is_inner : FnScope N_is_inner ["sign"] (defScope s_is_inner) := ⟨rfl, rfl, rfl, by decide +kernel, rfl, by decide +kernel, by decide +kernel⟩
abbrev s_is_ahead : Stmt := topS 9
abbrev N_is_ahead : List Str := ["telling"]
theorem sc_is_ahead : FnScope N_is_ahead ["telling"] (defScope s_is_ahead) := ⟨rfl, rfl, rfl, by decide +kernel, rfl, by decide +kernel, by decide +kernel⟩
abbrev s_role : Stmt := topS 8
abbrev N_role : List Str := ["table", "word", "ahead", "telling"]
theorem sc_role : FnScope N_role ["table", "word", "ahead"] (defScope s_role) := ⟨rfl, rfl, rfl, by decide +kernel, rfl, by decide +kernel, by decide +kernel⟩
abbrev s_is_name : Stmt := topS 13
abbrev N_is_name : List Str := ["table", "thing"]
theorem sc_is_name : FnScope N_is_name ["table", "thing"] (defScope s_is_name) := ⟨rfl, rfl, rfl, by decide +kernel, rfl, by decide +kernel, by decide +kernel⟩
abbrev s_top : Stmt := topS 15
abbrev N_top : List Str := ["table", "tree"]
theorem sc_top : FnScope N_top ["table", "tree"] (defScope s_top) := ⟨rfl, rfl, rfl, by decide +kernel, rfl, by decide +kernel, by decide +kernel⟩
abbrev s_form : Stmt := topS 16
abbrev N_form : List Str := ["telling"]
theorem sc_form : FnScope N_form ["telling"] (defScope s_form) := ⟨rfl, rfl, rfl, by decide +kernel, rfl, by decide +kernel, by decide +kernel⟩
abbrev s_operand_count : Stmt := topS 17
abbrev N_operand_count : List Str := ["telling"]
theorem sc_operand_count : FnScope N_operand_count ["telling"] (defScope s_operand_count) := ⟨rfl, rfl, rfl, by decide +kernel, rfl, by decide +kernel, by decide +kernel⟩
abbrev s_fits : Stmt := topS 14
abbrev N_fits : List Str := ["table", "thing", "telling"]
theorem sc_fits : FnScope N_fits ["table", "thing"] (defScope s_fits) := ⟨rfl, rfl, rfl, by decide +kernel, rfl, by decide +kernel, by decide +kernel⟩
abbrev s_operands_below : Stmt := topS 19
abbrev N_operands_below : List Str := ["level", "found", "tree"]
theorem sc_operands_below : FnScope N_operands_below ["level"] (defScope s_operands_below) := ⟨rfl, rfl, rfl, by decide +kernel, rfl, by decide +kernel, by decide +kernel⟩
abbrev s_without_repeats : Stmt := topS 18
abbrev N_without_repeats : List Str := ["level", "found", "thing"]
theorem sc_without_repeats : FnScope N_without_repeats ["level"] (defScope s_without_repeats) := ⟨rfl, rfl, rfl, by decide +kernel, rfl, by decide +kernel, by decide +kernel⟩
abbrev s_belongs : Stmt := topS 12
abbrev N_belongs : List Str := ["table", "tree", "level"]
theorem sc_belongs : FnScope N_belongs ["table", "tree"] (defScope s_belongs) := ⟨rfl, rfl, rfl, by decide +kernel, rfl, by decide +kernel, by decide +kernel⟩
abbrev s__law_mixed : Stmt := topS 21
abbrev N__law_mixed : List Str := ["_law_cell", "_law_k", "_law_left"]
theorem sc__law_mixed : FnScope N__law_mixed ["_law_cell", "_law_k"] (defScope s__law_mixed) := ⟨rfl, rfl, rfl, by decide +kernel, rfl, by decide +kernel, by decide +kernel⟩
abbrev s__law_cell_at : Stmt := topS 22
abbrev N__law_cell_at : List Str := ["_law_script", "_law_k"]
theorem sc__law_cell_at : FnScope N__law_cell_at ["_law_script", "_law_k"] (defScope s__law_cell_at) := ⟨rfl, rfl, rfl, by decide +kernel, rfl, by decide +kernel, by decide +kernel⟩
abbrev s__law_cells : Stmt := topS 23
abbrev N__law_cells : List Str := ["_law_script", "_law_at", "_law_end", "_law_k"]
theorem sc__law_cells : FnScope N__law_cells ["_law_script", "_law_at", "_law_end"] (defScope s__law_cells) := ⟨rfl, rfl, rfl, by decide +kernel, rfl, by decide +kernel, by decide +kernel⟩
abbrev s__law_sign_by : Stmt := topS 24
abbrev N__law_sign_by : List Str := ["_law_cell", "_law_some"]
theorem sc__law_sign_by : FnScope N__law_sign_by ["_law_cell"] (defScope s__law_sign_by) := ⟨rfl, rfl, rfl, by decide +kernel, rfl, by decide +kernel, by decide +kernel⟩
abbrev s__law_word_by : Stmt := topS 25
abbrev N__law_word_by : List Str := ["_law_cell", "_law_k", "_law_base", "_law_size", "_law_at", "_law_way", "_law_word", "_law_j"]
theorem sc__law_word_by : FnScope N__law_word_by ["_law_cell", "_law_k"] (defScope s__law_word_by) := ⟨rfl, rfl, rfl, by decide +kernel, rfl, by decide +kernel, by decide +kernel⟩
abbrev s__law_words_by : Stmt := topS 26
abbrev N__law_words_by : List Str := ["_law_cell", "_law_words", "_law_some", "_law_k", "_law_word"]
theorem sc__law_words_by : FnScope N__law_words_by ["_law_cell"] (defScope s__law_words_by) := ⟨rfl, rfl, rfl, by decide +kernel, rfl, by decide +kernel, by decide +kernel⟩
abbrev s__law_role : Stmt := topS 27
abbrev N__law_role : List Str := ["_law_table", "_law_word", "_law_ahead", "_law_row"]
theorem sc__law_role : FnScope N__law_role ["_law_table", "_law_word", "_law_ahead"] (defScope s__law_role) := ⟨rfl, rfl, rfl, by decide +kernel, rfl, by decide +kernel, by decide +kernel⟩
abbrev s__law_clash : Stmt := topS 28
abbrev N__law_clash : List Str := ["_law_table", "_law_telling", "_law_row"]
theorem sc__law_clash : FnScope N__law_clash ["_law_table", "_law_telling"] (defScope s__law_clash) := ⟨rfl, rfl, rfl, by decide +kernel, rfl, by decide +kernel, by decide +kernel⟩
abbrev s__law_telling_by : Stmt := topS 29
abbrev N__law_telling_by : List Str := ["_law_cell", "_law_words", "_law_kind", "_law_power"]
theorem sc__law_telling_by : FnScope N__law_telling_by ["_law_cell", "_law_words"] (defScope s__law_telling_by) := ⟨rfl, rfl, rfl, by decide +kernel, rfl, by decide +kernel, by decide +kernel⟩
abbrev s__law_table_by : Stmt := topS 30
abbrev N__law_table_by : List Str := ["_law_cells_here", "_law_words", "_law_table", "_law_cell", "_law_telling"]
theorem sc__law_table_by : FnScope N__law_table_by ["_law_cells_here", "_law_words"] (defScope s__law_table_by) := ⟨rfl, rfl, rfl, by decide +kernel, rfl, by decide +kernel, by decide +kernel⟩
abbrev s__law_name_by : Stmt := topS 31
abbrev N__law_name_by : List Str := ["_law_table", "_law_cell", "_law_words", "_law_k", "_law_word"]
theorem sc__law_name_by : FnScope N__law_name_by ["_law_table", "_law_cell", "_law_words"] (defScope s__law_name_by) := ⟨rfl, rfl, rfl, by decide +kernel, rfl, by decide +kernel, by decide +kernel⟩
abbrev s__law_grown_by : Stmt := topS 32
abbrev N__law_grown_by : List Str := ["_law_table", "_law_trees", "_law_cell", "_law_words", "_law_row", "_law_right", "_law_left"]
theorem sc__law_grown_by : FnScope N__law_grown_by ["_law_table", "_law_trees", "_law_cell", "_law_words"] (defScope s__law_grown_by) := ⟨rfl, rfl, rfl, by decide +kernel, rfl, by decide +kernel, by decide +kernel⟩
abbrev s__law_tree_by : Stmt := topS 33
abbrev N__law_tree_by : List Str := ["_law_table", "_law_cells_here", "_law_words", "_law_trees", "_law_cell", "_law_row", "_law_right", "_law_left"]
theorem sc__law_tree_by : FnScope N__law_tree_by ["_law_table", "_law_cells_here", "_law_words"] (defScope s__law_tree_by) := ⟨rfl, rfl, rfl, by decide +kernel, rfl, by decide +kernel, by decide +kernel⟩
abbrev s__law_spoiled : Stmt := topS 34
abbrev N__law_spoiled : List Str := ["_law_table", "_law_tree", "_law_words", "_law_cell", "_law_row", "_law_told", "_law_some"]
theorem sc__law_spoiled : FnScope N__law_spoiled ["_law_table", "_law_tree", "_law_words", "_law_cell"] (defScope s__law_spoiled) := ⟨rfl, rfl, rfl, by decide +kernel, rfl, by decide +kernel, by decide +kernel⟩
abbrev s_law : Stmt := topS 35
abbrev N_law : List Str := ["_law_script", "_law_words", "_law_table", "_law_tree", "_law_due", "_law_row", "_law_found"]
theorem sc_law : FnScope N_law ["_law_script"] (defScope s_law) := ⟨rfl, rfl, rfl, by decide +kernel, rfl, by decide +kernel, by decide +kernel⟩
/-! ### the mirrors -/
abbrev b_is_word_1_1 : CV → Out := sRet (mK (.bool false))
abbrev b_is_word_1 : CV → Out := sIf (mOr (mNot (mBool (mIsi "str" (mVar 0)))) (mCmp hEq (mVar 0) (mK (.str "tell")))) (b_is_word_1_1) (sNx)
abbrev b_is_word_2 : CV → Out := sRet (mAndV (mVal (mChain hLe hLe (mK (.int 1)) (mCallB hLen (mCons (mVar 0) (mNil))) (mK (.int 8)))) (mAllS (inB "();") (mVar 0)))
abbrev b_is_word : CV → Out := sSeq (b_is_word_1) (b_is_word_2)
def m_is_word : CV → RF := runB 1 b_is_word
abbrev b_is_inner_1 : CV → Out := sRet (mAndV (mVal (mChain hLe hLe (mK (.str "!")) (mVar 0) (mK (.str "~")))) (mVal (mCmp hNotIn (mVar 0) (mK (.str "();")))))
abbrev b_is_inner : CV → Out := b_is_inner_1
def m_is_inner : CV → RF := runB 1 b_is_inner
abbrev b_is_ahead_1 : CV → Out := sRet (mVal (mCmp hEq (mBin hIx (mVar 0) (mK (.int 1))) (mK (.str "before"))))
abbrev b_is_ahead : CV → Out := b_is_ahead_1
def m_is_ahead : CV → RF := runB 1 b_is_ahead
abbrev b_role_1_1_1 : CV → Out := sRetOwn 3
abbrev b_role_1_1 : CV → Out := sIf (mAnd (mCmp hEq (mBin hIx (mVar 3) (mK (.int 3))) (mVar 1)) (mCmp hEq (mCall m_is_ahead (mCons (mVar 3) (mNil))) (mVar 2))) (b_role_1_1_1) (sNx)
abbrev b_role_1 : CV → Out := sFor 3 (mIterL (mVar 0)) (b_role_1_1)
abbrev b_role_2 : CV → Out := sRet (mK .none)
abbrev b_role : CV → Out := sSeq (b_role_1) (b_role_2)
def m_role : CV → RF := runB 4 b_role
abbrev b_is_name_1 : CV → Out := sRet (mAndV (mCall m_is_word (mCons (mVar 1) (mNil))) (mAndV (mVal (mCmp hIsN (mCall m_role (mCons (mVar 0) (mCons (mVar 1) (mCons (mK (.bool true)) (mNil))))) (mK .none))) (mVal (mCmp hIsN (mCall m_role (mCons (mVar 0) (mCons (mVar 1) (mCons (mK (.bool false)) (mNil))))) (mK .none)))))
abbrev b_is_name : CV → Out := b_is_name_1
def m_is_name : CV → RF := runB 2 b_is_name
abbrev b_top_1 : CV → Out := sRet (mCall m_role (mCons (mVar 0) (mCons (mBin hIx (mVar 1) (mK (.int 1))) (mCons (mVal (mCmp hEq (mBin hIx (mVar 1) (mK (.int 0))) (mK (.str "before")))) (mNil)))))
abbrev b_top : CV → Out := b_top_1
def m_top : CV → RF := runB 2 b_top
abbrev b_form_1_1 : CV → Out := sRet (mBin hIx (mVar 0) (mK (.int 1)))
abbrev b_form_1 : CV → Out := sIf (mCmp hIn (mBin hIx (mVar 0) (mK (.int 1))) (mTup (mCons (mK (.str "before")) (mCons (mK (.str "behind")) (mNil))))) (b_form_1_1) (sNx)
abbrev b_form_2 : CV → Out := sRet (mK (.str "between"))
abbrev b_form : CV → Out := sSeq (b_form_1) (b_form_2)
def m_form : CV → RF := runB 1 b_form
abbrev b_operand_count_1_1 : CV → Out := sRet (mK (.int 2))
abbrev b_operand_count_1 : CV → Out := sIf (mCmp hEq (mCall m_form (mCons (mVar 0) (mNil))) (mK (.str "between"))) (b_operand_count_1_1) (sNx)
abbrev b_operand_count_2 : CV → Out := sRet (mK (.int 1))
abbrev b_operand_count : CV → Out := sSeq (b_operand_count_1) (b_operand_count_2)
def m_operand_count : CV → RF := runB 1 b_operand_count
abbrev b_fits_1_1 : CV → Out := sRet (mCall m_is_name (mCons (mVar 0) (mCons (mVar 1) (mNil))))
abbrev b_fits_1 : CV → Out := sIf (mBool (mIsi "str" (mVar 1))) (b_fits_1_1) (sNx)
abbrev b_fits_2_1 : CV → Out := sRet (mK (.bool false))
abbrev b_fits_2 : CV → Out := sIf (mOr (mNot (mBool (mIsi "tuple" (mVar 1)))) (mCmp hLt (mCallB hLen (mCons (mVar 1) (mNil))) (mK (.int 2)))) (b_fits_2_1) (sNx)
abbrev b_fits_3 : CV → Out := sSet 2 (mCall m_top (mCons (mVar 0) (mCons (mVar 1) (mNil))))
abbrev b_fits_4_1 : CV → Out := sRet (mK (.bool false))
abbrev b_fits_4 : CV → Out := sIf (mCmp hIsN (mVar 2) (mK .none)) (b_fits_4_1) (sNx)
abbrev b_fits_5 : CV → Out := sShr 2 (sRet (mAndV (mVal (mCmp hEq (mBin hIx (mVar 1) (mK (.int 0))) (mCall m_form (mCons (mVar 2) (mNil))))) (mVal (mCmp hEq (mCallB hLen (mCons (mVar 1) (mNil))) (mBin hAdd (mK (.int 2)) (mCall m_operand_count (mCons (mVar 2) (mNil))))))))
abbrev b_fits : CV → Out := sSeq (b_fits_1) (sSeq (b_fits_2) (sSeq (b_fits_3) (sSeq (b_fits_4) (b_fits_5))))
def m_fits : CV → RF := runB 3 b_fits
abbrev b_operands_below_1 : CV → Out := sSet 1 (mLst (mNil))
abbrev b_operands_below_2_1_1 : CV → Out := sExt 1 (mSlT (mVar 2) (mPart (mK (.int 2))) (mNoP))
abbrev b_operands_below_2_1 : CV → Out := sIf (mBool (mIsi "tuple" (mVar 2))) (b_operands_below_2_1_1) (sNx)
abbrev b_operands_below_2 : CV → Out := sFor 2 (mIterL (mVar 0)) (b_operands_below_2_1)
abbrev b_operands_below_3 : CV → Out := sRetOwn 1
abbrev b_operands_below : CV → Out := sSeq (b_operands_below_1) (sSeq (b_operands_below_2) (b_operands_below_3))
def m_operands_below : CV → RF := runB 3 b_operands_below
abbrev b_without_repeats_1 : CV → Out := sSet 1 (mLst (mNil))
abbrev b_without_repeats_2_1_1 : CV → Out := sApp 1 (mLift (mVar 2))
abbrev b_without_repeats_2_1 : CV → Out := sIf (mCmp hNotInW (mVar 2) (mSl (mVar 1) (mPart (mUn hNeg (mK (.int 64)))) (mNoP))) (b_without_repeats_2_1_1) (sNx)
abbrev b_without_repeats_2 : CV → Out := sFor 2 (mIterL (mVar 0)) (b_without_repeats_2_1)
abbrev b_without_repeats_3 : CV → Out := sRetOwn 1
abbrev b_without_repeats : CV → Out := sSeq (b_without_repeats_1) (sSeq (b_without_repeats_2) (b_without_repeats_3))
def m_without_repeats : CV → RF := runB 3 b_without_repeats
abbrev b_belongs_1 : CV → Out := sSet 2 (mLst (mCons (mVar 1) (mNil)))
abbrev b_belongs_2_1_1 : CV → Out := sRet (mK (.bool false))
abbrev b_belongs_2_1 : CV → Out := sIf (mNot (mBool (mAllG m_fits 0 (mVar 2)))) (b_belongs_2_1_1) (sNx)
abbrev b_belongs_2_2 : CV → Out := sShr 2 (sSet 2 (mCall m_operands_below (mCons (mCall m_without_repeats (mCons (mVar 2) (mNil))) (mNil))))
abbrev b_belongs_2 : CV → Out := whL (mTruth (mVar 2)) (sSeq (b_belongs_2_1) (b_belongs_2_2)) 100000
abbrev b_belongs_3 : CV → Out := sRet (mK (.bool true))
abbrev b_belongs : CV → Out := sSeq (b_belongs_1) (sSeq (b_belongs_2) (b_belongs_3))
def m_belongs : CV → RF := runB 3 b_belongs
abbrev b__law_mixed_1 : CV → Out := sSet 2 (mBin hMod (mBin hMul (mBin hAdd (mVar 0) (mBin hMul (mK (.int 7919)) (mVar 1))) (mK (.int 48271))) (mK (.int 2147483647)))
abbrev b__law_mixed_2 : CV → Out := sRet (mBin hMod (mBin hMul (mVar 2) (mVar 2)) (mK (.int 2147483629)))
abbrev b__law_mixed : CV → Out := sSeq (b__law_mixed_1) (b__law_mixed_2)
def m__law_mixed : CV → RF := runB 3 b__law_mixed
abbrev b__law_cell_at_1_1 : CV → Out := sRet (mCall m__law_mixed (mCons (mBin hIx (mVar 0) (mVar 1)) (mCons (mVar 1) (mNil))))
abbrev b__law_cell_at_1 : CV → Out := sIf (mCmp hLt (mVar 1) (mCallB hLen (mCons (mVar 0) (mNil)))) (b__law_cell_at_1_1) (sNx)
abbrev b__law_cell_at_2 : CV → Out := sRet (mK (.int 0))
abbrev b__law_cell_at : CV → Out := sSeq (b__law_cell_at_1) (b__law_cell_at_2)
def m__law_cell_at : CV → RF := runB 2 b__law_cell_at
abbrev b__law_cells_1 : CV → Out := sRet (mLc 3 (mRange2 (mCons (mVar 1) (mCons (mCallB hMin2 (mCons (mVar 2) (mCons (mCallB hLen (mCons (mVar 0) (mNil))) (mNil)))) (mNil)))) (mTrue) (mCall m__law_mixed (mCons (mBin hIx (mVar 0) (mVar 3)) (mCons (mVar 3) (mNil)))))
abbrev b__law_cells : CV → Out := b__law_cells_1
def m__law_cells : CV → RF := runB 4 b__law_cells
abbrev b__law_sign_by_1 : CV → Out := sSet 1 (mK (.str "!\"#$&'*+,-./0123456789:<=>?@ABCDEFGHIJKLMNOPQRSTUVWXYZ[\\]^_`"))
abbrev b__law_sign_by_2 : CV → Out := sSet 1 (mBin hAdd (mVar 1) (mK (.str "abcdefghijklmnopqrstuvwxyz{|}~")))
abbrev b__law_sign_by_3 : CV → Out := sRet (mBin hIx (mVar 1) (mBin hMod (mVar 0) (mK (.int 90))))
abbrev b__law_sign_by : CV → Out := sSeq (b__law_sign_by_1) (sSeq (b__law_sign_by_2) (b__law_sign_by_3))
def m__law_sign_by : CV → RF := runB 2 b__law_sign_by
abbrev b__law_word_by_1 : CV → Out := sSet 2 (mStrM (mK (.str "")) fun a => mUn (hJoin a) (mLc 7 (mRange1 (mCons (mK (.int 8)) (mNil))) (mTrue) (mCall m__law_sign_by (mCons (mBin hMod (mBin hMul (mBin hAdd (mBin hDiv (mVar 0) (mK (.int 12960))) (mBin hMul (mVar 7) (mK (.int 977)))) (mK (.int 48271))) (mK (.int 7919))) (mNil)))))
abbrev b__law_word_by_2_1 : CV → Out := sSet 2 (mBin hAdd (mBin hAdd (mSl (mVar 2) (mNoP) (mPart (mK (.int 3)))) (mK (.str "m"))) (mSl (mVar 2) (mPart (mK (.int 4))) (mNoP)))
abbrev b__law_word_by_2 : CV → Out := sIf (mCmp hEq (mSl (mVar 2) (mNoP) (mPart (mK (.int 4)))) (mK (.str "tell"))) (b__law_word_by_2_1) (sNx)
abbrev b__law_word_by_3 : CV → Out := sSet 3 (mBin hIx (mLst (mCons (mK (.int 1)) (mCons (mK (.int 1)) (mCons (mK (.int 2)) (mCons (mK (.int 3)) (mCons (mK (.int 5)) (mCons (mK (.int 8)) (mNil)))))))) (mBin hMod (mBin hDiv (mVar 0) (mK (.int 90))) (mK (.int 6))))
abbrev b__law_word_by_4 : CV → Out := sSet 4 (mBin hMod (mBin hDiv (mVar 0) (mK (.int 1620))) (mVar 3))
abbrev b__law_word_by_5 : CV → Out := sSet 5 (mBin hMod (mBin hDiv (mVar 0) (mK (.int 540))) (mK (.int 3)))
abbrev b__law_word_by_6_1 : CV → Out := sRet (mSl (mVar 2) (mNoP) (mPart (mBin hAdd (mVar 1) (mK (.int 1)))))
abbrev b__law_word_by_6 : CV → Out := sIf (mCmp hEq (mVar 5) (mK (.int 0))) (b__law_word_by_6_1) (sNx)
abbrev b__law_word_by_7_1 : CV → Out := sRet (mBin hAdd (mBin hAdd (mSl (mVar 2) (mNoP) (mPart (mVar 4))) (mCall m__law_sign_by (mCons (mBin hAdd (mVar 0) (mK (.int 8))) (mNil)))) (mSl (mVar 2) (mPart (mBin hAdd (mVar 4) (mK (.int 1)))) (mPart (mVar 3))))
abbrev b__law_word_by_7 : CV → Out := sIf (mAnd (mCmp hEq (mVar 5) (mK (.int 1))) (mCmp hEq (mBin hAdd (mBin hAdd (mSl (mVar 2) (mNoP) (mPart (mVar 4))) (mCall m__law_sign_by (mCons (mBin hAdd (mVar 0) (mVar 1)) (mNil)))) (mSl (mVar 2) (mPart (mBin hAdd (mVar 4) (mK (.int 1)))) (mPart (mVar 3)))) (mK (.str "tell")))) (b__law_word_by_7_1) (sNx)
abbrev b__law_word_by_8_1 : CV → Out := sRet (mBin hAdd (mBin hAdd (mSl (mVar 2) (mNoP) (mPart (mVar 4))) (mCall m__law_sign_by (mCons (mBin hAdd (mVar 0) (mVar 1)) (mNil)))) (mSl (mVar 2) (mPart (mBin hAdd (mVar 4) (mK (.int 1)))) (mPart (mVar 3))))
abbrev b__law_word_by_8 : CV → Out := sIf (mCmp hEq (mVar 5) (mK (.int 1))) (b__law_word_by_8_1) (sNx)
abbrev b__law_word_by_9 : CV → Out := sSet 6 (mBin hAdd (mCall m__law_sign_by (mCons (mBin hAdd (mVar 0) (mVar 1)) (mNil))) (mSl (mVar 2) (mPart (mVar 1)) (mPart (mBin hAdd (mVar 1) (mBin hMod (mBin hAdd (mVar 3) (mVar 1)) (mK (.int 8)))))))
abbrev b__law_word_by_10 : CV → Out := sShr 6 (sRet (mBin hIx (mLst (mCons (mVar 6) (mCons (mK (.str "t")) (mNil)))) (mCallB hInt (mCons (mVal (mCmp hEq (mVar 6) (mK (.str "tell")))) (mNil)))))
abbrev b__law_word_by : CV → Out := sSeq (b__law_word_by_1) (sSeq (b__law_word_by_2) (sSeq (b__law_word_by_3) (sSeq (b__law_word_by_4) (sSeq (b__law_word_by_5) (sSeq (b__law_word_by_6) (sSeq (b__law_word_by_7) (sSeq (b__law_word_by_8) (sSeq (b__law_word_by_9) (b__law_word_by_10)))))))))
def m__law_word_by : CV → RF := runB 8 b__law_word_by
abbrev b__law_words_by_1 : CV → Out := sSet 1 (mLc 3 (mRange1 (mCons (mK (.int 8)) (mNil))) (mTrue) (mCall m__law_word_by (mCons (mVar 0) (mCons (mVar 3) (mNil)))))
abbrev b__law_words_by_2 : CV → Out := sSet 2 (mLst (mCons (mK (.str "left")) (mCons (mK (.str "right")) (mCons (mK (.str "none")) (mCons (mK (.str "before")) (mCons (mK (.str "behind")) (mCons (mK (.str "tells")) (mCons (mK (.str "6")) (mCons (mK (.str "Left")) (mNil))))))))))
abbrev b__law_words_by_3_1 : CV → Out := sSet 4 (mBin hIx (mVar 2) (mBin hMod (mBin hAdd (mBin hDiv (mVar 0) (mK (.int 28))) (mBin hMul (mK (.int 3)) (mVar 3))) (mK (.int 8))))
abbrev b__law_words_by_3_2_1 : CV → Out := sShr 4 (sSetIx 1 (mVar 4) (mBin hMod (mBin hAdd (mBin hDiv (mVar 0) (mK (.int 224))) (mBin hMul (mK (.int 5)) (mVar 3))) (mK (.int 8))))
abbrev b__law_words_by_3_2 : CV → Out := sIf (mCmp hNotIn (mVar 4) (mVar 1)) (b__law_words_by_3_2_1) (sNx)
abbrev b__law_words_by_3 : CV → Out := sFor 3 (mRange1 (mCons (mBin hMul (mK (.int 2)) (mCallB hInt (mCons (mVal (mCmp hEq (mBin hMod (mBin hDiv (mVar 0) (mK (.int 7))) (mK (.int 4))) (mK (.int 1)))) (mNil)))) (mNil))) (sSeq (b__law_words_by_3_1) (b__law_words_by_3_2))
abbrev b__law_words_by_4 : CV → Out := sRetOwn 1
abbrev b__law_words_by : CV → Out := sSeq (b__law_words_by_1) (sSeq (b__law_words_by_2) (sSeq (b__law_words_by_3) (b__law_words_by_4)))
def m__law_words_by : CV → RF := runB 5 b__law_words_by
abbrev b__law_role_1_1_1 : CV → Out := sRetOwn 3
abbrev b__law_role_1_1 : CV → Out := sIf (mAnd (mCmp hEq (mBin hIx (mVar 3) (mK (.int 3))) (mVar 1)) (mCmp hEq (mVal (mCmp hEq (mBin hIx (mVar 3) (mK (.int 1))) (mK (.str "before")))) (mVar 2))) (b__law_role_1_1_1) (sNx)
abbrev b__law_role_1 : CV → Out := sFor 3 (mIterL (mVar 0)) (b__law_role_1_1)
abbrev b__law_role_2 : CV → Out := sRet (mK .none)
abbrev b__law_role : CV → Out := sSeq (b__law_role_1) (b__law_role_2)
def m__law_role : CV → RF := runB 4 b__law_role
abbrev b__law_clash_1_1_1 : CV → Out := sRet (mK (.bool true))
abbrev b__law_clash_1_1 : CV → Out := sIf (mAnd (mCmp hEq (mBin hIx (mVar 2) (mK (.int 2))) (mBin hIx (mVar 1) (mK (.int 2)))) (mCmp hNe (mBin hIx (mVar 2) (mK (.int 1))) (mBin hIx (mVar 1) (mK (.int 1))))) (b__law_clash_1_1_1) (sNx)
abbrev b__law_clash_1 : CV → Out := sFor 2 (mIterL (mVar 0)) (b__law_clash_1_1)
abbrev b__law_clash_2 : CV → Out := sRet (mVal (mCmp hNotN (mCall m__law_role (mCons (mVar 0) (mCons (mBin hIx (mVar 1) (mK (.int 3))) (mCons (mVal (mCmp hEq (mBin hIx (mVar 1) (mK (.int 1))) (mK (.str "before")))) (mNil))))) (mK .none)))
abbrev b__law_clash : CV → Out := sSeq (b__law_clash_1) (b__law_clash_2)
def m__law_clash : CV → RF := runB 3 b__law_clash
abbrev b__law_telling_by_1 : CV → Out := sSet 2 (mBin hIx (mLst (mCons (mK (.str "left")) (mCons (mK (.str "right")) (mCons (mK (.str "none")) (mCons (mK (.str "before")) (mCons (mK (.str "behind")) (mNil))))))) (mBin hMod (mVar 0) (mK (.int 5))))
abbrev b__law_telling_by_2 : CV → Out := sSet 3 (mBin hAdd (mK (.int 1)) (mBin hMod (mBin hDiv (mVar 0) (mK (.int 20))) (mK (.int 30))))
abbrev b__law_telling_by_3_1 : CV → Out := sSet 3 (mBin hAdd (mK (.int 1)) (mBin hMod (mBin hDiv (mVar 0) (mK (.int 20))) (mK (.int 6))))
abbrev b__law_telling_by_3 : CV → Out := sIf (mCmp hGt (mBin hMod (mBin hDiv (mVar 0) (mK (.int 5))) (mK (.int 4))) (mK (.int 0))) (b__law_telling_by_3_1) (sNx)
abbrev b__law_telling_by_4 : CV → Out := sShr 3 (sShr 2 (sRet (mTup (mCons (mK (.str "tell")) (mCons (mVar 2) (mCons (mVar 3) (mCons (mBin hIx (mVar 1) (mBin hMod (mBin hDiv (mVar 0) (mK (.int 600))) (mK (.int 6)))) (mNil))))))))
abbrev b__law_telling_by : CV → Out := sSeq (b__law_telling_by_1) (sSeq (b__law_telling_by_2) (sSeq (b__law_telling_by_3) (b__law_telling_by_4)))
def m__law_telling_by : CV → RF := runB 4 b__law_telling_by
abbrev b__law_table_by_1 : CV → Out := sSet 2 (mLst (mNil))
abbrev b__law_table_by_2_1 : CV → Out := sSet 4 (mCall m__law_telling_by (mCons (mVar 3) (mCons (mVar 1) (mNil))))
abbrev b__law_table_by_2_2_1 : CV → Out := sApp 2 (mLift (mVar 4))
abbrev b__law_table_by_2_2 : CV → Out := sShr 4 (sIf (mNot (mBool (mCall m__law_clash (mCons (mVar 2) (mCons (mVar 4) (mNil)))))) (b__law_table_by_2_2_1) (sNx))
abbrev b__law_table_by_2 : CV → Out := sFor 3 (mIterL (mVar 0)) (sSeq (b__law_table_by_2_1) (b__law_table_by_2_2))
abbrev b__law_table_by_3 : CV → Out := sRetOwn 2
abbrev b__law_table_by : CV → Out := sSeq (b__law_table_by_1) (sSeq (b__law_table_by_2) (b__law_table_by_3))
def m__law_table_by : CV → RF := runB 5 b__law_table_by
abbrev b__law_name_by_1_1 : CV → Out := sSet 4 (mBin hIx (mVar 2) (mBin hMod (mBin hAdd (mVar 1) (mVar 3)) (mK (.int 8))))
abbrev b__law_name_by_1_2_1 : CV → Out := sRetOwn 4
abbrev b__law_name_by_1_2 : CV → Out := sShr 4 (sIf (mAnd (mCmp hIsN (mCall m__law_role (mCons (mVar 0) (mCons (mVar 4) (mCons (mK (.bool true)) (mNil))))) (mK .none)) (mCmp hIsN (mCall m__law_role (mCons (mVar 0) (mCons (mVar 4) (mCons (mK (.bool false)) (mNil))))) (mK .none))) (b__law_name_by_1_2_1) (sNx))
abbrev b__law_name_by_1 : CV → Out := sFor 3 (mRange1 (mCons (mK (.int 6)) (mNil))) (sSeq (b__law_name_by_1_1) (b__law_name_by_1_2))
abbrev b__law_name_by_2 : CV → Out := sRet (mBin hIx (mVar 2) (mBin hAdd (mK (.int 6)) (mBin hMod (mVar 1) (mK (.int 2)))))
abbrev b__law_name_by : CV → Out := sSeq (b__law_name_by_1) (b__law_name_by_2)
def m__law_name_by : CV → RF := runB 5 b__law_name_by
abbrev b__law_grown_by_1 : CV → Out := sSet 4 (mBin hIx (mVar 0) (mBin hMod (mBin hDiv (mVar 2) (mK (.int 4))) (mCallB hLen (mCons (mVar 0) (mNil)))))
abbrev b__law_grown_by_2_1 : CV → Out := sApp 1 (mTupX (mConsX (mLift (mBin hIx (mVar 4) (mK (.int 1)))) (mConsX (mLift (mBin hIx (mVar 4) (mK (.int 3)))) (mConsX (mPop 1) (mNilX)))))
abbrev b__law_grown_by_2 : CV → Out := sIf (mCmp hIn (mBin hIx (mVar 4) (mK (.int 1))) (mLst (mCons (mK (.str "before")) (mCons (mK (.str "behind")) (mNil))))) (sSeq (b__law_grown_by_2_1) (sRetN)) (sNx)
abbrev b__law_grown_by_3_1 : CV → Out := sApp 1 (mLift (mCall m__law_name_by (mCons (mVar 0) (mCons (mBin hDiv (mVar 2) (mK (.int 7))) (mCons (mVar 3) (mNil))))))
abbrev b__law_grown_by_3 : CV → Out := sIf (mCmp hLt (mCallB hLen (mCons (mVar 1) (mNil))) (mK (.int 2))) (b__law_grown_by_3_1) (sNx)
abbrev b__law_grown_by_4 : CV → Out := sSetX 5 (mPop 1)
abbrev b__law_grown_by_5 : CV → Out := sSetX 6 (mPop 1)
abbrev b__law_grown_by_6 : CV → Out := sShr 5 (sShr 6 (sApp 1 (mLift (mTup (mCons (mK (.str "between")) (mCons (mBin hIx (mVar 4) (mK (.int 3))) (mCons (mVar 6) (mCons (mVar 5) (mNil)))))))))
abbrev b__law_grown_by : CV → Out := sSeq (b__law_grown_by_1) (sSeq (b__law_grown_by_2) (sSeq (b__law_grown_by_3) (sSeq (b__law_grown_by_4) (sSeq (b__law_grown_by_5) (b__law_grown_by_6)))))
def m__law_grown_by : CV → RF := runB 7 b__law_grown_by
abbrev b__law_tree_by_1 : CV → Out := sSet 3 (mLst (mCons (mBin hIx (mVar 2) (mK (.int 7))) (mNil)))
abbrev b__law_tree_by_2_1_1 : CV → Out := sApp 3 (mLift (mCall m__law_name_by (mCons (mVar 0) (mCons (mBin hDiv (mVar 4) (mK (.int 4))) (mCons (mVar 2) (mNil))))))
abbrev b__law_tree_by_2_1_e_1 : CV → Out := sExprX (mCallIo [1] m__law_grown_by (mConsV (mVar 0) (mConsIo 3 (mConsV (mVar 4) (mConsV (mVar 2) (mNilI))))))
abbrev b__law_tree_by_2_1 : CV → Out := sIf (mOr (mCmp hEq (mBin hMod (mVar 4) (mK (.int 4))) (mK (.int 0))) (mCmp hEq (mVar 0) (mLst (mNil)))) (b__law_tree_by_2_1_1) (b__law_tree_by_2_1_e_1)
abbrev b__law_tree_by_2 : CV → Out := sFor 4 (mIterL (mVar 1)) (b__law_tree_by_2_1)
abbrev b__law_tree_by_3_1_1 : CV → Out := sSetX 6 (mPop 3)
abbrev b__law_tree_by_3_1_2 : CV → Out := sSetX 7 (mPop 3)
abbrev b__law_tree_by_3_1_3 : CV → Out := sShr 6 (sShr 7 (sApp 3 (mLift (mTup (mCons (mK (.str "between")) (mCons (mBin hIx (mVar 5) (mK (.int 3))) (mCons (mVar 7) (mCons (mVar 6) (mNil)))))))))
abbrev b__law_tree_by_3_1 : CV → Out := whL (mAnd (mCmp hIn (mBin hIx (mVar 5) (mK (.int 1))) (mLst (mCons (mK (.str "left")) (mCons (mK (.str "right")) (mCons (mK (.str "none")) (mNil)))))) (mCmp hGt (mCallB hLen (mCons (mVar 3) (mNil))) (mK (.int 1)))) (sSeq (b__law_tree_by_3_1_1) (sSeq (b__law_tree_by_3_1_2) (b__law_tree_by_3_1_3))) 100000
abbrev b__law_tree_by_3 : CV → Out := sFor 5 (mIterL (mVar 0)) (b__law_tree_by_3_1)
abbrev b__law_tree_by_4 : CV → Out := sRet (mBin hIx (mVar 3) (mUn hNeg (mK (.int 1))))
abbrev b__law_tree_by : CV → Out := sSeq (b__law_tree_by_1) (sSeq (b__law_tree_by_2) (sSeq (b__law_tree_by_3) (b__law_tree_by_4)))
def m__law_tree_by : CV → RF := runB 8 b__law_tree_by
abbrev b__law_spoiled_1 : CV → Out := sSet 4 (mTup (mCons (mK (.str "tell")) (mCons (mK (.str "left")) (mCons (mK (.int 1)) (mCons (mBin hIx (mVar 2) (mK (.int 6))) (mNil))))))
abbrev b__law_spoiled_2_1 : CV → Out := sSet 4 (mBin hIx (mVar 0) (mBin hMod (mBin hDiv (mVar 3) (mK (.int 32))) (mCallB hLen (mCons (mVar 0) (mNil)))))
abbrev b__law_spoiled_2 : CV → Out := sIf (mCmp hNe (mVar 0) (mLst (mNil))) (b__law_spoiled_2_1) (sNx)
abbrev b__law_spoiled_3 : CV → Out := sSet 5 (mBin hIx (mVar 4) (mK (.int 3)))
abbrev b__law_spoiled_4 : CV → Out := sSet 6 (mLst (mCons (mBin hAdd (mBin hIx (mVar 2) (mK (.int 6))) (mK (.str " "))) (mCons (mK (.str "tell")) (mCons (mK (.str "")) (mCons (mK (.str "(")) (mCons (mVar 3) (mCons (mK .none) (mCons (mLst (mCons (mBin hIx (mVar 2) (mK (.int 6))) (mCons (mBin hIx (mVar 2) (mK (.int 7))) (mNil)))) (mCons (mTup (mCons (mVar 1) (mCons (mVar 1) (mNil)))) (mNil))))))))))
abbrev b__law_spoiled_5 : CV → Out := sShr 5 (sSet 6 (mBin hAdd (mVar 6) (mLst (mCons (mTup (mCons (mK (.str "between")) (mCons (mBin hIx (mVar 2) (mK (.int 6))) (mCons (mVar 1) (mCons (mVar 1) (mNil)))))) (mCons (mTup (mCons (mK (.str "before")) (mCons (mBin hIx (mVar 2) (mK (.int 7))) (mCons (mVar 1) (mNil))))) (mCons (mTup (mCons (mBin hIx (mVar 4) (mK (.int 1))) (mCons (mVar 5) (mCons (mVar 1) (mCons (mVar 1) (mCons (mVar 1) (mNil))))))) (mNil)))))))
abbrev b__law_spoiled_6 : CV → Out := sShr 5 (sSet 6 (mBin hAdd (mVar 6) (mLst (mCons (mTup (mCons (mK (.str "between")) (mCons (mVar 5) (mCons (mVar 1) (mNil))))) (mCons (mBin hAdd (mBin hIx (mVar 2) (mK (.int 6))) (mK (.str "abcdefgh"))) (mCons (mBin hAdd (mBin hIx (mVar 2) (mK (.int 7))) (mK (.str ";"))) (mCons (mBin hAdd (mBin hIx (mVar 2) (mK (.int 6))) (mK (.str "\n"))) (mNil))))))))
abbrev b__law_spoiled_7 : CV → Out := sShr 5 (sSet 6 (mBin hAdd (mVar 6) (mLst (mCons (mTup (mCons (mBin hIx (mVar 4) (mK (.int 1))) (mCons (mLst (mCons (mVar 5) (mNil))) (mCons (mVar 1) (mNil))))) (mCons (mTup (mCons (mLst (mCons (mBin hIx (mVar 4) (mK (.int 1))) (mNil))) (mCons (mVar 5) (mCons (mVar 1) (mNil))))) (mCons (mTup (mCons (mBin hIx (mVar 4) (mK (.int 1))) (mCons (mK .none) (mCons (mVar 1) (mNil))))) (mCons (mTup (mCons (mK (.int 5)) (mCons (mVar 5) (mCons (mVar 1) (mNil))))) (mNil))))))))
abbrev b__law_spoiled_8_1 : CV → Out := sShr 5 (sSet 6 (mBin hAdd (mVar 6) (mBin hMul (mLst (mCons (mVar 5) (mNil))) (mK (.int 4)))))
abbrev b__law_spoiled_8_2 : CV → Out := sShr 5 (sSetIx 6 (mTup (mCons (mBin hIx (mVar 4) (mK (.int 1))) (mCons (mVar 5) (mCons (mVar 1) (mCons (mVar 1) (mNil)))))) (mK (.int 7)))
abbrev b__law_spoiled_8_3_1 : CV → Out := sShr 5 (sSetIx 6 (mTup (mCons (mBin hIx (mVar 4) (mK (.int 1))) (mCons (mVar 5) (mCons (mVar 1) (mNil))))) (mK (.int 3)))
abbrev b__law_spoiled_8_3_2 : CV → Out := sShr 5 (sSetIx 6 (mTup (mCons (mK (.str "behind")) (mCons (mVar 5) (mCons (mVar 1) (mNil))))) (mK (.int 10)))
abbrev b__law_spoiled_8_3_3 : CV → Out := sShr 5 (sSet 6 (mBin hAdd (mVar 6) (mLst (mCons (mTup (mCons (mBin hIx (mVar 4) (mK (.int 1))) (mCons (mVar 5) (mCons (mVar 1) (mNil))))) (mCons (mTup (mCons (mBin hIx (mVar 4) (mK (.int 1))) (mCons (mVar 5) (mCons (mBin hIx (mVar 2) (mK (.int 6))) (mNil))))) (mNil))))))
abbrev b__law_spoiled_8_3 : CV → Out := sIf (mCmp hIn (mBin hIx (mVar 4) (mK (.int 1))) (mLst (mCons (mK (.str "left")) (mCons (mK (.str "right")) (mCons (mK (.str "none")) (mNil)))))) (sSeq (b__law_spoiled_8_3_1) (sSeq (b__law_spoiled_8_3_2) (b__law_spoiled_8_3_3))) (sNx)
abbrev b__law_spoiled_8_4_1 : CV → Out := sShr 5 (sSetIx 6 (mTup (mCons (mK (.str "between")) (mCons (mVar 5) (mCons (mVar 1) (mCons (mVar 1) (mNil)))))) (mK (.int 8)))
abbrev b__law_spoiled_8_4 : CV → Out := sIf (mCmp hEq (mBin hIx (mVar 4) (mK (.int 1))) (mK (.str "behind"))) (b__law_spoiled_8_4_1) (sNx)
abbrev b__law_spoiled_8 : CV → Out := sIf (mCmp hInW (mVar 4) (mVar 0)) (sSeq (b__law_spoiled_8_1) (sSeq (b__law_spoiled_8_2) (sSeq (b__law_spoiled_8_3) (b__law_spoiled_8_4)))) (sNx)
abbrev b__law_spoiled_9 : CV → Out := sRet (mBin hIx (mVar 6) (mBin hMod (mVar 3) (mCallB hLen (mCons (mVar 6) (mNil)))))
abbrev b__law_spoiled : CV → Out := sSeq (b__law_spoiled_1) (sSeq (b__law_spoiled_2) (sSeq (b__law_spoiled_3) (sSeq (b__law_spoiled_4) (sSeq (b__law_spoiled_5) (sSeq (b__law_spoiled_6) (sSeq (b__law_spoiled_7) (sSeq (b__law_spoiled_8) (b__law_spoiled_9))))))))
def m__law_spoiled : CV → RF := runB 7 b__law_spoiled
abbrev b_law_1 : CV → Out := sSet 1 (mCall m__law_words_by (mCons (mCall m__law_cell_at (mCons (mVar 0) (mCons (mK (.int 0)) (mNil)))) (mNil)))
abbrev b_law_2 : CV → Out := sShr 1 (sSet 2 (mCall m__law_table_by (mCons (mCall m__law_cells (mCons (mVar 0) (mCons (mK (.int 3)) (mCons (mK (.int 13)) (mNil))))) (mCons (mVar 1) (mNil)))))
abbrev b_law_3 : CV → Out := sShr 1 (sShr 2 (sSet 3 (mCall m__law_tree_by (mCons (mVar 2) (mCons (mCall m__law_cells (mCons (mVar 0) (mCons (mK (.int 13)) (mCons (mK (.int 43)) (mNil))))) (mCons (mVar 1) (mNil)))))))
abbrev b_law_4 : CV → Out := sSet 4 (mK (.bool true))
abbrev b_law_5_1 : CV → Out := sShr 1 (sShr 3 (sShr 2 (sSet 3 (mCall m__law_spoiled (mCons (mVar 2) (mCons (mVar 3) (mCons (mVar 1) (mCons (mCall m__law_cell_at (mCons (mVar 0) (mCons (mK (.int 2)) (mNil)))) (mNil)))))))))
abbrev b_law_5_2 : CV → Out := sSet 4 (mK (.bool false))
abbrev b_law_5 : CV → Out := sIf (mCmp hGt (mBin hMod (mCall m__law_cell_at (mCons (mVar 0) (mCons (mK (.int 1)) (mNil)))) (mK (.int 3))) (mK (.int 0))) (sSeq (b_law_5_1) (b_law_5_2)) (sNx)
abbrev b_law_6_1_1 : CV → Out := sShr 3 (sSet 3 (mTup (mCons (mBin hIx (mVar 5) (mK (.int 1))) (mCons (mBin hIx (mVar 5) (mK (.int 3))) (mCons (mVar 3) (mNil))))))
abbrev b_law_6_1_e_1_1 : CV → Out := sShr 3 (sSet 3 (mTup (mCons (mK (.str "between")) (mCons (mBin hIx (mVar 5) (mK (.int 3))) (mCons (mBin hIx (mVar 1) (mK (.int 7))) (mCons (mVar 3) (mNil)))))))
abbrev b_law_6_1_e_1_e_1 : CV → Out := sShr 3 (sSet 3 (mTup (mCons (mK (.str "between")) (mCons (mBin hIx (mVar 5) (mK (.int 3))) (mCons (mVar 3) (mCons (mBin hIx (mVar 1) (mK (.int 6))) (mNil)))))))
abbrev b_law_6_1_e_1 : CV → Out := sIf (mCmp hEq (mBin hMod (mBin hDiv (mCall m__law_cell_at (mCons (mVar 0) (mCons (mK (.int 1)) (mNil)))) (mK (.int 9))) (mK (.int 2))) (mK (.int 0))) (b_law_6_1_e_1_1) (b_law_6_1_e_1_e_1)
abbrev b_law_6_1 : CV → Out := sIf (mCmp hIn (mBin hIx (mVar 5) (mK (.int 1))) (mLst (mCons (mK (.str "before")) (mCons (mK (.str "behind")) (mNil))))) (b_law_6_1_1) (b_law_6_1_e_1)
abbrev b_law_6 : CV → Out := sFor 5 (mIterL (mSl (mVar 2) (mNoP) (mPart (mBin hMod (mBin hDiv (mCall m__law_cell_at (mCons (mVar 0) (mCons (mK (.int 1)) (mNil)))) (mK (.int 3))) (mK (.int 3)))))) (b_law_6_1)
abbrev b_law_7 : CV → Out := sShr 3 (sSet 6 (mCall m_belongs (mCons (mCallB hListOf (mCons (mVar 2) (mNil))) (mCons (mVar 3) (mNil)))))
abbrev b_law_8 : CV → Out := sRet (mAndV (mIsi "bool" (mVar 6)) (mVal (mCmp hEq (mVar 6) (mVar 4))))
abbrev b_law : CV → Out := sSeq (b_law_1) (sSeq (b_law_2) (sSeq (b_law_3) (sSeq (b_law_4) (sSeq (b_law_5) (sSeq (b_law_6) (sSeq (b_law_7) (b_law_8)))))))
def m_law : CV → RF := runB 7 b_law
/-! ### the rules -/
section
variable {P : Program} {w : World} {base : Heap} {K : PySem.W.Frag} {mg : Str → Option Value} {T : List Addr}
abbrev BltIn (mg : Str → Option Value) : Prop := ∀ x ∈ (["all", "bool", "int", "isinstance", "len", "list", "min", "range", "str", "tuple"] : List Str), mg x = none
theorem fn_is_word (hB : BltIn mg) (g_LONGEST : ∃ t, mg "LONGEST" = some (.int 8 t)) {f : Addr} {fd : FuncData} (F : Fun K "is_word" "is_word" s_is_word f fd) {c Pt : Addr} (hP : Pt ∈ T) (TB : GxR.TabB base mg c Pt) (hcd : fd.code = .ref c) (e_is_inner : EltF P w K mg base "is_inner" "sign" (inB "();")) : FnOk P w K mg base (L2.CX P w) 1 f fd ["thing"] (spM { K := K, T := T, mg := mg, ios := [] } 1 m_is_word) :=
    fn_okT (C := { K := K, T := T, mg := mg, ios := [] }) (k := 0) F sc_is_word (by decide) fun cdv A outer s H E hcv hr =>
      ss_cons (ss_if (PW.pt (sw_or (st_not (st_val (se_isi (ty := "str") (by unfold TyOk; decide) (hB _ (by decide)) (hB _ (by decide)) (by decide +kernel) (se_var 0) rfl))) (sw_or1 (st_cmp (op_eq2 hr.units) ok_eq (se_var 0) (se_str))))) (ss_one (ss_ret (se_bool))) (ss_nil))
      (ss_one (ss_ret (se_and (se_chain op_le2 op_le2 ok_le ok_le (se_int) (se_callB call_len2 ok_len (hB _ (by decide)) (by decide +kernel) (sa_cons (se_var 0) (sa_nil))) (se_globI g_LONGEST)) (se_one (se_allF e_is_inner hr hP TB (hcv.trans hcd) (hB _ (by decide)) (se_var 0))))))
theorem fn_is_inner (hB : BltIn mg) (g_SINGLES : ∃ t, mg "SINGLES" = some (.str "();" t)) {f : Addr} {fd : FuncData} (F : Fun K "is_inner" "is_inner" s_is_inner f fd) : FnOk P w K mg base (L2.CX P w) 1 f fd ["sign"] (spM { K := K, T := T, mg := mg, ios := [] } 1 m_is_inner) :=
    fn_ok (C := { K := K, T := T, mg := mg, ios := [] }) (k := 0) F sc_is_inner (by decide) fun cdv A outer s H E hr =>
      ss_one (ss_ret (se_and (se_chain op_le2 op_le2 ok_le ok_le (se_str) (se_var 0) (se_str)) (se_one (se_cmp op_notIn3 ok_notIn (se_var 0) (se_globS g_SINGLES)))))
theorem fn_is_ahead (hB : BltIn mg) (g_KIND : ∃ t, mg "KIND" = some (.int 1 t)) {f : Addr} {fd : FuncData} (F : Fun K "is_ahead" "is_ahead" s_is_ahead f fd) : FnOk P w K mg base (L2.CX P w) 1 f fd ["telling"] (spM { K := K, T := T, mg := mg, ios := [] } 1 m_is_ahead) :=
    fn_ok (C := { K := K, T := T, mg := mg, ios := [] }) (k := 0) F sc_is_ahead (by decide) fun cdv A outer s H E hr =>
      ss_one (ss_ret (se_cmp (op_eq2 hr.units) ok_eq (se_ix ix_3 ok_ix (se_var 0) (se_globI g_KIND) (fun _ _ => rfl)) (se_str)))
theorem fn_role (hB : BltIn mg) (g_WORD : ∃ t, mg "WORD" = some (.int 3 t)) (c_is_ahead : Cal P w K mg base T "is_ahead" 1 1 m_is_ahead) {f : Addr} {fd : FuncData} (F : Fun K "role" "role" s_role f fd) : FnOk P w K mg base (L2.CX P w) 2 f fd ["table", "word", "ahead"] (spM { K := K, T := T, mg := mg, ios := [] } 3 m_role) :=
    fn_ok (C := { K := K, T := T, mg := mg, ios := [] }) (k := 1) F sc_role (by decide) fun cdv A outer s H E hr =>
      ss_cons (ss_for 3 (passes_of rfl) rfl sc_role.nd (si_list (se_var 0)) (ss_one (ss_if (PW.pt (sw_and (st_cmp (op_eq2 hr.units) ok_eq (se_ix ix_3 ok_ix (se_var 3) (se_globI g_WORD) (fun _ _ => rfl)) (se_var 1)) (sw_and1 (st_cmp (op_eq2 hr.units) ok_eq (se_callC c_is_ahead hr (takes_of rfl rfl rfl rfl) (sa_cons (se_var 3) (sa_nil)) (.cons (.nil))) (se_var 2))))) (ss_one (ss_retOwn 3)) (ss_nil))))
      (ss_one (ss_ret (se_none)))
theorem fn_is_name (hB : BltIn mg) (c_is_word : Cal P w K mg base T "is_word" 1 1 m_is_word) (c_role : Cal P w K mg base T "role" 3 2 m_role) {f : Addr} {fd : FuncData} (F : Fun K "is_name" "is_name" s_is_name f fd) : FnOk P w K mg base (L2.CX P w) 3 f fd ["table", "thing"] (spM { K := K, T := T, mg := mg, ios := [] } 2 m_is_name) :=
    fn_ok (C := { K := K, T := T, mg := mg, ios := [] }) (k := 2) F sc_is_name (by decide) fun cdv A outer s H E hr =>
      ss_one (ss_ret (se_and (se_callC c_is_word hr (takes_of rfl rfl rfl rfl) (sa_cons (se_var 1) (sa_nil)) (.cons (.nil))) (se_and (se_cmp op_isN ok_isN (se_callC c_role hr (takes_of rfl rfl rfl rfl) (sa_cons (se_var 0) (sa_cons (se_var 1) (sa_cons (se_bool) (sa_nil)))) (.cons (.cons (.cons (.nil))))) (se_none)) (se_one (se_cmp op_isN ok_isN (se_callC c_role hr (takes_of rfl rfl rfl rfl) (sa_cons (se_var 0) (sa_cons (se_var 1) (sa_cons (se_bool) (sa_nil)))) (.cons (.cons (.cons (.nil))))) (se_none))))))
theorem fn_top (hB : BltIn mg) (c_role : Cal P w K mg base T "role" 3 2 m_role) {f : Addr} {fd : FuncData} (F : Fun K "top" "top" s_top f fd) : FnOk P w K mg base (L2.CX P w) 3 f fd ["table", "tree"] (spM { K := K, T := T, mg := mg, ios := [] } 2 m_top) :=
    fn_ok (C := { K := K, T := T, mg := mg, ios := [] }) (k := 2) F sc_top (by decide) fun cdv A outer s H E hr =>
      ss_one (ss_ret (se_callC c_role hr (takes_of rfl rfl rfl rfl) (sa_cons (se_var 0) (sa_cons (se_ix ix_3 ok_ix (se_var 1) (se_int) (fun _ _ => rfl)) (sa_cons (se_cmp (op_eq2 hr.units) ok_eq (se_ix ix_3 ok_ix (se_var 1) (se_int) (fun _ _ => rfl)) (se_str)) (sa_nil)))) (.cons (.cons (.cons (.nil))))))
theorem fn_form (hB : BltIn mg) (g_KIND : ∃ t, mg "KIND" = some (.int 1 t)) {f : Addr} {fd : FuncData} (F : Fun K "form" "form" s_form f fd) : FnOk P w K mg base (L2.CX P w) 1 f fd ["telling"] (spM { K := K, T := T, mg := mg, ios := [] } 1 m_form) :=
    fn_ok (C := { K := K, T := T, mg := mg, ios := [] }) (k := 0) F sc_form (by decide) fun cdv A outer s H E hr =>
      ss_cons (ss_if (st_cmp op_in3 ok_in (se_ix ix_3 ok_ix (se_var 0) (se_globI g_KIND) (fun _ _ => rfl)) (se_tup (sa_cons (se_str) (sa_cons (se_str) (sa_nil))))) (ss_one (ss_ret (se_ix ix_3 ok_ix (se_var 0) (se_globI g_KIND) (fun _ _ => rfl)))) (ss_nil))
      (ss_one (ss_ret (se_str)))
theorem fn_operand_count (hB : BltIn mg) (c_form : Cal P w K mg base T "form" 1 1 m_form) {f : Addr} {fd : FuncData} (F : Fun K "operand_count" "operand_count" s_operand_count f fd) : FnOk P w K mg base (L2.CX P w) 2 f fd ["telling"] (spM { K := K, T := T, mg := mg, ios := [] } 1 m_operand_count) :=
    fn_ok (C := { K := K, T := T, mg := mg, ios := [] }) (k := 1) F sc_operand_count (by decide) fun cdv A outer s H E hr =>
      ss_cons (ss_if (st_cmp (op_eq2 hr.units) ok_eq (se_callC c_form hr (takes_of rfl rfl rfl rfl) (sa_cons (se_var 0) (sa_nil)) (.cons (.nil))) (se_str)) (ss_one (ss_ret (se_int))) (ss_nil))
      (ss_one (ss_ret (se_int)))
theorem fn_fits (hB : BltIn mg) (c_is_name : Cal P w K mg base T "is_name" 2 3 m_is_name) (c_top : Cal P w K mg base T "top" 2 3 m_top) (c_form : Cal P w K mg base T "form" 1 1 m_form) (c_operand_count : Cal P w K mg base T "operand_count" 1 2 m_operand_count) {f : Addr} {fd : FuncData} (F : Fun K "fits" "fits" s_fits f fd) : FnOk P w K mg base (L2.CX P w) 4 f fd ["table", "thing"] (spM { K := K, T := T, mg := mg, ios := [] } 2 m_fits) :=
    fn_ok (C := { K := K, T := T, mg := mg, ios := [] }) (k := 3) F sc_fits (by decide) fun cdv A outer s H E hr =>
      ss_cons (ss_if (st_val (se_isi (ty := "str") (by unfold TyOk; decide) (hB _ (by decide)) (hB _ (by decide)) (by decide +kernel) (se_var 1) rfl)) (ss_one (ss_ret (se_callC c_is_name hr (takes_of rfl rfl rfl rfl) (sa_cons (se_var 0) (sa_cons (se_var 1) (sa_nil))) (.cons (.cons (.nil)))))) (ss_nil))
      (ss_cons (ss_if (PW.pt (sw_or (st_not (st_val (se_isi (ty := "tuple") (by unfold TyOk; decide) (hB _ (by decide)) (hB _ (by decide)) (by decide +kernel) (se_var 1) rfl))) (sw_or1 (st_cmp op_lt ok_lt (se_callB call_len2 ok_len (hB _ (by decide)) (by decide +kernel) (sa_cons (se_var 1) (sa_nil))) (se_int))))) (ss_one (ss_ret (se_bool))) (ss_nil))
      (ss_cons (ss_set 2 sc_fits.nd (se_callC c_top hr (takes_of rfl rfl rfl rfl) (sa_cons (se_var 0) (sa_cons (se_var 1) (sa_nil))) (.cons (.cons (.nil)))))
      (ss_cons (ss_if (st_cmp op_isN ok_isN (se_var 2) (se_none)) (ss_one (ss_ret (se_bool))) (ss_nil))
      (ss_one (ss_share 2 (ss_ret (se_and (se_cmp (op_eq2 hr.units) ok_eq (se_ix ix_3 ok_ix (se_var 1) (se_int) (fun _ _ => rfl)) (se_callC c_form hr (takes_of rfl rfl rfl rfl) (sa_cons (se_var 2) (sa_nil)) (.cons (.nil)))) (se_one (se_cmp (op_eq2 hr.units) ok_eq (se_callB call_len2 ok_len (hB _ (by decide)) (by decide +kernel) (sa_cons (se_var 1) (sa_nil))) (se_bin op_add3 ok_add (se_int) (se_callC c_operand_count hr (takes_of rfl rfl rfl rfl) (sa_cons (se_var 2) (sa_nil)) (.cons (.nil)))))))))))))
theorem fn_operands_below (hB : BltIn mg) {f : Addr} {fd : FuncData} (F : Fun K "operands_below" "operands_below" s_operands_below f fd) : FnOk P w K mg base (L2.CX P w) 1 f fd ["level"] (spM { K := K, T := T, mg := mg, ios := [] } 1 m_operands_below) :=
    fn_ok (C := { K := K, T := T, mg := mg, ios := [] }) (k := 0) F sc_operands_below (by decide) fun cdv A outer s H E hr =>
      ss_cons (ss_set 1 sc_operands_below.nd (se_lst (sa_nil)))
      (ss_cons (ss_for 2 (passes_of rfl) rfl sc_operands_below.nd (si_list (se_var 0)) (ss_one (ss_if (st_val (se_isi (ty := "tuple") (by unfold TyOk; decide) (hB _ (by decide)) (hB _ (by decide)) (by decide +kernel) (se_var 2) rfl)) (ss_one (ss_ext 1 (se_slT (se_var 2) (so_some (se_int)) (so_none) rfl))) (ss_nil))))
      (ss_one (ss_retOwn 1)))
theorem fn_without_repeats (hB : BltIn mg) (g_NEAR : ∃ t, mg "NEAR" = some (.int 64 t)) {f : Addr} {fd : FuncData} (F : Fun K "without_repeats" "without_repeats" s_without_repeats f fd) : FnOk P w K mg base (L2.CX P w) 1 f fd ["level"] (spM { K := K, T := T, mg := mg, ios := [] } 1 m_without_repeats) :=
    fn_ok (C := { K := K, T := T, mg := mg, ios := [] }) (k := 0) F sc_without_repeats (by decide) fun cdv A outer s H E hr =>
      ss_cons (ss_set 1 sc_without_repeats.nd (se_lst (sa_nil)))
      (ss_cons (ss_for 2 (passes_of rfl) rfl sc_without_repeats.nd (si_list (se_var 0)) (ss_one (ss_if (st_cmp (op_notInW (room200 hr)) ok_notInW (se_var 2) (se_sl (se_var 1) (so_some (se_un un_neg ok_neg (se_globI g_NEAR))) (so_none) rfl)) (ss_one (ss_app 1 (sx_lift (W := W0) (se_var 2)))) (ss_nil))))
      (ss_one (ss_retOwn 1)))
theorem fn_belongs (hB : BltIn mg) (c_fits : Cal P w K mg base T "fits" 2 4 m_fits) (c_operands_below : Cal P w K mg base T "operands_below" 1 1 m_operands_below) (c_without_repeats : Cal P w K mg base T "without_repeats" 1 1 m_without_repeats) {f : Addr} {fd : FuncData} (F : Fun K "belongs" "belongs" s_belongs f fd) {c Pt : Addr} (hP : Pt ∈ T) (TB : GxR.TabB base mg c Pt) (hcd : fd.code = .ref c) : FnOk P w K mg base (L2.CX P w) 6 f fd ["table", "tree"] (spM { K := K, T := T, mg := mg, ios := [] } 2 m_belongs) :=
    fn_okT (C := { K := K, T := T, mg := mg, ios := [] }) (k := 5) F sc_belongs (by decide) fun cdv A outer s H E hcv hr =>
      ss_cons (ss_set 2 sc_belongs.nd (se_lst (sa_cons (se_var 1) (sa_nil))))
      (ss_cons (ss_while 100000 (passes_of rfl) (st_truth (se_var 2)) (ss_cons (ss_if (st_not (st_val (se_allG 0 c_fits hr hP TB (hcv.trans hcd) (hB _ (by decide)) (se_var 2)))) (ss_one (ss_ret (se_bool))) (ss_nil))
      (ss_one (ss_share 2 (ss_set 2 sc_belongs.nd (se_callC c_operands_below hr (takes_of rfl rfl rfl rfl) (sa_cons (se_callC c_without_repeats hr (takes_of rfl rfl rfl rfl) (sa_cons (se_var 2) (sa_nil)) (.cons (.nil))) (sa_nil)) (.cons (.nil))))))))
      (ss_one (ss_ret (se_bool))))
theorem fn__law_mixed (hB : BltIn mg) {f : Addr} {fd : FuncData} (F : Fun K "_law_mixed" "_law_mixed" s__law_mixed f fd) : FnOk P w K mg base (L2.CX P w) 1 f fd ["_law_cell", "_law_k"] (spM { K := K, T := T, mg := mg, ios := [] } 2 m__law_mixed) :=
    fn_ok (C := { K := K, T := T, mg := mg, ios := [] }) (k := 0) F sc__law_mixed (by decide) fun cdv A outer s H E hr =>
      ss_cons (ss_set 2 sc__law_mixed.nd (se_bin op_mod ok_mod (se_bin op_mul2 ok_mul (se_bin op_add3 ok_add (se_var 0) (se_bin op_mul2 ok_mul (se_int) (se_var 1))) (se_int)) (se_int)))
      (ss_one (ss_ret (se_bin op_mod ok_mod (se_bin op_mul2 ok_mul (se_var 2) (se_var 2)) (se_int))))
theorem fn__law_cell_at (hB : BltIn mg) (c__law_mixed : Cal P w K mg base T "_law_mixed" 2 1 m__law_mixed) {f : Addr} {fd : FuncData} (F : Fun K "_law_cell_at" "_law_cell_at" s__law_cell_at f fd) : FnOk P w K mg base (L2.CX P w) 2 f fd ["_law_script", "_law_k"] (spM { K := K, T := T, mg := mg, ios := [] } 2 m__law_cell_at) :=
    fn_ok (C := { K := K, T := T, mg := mg, ios := [] }) (k := 1) F sc__law_cell_at (by decide) fun cdv A outer s H E hr =>
      ss_cons (ss_if (st_cmp op_lt ok_lt (se_var 1) (se_callB call_len2 ok_len (hB _ (by decide)) (by decide +kernel) (sa_cons (se_var 0) (sa_nil)))) (ss_one (ss_ret (se_callC c__law_mixed hr (takes_of rfl rfl rfl rfl) (sa_cons (se_ix ix_3 ok_ix (se_var 0) (se_var 1) (fun _ _ => rfl)) (sa_cons (se_var 1) (sa_nil))) (.cons (.cons (.nil)))))) (ss_nil))
      (ss_one (ss_ret (se_int)))
theorem fn__law_cells (hB : BltIn mg) (c__law_mixed : Cal P w K mg base T "_law_mixed" 2 1 m__law_mixed) {f : Addr} {fd : FuncData} (F : Fun K "_law_cells" "_law_cells" s__law_cells f fd) : FnOk P w K mg base (L2.CX P w) 2 f fd ["_law_script", "_law_at", "_law_end"] (spM { K := K, T := T, mg := mg, ios := [] } 3 m__law_cells) :=
    fn_ok (C := { K := K, T := T, mg := mg, ios := [] }) (k := 1) F sc__law_cells (by decide) fun cdv A outer s H E hr =>
      ss_one (ss_ret (se_lc 3 rfl sc__law_cells.nd (si_range2 (hB _ (by decide)) (sa_cons (se_var 1) (sa_cons (se_callB (call_min2 rfl) ok_min2 (hB _ (by decide)) (by decide +kernel) (sa_cons (se_var 2) (sa_cons (se_callB call_len2 ok_len (hB _ (by decide)) (by decide +kernel) (sa_cons (se_var 0) (sa_nil))) (sa_nil)))) (sa_nil)))) (blkOk_by (N := N__law_cells) (sc := defScope s__law_cells) (by decide +kernel)) (fun s H Ca cl fp => sts_nil) (fun s H Ca cl fp => se_callC c__law_mixed hr takes0 (sa_cons (se_ix ix_3 ok_ix (se_var 0) (se_var 3) (fun _ _ => rfl)) (sa_cons (se_var 3) (sa_nil))) (.cons (.cons (.nil))))))
theorem fn__law_sign_by (hB : BltIn mg) {f : Addr} {fd : FuncData} (F : Fun K "_law_sign_by" "_law_sign_by" s__law_sign_by f fd) : FnOk P w K mg base (L2.CX P w) 1 f fd ["_law_cell"] (spM { K := K, T := T, mg := mg, ios := [] } 1 m__law_sign_by) :=
    fn_ok (C := { K := K, T := T, mg := mg, ios := [] }) (k := 0) F sc__law_sign_by (by decide) fun cdv A outer s H E hr =>
      ss_cons (ss_set 1 sc__law_sign_by.nd (se_str))
      (ss_cons (ss_set 1 sc__law_sign_by.nd (se_bin op_add3 ok_add (se_var 1) (se_str)))
      (ss_one (ss_ret (se_ix ix_3 ok_ix (se_var 1) (se_bin op_mod ok_mod (se_var 0) (se_int)) (fun _ _ => rfl)))))
theorem fn__law_word_by (hB : BltIn mg) (c__law_sign_by : Cal P w K mg base T "_law_sign_by" 1 1 m__law_sign_by) {f : Addr} {fd : FuncData} (F : Fun K "_law_word_by" "_law_word_by" s__law_word_by f fd) : FnOk P w K mg base (L2.CX P w) 2 f fd ["_law_cell", "_law_k"] (spM { K := K, T := T, mg := mg, ios := [] } 2 m__law_word_by) :=
    fn_ok (C := { K := K, T := T, mg := mg, ios := [] }) (k := 1) F sc__law_word_by (by decide) fun cdv A outer s H E hr =>
      ss_cons (ss_set 2 sc__law_word_by.nd (se_join (se_str) (se_lc 7 rfl sc__law_word_by.nd (si_range1 (hB _ (by decide)) (sa_cons (se_int) (sa_nil))) (blkOk_by (N := N__law_word_by) (sc := defScope s__law_word_by) (by decide +kernel)) (fun s H Ca cl fp => sts_nil) (fun s H Ca cl fp => se_callC c__law_sign_by hr takes0 (sa_cons (se_bin op_mod ok_mod (se_bin op_mul2 ok_mul (se_bin op_add3 ok_add (se_bin op_fdiv ok_div (se_var 0) (se_int)) (se_bin op_mul2 ok_mul (se_var 7) (se_int))) (se_int)) (se_int)) (sa_nil)) (.cons (.nil)))) rfl))
      (ss_cons (ss_if (st_cmp (op_eq2 hr.units) ok_eq (se_sl (se_var 2) (so_none) (so_some (se_int)) rfl) (se_str)) (ss_one (ss_set 2 sc__law_word_by.nd (se_bin op_add3 ok_add (se_bin op_add3 ok_add (se_sl (se_var 2) (so_none) (so_some (se_int)) rfl) (se_str)) (se_sl (se_var 2) (so_some (se_int)) (so_none) rfl)))) (ss_nil))
      (ss_cons (ss_set 3 sc__law_word_by.nd (se_ix ix_3 ok_ix (se_lst (sa_cons (se_int) (sa_cons (se_int) (sa_cons (se_int) (sa_cons (se_int) (sa_cons (se_int) (sa_cons (se_int) (sa_nil)))))))) (se_bin op_mod ok_mod (se_bin op_fdiv ok_div (se_var 0) (se_int)) (se_int)) (fun _ _ => rfl)))
      (ss_cons (ss_set 4 sc__law_word_by.nd (se_bin op_mod ok_mod (se_bin op_fdiv ok_div (se_var 0) (se_int)) (se_var 3)))
      (ss_cons (ss_set 5 sc__law_word_by.nd (se_bin op_mod ok_mod (se_bin op_fdiv ok_div (se_var 0) (se_int)) (se_int)))
      (ss_cons (ss_if (st_cmp (op_eq2 hr.units) ok_eq (se_var 5) (se_int)) (ss_one (ss_ret (se_sl (se_var 2) (so_none) (so_some (se_bin op_add3 ok_add (se_var 1) (se_int))) rfl))) (ss_nil))
      (ss_cons (ss_if (PW.pt (sw_and (st_cmp (op_eq2 hr.units) ok_eq (se_var 5) (se_int)) (sw_and1 (st_cmp (op_eq2 hr.units) ok_eq (se_bin op_add3 ok_add (se_bin op_add3 ok_add (se_sl (se_var 2) (so_none) (so_some (se_var 4)) rfl) (se_callC c__law_sign_by hr (takes_of rfl rfl rfl rfl) (sa_cons (se_bin op_add3 ok_add (se_var 0) (se_var 1)) (sa_nil)) (.cons (.nil)))) (se_sl (se_var 2) (so_some (se_bin op_add3 ok_add (se_var 4) (se_int))) (so_some (se_var 3)) rfl)) (se_str))))) (ss_one (ss_ret (se_bin op_add3 ok_add (se_bin op_add3 ok_add (se_sl (se_var 2) (so_none) (so_some (se_var 4)) rfl) (se_callC c__law_sign_by hr (takes_of rfl rfl rfl rfl) (sa_cons (se_bin op_add3 ok_add (se_var 0) (se_int)) (sa_nil)) (.cons (.nil)))) (se_sl (se_var 2) (so_some (se_bin op_add3 ok_add (se_var 4) (se_int))) (so_some (se_var 3)) rfl)))) (ss_nil))
      (ss_cons (ss_if (st_cmp (op_eq2 hr.units) ok_eq (se_var 5) (se_int)) (ss_one (ss_ret (se_bin op_add3 ok_add (se_bin op_add3 ok_add (se_sl (se_var 2) (so_none) (so_some (se_var 4)) rfl) (se_callC c__law_sign_by hr (takes_of rfl rfl rfl rfl) (sa_cons (se_bin op_add3 ok_add (se_var 0) (se_var 1)) (sa_nil)) (.cons (.nil)))) (se_sl (se_var 2) (so_some (se_bin op_add3 ok_add (se_var 4) (se_int))) (so_some (se_var 3)) rfl)))) (ss_nil))
      (ss_cons (ss_set 6 sc__law_word_by.nd (se_bin op_add3 ok_add (se_callC c__law_sign_by hr (takes_of rfl rfl rfl rfl) (sa_cons (se_bin op_add3 ok_add (se_var 0) (se_var 1)) (sa_nil)) (.cons (.nil))) (se_sl (se_var 2) (so_some (se_var 1)) (so_some (se_bin op_add3 ok_add (se_var 1) (se_bin op_mod ok_mod (se_bin op_add3 ok_add (se_var 3) (se_var 1)) (se_int)))) rfl)))
      (ss_one (ss_share 6 (ss_ret (se_ix ix_3 ok_ix (se_lst (sa_cons (se_var 6) (sa_cons (se_str) (sa_nil)))) (se_callTy call_int1 ok_int1 (hB _ (by decide)) (by decide +kernel) (sa_cons (se_cmp (op_eq2 hr.units) ok_eq (se_var 6) (se_str)) (sa_nil))) (fun _ _ => rfl)))))))))))))
theorem fn__law_words_by (hB : BltIn mg) (c__law_word_by : Cal P w K mg base T "_law_word_by" 2 2 m__law_word_by) {f : Addr} {fd : FuncData} (F : Fun K "_law_words_by" "_law_words_by" s__law_words_by f fd) : FnOk P w K mg base (L2.CX P w) 3 f fd ["_law_cell"] (spM { K := K, T := T, mg := mg, ios := [] } 1 m__law_words_by) :=
    fn_ok (C := { K := K, T := T, mg := mg, ios := [] }) (k := 2) F sc__law_words_by (by decide) fun cdv A outer s H E hr =>
      ss_cons (ss_setLc 1 3 rfl sc__law_words_by.nd (si_range1 (hB _ (by decide)) (sa_cons (se_int) (sa_nil))) (blkOk_by (N := N__law_words_by) (sc := defScope s__law_words_by) (by decide +kernel)) (fun s H Ca cl fp => sts_nil) (fun s H Ca cl fp => se_callC c__law_word_by hr takes0 (sa_cons (se_var 0) (sa_cons (se_var 3) (sa_nil))) (.cons (.cons (.nil)))) (sw_true rfl rfl rfl (by decide +kernel)))
      (ss_cons (ss_set 2 sc__law_words_by.nd (se_lst (sa_cons (se_str) (sa_cons (se_str) (sa_cons (se_str) (sa_cons (se_str) (sa_cons (se_str) (sa_cons (se_str) (sa_cons (se_str) (sa_cons (se_str) (sa_nil)))))))))))
      (ss_cons (ss_for 3 (passes_of rfl) rfl sc__law_words_by.nd (si_range1 (hB _ (by decide)) (sa_cons (se_bin op_mul2 ok_mul (se_int) (se_callTy call_int1 ok_int1 (hB _ (by decide)) (by decide +kernel) (sa_cons (se_cmp (op_eq2 hr.units) ok_eq (se_bin op_mod ok_mod (se_bin op_fdiv ok_div (se_var 0) (se_int)) (se_int)) (se_int)) (sa_nil)))) (sa_nil))) (ss_cons (ss_set 4 sc__law_words_by.nd (se_ix ix_3 ok_ix (se_var 2) (se_bin op_mod ok_mod (se_bin op_add3 ok_add (se_bin op_fdiv ok_div (se_var 0) (se_int)) (se_bin op_mul2 ok_mul (se_int) (se_var 3))) (se_int)) (fun _ _ => rfl)))
      (ss_one (ss_if (st_cmp op_notIn3 ok_notIn (se_var 4) (se_var 1)) (ss_one (ss_share 4 (ss_setIx 1 (se_var 4) (se_bin op_mod ok_mod (se_bin op_add3 ok_add (se_bin op_fdiv ok_div (se_var 0) (se_int)) (se_bin op_mul2 ok_mul (se_int) (se_var 3))) (se_int))))) (ss_nil)))))
      (ss_one (ss_retOwn 1))))
theorem fn__law_role (hB : BltIn mg) {f : Addr} {fd : FuncData} (F : Fun K "_law_role" "_law_role" s__law_role f fd) : FnOk P w K mg base (L2.CX P w) 1 f fd ["_law_table", "_law_word", "_law_ahead"] (spM { K := K, T := T, mg := mg, ios := [] } 3 m__law_role) :=
    fn_ok (C := { K := K, T := T, mg := mg, ios := [] }) (k := 0) F sc__law_role (by decide) fun cdv A outer s H E hr =>
      ss_cons (ss_for 3 (passes_of rfl) rfl sc__law_role.nd (si_list (se_var 0)) (ss_one (ss_if (PW.pt (sw_and (st_cmp (op_eq2 hr.units) ok_eq (se_ix ix_3 ok_ix (se_var 3) (se_int) (fun _ _ => rfl)) (se_var 1)) (sw_and1 (st_cmp (op_eq2 hr.units) ok_eq (se_cmp (op_eq2 hr.units) ok_eq (se_ix ix_3 ok_ix (se_var 3) (se_int) (fun _ _ => rfl)) (se_str)) (se_var 2))))) (ss_one (ss_retOwn 3)) (ss_nil))))
      (ss_one (ss_ret (se_none)))
theorem fn__law_clash (hB : BltIn mg) (c__law_role : Cal P w K mg base T "_law_role" 3 1 m__law_role) {f : Addr} {fd : FuncData} (F : Fun K "_law_clash" "_law_clash" s__law_clash f fd) : FnOk P w K mg base (L2.CX P w) 2 f fd ["_law_table", "_law_telling"] (spM { K := K, T := T, mg := mg, ios := [] } 2 m__law_clash) :=
    fn_ok (C := { K := K, T := T, mg := mg, ios := [] }) (k := 1) F sc__law_clash (by decide) fun cdv A outer s H E hr =>
      ss_cons (ss_for 2 (passes_of rfl) rfl sc__law_clash.nd (si_list (se_var 0)) (ss_one (ss_if (PW.pt (sw_and (st_cmp (op_eq2 hr.units) ok_eq (se_ix ix_3 ok_ix (se_var 2) (se_int) (fun _ _ => rfl)) (se_ix ix_3 ok_ix (se_var 1) (se_int) (fun _ _ => rfl))) (sw_and1 (st_cmp (op_ne2 hr.units) ok_ne (se_ix ix_3 ok_ix (se_var 2) (se_int) (fun _ _ => rfl)) (se_ix ix_3 ok_ix (se_var 1) (se_int) (fun _ _ => rfl)))))) (ss_one (ss_ret (se_bool))) (ss_nil))))
      (ss_one (ss_ret (se_cmp op_notN ok_notN (se_callC c__law_role hr (takes_of rfl rfl rfl rfl) (sa_cons (se_var 0) (sa_cons (se_ix ix_3 ok_ix (se_var 1) (se_int) (fun _ _ => rfl)) (sa_cons (se_cmp (op_eq2 hr.units) ok_eq (se_ix ix_3 ok_ix (se_var 1) (se_int) (fun _ _ => rfl)) (se_str)) (sa_nil)))) (.cons (.cons (.cons (.nil))))) (se_none))))
theorem fn__law_telling_by (hB : BltIn mg) {f : Addr} {fd : FuncData} (F : Fun K "_law_telling_by" "_law_telling_by" s__law_telling_by f fd) : FnOk P w K mg base (L2.CX P w) 1 f fd ["_law_cell", "_law_words"] (spM { K := K, T := T, mg := mg, ios := [] } 2 m__law_telling_by) :=
    fn_ok (C := { K := K, T := T, mg := mg, ios := [] }) (k := 0) F sc__law_telling_by (by decide) fun cdv A outer s H E hr =>
      ss_cons (ss_set 2 sc__law_telling_by.nd (se_ix ix_3 ok_ix (se_lst (sa_cons (se_str) (sa_cons (se_str) (sa_cons (se_str) (sa_cons (se_str) (sa_cons (se_str) (sa_nil))))))) (se_bin op_mod ok_mod (se_var 0) (se_int)) (fun _ _ => rfl)))
      (ss_cons (ss_set 3 sc__law_telling_by.nd (se_bin op_add3 ok_add (se_int) (se_bin op_mod ok_mod (se_bin op_fdiv ok_div (se_var 0) (se_int)) (se_int))))
      (ss_cons (ss_if (st_cmp op_gt ok_gt (se_bin op_mod ok_mod (se_bin op_fdiv ok_div (se_var 0) (se_int)) (se_int)) (se_int)) (ss_one (ss_set 3 sc__law_telling_by.nd (se_bin op_add3 ok_add (se_int) (se_bin op_mod ok_mod (se_bin op_fdiv ok_div (se_var 0) (se_int)) (se_int))))) (ss_nil))
      (ss_one (ss_share 3 (ss_share 2 (ss_ret (se_tup (sa_cons (se_str) (sa_cons (se_var 2) (sa_cons (se_var 3) (sa_cons (se_ix ix_3 ok_ix (se_var 1) (se_bin op_mod ok_mod (se_bin op_fdiv ok_div (se_var 0) (se_int)) (se_int)) (fun _ _ => rfl)) (sa_nil))))))))))))
theorem fn__law_table_by (hB : BltIn mg) (c__law_telling_by : Cal P w K mg base T "_law_telling_by" 2 1 m__law_telling_by) (c__law_clash : Cal P w K mg base T "_law_clash" 2 2 m__law_clash) {f : Addr} {fd : FuncData} (F : Fun K "_law_table_by" "_law_table_by" s__law_table_by f fd) : FnOk P w K mg base (L2.CX P w) 3 f fd ["_law_cells_here", "_law_words"] (spM { K := K, T := T, mg := mg, ios := [] } 2 m__law_table_by) :=
    fn_ok (C := { K := K, T := T, mg := mg, ios := [] }) (k := 2) F sc__law_table_by (by decide) fun cdv A outer s H E hr =>
      ss_cons (ss_set 2 sc__law_table_by.nd (se_lst (sa_nil)))
      (ss_cons (ss_for 3 (passes_of rfl) rfl sc__law_table_by.nd (si_list (se_var 0)) (ss_cons (ss_set 4 sc__law_table_by.nd (se_callC c__law_telling_by hr (takes_of rfl rfl rfl rfl) (sa_cons (se_var 3) (sa_cons (se_var 1) (sa_nil))) (.cons (.cons (.nil)))))
      (ss_one (ss_share 4 (ss_if (st_not (st_val (se_callC c__law_clash hr (takes_of rfl rfl rfl rfl) (sa_cons (se_var 2) (sa_cons (se_var 4) (sa_nil))) (.cons (.cons (.nil)))))) (ss_one (ss_app 2 (sx_lift (W := W0) (se_var 4)))) (ss_nil))))))
      (ss_one (ss_retOwn 2)))
theorem fn__law_name_by (hB : BltIn mg) (c__law_role : Cal P w K mg base T "_law_role" 3 1 m__law_role) {f : Addr} {fd : FuncData} (F : Fun K "_law_name_by" "_law_name_by" s__law_name_by f fd) : FnOk P w K mg base (L2.CX P w) 2 f fd ["_law_table", "_law_cell", "_law_words"] (spM { K := K, T := T, mg := mg, ios := [] } 3 m__law_name_by) :=
    fn_ok (C := { K := K, T := T, mg := mg, ios := [] }) (k := 1) F sc__law_name_by (by decide) fun cdv A outer s H E hr =>
      ss_cons (ss_for 3 (passes_of rfl) rfl sc__law_name_by.nd (si_range1 (hB _ (by decide)) (sa_cons (se_int) (sa_nil))) (ss_cons (ss_set 4 sc__law_name_by.nd (se_ix ix_3 ok_ix (se_var 2) (se_bin op_mod ok_mod (se_bin op_add3 ok_add (se_var 1) (se_var 3)) (se_int)) (fun _ _ => rfl)))
      (ss_one (ss_share 4 (ss_if (PW.pt (sw_and (st_cmp op_isN ok_isN (se_callC c__law_role hr (takes_of rfl rfl rfl rfl) (sa_cons (se_var 0) (sa_cons (se_var 4) (sa_cons (se_bool) (sa_nil)))) (.cons (.cons (.cons (.nil))))) (se_none)) (sw_and1 (st_cmp op_isN ok_isN (se_callC c__law_role hr (takes_of rfl rfl rfl rfl) (sa_cons (se_var 0) (sa_cons (se_var 4) (sa_cons (se_bool) (sa_nil)))) (.cons (.cons (.cons (.nil))))) (se_none))))) (ss_one (ss_retOwn 4)) (ss_nil))))))
      (ss_one (ss_ret (se_ix ix_3 ok_ix (se_var 2) (se_bin op_add3 ok_add (se_int) (se_bin op_mod ok_mod (se_var 1) (se_int))) (fun _ _ => rfl))))
theorem fn__law_grown_by (hB : BltIn mg) (c__law_name_by : Cal P w K mg base T "_law_name_by" 3 2 m__law_name_by) {f : Addr} {fd : FuncData} (F : Fun K "_law_grown_by" "_law_grown_by" s__law_grown_by f fd) : FnOk P w K mg base (L2.CX P w) 3 f fd ["_law_table", "_law_trees", "_law_cell", "_law_words"] (spM { K := K, T := T, mg := mg, ios := [1] } 4 m__law_grown_by) :=
    fn_ok (C := { K := K, T := T, mg := mg, ios := [1] }) (k := 2) F sc__law_grown_by (by decide) fun cdv A outer s H E hr =>
      ss_cons (ss_set 4 sc__law_grown_by.nd (se_ix ix_3 ok_ix (se_var 0) (se_bin op_mod ok_mod (se_bin op_fdiv ok_div (se_var 2) (se_int)) (se_callB call_len2 ok_len (hB _ (by decide)) (by decide +kernel) (sa_cons (se_var 0) (sa_nil)))) (fun _ _ => rfl)))
      (ss_cons (ss_if (st_cmp op_in3 ok_in (se_ix ix_3 ok_ix (se_var 4) (se_int) (fun _ _ => rfl)) (se_lst (sa_cons (se_str) (sa_cons (se_str) (sa_nil))))) (ss_cons (ss_app 1 (sx_tup (sxa_cons (sx_lift (W := W0) (se_ix ix_3 ok_ix (se_var 4) (se_int) (fun _ _ => rfl))) (sxa_cons (sx_lift (W := W0) (se_ix ix_3 ok_ix (se_var 4) (se_int) (fun _ _ => rfl))) (sxa_cons (sx_pop 1) (sxa_nil))))))
      (ss_one (ss_retN))) (ss_nil))
      (ss_cons (ss_if (st_cmp op_lt ok_lt (se_callB call_len2 ok_len (hB _ (by decide)) (by decide +kernel) (sa_cons (se_var 1) (sa_nil))) (se_int)) (ss_one (ss_app 1 (sx_lift (W := W0) (se_callC c__law_name_by hr takes0 (sa_cons (se_var 0) (sa_cons (se_bin op_fdiv ok_div (se_var 2) (se_int)) (sa_cons (se_var 3) (sa_nil)))) (.cons (.cons (.cons (.nil)))))))) (ss_nil))
      (ss_cons (ss_setX 5 sc__law_grown_by.nd (sx_pop 1))
      (ss_cons (ss_setX 6 sc__law_grown_by.nd (sx_pop 1))
      (ss_one (ss_share 5 (ss_share 6 (ss_app 1 (sx_lift (W := W0) (se_tup (sa_cons (se_str) (sa_cons (se_ix ix_3 ok_ix (se_var 4) (se_int) (fun _ _ => rfl)) (sa_cons (se_var 6) (sa_cons (se_var 5) (sa_nil)))))))))))))))
theorem fn__law_tree_by (hB : BltIn mg) (c__law_name_by : Cal P w K mg base T "_law_name_by" 3 2 m__law_name_by) (c__law_grown_by : CalIo P w K mg base T "_law_grown_by" 4 3 [1] m__law_grown_by) {f : Addr} {fd : FuncData} (F : Fun K "_law_tree_by" "_law_tree_by" s__law_tree_by f fd) : FnOk P w K mg base (L2.CX P w) 4 f fd ["_law_table", "_law_cells_here", "_law_words"] (spM { K := K, T := T, mg := mg, ios := [] } 3 m__law_tree_by) :=
    fn_ok (C := { K := K, T := T, mg := mg, ios := [] }) (k := 3) F sc__law_tree_by (by decide) fun cdv A outer s H E hr =>
      ss_cons (ss_set 3 sc__law_tree_by.nd (se_lst (sa_cons (se_ix ix_3 ok_ix (se_var 2) (se_int) (fun _ _ => rfl)) (sa_nil))))
      (ss_cons (ss_for 4 (passes_of rfl) rfl sc__law_tree_by.nd (si_list (se_var 1)) (ss_one (ss_if (PW.pt (sw_or (st_cmp (op_eq2 hr.units) ok_eq (se_bin op_mod ok_mod (se_var 4) (se_int)) (se_int)) (sw_or1 (st_cmp (op_eq2 hr.units) ok_eq (se_var 0) (se_lst (sa_nil)))))) (ss_one (ss_app 3 (sx_lift (W := W0) (se_callC c__law_name_by hr takes0 (sa_cons (se_var 0) (sa_cons (se_bin op_fdiv ok_div (se_var 4) (se_int)) (sa_cons (se_var 2) (sa_nil)))) (.cons (.cons (.cons (.nil)))))))) (ss_one (ss_exprX (sx_callIo c__law_grown_by hr takes0 (sai_cons (se_var 0) (sai_io 3 (sai_cons (se_var 4) (sai_cons (se_var 2) (sai_nil))))) (.v (.io (.v (.v (.nil)))))))))))
      (ss_cons (ss_for 5 (passes_of rfl) rfl sc__law_tree_by.nd (si_list (se_var 0)) (ss_one (ss_while 100000 (passes_of rfl) (PW.pt (sw_and (st_cmp op_in3 ok_in (se_ix ix_3 ok_ix (se_var 5) (se_int) (fun _ _ => rfl)) (se_lst (sa_cons (se_str) (sa_cons (se_str) (sa_cons (se_str) (sa_nil)))))) (sw_and1 (st_cmp op_gt ok_gt (se_callB call_len2 ok_len (hB _ (by decide)) (by decide +kernel) (sa_cons (se_var 3) (sa_nil))) (se_int))))) (ss_cons (ss_setX 6 sc__law_tree_by.nd (sx_pop 3))
      (ss_cons (ss_setX 7 sc__law_tree_by.nd (sx_pop 3))
      (ss_one (ss_share 6 (ss_share 7 (ss_app 3 (sx_lift (W := W0) (se_tup (sa_cons (se_str) (sa_cons (se_ix ix_3 ok_ix (se_var 5) (se_int) (fun _ _ => rfl)) (sa_cons (se_var 7) (sa_cons (se_var 6) (sa_nil))))))))))))))))
      (ss_one (ss_ret (se_ix ix_3 ok_ix (se_var 3) (se_un un_neg ok_neg (se_int)) (fun _ _ => rfl))))))
theorem fn__law_spoiled (hB : BltIn mg) {f : Addr} {fd : FuncData} (F : Fun K "_law_spoiled" "_law_spoiled" s__law_spoiled f fd) : FnOk P w K mg base (L2.CX P w) 1 f fd ["_law_table", "_law_tree", "_law_words", "_law_cell"] (spM { K := K, T := T, mg := mg, ios := [] } 4 m__law_spoiled) :=
    fn_ok (C := { K := K, T := T, mg := mg, ios := [] }) (k := 0) F sc__law_spoiled (by decide) fun cdv A outer s H E hr =>
      ss_cons (ss_set 4 sc__law_spoiled.nd (se_tup (sa_cons (se_str) (sa_cons (se_str) (sa_cons (se_int) (sa_cons (se_ix ix_3 ok_ix (se_var 2) (se_int) (fun _ _ => rfl)) (sa_nil)))))))
      (ss_cons (ss_if (st_cmp (op_ne2 hr.units) ok_ne (se_var 0) (se_lst (sa_nil))) (ss_one (ss_set 4 sc__law_spoiled.nd (se_ix ix_3 ok_ix (se_var 0) (se_bin op_mod ok_mod (se_bin op_fdiv ok_div (se_var 3) (se_int)) (se_callB call_len2 ok_len (hB _ (by decide)) (by decide +kernel) (sa_cons (se_var 0) (sa_nil)))) (fun _ _ => rfl)))) (ss_nil))
      (ss_cons (ss_set 5 sc__law_spoiled.nd (se_ix ix_3 ok_ix (se_var 4) (se_int) (fun _ _ => rfl)))
      (ss_cons (ss_set 6 sc__law_spoiled.nd (se_lst (sa_cons (se_bin op_add3 ok_add (se_ix ix_3 ok_ix (se_var 2) (se_int) (fun _ _ => rfl)) (se_str)) (sa_cons (se_str) (sa_cons (se_str) (sa_cons (se_str) (sa_cons (se_var 3) (sa_cons (se_none) (sa_cons (se_lst (sa_cons (se_ix ix_3 ok_ix (se_var 2) (se_int) (fun _ _ => rfl)) (sa_cons (se_ix ix_3 ok_ix (se_var 2) (se_int) (fun _ _ => rfl)) (sa_nil)))) (sa_cons (se_tup (sa_cons (se_var 1) (sa_cons (se_var 1) (sa_nil)))) (sa_nil)))))))))))
      (ss_cons (ss_share 5 (ss_set 6 sc__law_spoiled.nd (se_bin op_add3 ok_add (se_var 6) (se_lst (sa_cons (se_tup (sa_cons (se_str) (sa_cons (se_ix ix_3 ok_ix (se_var 2) (se_int) (fun _ _ => rfl)) (sa_cons (se_var 1) (sa_cons (se_var 1) (sa_nil)))))) (sa_cons (se_tup (sa_cons (se_str) (sa_cons (se_ix ix_3 ok_ix (se_var 2) (se_int) (fun _ _ => rfl)) (sa_cons (se_var 1) (sa_nil))))) (sa_cons (se_tup (sa_cons (se_ix ix_3 ok_ix (se_var 4) (se_int) (fun _ _ => rfl)) (sa_cons (se_var 5) (sa_cons (se_var 1) (sa_cons (se_var 1) (sa_cons (se_var 1) (sa_nil))))))) (sa_nil))))))))
      (ss_cons (ss_share 5 (ss_set 6 sc__law_spoiled.nd (se_bin op_add3 ok_add (se_var 6) (se_lst (sa_cons (se_tup (sa_cons (se_str) (sa_cons (se_var 5) (sa_cons (se_var 1) (sa_nil))))) (sa_cons (se_bin op_add3 ok_add (se_ix ix_3 ok_ix (se_var 2) (se_int) (fun _ _ => rfl)) (se_str)) (sa_cons (se_bin op_add3 ok_add (se_ix ix_3 ok_ix (se_var 2) (se_int) (fun _ _ => rfl)) (se_str)) (sa_cons (se_bin op_add3 ok_add (se_ix ix_3 ok_ix (se_var 2) (se_int) (fun _ _ => rfl)) (se_str)) (sa_nil)))))))))
      (ss_cons (ss_share 5 (ss_set 6 sc__law_spoiled.nd (se_bin op_add3 ok_add (se_var 6) (se_lst (sa_cons (se_tup (sa_cons (se_ix ix_3 ok_ix (se_var 4) (se_int) (fun _ _ => rfl)) (sa_cons (se_lst (sa_cons (se_var 5) (sa_nil))) (sa_cons (se_var 1) (sa_nil))))) (sa_cons (se_tup (sa_cons (se_lst (sa_cons (se_ix ix_3 ok_ix (se_var 4) (se_int) (fun _ _ => rfl)) (sa_nil))) (sa_cons (se_var 5) (sa_cons (se_var 1) (sa_nil))))) (sa_cons (se_tup (sa_cons (se_ix ix_3 ok_ix (se_var 4) (se_int) (fun _ _ => rfl)) (sa_cons (se_none) (sa_cons (se_var 1) (sa_nil))))) (sa_cons (se_tup (sa_cons (se_int) (sa_cons (se_var 5) (sa_cons (se_var 1) (sa_nil))))) (sa_nil)))))))))
      (ss_cons (ss_if (st_cmp (op_inW (room200 hr)) ok_inW (se_var 4) (se_var 0)) (ss_cons (ss_share 5 (ss_set 6 sc__law_spoiled.nd (se_bin op_add3 ok_add (se_var 6) (se_bin op_mul2 ok_mul (se_lst (sa_cons (se_var 5) (sa_nil))) (se_int)))))
      (ss_cons (ss_share 5 (ss_setIx 6 (se_tup (sa_cons (se_ix ix_3 ok_ix (se_var 4) (se_int) (fun _ _ => rfl)) (sa_cons (se_var 5) (sa_cons (se_var 1) (sa_cons (se_var 1) (sa_nil)))))) (se_int)))
      (ss_cons (ss_if (st_cmp op_in3 ok_in (se_ix ix_3 ok_ix (se_var 4) (se_int) (fun _ _ => rfl)) (se_lst (sa_cons (se_str) (sa_cons (se_str) (sa_cons (se_str) (sa_nil)))))) (ss_cons (ss_share 5 (ss_setIx 6 (se_tup (sa_cons (se_ix ix_3 ok_ix (se_var 4) (se_int) (fun _ _ => rfl)) (sa_cons (se_var 5) (sa_cons (se_var 1) (sa_nil))))) (se_int)))
      (ss_cons (ss_share 5 (ss_setIx 6 (se_tup (sa_cons (se_str) (sa_cons (se_var 5) (sa_cons (se_var 1) (sa_nil))))) (se_int)))
      (ss_one (ss_share 5 (ss_set 6 sc__law_spoiled.nd (se_bin op_add3 ok_add (se_var 6) (se_lst (sa_cons (se_tup (sa_cons (se_ix ix_3 ok_ix (se_var 4) (se_int) (fun _ _ => rfl)) (sa_cons (se_var 5) (sa_cons (se_var 1) (sa_nil))))) (sa_cons (se_tup (sa_cons (se_ix ix_3 ok_ix (se_var 4) (se_int) (fun _ _ => rfl)) (sa_cons (se_var 5) (sa_cons (se_ix ix_3 ok_ix (se_var 2) (se_int) (fun _ _ => rfl)) (sa_nil))))) (sa_nil)))))))))) (ss_nil))
      (ss_one (ss_if (st_cmp (op_eq2 hr.units) ok_eq (se_ix ix_3 ok_ix (se_var 4) (se_int) (fun _ _ => rfl)) (se_str)) (ss_one (ss_share 5 (ss_setIx 6 (se_tup (sa_cons (se_str) (sa_cons (se_var 5) (sa_cons (se_var 1) (sa_cons (se_var 1) (sa_nil)))))) (se_int)))) (ss_nil)))))) (ss_nil))
      (ss_one (ss_ret (se_ix ix_3 ok_ix (se_var 6) (se_bin op_mod ok_mod (se_var 3) (se_callB call_len2 ok_len (hB _ (by decide)) (by decide +kernel) (sa_cons (se_var 6) (sa_nil)))) (fun _ _ => rfl)))))))))))
theorem fn_law (hB : BltIn mg) (c__law_words_by : Cal P w K mg base T "_law_words_by" 1 3 m__law_words_by) (c__law_cell_at : Cal P w K mg base T "_law_cell_at" 2 2 m__law_cell_at) (c__law_table_by : Cal P w K mg base T "_law_table_by" 2 3 m__law_table_by) (c__law_cells : Cal P w K mg base T "_law_cells" 3 2 m__law_cells) (c__law_tree_by : Cal P w K mg base T "_law_tree_by" 3 4 m__law_tree_by) (c__law_spoiled : Cal P w K mg base T "_law_spoiled" 4 1 m__law_spoiled) (c_belongs : Cal P w K mg base T "belongs" 2 6 m_belongs) {f : Addr} {fd : FuncData} (F : Fun K "law" "law" s_law f fd) : FnOk P w K mg base (L2.CX P w) 7 f fd ["_law_script"] (spM { K := K, T := T, mg := mg, ios := [] } 1 m_law) :=
    fn_ok (C := { K := K, T := T, mg := mg, ios := [] }) (k := 6) F sc_law (by decide) fun cdv A outer s H E hr =>
      ss_cons (ss_set 1 sc_law.nd (se_callC c__law_words_by hr (takes_of rfl rfl rfl rfl) (sa_cons (se_callC c__law_cell_at hr (takes_of rfl rfl rfl rfl) (sa_cons (se_var 0) (sa_cons (se_int) (sa_nil))) (.cons (.cons (.nil)))) (sa_nil)) (.cons (.nil))))
      (ss_cons (ss_share 1 (ss_set 2 sc_law.nd (se_callC c__law_table_by hr (takes_of rfl rfl rfl rfl) (sa_cons (se_callC c__law_cells hr (takes_of rfl rfl rfl rfl) (sa_cons (se_var 0) (sa_cons (se_int) (sa_cons (se_int) (sa_nil)))) (.cons (.cons (.cons (.nil))))) (sa_cons (se_var 1) (sa_nil))) (.cons (.cons (.nil))))))
      (ss_cons (ss_share 1 (ss_share 2 (ss_set 3 sc_law.nd (se_callC c__law_tree_by hr (takes_of rfl rfl rfl rfl) (sa_cons (se_var 2) (sa_cons (se_callC c__law_cells hr (takes_of rfl rfl rfl rfl) (sa_cons (se_var 0) (sa_cons (se_int) (sa_cons (se_int) (sa_nil)))) (.cons (.cons (.cons (.nil))))) (sa_cons (se_var 1) (sa_nil)))) (.cons (.cons (.cons (.nil))))))))
      (ss_cons (ss_set 4 sc_law.nd (se_bool))
      (ss_cons (ss_if (st_cmp op_gt ok_gt (se_bin op_mod ok_mod (se_callC c__law_cell_at hr (takes_of rfl rfl rfl rfl) (sa_cons (se_var 0) (sa_cons (se_int) (sa_nil))) (.cons (.cons (.nil)))) (se_int)) (se_int)) (ss_cons (ss_share 1 (ss_share 3 (ss_share 2 (ss_set 3 sc_law.nd (se_callC c__law_spoiled hr (takes_of rfl rfl rfl rfl) (sa_cons (se_var 2) (sa_cons (se_var 3) (sa_cons (se_var 1) (sa_cons (se_callC c__law_cell_at hr (takes_of rfl rfl rfl rfl) (sa_cons (se_var 0) (sa_cons (se_int) (sa_nil))) (.cons (.cons (.nil)))) (sa_nil))))) (.cons (.cons (.cons (.cons (.nil))))))))))
      (ss_one (ss_set 4 sc_law.nd (se_bool)))) (ss_nil))
      (ss_cons (ss_for 5 (passes_of rfl) rfl sc_law.nd (si_list (se_sl (se_var 2) (so_none) (so_some (se_bin op_mod ok_mod (se_bin op_fdiv ok_div (se_callC c__law_cell_at hr (takes_of rfl rfl rfl rfl) (sa_cons (se_var 0) (sa_cons (se_int) (sa_nil))) (.cons (.cons (.nil)))) (se_int)) (se_int))) rfl)) (ss_one (ss_if (st_cmp op_in3 ok_in (se_ix ix_3 ok_ix (se_var 5) (se_int) (fun _ _ => rfl)) (se_lst (sa_cons (se_str) (sa_cons (se_str) (sa_nil))))) (ss_one (ss_share 3 (ss_set 3 sc_law.nd (se_tup (sa_cons (se_ix ix_3 ok_ix (se_var 5) (se_int) (fun _ _ => rfl)) (sa_cons (se_ix ix_3 ok_ix (se_var 5) (se_int) (fun _ _ => rfl)) (sa_cons (se_var 3) (sa_nil)))))))) (ss_one (ss_if (st_cmp (op_eq2 hr.units) ok_eq (se_bin op_mod ok_mod (se_bin op_fdiv ok_div (se_callC c__law_cell_at hr (takes_of rfl rfl rfl rfl) (sa_cons (se_var 0) (sa_cons (se_int) (sa_nil))) (.cons (.cons (.nil)))) (se_int)) (se_int)) (se_int)) (ss_one (ss_share 3 (ss_set 3 sc_law.nd (se_tup (sa_cons (se_str) (sa_cons (se_ix ix_3 ok_ix (se_var 5) (se_int) (fun _ _ => rfl)) (sa_cons (se_ix ix_3 ok_ix (se_var 1) (se_int) (fun _ _ => rfl)) (sa_cons (se_var 3) (sa_nil))))))))) (ss_one (ss_share 3 (ss_set 3 sc_law.nd (se_tup (sa_cons (se_str) (sa_cons (se_ix ix_3 ok_ix (se_var 5) (se_int) (fun _ _ => rfl)) (sa_cons (se_var 3) (sa_cons (se_ix ix_3 ok_ix (se_var 1) (se_int) (fun _ _ => rfl)) (sa_nil))))))))))))))
      (ss_cons (ss_share 3 (ss_set 6 sc_law.nd (se_callC c_belongs hr (takes_of rfl rfl rfl rfl) (sa_cons (se_callTy call_list_of ok_listOf (hB _ (by decide)) (by decide +kernel) (sa_cons (se_var 2) (sa_nil))) (sa_cons (se_var 3) (sa_nil))) (.cons (.cons (.nil))))))
      (ss_one (ss_ret (se_and (se_isi (ty := "bool") (by unfold TyOk; decide) (hB _ (by decide)) (hB _ (by decide)) (by decide +kernel) (se_var 6) rfl) (se_one (se_cmp (op_eq2 hr.units) ok_eq (se_var 6) (se_var 4))))))))))))
end
section
variable {l : PySem.W.OpenLaw} {w : World} {K : PySem.W.Frag} {h : Heap} {mg : Str → Option Value} {fa : Addr}
theorem all_mk (X : K.In h) (G : h.Ns mainGlobals mg) (hfa : mg "law" = some (.ref fa)) (own : ∀ nm ∈ (["is_word", "belongs"] : List Str), ∀ f, mg nm = some (.ref f) → LamX.OwnTab K f h)
    {f_0 : Addr} {od_0 an_0 : Option Addr} {sl_0 : Array (Option Value)} {oc_0 kV_0 dc_0 pm_0 ct_0 : Value} {cc_0 pt_0 : Addr}
    (a_0 : PySem.W.nsIn K mainGlobals "is_word" = some (some (.ref f_0))) (l_0 : K.lookup f_0 = some ⟨oc_0, od_0, .func (PySem.W.fnOf "is_word" "is_word" (defArgs s_is_word) (defBody s_is_word) (defScope s_is_word) .none kV_0 dc_0 pm_0 an_0 (.ref cc_0) ct_0), sl_0⟩) (c_0 : PySem.W.codeIn K (.ref cc_0) "is_word" = true) (k_0 : PySem.W.keepIn K (.ref f_0) = true)
    {dd_0 : Option Addr} {vs_0 : Array Value} {sk_0 : Array (Option Value)} (u_0 : K.lookup cc_0 = some ⟨.type "code", dd_0, .fields vs_0, sk_0⟩) (h_0 : vs_0[11]? = some (.ref pt_0)) (r_0 : cfOk vs_0 = true) (v_0 : (cc_0 != pt_0) = true) (n_0 : K.lookup pt_0 = none)
    {f_1 : Addr} {od_1 an_1 : Option Addr} {sl_1 : Array (Option Value)} {oc_1 kV_1 dc_1 pm_1 ct_1 : Value} {cd_1 : Value}
    (a_1 : PySem.W.nsIn K mainGlobals "is_inner" = some (some (.ref f_1))) (l_1 : K.lookup f_1 = some ⟨oc_1, od_1, .func (PySem.W.fnOf "is_inner" "is_inner" (defArgs s_is_inner) (defBody s_is_inner) (defScope s_is_inner) .none kV_1 dc_1 pm_1 an_1 cd_1 ct_1), sl_1⟩) (c_1 : PySem.W.codeIn K cd_1 "is_inner" = true) (k_1 : PySem.W.keepIn K (.ref f_1) = true)
    {f_2 : Addr} {od_2 an_2 : Option Addr} {sl_2 : Array (Option Value)} {oc_2 kV_2 dc_2 pm_2 ct_2 : Value} {cd_2 : Value}
    (a_2 : PySem.W.nsIn K mainGlobals "is_ahead" = some (some (.ref f_2))) (l_2 : K.lookup f_2 = some ⟨oc_2, od_2, .func (PySem.W.fnOf "is_ahead" "is_ahead" (defArgs s_is_ahead) (defBody s_is_ahead) (defScope s_is_ahead) .none kV_2 dc_2 pm_2 an_2 cd_2 ct_2), sl_2⟩) (c_2 : PySem.W.codeIn K cd_2 "is_ahead" = true) (k_2 : PySem.W.keepIn K (.ref f_2) = true)
    {f_3 : Addr} {od_3 an_3 : Option Addr} {sl_3 : Array (Option Value)} {oc_3 kV_3 dc_3 pm_3 ct_3 : Value} {cd_3 : Value}
    (a_3 : PySem.W.nsIn K mainGlobals "role" = some (some (.ref f_3))) (l_3 : K.lookup f_3 = some ⟨oc_3, od_3, .func (PySem.W.fnOf "role" "role" (defArgs s_role) (defBody s_role) (defScope s_role) .none kV_3 dc_3 pm_3 an_3 cd_3 ct_3), sl_3⟩) (c_3 : PySem.W.codeIn K cd_3 "role" = true) (k_3 : PySem.W.keepIn K (.ref f_3) = true)
    {f_4 : Addr} {od_4 an_4 : Option Addr} {sl_4 : Array (Option Value)} {oc_4 kV_4 dc_4 pm_4 ct_4 : Value} {cd_4 : Value}
    (a_4 : PySem.W.nsIn K mainGlobals "is_name" = some (some (.ref f_4))) (l_4 : K.lookup f_4 = some ⟨oc_4, od_4, .func (PySem.W.fnOf "is_name" "is_name" (defArgs s_is_name) (defBody s_is_name) (defScope s_is_name) .none kV_4 dc_4 pm_4 an_4 cd_4 ct_4), sl_4⟩) (c_4 : PySem.W.codeIn K cd_4 "is_name" = true) (k_4 : PySem.W.keepIn K (.ref f_4) = true)
    {f_5 : Addr} {od_5 an_5 : Option Addr} {sl_5 : Array (Option Value)} {oc_5 kV_5 dc_5 pm_5 ct_5 : Value} {cd_5 : Value}
    (a_5 : PySem.W.nsIn K mainGlobals "top" = some (some (.ref f_5))) (l_5 : K.lookup f_5 = some ⟨oc_5, od_5, .func (PySem.W.fnOf "top" "top" (defArgs s_top) (defBody s_top) (defScope s_top) .none kV_5 dc_5 pm_5 an_5 cd_5 ct_5), sl_5⟩) (c_5 : PySem.W.codeIn K cd_5 "top" = true) (k_5 : PySem.W.keepIn K (.ref f_5) = true)
    {f_6 : Addr} {od_6 an_6 : Option Addr} {sl_6 : Array (Option Value)} {oc_6 kV_6 dc_6 pm_6 ct_6 : Value} {cd_6 : Value}
    (a_6 : PySem.W.nsIn K mainGlobals "form" = some (some (.ref f_6))) (l_6 : K.lookup f_6 = some ⟨oc_6, od_6, .func (PySem.W.fnOf "form" "form" (defArgs s_form) (defBody s_form) (defScope s_form) .none kV_6 dc_6 pm_6 an_6 cd_6 ct_6), sl_6⟩) (c_6 : PySem.W.codeIn K cd_6 "form" = true) (k_6 : PySem.W.keepIn K (.ref f_6) = true)
    {f_7 : Addr} {od_7 an_7 : Option Addr} {sl_7 : Array (Option Value)} {oc_7 kV_7 dc_7 pm_7 ct_7 : Value} {cd_7 : Value}
    (a_7 : PySem.W.nsIn K mainGlobals "operand_count" = some (some (.ref f_7))) (l_7 : K.lookup f_7 = some ⟨oc_7, od_7, .func (PySem.W.fnOf "operand_count" "operand_count" (defArgs s_operand_count) (defBody s_operand_count) (defScope s_operand_count) .none kV_7 dc_7 pm_7 an_7 cd_7 ct_7), sl_7⟩) (c_7 : PySem.W.codeIn K cd_7 "operand_count" = true) (k_7 : PySem.W.keepIn K (.ref f_7) = true)
    {f_8 : Addr} {od_8 an_8 : Option Addr} {sl_8 : Array (Option Value)} {oc_8 kV_8 dc_8 pm_8 ct_8 : Value} {cd_8 : Value}
    (a_8 : PySem.W.nsIn K mainGlobals "fits" = some (some (.ref f_8))) (l_8 : K.lookup f_8 = some ⟨oc_8, od_8, .func (PySem.W.fnOf "fits" "fits" (defArgs s_fits) (defBody s_fits) (defScope s_fits) .none kV_8 dc_8 pm_8 an_8 cd_8 ct_8), sl_8⟩) (c_8 : PySem.W.codeIn K cd_8 "fits" = true) (k_8 : PySem.W.keepIn K (.ref f_8) = true)
    {f_9 : Addr} {od_9 an_9 : Option Addr} {sl_9 : Array (Option Value)} {oc_9 kV_9 dc_9 pm_9 ct_9 : Value} {cd_9 : Value}
    (a_9 : PySem.W.nsIn K mainGlobals "operands_below" = some (some (.ref f_9))) (l_9 : K.lookup f_9 = some ⟨oc_9, od_9, .func (PySem.W.fnOf "operands_below" "operands_below" (defArgs s_operands_below) (defBody s_operands_below) (defScope s_operands_below) .none kV_9 dc_9 pm_9 an_9 cd_9 ct_9), sl_9⟩) (c_9 : PySem.W.codeIn K cd_9 "operands_below" = true) (k_9 : PySem.W.keepIn K (.ref f_9) = true)
    {f_10 : Addr} {od_10 an_10 : Option Addr} {sl_10 : Array (Option Value)} {oc_10 kV_10 dc_10 pm_10 ct_10 : Value} {cd_10 : Value}
    (a_10 : PySem.W.nsIn K mainGlobals "without_repeats" = some (some (.ref f_10))) (l_10 : K.lookup f_10 = some ⟨oc_10, od_10, .func (PySem.W.fnOf "without_repeats" "without_repeats" (defArgs s_without_repeats) (defBody s_without_repeats) (defScope s_without_repeats) .none kV_10 dc_10 pm_10 an_10 cd_10 ct_10), sl_10⟩) (c_10 : PySem.W.codeIn K cd_10 "without_repeats" = true) (k_10 : PySem.W.keepIn K (.ref f_10) = true)
    {f_11 : Addr} {od_11 an_11 : Option Addr} {sl_11 : Array (Option Value)} {oc_11 kV_11 dc_11 pm_11 ct_11 : Value} {cc_11 pt_11 : Addr}
    (a_11 : PySem.W.nsIn K mainGlobals "belongs" = some (some (.ref f_11))) (l_11 : K.lookup f_11 = some ⟨oc_11, od_11, .func (PySem.W.fnOf "belongs" "belongs" (defArgs s_belongs) (defBody s_belongs) (defScope s_belongs) .none kV_11 dc_11 pm_11 an_11 (.ref cc_11) ct_11), sl_11⟩) (c_11 : PySem.W.codeIn K (.ref cc_11) "belongs" = true) (k_11 : PySem.W.keepIn K (.ref f_11) = true)
    {dd_11 : Option Addr} {vs_11 : Array Value} {sk_11 : Array (Option Value)} (u_11 : K.lookup cc_11 = some ⟨.type "code", dd_11, .fields vs_11, sk_11⟩) (h_11 : vs_11[11]? = some (.ref pt_11)) (r_11 : cfOk vs_11 = true) (v_11 : (cc_11 != pt_11) = true) (n_11 : K.lookup pt_11 = none)
    {f_12 : Addr} {od_12 an_12 : Option Addr} {sl_12 : Array (Option Value)} {oc_12 kV_12 dc_12 pm_12 ct_12 : Value} {cd_12 : Value}
    (a_12 : PySem.W.nsIn K mainGlobals "_law_mixed" = some (some (.ref f_12))) (l_12 : K.lookup f_12 = some ⟨oc_12, od_12, .func (PySem.W.fnOf "_law_mixed" "_law_mixed" (defArgs s__law_mixed) (defBody s__law_mixed) (defScope s__law_mixed) .none kV_12 dc_12 pm_12 an_12 cd_12 ct_12), sl_12⟩) (c_12 : PySem.W.codeIn K cd_12 "_law_mixed" = true) (k_12 : PySem.W.keepIn K (.ref f_12) = true)
    {f_13 : Addr} {od_13 an_13 : Option Addr} {sl_13 : Array (Option Value)} {oc_13 kV_13 dc_13 pm_13 ct_13 : Value} {cd_13 : Value}
    (a_13 : PySem.W.nsIn K mainGlobals "_law_cell_at" = some (some (.ref f_13))) (l_13 : K.lookup f_13 = some ⟨oc_13, od_13, .func (PySem.W.fnOf "_law_cell_at" "_law_cell_at" (defArgs s__law_cell_at) (defBody s__law_cell_at) (defScope s__law_cell_at) .none kV_13 dc_13 pm_13 an_13 cd_13 ct_13), sl_13⟩) (c_13 : PySem.W.codeIn K cd_13 "_law_cell_at" = true) (k_13 : PySem.W.keepIn K (.ref f_13) = true)
    {f_14 : Addr} {od_14 an_14 : Option Addr} {sl_14 : Array (Option Value)} {oc_14 kV_14 dc_14 pm_14 ct_14 : Value} {cd_14 : Value}
    (a_14 : PySem.W.nsIn K mainGlobals "_law_cells" = some (some (.ref f_14))) (l_14 : K.lookup f_14 = some ⟨oc_14, od_14, .func (PySem.W.fnOf "_law_cells" "_law_cells" (defArgs s__law_cells) (defBody s__law_cells) (defScope s__law_cells) .none kV_14 dc_14 pm_14 an_14 cd_14 ct_14), sl_14⟩) (c_14 : PySem.W.codeIn K cd_14 "_law_cells" = true) (k_14 : PySem.W.keepIn K (.ref f_14) = true)
    {f_15 : Addr} {od_15 an_15 : Option Addr} {sl_15 : Array (Option Value)} {oc_15 kV_15 dc_15 pm_15 ct_15 : Value} {cd_15 : Value}
    (a_15 : PySem.W.nsIn K mainGlobals "_law_sign_by" = some (some (.ref f_15))) (l_15 : K.lookup f_15 = some ⟨oc_15, od_15, .func (PySem.W.fnOf "_law_sign_by" "_law_sign_by" (defArgs s__law_sign_by) (defBody s__law_sign_by) (defScope s__law_sign_by) .none kV_15 dc_15 pm_15 an_15 cd_15 ct_15), sl_15⟩) (c_15 : PySem.W.codeIn K cd_15 "_law_sign_by" = true) (k_15 : PySem.W.keepIn K (.ref f_15) = true)
    {f_16 : Addr} {od_16 an_16 : Option Addr} {sl_16 : Array (Option Value)} {oc_16 kV_16 dc_16 pm_16 ct_16 : Value} {cd_16 : Value}
    (a_16 : PySem.W.nsIn K mainGlobals "_law_word_by" = some (some (.ref f_16))) (l_16 : K.lookup f_16 = some ⟨oc_16, od_16, .func (PySem.W.fnOf "_law_word_by" "_law_word_by" (defArgs s__law_word_by) (defBody s__law_word_by) (defScope s__law_word_by) .none kV_16 dc_16 pm_16 an_16 cd_16 ct_16), sl_16⟩) (c_16 : PySem.W.codeIn K cd_16 "_law_word_by" = true) (k_16 : PySem.W.keepIn K (.ref f_16) = true)
    {f_17 : Addr} {od_17 an_17 : Option Addr} {sl_17 : Array (Option Value)} {oc_17 kV_17 dc_17 pm_17 ct_17 : Value} {cd_17 : Value}
    (a_17 : PySem.W.nsIn K mainGlobals "_law_words_by" = some (some (.ref f_17))) (l_17 : K.lookup f_17 = some ⟨oc_17, od_17, .func (PySem.W.fnOf "_law_words_by" "_law_words_by" (defArgs s__law_words_by) (defBody s__law_words_by) (defScope s__law_words_by) .none kV_17 dc_17 pm_17 an_17 cd_17 ct_17), sl_17⟩) (c_17 : PySem.W.codeIn K cd_17 "_law_words_by" = true) (k_17 : PySem.W.keepIn K (.ref f_17) = true)
    {f_18 : Addr} {od_18 an_18 : Option Addr} {sl_18 : Array (Option Value)} {oc_18 kV_18 dc_18 pm_18 ct_18 : Value} {cd_18 : Value}
    (a_18 : PySem.W.nsIn K mainGlobals "_law_role" = some (some (.ref f_18))) (l_18 : K.lookup f_18 = some ⟨oc_18, od_18, .func (PySem.W.fnOf "_law_role" "_law_role" (defArgs s__law_role) (defBody s__law_role) (defScope s__law_role) .none kV_18 dc_18 pm_18 an_18 cd_18 ct_18), sl_18⟩) (c_18 : PySem.W.codeIn K cd_18 "_law_role" = true) (k_18 : PySem.W.keepIn K (.ref f_18) = true)
    {f_19 : Addr} {od_19 an_19 : Option Addr} {sl_19 : Array (Option Value)} {oc_19 kV_19 dc_19 pm_19 ct_19 : Value} {cd_19 : Value}
    (a_19 : PySem.W.nsIn K mainGlobals "_law_clash" = some (some (.ref f_19))) (l_19 : K.lookup f_19 = some ⟨oc_19, od_19, .func (PySem.W.fnOf "_law_clash" "_law_clash" (defArgs s__law_clash) (defBody s__law_clash) (defScope s__law_clash) .none kV_19 dc_19 pm_19 an_19 cd_19 ct_19), sl_19⟩) (c_19 : PySem.W.codeIn K cd_19 "_law_clash" = true) (k_19 : PySem.W.keepIn K (.ref f_19) = true)
    {f_20 : Addr} {od_20 an_20 : Option Addr} {sl_20 : Array (Option Value)} {oc_20 kV_20 dc_20 pm_20 ct_20 : Value} {cd_20 : Value}
    (a_20 : PySem.W.nsIn K mainGlobals "_law_telling_by" = some (some (.ref f_20))) (l_20 : K.lookup f_20 = some ⟨oc_20, od_20, .func (PySem.W.fnOf "_law_telling_by" "_law_telling_by" (defArgs s__law_telling_by) (defBody s__law_telling_by) (defScope s__law_telling_by) .none kV_20 dc_20 pm_20 an_20 cd_20 ct_20), sl_20⟩) (c_20 : PySem.W.codeIn K cd_20 "_law_telling_by" = true) (k_20 : PySem.W.keepIn K (.ref f_20) = true)
    {f_21 : Addr} {od_21 an_21 : Option Addr} {sl_21 : Array (Option Value)} {oc_21 kV_21 dc_21 pm_21 ct_21 : Value} {cd_21 : Value}
    (a_21 : PySem.W.nsIn K mainGlobals "_law_table_by" = some (some (.ref f_21))) (l_21 : K.lookup f_21 = some ⟨oc_21, od_21, .func (PySem.W.fnOf "_law_table_by" "_law_table_by" (defArgs s__law_table_by) (defBody s__law_table_by) (defScope s__law_table_by) .none kV_21 dc_21 pm_21 an_21 cd_21 ct_21), sl_21⟩) (c_21 : PySem.W.codeIn K cd_21 "_law_table_by" = true) (k_21 : PySem.W.keepIn K (.ref f_21) = true)
    {f_22 : Addr} {od_22 an_22 : Option Addr} {sl_22 : Array (Option Value)} {oc_22 kV_22 dc_22 pm_22 ct_22 : Value} {cd_22 : Value}
    (a_22 : PySem.W.nsIn K mainGlobals "_law_name_by" = some (some (.ref f_22))) (l_22 : K.lookup f_22 = some ⟨oc_22, od_22, .func (PySem.W.fnOf "_law_name_by" "_law_name_by" (defArgs s__law_name_by) (defBody s__law_name_by) (defScope s__law_name_by) .none kV_22 dc_22 pm_22 an_22 cd_22 ct_22), sl_22⟩) (c_22 : PySem.W.codeIn K cd_22 "_law_name_by" = true) (k_22 : PySem.W.keepIn K (.ref f_22) = true)
    {f_23 : Addr} {od_23 an_23 : Option Addr} {sl_23 : Array (Option Value)} {oc_23 kV_23 dc_23 pm_23 ct_23 : Value} {cd_23 : Value}
    (a_23 : PySem.W.nsIn K mainGlobals "_law_grown_by" = some (some (.ref f_23))) (l_23 : K.lookup f_23 = some ⟨oc_23, od_23, .func (PySem.W.fnOf "_law_grown_by" "_law_grown_by" (defArgs s__law_grown_by) (defBody s__law_grown_by) (defScope s__law_grown_by) .none kV_23 dc_23 pm_23 an_23 cd_23 ct_23), sl_23⟩) (c_23 : PySem.W.codeIn K cd_23 "_law_grown_by" = true) (k_23 : PySem.W.keepIn K (.ref f_23) = true)
    {f_24 : Addr} {od_24 an_24 : Option Addr} {sl_24 : Array (Option Value)} {oc_24 kV_24 dc_24 pm_24 ct_24 : Value} {cd_24 : Value}
    (a_24 : PySem.W.nsIn K mainGlobals "_law_tree_by" = some (some (.ref f_24))) (l_24 : K.lookup f_24 = some ⟨oc_24, od_24, .func (PySem.W.fnOf "_law_tree_by" "_law_tree_by" (defArgs s__law_tree_by) (defBody s__law_tree_by) (defScope s__law_tree_by) .none kV_24 dc_24 pm_24 an_24 cd_24 ct_24), sl_24⟩) (c_24 : PySem.W.codeIn K cd_24 "_law_tree_by" = true) (k_24 : PySem.W.keepIn K (.ref f_24) = true)
    {f_25 : Addr} {od_25 an_25 : Option Addr} {sl_25 : Array (Option Value)} {oc_25 kV_25 dc_25 pm_25 ct_25 : Value} {cd_25 : Value}
    (a_25 : PySem.W.nsIn K mainGlobals "_law_spoiled" = some (some (.ref f_25))) (l_25 : K.lookup f_25 = some ⟨oc_25, od_25, .func (PySem.W.fnOf "_law_spoiled" "_law_spoiled" (defArgs s__law_spoiled) (defBody s__law_spoiled) (defScope s__law_spoiled) .none kV_25 dc_25 pm_25 an_25 cd_25 ct_25), sl_25⟩) (c_25 : PySem.W.codeIn K cd_25 "_law_spoiled" = true) (k_25 : PySem.W.keepIn K (.ref f_25) = true)
    {f_26 : Addr} {od_26 an_26 : Option Addr} {sl_26 : Array (Option Value)} {oc_26 kV_26 dc_26 pm_26 ct_26 : Value} {cd_26 : Value}
    (a_26 : PySem.W.nsIn K mainGlobals "law" = some (some (.ref f_26))) (l_26 : K.lookup f_26 = some ⟨oc_26, od_26, .func (PySem.W.fnOf "law" "law" (defArgs s_law) (defBody s_law) (defScope s_law) .none kV_26 dc_26 pm_26 an_26 cd_26 ct_26), sl_26⟩) (c_26 : PySem.W.codeIn K cd_26 "law" = true) (k_26 : PySem.W.keepIn K (.ref f_26) = true)
    (z_0 : PySem.W.nsIn K mainGlobals "all" = some none)
    (z_1 : PySem.W.nsIn K mainGlobals "bool" = some none)
    (z_2 : PySem.W.nsIn K mainGlobals "int" = some none)
    (z_3 : PySem.W.nsIn K mainGlobals "isinstance" = some none)
    (z_4 : PySem.W.nsIn K mainGlobals "len" = some none)
    (z_5 : PySem.W.nsIn K mainGlobals "list" = some none)
    (z_6 : PySem.W.nsIn K mainGlobals "min" = some none)
    (z_7 : PySem.W.nsIn K mainGlobals "range" = some none)
    (z_8 : PySem.W.nsIn K mainGlobals "str" = some none)
    (z_9 : PySem.W.nsIn K mainGlobals "tuple" = some none)
    {t_0 : Tok} (y_0 : PySem.W.nsIn K mainGlobals "KIND" = some (some (.int 1 t_0)))
    {t_1 : Tok} (y_1 : PySem.W.nsIn K mainGlobals "LONGEST" = some (some (.int 8 t_1)))
    {t_2 : Tok} (y_2 : PySem.W.nsIn K mainGlobals "NEAR" = some (some (.int 64 t_2)))
    {t_3 : Tok} (y_3 : PySem.W.nsIn K mainGlobals "SINGLES" = some (some (.str "();" t_3)))
    {t_4 : Tok} (y_4 : PySem.W.nsIn K mainGlobals "WORD" = some (some (.int 3 t_4)))
    (hlaw : ∀ ns : List Int, ns.length ≤ 63 → (∀ z ∈ ns, Builtin.Int.intBits z ≤ 1048576) → ∀ m, m = .fz ∨ m = .cl → ∃ ρ, m_law [scrC ns m] = .ok ((.bool true, .cl), ρ)) : LamX.LawAtS l w K (L2.CX l.prog w) 7 63 "_law_script" mg fa h := by
  have e := hfa.symm.trans (PySem.W.mg_of X G a_26)
  cases e
  have d_0 := codeHdIn_of u_0 h_0 r_0 v_0
  have F_0 := fun_mk (st := s_is_word) l_0 c_0 k_0
  have F_1 := fun_mk (st := s_is_inner) l_1 c_1 k_1
  have F_2 := fun_mk (st := s_is_ahead) l_2 c_2 k_2
  have F_3 := fun_mk (st := s_role) l_3 c_3 k_3
  have F_4 := fun_mk (st := s_is_name) l_4 c_4 k_4
  have F_5 := fun_mk (st := s_top) l_5 c_5 k_5
  have F_6 := fun_mk (st := s_form) l_6 c_6 k_6
  have F_7 := fun_mk (st := s_operand_count) l_7 c_7 k_7
  have F_8 := fun_mk (st := s_fits) l_8 c_8 k_8
  have F_9 := fun_mk (st := s_operands_below) l_9 c_9 k_9
  have F_10 := fun_mk (st := s_without_repeats) l_10 c_10 k_10
  have d_11 := codeHdIn_of u_11 h_11 r_11 v_11
  have F_11 := fun_mk (st := s_belongs) l_11 c_11 k_11
  have F_12 := fun_mk (st := s__law_mixed) l_12 c_12 k_12
  have F_13 := fun_mk (st := s__law_cell_at) l_13 c_13 k_13
  have F_14 := fun_mk (st := s__law_cells) l_14 c_14 k_14
  have F_15 := fun_mk (st := s__law_sign_by) l_15 c_15 k_15
  have F_16 := fun_mk (st := s__law_word_by) l_16 c_16 k_16
  have F_17 := fun_mk (st := s__law_words_by) l_17 c_17 k_17
  have F_18 := fun_mk (st := s__law_role) l_18 c_18 k_18
  have F_19 := fun_mk (st := s__law_clash) l_19 c_19 k_19
  have F_20 := fun_mk (st := s__law_telling_by) l_20 c_20 k_20
  have F_21 := fun_mk (st := s__law_table_by) l_21 c_21 k_21
  have F_22 := fun_mk (st := s__law_name_by) l_22 c_22 k_22
  have F_23 := fun_mk (st := s__law_grown_by) l_23 c_23 k_23
  have F_24 := fun_mk (st := s__law_tree_by) l_24 c_24 k_24
  have F_25 := fun_mk (st := s__law_spoiled) l_25 c_25 k_25
  have F_26 := fun_mk (st := s_law) l_26 c_26 k_26
  have hB : BltIn mg := fun x hx => by
    simp only [List.not_mem_nil, List.mem_cons, or_false] at hx
    rcases hx with rfl | rfl | rfl | rfl | rfl | rfl | rfl | rfl | rfl | rfl
    · exact PySem.W.mg_none_of X G z_0
    · exact PySem.W.mg_none_of X G z_1
    · exact PySem.W.mg_none_of X G z_2
    · exact PySem.W.mg_none_of X G z_3
    · exact PySem.W.mg_none_of X G z_4
    · exact PySem.W.mg_none_of X G z_5
    · exact PySem.W.mg_none_of X G z_6
    · exact PySem.W.mg_none_of X G z_7
    · exact PySem.W.mg_none_of X G z_8
    · exact PySem.W.mg_none_of X G z_9
  have g_KIND := Exists.intro (p := fun t => mg "KIND" = some (.int 1 t)) _ (PySem.W.mg_of X G y_0)
  have g_LONGEST := Exists.intro (p := fun t => mg "LONGEST" = some (.int 8 t)) _ (PySem.W.mg_of X G y_1)
  have g_NEAR := Exists.intro (p := fun t => mg "NEAR" = some (.int 64 t)) _ (PySem.W.mg_of X G y_2)
  have g_SINGLES := Exists.intro (p := fun t => mg "SINGLES" = some (.str "();" t)) _ (PySem.W.mg_of X G y_3)
  have g_WORD := Exists.intro (p := fun t => mg "WORD" = some (.int 3 t)) _ (PySem.W.mg_of X G y_4)
  refine ⟨PySem.W.fnOf "law" "law" (defArgs s_law) (defBody s_law) (defScope s_law) .none kV_26 dc_26 pm_26 an_26 cd_26 ct_26, [(cc_0, pt_0), (cc_11, pt_11)], spM { K := K, T := [pt_0, pt_11], mg := mg, ios := [] } 1 m_law, ?_, ?_, ?_, fun s v => .of_eq rfl, fun H a ns h1 h2 hH hS => law_entry (fun p hp => ?_) hS (hlaw ns h1 h2), fun base kb nb tb => ?_⟩
  · exact fun p hp => by
      simp only [List.not_mem_nil, List.mem_cons, or_false] at hp
      rcases hp with rfl | rfl
      · exact own_tab (own _ (by simp) _ (PySem.W.mg_of X G a_0)) l_0 rfl rfl d_0
      · exact own_tab (own _ (by simp) _ (PySem.W.mg_of X G a_11)) l_11 rfl rfl d_11
  · exact fun p hp => by
      simp only [List.not_mem_nil, List.mem_cons, or_false] at hp
      rcases hp with rfl | rfl
      · exact n_0
      · exact n_11
  · exact fun p hp => by
      simp only [List.not_mem_nil, List.mem_cons, or_false] at hp
      rcases hp with rfl | rfl
      · exact PySem.W.codeHd_of_K X d_0
      · exact PySem.W.codeHd_of_K X d_11
  · simp only [List.not_mem_nil, List.mem_cons, or_false] at hp
    rcases hp with hp | hp
    · rw [hp]; exact hH (cc_0, pt_0) (by simp)
    · rw [hp]; exact hH (cc_11, pt_11) (by simp)
  have e_is_inner : EltF l.prog w K mg base "is_inner" "sign" (inB "();") := eltF_of F_1 sc_is_inner (F_1.binds (ps := ["sign"]) fun _ _ _ _ _ _ us hl => match us, hl with | [_], _ => rfl) (PySem.W.mg_of X G a_1) (body_inner rfl rfl rfl g_SINGLES rfl (by decide)) rfl
  have c_is_word : Cal l.prog w K mg base [pt_0, pt_11] "is_word" 1 1 m_is_word := .of rfl F_0 (PySem.W.mg_of X G a_0) (F_0.binds (ps := ["thing"]) fun _ _ _ _ _ _ us hl => match us, hl with | [_], _ => rfl) (fn_is_word (P := l.prog) (w := w) (base := base) (T := [pt_0, pt_11]) hB g_LONGEST F_0 (c := cc_0) (Pt := pt_0) (by simp) (tabB_of (tb (cc_0, pt_0) (by simp))) rfl e_is_inner)
  have c_is_inner : Cal l.prog w K mg base [pt_0, pt_11] "is_inner" 1 1 m_is_inner := .of rfl F_1 (PySem.W.mg_of X G a_1) (F_1.binds (ps := ["sign"]) fun _ _ _ _ _ _ us hl => match us, hl with | [_], _ => rfl) (fn_is_inner (P := l.prog) (w := w) (base := base) (T := [pt_0, pt_11]) hB g_SINGLES F_1)
  have c_is_ahead : Cal l.prog w K mg base [pt_0, pt_11] "is_ahead" 1 1 m_is_ahead := .of rfl F_2 (PySem.W.mg_of X G a_2) (F_2.binds (ps := ["telling"]) fun _ _ _ _ _ _ us hl => match us, hl with | [_], _ => rfl) (fn_is_ahead (P := l.prog) (w := w) (base := base) (T := [pt_0, pt_11]) hB g_KIND F_2)
  have c_role : Cal l.prog w K mg base [pt_0, pt_11] "role" 3 2 m_role := .of rfl F_3 (PySem.W.mg_of X G a_3) (F_3.binds (ps := ["table", "word", "ahead"]) fun _ _ _ _ _ _ us hl => match us, hl with | [_, _, _], _ => rfl) (fn_role (P := l.prog) (w := w) (base := base) (T := [pt_0, pt_11]) hB g_WORD c_is_ahead F_3)
  have c_is_name : Cal l.prog w K mg base [pt_0, pt_11] "is_name" 2 3 m_is_name := .of rfl F_4 (PySem.W.mg_of X G a_4) (F_4.binds (ps := ["table", "thing"]) fun _ _ _ _ _ _ us hl => match us, hl with | [_, _], _ => rfl) (fn_is_name (P := l.prog) (w := w) (base := base) (T := [pt_0, pt_11]) hB c_is_word c_role F_4)
  have c_top : Cal l.prog w K mg base [pt_0, pt_11] "top" 2 3 m_top := .of rfl F_5 (PySem.W.mg_of X G a_5) (F_5.binds (ps := ["table", "tree"]) fun _ _ _ _ _ _ us hl => match us, hl with | [_, _], _ => rfl) (fn_top (P := l.prog) (w := w) (base := base) (T := [pt_0, pt_11]) hB c_role F_5)
  have c_form : Cal l.prog w K mg base [pt_0, pt_11] "form" 1 1 m_form := .of rfl F_6 (PySem.W.mg_of X G a_6) (F_6.binds (ps := ["telling"]) fun _ _ _ _ _ _ us hl => match us, hl with | [_], _ => rfl) (fn_form (P := l.prog) (w := w) (base := base) (T := [pt_0, pt_11]) hB g_KIND F_6)
  have c_operand_count : Cal l.prog w K mg base [pt_0, pt_11] "operand_count" 1 2 m_operand_count := .of rfl F_7 (PySem.W.mg_of X G a_7) (F_7.binds (ps := ["telling"]) fun _ _ _ _ _ _ us hl => match us, hl with | [_], _ => rfl) (fn_operand_count (P := l.prog) (w := w) (base := base) (T := [pt_0, pt_11]) hB c_form F_7)
  have c_fits : Cal l.prog w K mg base [pt_0, pt_11] "fits" 2 4 m_fits := .of rfl F_8 (PySem.W.mg_of X G a_8) (F_8.binds (ps := ["table", "thing"]) fun _ _ _ _ _ _ us hl => match us, hl with | [_, _], _ => rfl) (fn_fits (P := l.prog) (w := w) (base := base) (T := [pt_0, pt_11]) hB c_is_name c_top c_form c_operand_count F_8)
  have c_operands_below : Cal l.prog w K mg base [pt_0, pt_11] "operands_below" 1 1 m_operands_below := .of rfl F_9 (PySem.W.mg_of X G a_9) (F_9.binds (ps := ["level"]) fun _ _ _ _ _ _ us hl => match us, hl with | [_], _ => rfl) (fn_operands_below (P := l.prog) (w := w) (base := base) (T := [pt_0, pt_11]) hB F_9)
  have c_without_repeats : Cal l.prog w K mg base [pt_0, pt_11] "without_repeats" 1 1 m_without_repeats := .of rfl F_10 (PySem.W.mg_of X G a_10) (F_10.binds (ps := ["level"]) fun _ _ _ _ _ _ us hl => match us, hl with | [_], _ => rfl) (fn_without_repeats (P := l.prog) (w := w) (base := base) (T := [pt_0, pt_11]) hB g_NEAR F_10)
  have c_belongs : Cal l.prog w K mg base [pt_0, pt_11] "belongs" 2 6 m_belongs := .of rfl F_11 (PySem.W.mg_of X G a_11) (F_11.binds (ps := ["table", "tree"]) fun _ _ _ _ _ _ us hl => match us, hl with | [_, _], _ => rfl) (fn_belongs (P := l.prog) (w := w) (base := base) (T := [pt_0, pt_11]) hB c_fits c_operands_below c_without_repeats F_11 (c := cc_11) (Pt := pt_11) (by simp) (tabB_of (tb (cc_11, pt_11) (by simp))) rfl)
  have c__law_mixed : Cal l.prog w K mg base [pt_0, pt_11] "_law_mixed" 2 1 m__law_mixed := .of rfl F_12 (PySem.W.mg_of X G a_12) (F_12.binds (ps := ["_law_cell", "_law_k"]) fun _ _ _ _ _ _ us hl => match us, hl with | [_, _], _ => rfl) (fn__law_mixed (P := l.prog) (w := w) (base := base) (T := [pt_0, pt_11]) hB F_12)
  have c__law_cell_at : Cal l.prog w K mg base [pt_0, pt_11] "_law_cell_at" 2 2 m__law_cell_at := .of rfl F_13 (PySem.W.mg_of X G a_13) (F_13.binds (ps := ["_law_script", "_law_k"]) fun _ _ _ _ _ _ us hl => match us, hl with | [_, _], _ => rfl) (fn__law_cell_at (P := l.prog) (w := w) (base := base) (T := [pt_0, pt_11]) hB c__law_mixed F_13)
  have c__law_cells : Cal l.prog w K mg base [pt_0, pt_11] "_law_cells" 3 2 m__law_cells := .of rfl F_14 (PySem.W.mg_of X G a_14) (F_14.binds (ps := ["_law_script", "_law_at", "_law_end"]) fun _ _ _ _ _ _ us hl => match us, hl with | [_, _, _], _ => rfl) (fn__law_cells (P := l.prog) (w := w) (base := base) (T := [pt_0, pt_11]) hB c__law_mixed F_14)
  have c__law_sign_by : Cal l.prog w K mg base [pt_0, pt_11] "_law_sign_by" 1 1 m__law_sign_by := .of rfl F_15 (PySem.W.mg_of X G a_15) (F_15.binds (ps := ["_law_cell"]) fun _ _ _ _ _ _ us hl => match us, hl with | [_], _ => rfl) (fn__law_sign_by (P := l.prog) (w := w) (base := base) (T := [pt_0, pt_11]) hB F_15)
  have c__law_word_by : Cal l.prog w K mg base [pt_0, pt_11] "_law_word_by" 2 2 m__law_word_by := .of rfl F_16 (PySem.W.mg_of X G a_16) (F_16.binds (ps := ["_law_cell", "_law_k"]) fun _ _ _ _ _ _ us hl => match us, hl with | [_, _], _ => rfl) (fn__law_word_by (P := l.prog) (w := w) (base := base) (T := [pt_0, pt_11]) hB c__law_sign_by F_16)
  have c__law_words_by : Cal l.prog w K mg base [pt_0, pt_11] "_law_words_by" 1 3 m__law_words_by := .of rfl F_17 (PySem.W.mg_of X G a_17) (F_17.binds (ps := ["_law_cell"]) fun _ _ _ _ _ _ us hl => match us, hl with | [_], _ => rfl) (fn__law_words_by (P := l.prog) (w := w) (base := base) (T := [pt_0, pt_11]) hB c__law_word_by F_17)
  have c__law_role : Cal l.prog w K mg base [pt_0, pt_11] "_law_role" 3 1 m__law_role := .of rfl F_18 (PySem.W.mg_of X G a_18) (F_18.binds (ps := ["_law_table", "_law_word", "_law_ahead"]) fun _ _ _ _ _ _ us hl => match us, hl with | [_, _, _], _ => rfl) (fn__law_role (P := l.prog) (w := w) (base := base) (T := [pt_0, pt_11]) hB F_18)
  have c__law_clash : Cal l.prog w K mg base [pt_0, pt_11] "_law_clash" 2 2 m__law_clash := .of rfl F_19 (PySem.W.mg_of X G a_19) (F_19.binds (ps := ["_law_table", "_law_telling"]) fun _ _ _ _ _ _ us hl => match us, hl with | [_, _], _ => rfl) (fn__law_clash (P := l.prog) (w := w) (base := base) (T := [pt_0, pt_11]) hB c__law_role F_19)
  have c__law_telling_by : Cal l.prog w K mg base [pt_0, pt_11] "_law_telling_by" 2 1 m__law_telling_by := .of rfl F_20 (PySem.W.mg_of X G a_20) (F_20.binds (ps := ["_law_cell", "_law_words"]) fun _ _ _ _ _ _ us hl => match us, hl with | [_, _], _ => rfl) (fn__law_telling_by (P := l.prog) (w := w) (base := base) (T := [pt_0, pt_11]) hB F_20)
  have c__law_table_by : Cal l.prog w K mg base [pt_0, pt_11] "_law_table_by" 2 3 m__law_table_by := .of rfl F_21 (PySem.W.mg_of X G a_21) (F_21.binds (ps := ["_law_cells_here", "_law_words"]) fun _ _ _ _ _ _ us hl => match us, hl with | [_, _], _ => rfl) (fn__law_table_by (P := l.prog) (w := w) (base := base) (T := [pt_0, pt_11]) hB c__law_telling_by c__law_clash F_21)
  have c__law_name_by : Cal l.prog w K mg base [pt_0, pt_11] "_law_name_by" 3 2 m__law_name_by := .of rfl F_22 (PySem.W.mg_of X G a_22) (F_22.binds (ps := ["_law_table", "_law_cell", "_law_words"]) fun _ _ _ _ _ _ us hl => match us, hl with | [_, _, _], _ => rfl) (fn__law_name_by (P := l.prog) (w := w) (base := base) (T := [pt_0, pt_11]) hB c__law_role F_22)
  have c__law_grown_by : CalIo l.prog w K mg base [pt_0, pt_11] "_law_grown_by" 4 3 [1] m__law_grown_by := .of rfl F_23 (PySem.W.mg_of X G a_23) (F_23.binds (ps := ["_law_table", "_law_trees", "_law_cell", "_law_words"]) fun _ _ _ _ _ _ us hl => match us, hl with | [_, _, _, _], _ => rfl) (fn__law_grown_by (P := l.prog) (w := w) (base := base) (T := [pt_0, pt_11]) hB c__law_name_by F_23)
  have c__law_tree_by : Cal l.prog w K mg base [pt_0, pt_11] "_law_tree_by" 3 4 m__law_tree_by := .of rfl F_24 (PySem.W.mg_of X G a_24) (F_24.binds (ps := ["_law_table", "_law_cells_here", "_law_words"]) fun _ _ _ _ _ _ us hl => match us, hl with | [_, _, _], _ => rfl) (fn__law_tree_by (P := l.prog) (w := w) (base := base) (T := [pt_0, pt_11]) hB c__law_name_by c__law_grown_by F_24)
  have c__law_spoiled : Cal l.prog w K mg base [pt_0, pt_11] "_law_spoiled" 4 1 m__law_spoiled := .of rfl F_25 (PySem.W.mg_of X G a_25) (F_25.binds (ps := ["_law_table", "_law_tree", "_law_words", "_law_cell"]) fun _ _ _ _ _ _ us hl => match us, hl with | [_, _, _, _], _ => rfl) (fn__law_spoiled (P := l.prog) (w := w) (base := base) (T := [pt_0, pt_11]) hB F_25)
  exact fn_law (P := l.prog) (w := w) (base := base) (T := [pt_0, pt_11]) hB c__law_words_by c__law_cell_at c__law_table_by c__law_cells c__law_tree_by c__law_spoiled c_belongs F_26
end
end V_k06

set_option Elab.async false
set_option linter.all false
set_option maxRecDepth 100000
set_option maxHeartbeats 1234567
namespace V_k06
open PySem PySem.Spec
open PyProof.Rows L2 Eng
def mixI (a k : Int) : Int := let l := (a + 7919 * k) * 48271 % 2147483647; l * l % 2147483629
theorem mixed_ok (a k : Int) : retR (m__law_mixed [.val (.int a), .val (.int k)]) = .ok (.int (mixI a k), .cl) := by
  have h1 : mulOk 7919 k = true := by simp [runB, fin, sSeq, oSeq, sSet, setK, sIf, sRet, sRetOwn, sRetN, sNx, mBin, mVar, mK, mCmp, mVal, mChain, mBool, mAnd, mOr, mNot, mAndV, mOrV, mIf, mNil, mCons, mCallB, mUn, mIsi, mTup, mLst, mStrM, mSl, mNoP, mPart, mCall_eq, callR_ok, retR_ok, retR_er, retR_no, toCell, callMd, clA, ofO, Rs.bind, hAdd, hSub, hMul, hMod, hIx, hLt, hLe, hGt, hGe, hLen, hInt, hStr, itMode, isCl, itCl, okEl, shr, sFor, forL, mulOk]
  have h2 : mulOk (a + 7919 * k) 48271 = true := by simp [runB, fin, sSeq, oSeq, sSet, setK, sIf, sRet, sRetOwn, sRetN, sNx, mBin, mVar, mK, mCmp, mVal, mChain, mBool, mAnd, mOr, mNot, mAndV, mOrV, mIf, mNil, mCons, mCallB, mUn, mIsi, mTup, mLst, mStrM, mSl, mNoP, mPart, mCall_eq, callR_ok, retR_ok, retR_er, retR_no, toCell, callMd, clA, ofO, Rs.bind, hAdd, hSub, hMul, hMod, hIx, hLt, hLe, hGt, hGe, hLen, hInt, hStr, itMode, isCl, itCl, okEl, shr, sFor, forL, mulOk]
  have h3 : mulOk ((a + 7919 * k) * 48271 % 2147483647) ((a + 7919 * k) * 48271 % 2147483647) = true := by
    have p1 := Int.emod_nonneg ((a + 7919 * k) * 48271) (show (2147483647 : Int) ≠ 0 by decide)
    have p2 := Int.emod_lt_of_pos ((a + 7919 * k) * 48271) (show (0 : Int) < 2147483647 by decide)
    unfold mulOk
    simp only [Bool.or_eq_true, Bool.and_eq_true, decide_eq_true_eq]
    left; constructor <;> omega
  simp [runB, fin, sSeq, oSeq, sSet, setK, sIf, sRet, sRetOwn, sRetN, sNx, mBin, mVar, mK, mCmp, mVal, mChain, mBool, mAnd, mOr, mNot, mAndV, mOrV, mIf, mNil, mCons, mCallB, mUn, mIsi, mTup, mLst, mStrM, mSl, mNoP, mPart, mCall_eq, callR_ok, retR_ok, retR_er, retR_no, toCell, callMd, clA, ofO, Rs.bind, hAdd, hSub, hMul, hMod, hIx, hLt, hLe, hGt, hGe, hLen, hInt, hStr, itMode, isCl, itCl, okEl, shr, sFor, forL, m__law_mixed, b__law_mixed, b__law_mixed_1, b__law_mixed_2, h1, h2, h3, mixI]
theorem mixI_nn (a k : Int) : 0 ≤ mixI a k := Int.emod_nonneg _ (by decide)
def cellI (ns : List Int) (k : Nat) : Int := match ns[k]? with
  | some a => mixI a k
  | none => 0
theorem cellI_nn (ns : List Int) (k : Nat) : 0 ≤ cellI ns k := by
  unfold cellI
  split
  · exact mixI_nn _ _
  · exact Int.le_refl 0
theorem cell_at_ok {ns : List Int} {m : Md} (hm : m = .fz ∨ m = .cl) (k : Nat) : retR (m__law_cell_at [scrC ns m, .val (.int k)]) = .ok (.int (cellI ns k), .cl) := by
  have key : retR (m__law_cell_at [scrC ns m, .val (.int k)]) = if (k : Int) < (ns.length : Int) then (match atI (ns.map PyData.int) (k : Int) with | some (.int a) => .ok (.int (mixI a k), .cl) | _ => .no) else .ok (.int 0, .cl) := by
    by_cases h : (k : Int) < (ns.length : Int)
    · rw [if_pos h]
      have hk : k < ns.length := by omega
      have e : atI (ns.map PyData.int) (k : Int) = some (.int ns[k]) := atI_nat (by rw [List.getElem?_map, List.getElem?_eq_getElem hk]; rfl)
      rw [e]
      have mx := mixed_ok ns[k] k
      rcases hm with rfl | rfl <;> simp [runB, fin, sSeq, oSeq, sSet, setK, sIf, sRet, sRetOwn, sRetN, sNx, mBin, mVar, mK, mCmp, mVal, mChain, mBool, mAnd, mOr, mNot, mAndV, mOrV, mIf, mNil, mCons, mCallB, mUn, mIsi, mTup, mLst, mStrM, mSl, mNoP, mPart, mCall_eq, callR_ok, retR_ok, retR_er, retR_no, toCell, callMd, clA, ofO, Rs.bind, hAdd, hSub, hMul, hMod, hIx, hLt, hLe, hGt, hGe, hLen, hInt, hStr, itMode, isCl, itCl, okEl, shr, sFor, forL, m__law_cell_at, b__law_cell_at, b__law_cell_at_1, b__law_cell_at_1_1, b__law_cell_at_2, scrC, h, e, lf, mx]
    · rw [if_neg h]
      rcases hm with rfl | rfl <;> simp [runB, fin, sSeq, oSeq, sSet, setK, sIf, sRet, sRetOwn, sRetN, sNx, mBin, mVar, mK, mCmp, mVal, mChain, mBool, mAnd, mOr, mNot, mAndV, mOrV, mIf, mNil, mCons, mCallB, mUn, mIsi, mTup, mLst, mStrM, mSl, mNoP, mPart, mCall_eq, callR_ok, retR_ok, retR_er, retR_no, toCell, callMd, clA, ofO, Rs.bind, hAdd, hSub, hMul, hMod, hIx, hLt, hLe, hGt, hGe, hLen, hInt, hStr, itMode, isCl, itCl, okEl, shr, sFor, forL, m__law_cell_at, b__law_cell_at, b__law_cell_at_1, b__law_cell_at_1_1, b__law_cell_at_2, scrC, h]
  rw [key]
  by_cases h : (k : Int) < (ns.length : Int)
  · rw [if_pos h]
    have hk : k < ns.length := by omega
    have e : atI (ns.map PyData.int) (k : Int) = some (.int ns[k]) := atI_nat (by rw [List.getElem?_map, List.getElem?_eq_getElem hk]; rfl)
    rw [e]
    unfold cellI
    rw [List.getElem?_eq_getElem hk]
  · rw [if_neg h]
    unfold cellI
    rw [List.getElem?_eq_none (show _ by omega)]
/-! signs -/
def legal : List Nat := ("!\"#$&'*+,-./0123456789:<=>?@ABCDEFGHIJKLMNOPQRSTUVWXYZ[\\]^_`" ++ "abcdefghijklmnopqrstuvwxyz{|}~" : Str).cps.toList
theorem legal_len : legal.length = 90 := by decide +kernel
theorem legal_in : legal.all (inB "();") = true := by decide +kernel
def signN (c : Int) : Nat := legal.getD (c % 90).toNat 33
theorem signN_in (c : Int) : inB "();" (signN c) = true := by
  have p1 := Int.emod_nonneg c (show (90 : Int) ≠ 0 by decide)
  have p2 := Int.emod_lt_of_pos c (show (0 : Int) < 90 by decide)
  have h : (c % 90).toNat < legal.length := by rw [legal_len]; omega
  unfold signN
  rw [List.getD_eq_getElem?_getD, List.getElem?_eq_getElem h]
  exact List.all_eq_true.mp legal_in _ (List.getElem_mem h)
theorem sign_ok (c : Int) : retR (m__law_sign_by [.val (.int c)]) = .ok (.str (tS0 [signN c]), .cl) := by
  have p1 := Int.emod_nonneg c (show (90 : Int) ≠ 0 by decide)
  have p2 := Int.emod_lt_of_pos c (show (0 : Int) < 90 by decide)
  have h : (c % 90).toNat < legal.length := by rw [legal_len]; omega
  have e : atI legal (c % 90) = some (signN c) := by
    have e1 : c % 90 = (((c % 90).toNat : Nat) : Int) := by omega
    rw [e1]
    refine atI_nat ?_
    unfold signN
    rw [List.getD_eq_getElem?_getD, List.getElem?_eq_getElem h]
    rfl
  have z1 : ("!\"#$&'*+,-./0123456789:<=>?@ABCDEFGHIJKLMNOPQRSTUVWXYZ[\\]^_`" : Str).length + ("abcdefghijklmnopqrstuvwxyz{|}~" : Str).length ≤ sizeLine := by decide +kernel
  have z2 : ("!\"#$&'*+,-./0123456789:<=>?@ABCDEFGHIJKLMNOPQRSTUVWXYZ[\\]^_`" ++ "abcdefghijklmnopqrstuvwxyz{|}~" : Str).length ≤ sizeLine := by decide +kernel
  have e' : atI ("!\"#$&'*+,-./0123456789:<=>?@ABCDEFGHIJKLMNOPQRSTUVWXYZ[\\]^_`" ++ "abcdefghijklmnopqrstuvwxyz{|}~" : Str).cps.toList (c % 90) = some (signN c) := e
  simp [runB, fin, sSeq, oSeq, sSet, setK, sIf, sRet, sRetOwn, sRetN, sNx, mBin, mVar, mK, mCmp, mVal, mChain, mBool, mAnd, mOr, mNot, mAndV, mOrV, mIf, mNil, mCons, mCallB, mUn, mIsi, mTup, mLst, mStrM, mSl, mNoP, mPart, mCall_eq, callR_ok, retR_ok, retR_er, retR_no, toCell, callMd, clA, ofO, Rs.bind, hAdd, hSub, hMul, hMod, hIx, hLt, hLe, hGt, hGe, hLen, hInt, hStr, itMode, isCl, itCl, okEl, shr, sFor, forL, m__law_sign_by, b__law_sign_by, b__law_sign_by_1, b__law_sign_by_2, b__law_sign_by_3, z1, z2, e']
  rfl
/-! slices of texts -/
theorem cut_take (l : List Nat) (n : Nat) : cutS (tS0 l) none (some (n : Int)) = tS0 (l.take n) := by
  unfold cutS
  rw [HT.sIx_none, HT.sIx_nat, tS0_l]
  show tS0 _ = tS0 _
  rw [tS0_len, List.drop_zero, Nat.sub_zero]
  congr 1
  by_cases h : n ≤ l.length
  · rw [Nat.min_eq_left h]
  · (rw [Nat.min_eq_right (by omega), List.take_of_length_le (Nat.le_refl _), List.take_of_length_le (by omega)])
theorem cut_drop (l : List Nat) (n : Nat) : cutS (tS0 l) (some (n : Int)) none = tS0 (l.drop n) := by
  unfold cutS
  rw [HT.sIx_none, HT.sIx_nat, tS0_l]
  show tS0 _ = tS0 _
  rw [tS0_len]
  congr 1
  by_cases h : n ≤ l.length
  · rw [Nat.min_eq_left h, List.take_of_length_le (by rw [List.length_drop]; omega)]
  · rw [Nat.min_eq_right (by omega), List.drop_of_length_le (Nat.le_refl _), List.drop_of_length_le (by omega), List.take_nil]
theorem cut_mid (l : List Nat) (n k : Nat) : ∃ r : List Nat, cutS (tS0 l) (some (n : Int)) (some (k : Int)) = tS0 r ∧ r.length ≤ k - n ∧ r.length ≤ l.length - n ∧ (∀ x ∈ r, x ∈ l) ∧ (n ≤ l.length → k ≤ l.length → r.length = k - n) := by
  refine ⟨(l.drop (min n l.length)).take (min k l.length - min n l.length), ?_, ?_, ?_, ?_, ?_⟩
  · unfold cutS
    rw [HT.sIx_nat, HT.sIx_nat, tS0_l, tS0_len]
    rfl
  · rw [List.length_take, List.length_drop]; omega
  · rw [List.length_take, List.length_drop]; omega
  · intro x hx
    exact List.mem_of_mem_drop (List.mem_of_mem_take hx)
  · intro h1 h2
    rw [List.length_take, List.length_drop]; omega
/-! a word -/
def wordOk (l : List Nat) : Prop := 1 ≤ l.length ∧ l.length ≤ 8 ∧ l.all (inB "();") = true ∧ tS0 l ≠ "tell"
theorem hSl_to {l r : List Nat} {lo hi : Option Int} (h : l.length ≤ 1000) (e : cutS (tS0 l) lo hi = tS0 r) : hSl (.str (tS0 l), .cl) lo hi = some (.str (tS0 r), .cl) := by
  unfold hSl
  dsimp only
  rw [if_pos (le_line (by rw [tS0_len]; exact h)), e]
theorem hAdd_str {a b : List Nat} (h : a.length + b.length ≤ 1000) : hAdd (.str (tS0 a), .cl) (.str (tS0 b), .cl) = some (.str (tS0 (a ++ b)), .cl) := by
  unfold hAdd
  dsimp only
  rw [if_pos (le_line (by rw [tS0_len, tS0_len]; exact h)), tS0_append]
theorem hEq_str (a b : Str) (m m2 : Md) : hEq (.str a, m) (.str b, m2) = some (decide (a = b)) := rfl
theorem hEq_int (a b : Int) (m m2 : Md) : hEq (.int a, m) (.int b, m2) = some (decide (a = b)) := rfl
/-- a word's base: eight signs -/
def baseN (c : Int) (j : Nat) : Nat := signN ((c / 12960 + (j : Int) * 977) * 48271 % 7919)
def baseL (c : Int) : List Nat := (List.range 8).map (baseN c)
theorem flat_ones (f : Nat → Nat) : ∀ l : List Nat, (l.map fun k => [f k]).flatten = l.map f
  | [] => rfl
  | _ :: r => by
    have := flat_ones f r
    simp only [List.map_cons, List.flatten_cons, List.singleton_append, this]
theorem sum_ones (f : Nat → Nat) : ∀ l : List Nat, ((l.map fun k => [f k]).map (·.length)).sum = l.length
  | [] => rfl
  | _ :: r => by
    have := sum_ones f r
    simp only [List.map_cons, List.sum_cons, List.length_cons, List.length_nil] at this ⊢
    omega
theorem W1 {c k : Int} {x d e f g h : Cell} : b__law_word_by_1 [.val (.int c), .val (.int k), x, d, e, f, g, h] = .nx [.val (.int c), .val (.int k), .val (.str (tS0 (baseL c))), d, e, f, g, h] := by
  have hr : mRange1 (mCons (mK (.int 8)) mNil) [.val (.int c), .val (.int k), x, d, e, f, g, h] = .ok (rangeD 0 8) := mRange1_ok (m := .cl) rfl (by omega)
  have hl := mLc_ok (i := 7) (el := mCall m__law_sign_by (mCons (mBin hMod (mBin hMul (mBin hAdd (mBin hDiv (mVar 0) (mK (.int 12960))) (mBin hMul (mVar 7) (mK (.int 977)))) (mK (.int 48271))) (mK (.int 7919))) (mNil)))
    (g := fun d => match d with | .int i => .str (tS0 [baseN c i.toNat]) | _ => .none) hr (by rw [rangeD_len]; omega) (fun x hx => by
      obtain ⟨j, hj, rfl⟩ := mem_range0 hx
      have sg := sign_ok ((c / 12960 + (j : Int) * 977) * 48271 % 7919)
      refine ⟨.cl, ?_, rfl⟩
      have ea : mCons (mBin hMod (mBin hMul (mBin hAdd (mBin hDiv (mVar 0) (mK (.int 12960))) (mBin hMul (mVar 7) (mK (.int 977)))) (mK (.int 48271))) (mK (.int 7919))) mNil (([Cell.val (.int c), .val (.int k), x, d, e, f, g, h].set 7 .un).set 7 (.val (.int (j : Int)))) = .ok [(.int ((c / 12960 + (j : Int) * 977) * 48271 % 7919), .cl)] :=
        mCons_ok (mBin_ok (mBin_ok (mBin_ok (mBin_ok (x := (.int c, .cl)) rfl mK_ok (hDiv_big (by omega))) (mBin_ok (x := (.int (j : Int), .cl)) rfl mK_ok (hMul_int (mulOk_r (by omega)))) hAdd_int) mK_ok (hMul_int (mulOk_r (by omega)))) mK_ok (hMod_ok (by omega))) mNil_ok
      exact (mCall_ok ea sg).trans rfl)
  have ej : ((rangeD 0 8).map fun d => match d with | .int i => PyData.str (tS0 [baseN c i.toNat]) | _ => .none) = ((List.range 8).map fun k => [baseN c k]).map fun y => PyData.str (tS0 y) := by
    rw [range0_map, List.map_map]
    exact List.map_congr_left fun k _ => rfl
  have es : (((List.range 8).map fun k => [baseN c k]).map (·.length)).sum ≤ 1000 := by
    rw [sum_ones, List.length_range]
    omega
  have hj := hJoin_ok (m := .fr) es
  rw [← ej, flat_ones] at hj
  unfold b__law_word_by_1
  have h2 := mUn_ok (h := hJoin "") hl hj
  refine (sSet_ok (x := (.str (tS0 (baseL c)), .cl)) ?_).trans rfl
  refine (mStrM_ok (a := "") (m := .cl) rfl).trans ?_
  exact h2
theorem tell_eq : ("tell" : Str) = tS0 [116, 101, 108, 108] := by decide +kernel
theorem baseN_in (c : Int) (j : Nat) : inB "();" (baseN c j) = true := signN_in _
theorem W2 {c k : Int} {d e f g h : Cell} : ∃ l1 : List Nat, l1.length = 8 ∧ l1.all (inB "();") = true ∧ tS0 (l1.take 4) ≠ "tell" ∧
    b__law_word_by_2 [.val (.int c), .val (.int k), .val (.str (tS0 (baseL c))), d, e, f, g, h] = .nx [.val (.int c), .val (.int k), .val (.str (tS0 l1)), d, e, f, g, h] := by
  have e0 : baseL c = [baseN c 0, baseN c 1, baseN c 2, baseN c 3, baseN c 4, baseN c 5, baseN c 6, baseN c 7] := rfl
  have al : (baseL c).all (inB "();") = true := by
    rw [e0]
    simp only [List.all_cons, List.all_nil, baseN_in, Bool.and_self]
  have t0 : mCmp hEq (mSl (mVar 2) (mNoP) (mPart (mK (.int 4)))) (mK (.str "tell")) [.val (.int c), .val (.int k), .val (.str (tS0 (baseL c))), d, e, f, g, h] = .ok (decide (tS0 ((baseL c).take 4) = "tell")) :=
    mCmp_ok (mSl_ok (x := (.str (tS0 (baseL c)), .cl)) rfl mNoP_ok (mPart_ok mK_ok) (hSl_to (by rw [e0]; simp [runB, fin, sSeq, oSeq, sSet, setK, sIf, sRet, sRetOwn, sRetN, sNx, mBin, mVar, mK, mCmp, mVal, mChain, mBool, mAnd, mOr, mNot, mAndV, mOrV, mIf, mNil, mCons, mCallB, mUn, mIsi, mTup, mLst, mStrM, mSl, mNoP, mPart, mCall_eq, callR_ok, retR_ok, retR_er, retR_no, toCell, callMd, clA, ofO, Rs.bind, hAdd, hSub, hMul, hMod, hIx, hLt, hLe, hGt, hGe, hLen, hInt, hStr, itMode, isCl, itCl, okEl, shr, sFor, forL]) (cut_take _ 4))) mK_ok (hEq_str _ _ _ _)
  by_cases h4 : tS0 ((baseL c).take 4) = "tell"
  · refine ⟨(baseL c).take 3 ++ [109] ++ (baseL c).drop 4, by rw [e0]; rfl, ?_, ?_, ?_⟩
    · rw [e0]
      simp only [List.take_succ_cons, List.take_zero, List.drop_succ_cons, List.drop_zero, List.cons_append, List.nil_append, List.all_cons, List.all_nil, baseN_in, Bool.and_self, Bool.true_and]
      decide +kernel
    · rw [e0, tell_eq, Ne, tS0_eq]
      intro z
      simp [runB, fin, sSeq, oSeq, sSet, setK, sIf, sRet, sRetOwn, sRetN, sNx, mBin, mVar, mK, mCmp, mVal, mChain, mBool, mAnd, mOr, mNot, mAndV, mOrV, mIf, mNil, mCons, mCallB, mUn, mIsi, mTup, mLst, mStrM, mSl, mNoP, mPart, mCall_eq, callR_ok, retR_ok, retR_er, retR_no, toCell, callMd, clA, ofO, Rs.bind, hAdd, hSub, hMul, hMod, hIx, hLt, hLe, hGt, hGe, hLen, hInt, hStr, itMode, isCl, itCl, okEl, shr, sFor, forL] at z
    · have b1 : b__law_word_by_2_1 [.val (.int c), .val (.int k), .val (.str (tS0 (baseL c))), d, e, f, g, h] = .nx [.val (.int c), .val (.int k), .val (.str (tS0 ((baseL c).take 3 ++ [109] ++ (baseL c).drop 4))), d, e, f, g, h] := by
        unfold b__law_word_by_2_1
        have em : ("m" : Str) = tS0 [109] := by decide +kernel
        rw [em]
        refine (sSet_ok (x := (.str (tS0 ((baseL c).take 3 ++ [109] ++ (baseL c).drop 4)), .cl)) (mBin_ok (mBin_ok (mSl_ok (x := (.str (tS0 (baseL c)), .cl)) rfl mNoP_ok (mPart_ok mK_ok) (hSl_to (by rw [e0]; simp [runB, fin, sSeq, oSeq, sSet, setK, sIf, sRet, sRetOwn, sRetN, sNx, mBin, mVar, mK, mCmp, mVal, mChain, mBool, mAnd, mOr, mNot, mAndV, mOrV, mIf, mNil, mCons, mCallB, mUn, mIsi, mTup, mLst, mStrM, mSl, mNoP, mPart, mCall_eq, callR_ok, retR_ok, retR_er, retR_no, toCell, callMd, clA, ofO, Rs.bind, hAdd, hSub, hMul, hMod, hIx, hLt, hLe, hGt, hGe, hLen, hInt, hStr, itMode, isCl, itCl, okEl, shr, sFor, forL]) (cut_take _ 3))) mK_ok (hAdd_str (by rw [e0]; simp [runB, fin, sSeq, oSeq, sSet, setK, sIf, sRet, sRetOwn, sRetN, sNx, mBin, mVar, mK, mCmp, mVal, mChain, mBool, mAnd, mOr, mNot, mAndV, mOrV, mIf, mNil, mCons, mCallB, mUn, mIsi, mTup, mLst, mStrM, mSl, mNoP, mPart, mCall_eq, callR_ok, retR_ok, retR_er, retR_no, toCell, callMd, clA, ofO, Rs.bind, hAdd, hSub, hMul, hMod, hIx, hLt, hLe, hGt, hGe, hLen, hInt, hStr, itMode, isCl, itCl, okEl, shr, sFor, forL]))) (mSl_ok (x := (.str (tS0 (baseL c)), .cl)) rfl (mPart_ok mK_ok) mNoP_ok (hSl_to (by rw [e0]; simp [runB, fin, sSeq, oSeq, sSet, setK, sIf, sRet, sRetOwn, sRetN, sNx, mBin, mVar, mK, mCmp, mVal, mChain, mBool, mAnd, mOr, mNot, mAndV, mOrV, mIf, mNil, mCons, mCallB, mUn, mIsi, mTup, mLst, mStrM, mSl, mNoP, mPart, mCall_eq, callR_ok, retR_ok, retR_er, retR_no, toCell, callMd, clA, ofO, Rs.bind, hAdd, hSub, hMul, hMod, hIx, hLt, hLe, hGt, hGe, hLen, hInt, hStr, itMode, isCl, itCl, okEl, shr, sFor, forL]) (cut_drop _ 4))) (hAdd_str (by rw [e0]; simp [runB, fin, sSeq, oSeq, sSet, setK, sIf, sRet, sRetOwn, sRetN, sNx, mBin, mVar, mK, mCmp, mVal, mChain, mBool, mAnd, mOr, mNot, mAndV, mOrV, mIf, mNil, mCons, mCallB, mUn, mIsi, mTup, mLst, mStrM, mSl, mNoP, mPart, mCall_eq, callR_ok, retR_ok, retR_er, retR_no, toCell, callMd, clA, ofO, Rs.bind, hAdd, hSub, hMul, hMod, hIx, hLt, hLe, hGt, hGe, hLen, hInt, hStr, itMode, isCl, itCl, okEl, shr, sFor, forL])))).trans rfl
      unfold b__law_word_by_2
      rw [sIf_ok t0, if_pos (by simpa using h4), b1]
  · refine ⟨baseL c, by rw [e0]; rfl, al, h4, ?_⟩
    unfold b__law_word_by_2
    rw [sIf_ok t0, if_neg (by simpa using h4)]
    rfl
/-- a word's size -/
def zN (c : Int) : Nat := [1, 1, 2, 3, 5, 8].getD (c / 90 % 6).toNat 1
theorem W3 {c k : Int} {b d e f g h : Cell} : ∃ z : Nat, zN c = z ∧ 1 ≤ z ∧ z ≤ 8 ∧ b__law_word_by_3 [.val (.int c), .val (.int k), b, d, e, f, g, h] = .nx [.val (.int c), .val (.int k), b, .val (.int (z : Int)), e, f, g, h] := by
  have p1 := Int.emod_nonneg (c / 90) (show (6 : Int) ≠ 0 by decide)
  have p2 := Int.emod_lt_of_pos (c / 90) (show (0 : Int) < 6 by decide)
  have go : ∀ (z : Nat), zN c = z → hIx (.list [.int 1, .int 1, .int 2, .int 3, .int 5, .int 8], .fr) (.int (c / 90 % 6), .cl) = some (.int (z : Int), .cl) → 1 ≤ z → z ≤ 8 → ∃ z : Nat, zN c = z ∧ 1 ≤ z ∧ z ≤ 8 ∧ b__law_word_by_3 [.val (.int c), .val (.int k), b, d, e, f, g, h] = .nx [.val (.int c), .val (.int k), b, .val (.int (z : Int)), e, f, g, h] := fun z hn hz z1 z2 => by
    refine ⟨z, hn, z1, z2, ?_⟩
    unfold b__law_word_by_3
    exact (sSet_ok (x := (.int (z : Int), .cl)) (mBin_ok (x := (.list [.int 1, .int 1, .int 2, .int 3, .int 5, .int 8], .fr)) rfl (mBin_ok (mBin_ok (x := (.int c, .cl)) rfl mK_ok (hDiv_big (by omega))) mK_ok (hMod_ok (by omega))) hz)).trans rfl
  have hc : c / 90 % 6 = 0 ∨ c / 90 % 6 = 1 ∨ c / 90 % 6 = 2 ∨ c / 90 % 6 = 3 ∨ c / 90 % 6 = 4 ∨ c / 90 % 6 = 5 := by omega
  rcases hc with hc | hc | hc | hc | hc | hc
  · exact go 1 (by unfold zN; rw [hc]; rfl) (by rw [hc]; rfl) (by omega) (by omega)
  · exact go 1 (by unfold zN; rw [hc]; rfl) (by rw [hc]; rfl) (by omega) (by omega)
  · exact go 2 (by unfold zN; rw [hc]; rfl) (by rw [hc]; rfl) (by omega) (by omega)
  · exact go 3 (by unfold zN; rw [hc]; rfl) (by rw [hc]; rfl) (by omega) (by omega)
  · exact go 5 (by unfold zN; rw [hc]; rfl) (by rw [hc]; rfl) (by omega) (by omega)
  · exact go 8 (by unfold zN; rw [hc]; rfl) (by rw [hc]; rfl) (by omega) (by omega)
theorem W45 {c k : Int} {b e f g h : Cell} {z : Nat} (z1 : 1 ≤ z) : ∃ a y : Nat, a = (c / 1620 % (z : Int)).toNat ∧ (y : Int) = c / 540 % 3 ∧ a < z ∧ y < 3 ∧ b__law_word_by_4 [.val (.int c), .val (.int k), b, .val (.int (z : Int)), e, f, g, h] = .nx [.val (.int c), .val (.int k), b, .val (.int (z : Int)), .val (.int (a : Int)), f, g, h] ∧
    b__law_word_by_5 [.val (.int c), .val (.int k), b, .val (.int (z : Int)), .val (.int (a : Int)), f, g, h] = .nx [.val (.int c), .val (.int k), b, .val (.int (z : Int)), .val (.int (a : Int)), .val (.int (y : Int)), g, h] := by
  have p1 := Int.emod_nonneg (c / 1620) (show (z : Int) ≠ 0 by omega)
  have p2 := Int.emod_lt_of_pos (c / 1620) (show (0 : Int) < z by omega)
  have q1 := Int.emod_nonneg (c / 540) (show (3 : Int) ≠ 0 by decide)
  have q2 := Int.emod_lt_of_pos (c / 540) (show (0 : Int) < 3 by decide)
  refine ⟨(c / 1620 % z).toNat, (c / 540 % 3).toNat, rfl, Int.toNat_of_nonneg q1, by omega, by omega, ?_, ?_⟩
  · rw [Int.toNat_of_nonneg p1]
    unfold b__law_word_by_4
    exact (sSet_ok (x := (.int (c / 1620 % z), .cl)) (mBin_ok (mBin_ok (x := (.int c, .cl)) rfl mK_ok (hDiv_big (by omega))) (y := (.int (z : Int), .cl)) rfl (hMod_ok (by omega)))).trans rfl
  · rw [Int.toNat_of_nonneg p1, Int.toNat_of_nonneg q1]
    unfold b__law_word_by_5
    exact (sSet_ok (x := (.int (c / 540 % 3), .cl)) (mBin_ok (mBin_ok (x := (.int c, .cl)) rfl mK_ok (hDiv_big (by omega))) mK_ok (hMod_ok (by omega)))).trans rfl
theorem legal_inj : ∀ i < 90, ∀ j < 90, legal.getD i 33 = legal.getD j 33 → i = j := by decide +kernel
theorem sign_ne {c k : Int} (h0 : 0 ≤ k) (h1 : k < 8) : signN (c + 8) ≠ signN (c + k) := by
  intro z
  have p1 := Int.emod_nonneg (c + 8) (show (90 : Int) ≠ 0 by decide)
  have p2 := Int.emod_lt_of_pos (c + 8) (show (0 : Int) < 90 by decide)
  have p3 := Int.emod_nonneg (c + k) (show (90 : Int) ≠ 0 by decide)
  have p4 := Int.emod_lt_of_pos (c + k) (show (0 : Int) < 90 by decide)
  have := legal_inj _ (show ((c + 8) % 90).toNat < 90 by omega) _ (show ((c + k) % 90).toNat < 90 by omega) z
  omega
theorem all_take {l : List Nat} {n : Nat} (h : l.all (inB "();") = true) : (l.take n).all (inB "();") = true := by
  rw [List.all_eq_true] at h ⊢
  exact fun x hx => h x (List.mem_of_mem_take hx)
/-- what tells the eight words apart -/
def Tag (c : Int) (k : Nat) (l : List Nat) : Prop :=
  (c / 540 % 3 = 0 ∧ l.length = k + 1) ∨
  (c / 540 % 3 = 1 ∧ ∃ e : Nat, l[(c / 1620 % (zN c : Int)).toNat]? = some (signN (c + e)) ∧ (e = k ∨ (e = 8 ∧ [116, 101, 108, 108][(c / 1620 % (zN c : Int)).toNat]? = some (signN (c + k))))) ∨
  (c / 540 % 3 = 2 ∧ l[0]? = some (signN (c + k)))
theorem sign_inj {c : Int} {i j : Nat} (hi : i ≤ 8) (hj : j ≤ 8) (z : signN (c + i) = signN (c + j)) : i = j := by
  have p1 := Int.emod_nonneg (c + i) (show (90 : Int) ≠ 0 by decide)
  have p2 := Int.emod_lt_of_pos (c + i) (show (0 : Int) < 90 by decide)
  have p3 := Int.emod_nonneg (c + j) (show (90 : Int) ≠ 0 by decide)
  have p4 := Int.emod_lt_of_pos (c + j) (show (0 : Int) < 90 by decide)
  have := legal_inj _ (show ((c + i) % 90).toNat < 90 by omega) _ (show ((c + j) % 90).toNat < 90 by omega) z
  omega
theorem tag_inj {c : Int} {i j : Nat} {l : List Nat} (hi : i < 8) (hj : j < 8) (h1 : Tag c i l) (h2 : Tag c j l) : i = j := by
  rcases h1 with ⟨a1, b1⟩ | ⟨a1, e1, b1, c1⟩ | ⟨a1, b1⟩ <;> rcases h2 with ⟨a2, b2⟩ | ⟨a2, e2, b2, c2⟩ | ⟨a2, b2⟩
  all_goals try omega
  · rw [b1] at b2
    have e12 : signN (c + e1) = signN (c + e2) := Option.some.inj b2
    rcases c1 with c1 | ⟨c1, d1⟩ <;> rcases c2 with c2 | ⟨c2, d2⟩
    · have := sign_inj (by omega) (by omega) e12
      omega
    · have := sign_inj (by omega) (by omega) e12
      omega
    · have := sign_inj (by omega) (by omega) e12
      omega
    · rw [d1] at d2
      exact sign_inj (by omega) (by omega) (Option.some.inj d2)
  · rw [b1] at b2
    exact sign_inj (by omega) (by omega) (Option.some.inj b2)
theorem get_mid {l r : List Nat} {a x : Nat} (h : a ≤ l.length) : (l.take a ++ [x] ++ r)[a]? = some x := by
  have hl : (l.take a).length = a := by rw [List.length_take, Nat.min_eq_left h]
  rw [List.append_assoc, List.getElem?_append_right (by omega), hl, Nat.sub_self]
  rfl
theorem word_ok2 (c : Int) (k : Nat) (hk : k < 8) : ∃ l : List Nat, wordOk l ∧ Tag c k l ∧ retR (m__law_word_by [.val (.int c), .val (.int (k : Int))]) = .ok (.str (tS0 l), .cl) := by
  have run : ∀ {l : List Nat} {ρ : CV}, b__law_word_by [.val (.int c), .val (.int (k : Int)), .un, .un, .un, .un, .un, .un] = .rt (.str (tS0 l)) .cl ρ → retR (m__law_word_by [.val (.int c), .val (.int (k : Int))]) = .ok (.str (tS0 l), .cl) := fun {l ρ} e => by
    unfold m__law_word_by runB
    have e' : b__law_word_by ([Cell.val (.int c), .val (.int (k : Int))] ++ List.replicate (8 - [Cell.val (.int c), .val (.int (k : Int))].length) Cell.un) = .rt (.str (tS0 l)) .cl ρ := e
    rw [e']
    rfl
  obtain ⟨l1, n1, g1, t1, e2⟩ := W2 (c := c) (k := k) (d := .un) (e := .un) (f := .un) (g := .un) (h := .un)
  obtain ⟨z, hz, z1, z2, e3⟩ := W3 (c := c) (k := k) (b := .val (.str (tS0 l1))) (d := .un) (e := .un) (f := .un) (g := .un) (h := .un)
  obtain ⟨a, y, ea0, ey0, ha, hy, e4, e5⟩ := W45 (c := c) (k := k) (b := .val (.str (tS0 l1))) (e := .un) (f := .un) (g := .un) (h := .un) (z := z) z1
  have start : b__law_word_by [.val (.int c), .val (.int (k : Int)), .un, .un, .un, .un, .un, .un] = sSeq b__law_word_by_6 (sSeq b__law_word_by_7 (sSeq b__law_word_by_8 (sSeq b__law_word_by_9 b__law_word_by_10))) [.val (.int c), .val (.int (k : Int)), .val (.str (tS0 l1)), .val (.int (z : Int)), .val (.int (a : Int)), .val (.int (y : Int)), .un, .un] := by
    unfold b__law_word_by
    rw [sSeq_nx W1, sSeq_nx e2, sSeq_nx e3, sSeq_nx e4, sSeq_nx e5]
  generalize hρ : [Cell.val (.int c), .val (.int (k : Int)), .val (.str (tS0 l1)), .val (.int (z : Int)), .val (.int (a : Int)), .val (.int (y : Int)), .un, .un] = ρ at start
  have v0 : mVar 0 ρ = .ok (.int c, .cl) := by rw [← hρ]; rfl
  have v1 : mVar 1 ρ = .ok (.int (k : Int), .cl) := by rw [← hρ]; rfl
  have v2 : mVar 2 ρ = .ok (.str (tS0 l1), .cl) := by rw [← hρ]; rfl
  have v3 : mVar 3 ρ = .ok (.int (z : Int), .cl) := by rw [← hρ]; rfl
  have v4 : mVar 4 ρ = .ok (.int (a : Int), .cl) := by rw [← hρ]; rfl
  have v5 : mVar 5 ρ = .ok (.int (y : Int), .cl) := by rw [← hρ]; rfl
  have sgn : ∀ i : Int, retR (m__law_sign_by ([(PyData.int i, Md.cl)].map toCell)) = .ok (.str (tS0 [signN i]), .cl) := fun i => sign_ok i
  have l1000 : l1.length ≤ 1000 := by omega
  have c6 : mCmp hEq (mVar 5) (mK (.int 0)) ρ = .ok (decide ((y : Int) = 0)) := mCmp_ok v5 mK_ok (hEq_int _ _ _ _)
  have c1 : mCmp hEq (mVar 5) (mK (.int 1)) ρ = .ok (decide ((y : Int) = 1)) := mCmp_ok v5 mK_ok (hEq_int _ _ _ _)
  by_cases y0 : y = 0
  · refine ⟨l1.take (k + 1), ⟨by rw [List.length_take]; omega, by rw [List.length_take]; omega, all_take g1, fun ht => ?_⟩, .inl ⟨by rw [← ey0, y0]; rfl, by rw [List.length_take]; omega⟩, run (ρ := ρ) ?_⟩
    · have hl : (l1.take (k + 1)).length = 4 := by
        rw [tell_eq, tS0_eq] at ht
        rw [ht]
        rfl
      rw [List.length_take] at hl
      have : k + 1 = 4 := by omega
      rw [this] at ht
      exact t1 ht
    · rw [start]
      refine sSeq_rt ?_
      unfold b__law_word_by_6
      rw [sIf_ok c6, if_pos (by simp [runB, fin, sSeq, oSeq, sSet, setK, sIf, sRet, sRetOwn, sRetN, sNx, mBin, mVar, mK, mCmp, mVal, mChain, mBool, mAnd, mOr, mNot, mAndV, mOrV, mIf, mNil, mCons, mCallB, mUn, mIsi, mTup, mLst, mStrM, mSl, mNoP, mPart, mCall_eq, callR_ok, retR_ok, retR_er, retR_no, toCell, callMd, clA, ofO, Rs.bind, hAdd, hSub, hMul, hMod, hIx, hLt, hLe, hGt, hGe, hLen, hInt, hStr, itMode, isCl, itCl, okEl, shr, sFor, forL, y0])]
      unfold b__law_word_by_6_1
      refine sRet_ok (mSl_ok v2 mNoP_ok (mPart_ok (mBin_ok v1 mK_ok hAdd_int)) (hSl_to l1000 ?_)) (by simp [runB, fin, sSeq, oSeq, sSet, setK, sIf, sRet, sRetOwn, sRetN, sNx, mBin, mVar, mK, mCmp, mVal, mChain, mBool, mAnd, mOr, mNot, mAndV, mOrV, mIf, mNil, mCons, mCallB, mUn, mIsi, mTup, mLst, mStrM, mSl, mNoP, mPart, mCall_eq, callR_ok, retR_ok, retR_er, retR_no, toCell, callMd, clA, ofO, Rs.bind, hAdd, hSub, hMul, hMod, hIx, hLt, hLe, hGt, hGe, hLen, hInt, hStr, itMode, isCl, itCl, okEl, shr, sFor, forL])
      exact cut_take l1 (k + 1)
  · have s6 : b__law_word_by_6 ρ = .nx ρ := by
      unfold b__law_word_by_6
      rw [sIf_ok c6, if_neg (by simp [runB, fin, sSeq, oSeq, sSet, setK, sIf, sRet, sRetOwn, sRetN, sNx, mBin, mVar, mK, mCmp, mVal, mChain, mBool, mAnd, mOr, mNot, mAndV, mOrV, mIf, mNil, mCons, mCallB, mUn, mIsi, mTup, mLst, mStrM, mSl, mNoP, mPart, mCall_eq, callR_ok, retR_ok, retR_er, retR_no, toCell, callMd, clA, ofO, Rs.bind, hAdd, hSub, hMul, hMod, hIx, hLt, hLe, hGt, hGe, hLen, hInt, hStr, itMode, isCl, itCl, okEl, shr, sFor, forL]; omega)]
      rfl
    rw [sSeq_nx s6] at start
    obtain ⟨r, er, r1, r2, r3, r4⟩ := cut_mid l1 (a + 1) z
    have rl := r4 (by omega) (by omega)
    have rall : r.all (inB "();") = true := by
      rw [List.all_eq_true] at g1 ⊢
      exact fun x hx => g1 x (r3 x hx)
    have mk1 : ∀ (i : Int) (fi : CV → Rs (D × Md)), fi ρ = .ok (.int i, .cl) → mBin hAdd (mBin hAdd (mSl (mVar 2) (mNoP) (mPart (mVar 4))) (mCall m__law_sign_by (mCons fi (mNil)))) (mSl (mVar 2) (mPart (mBin hAdd (mVar 4) (mK (.int 1)))) (mPart (mVar 3))) ρ = .ok (.str (tS0 (l1.take a ++ [signN i] ++ r)), .cl) := fun i fi hi =>
      mBin_ok (mBin_ok (mSl_ok v2 mNoP_ok (mPart_ok v4) (hSl_to l1000 (cut_take l1 a))) ((mCall_ok (mCons_ok hi mNil_ok) (sgn i)).trans rfl) (hAdd_str (by rw [List.length_take, List.length_singleton]; omega))) (mSl_ok v2 (mPart_ok (mBin_ok v4 mK_ok hAdd_int)) (mPart_ok v3) (hSl_to l1000 er)) (hAdd_str (by rw [List.length_append, List.length_take, List.length_singleton]; omega))
    have okw : ∀ i : Int, tS0 (l1.take a ++ [signN i] ++ r) ≠ "tell" → wordOk (l1.take a ++ [signN i] ++ r) := fun i ht => by
      have hlen : (l1.take a ++ [signN i] ++ r).length = min a l1.length + 1 + r.length := by rw [List.length_append, List.length_append, List.length_take, List.length_singleton]
      refine ⟨by omega, by omega, ?_, ht⟩
      rw [List.all_append, List.all_append, all_take g1, rall]
      simp only [List.all_cons, List.all_nil, signN_in, Bool.and_self]
    by_cases y1 : y = 1
    · by_cases ht : tS0 (l1.take a ++ [signN (c + k)] ++ r) = "tell"
      · refine ⟨l1.take a ++ [signN (c + 8)] ++ r, okw _ fun z8 => ?_, .inr (.inl ⟨by rw [← ey0, y1]; rfl, 8, by rw [hz, ← ea0]; exact get_mid (by omega), .inr ⟨rfl, ?_⟩⟩), run (ρ := ρ) ?_⟩
        · have := z8.trans ht.symm
          rw [tS0_eq] at this
          have h3 := List.append_cancel_right this
          have h4 := List.append_cancel_left h3
          exact sign_ne (c := c) (k := (k : Int)) (by omega) (by omega) (List.cons.inj h4).1
        · rw [tell_eq, tS0_eq] at ht
          rw [hz, ← ea0, ← ht]
          exact get_mid (by omega)
        · rw [start]
          refine sSeq_rt ?_
          unfold b__law_word_by_7
          rw [sIf_ok (mAnd_ok c1 fun _ => mCmp_ok (mk1 (c + k) _ (mBin_ok v0 v1 hAdd_int)) mK_ok (hEq_str _ _ _ _)), if_pos (by rw [Bool.and_eq_true]; exact ⟨decide_eq_true (by omega), decide_eq_true ht⟩)]
          unfold b__law_word_by_7_1
          exact sRet_ok (mk1 (c + 8) _ (mBin_ok v0 mK_ok hAdd_int)) (by simp [runB, fin, sSeq, oSeq, sSet, setK, sIf, sRet, sRetOwn, sRetN, sNx, mBin, mVar, mK, mCmp, mVal, mChain, mBool, mAnd, mOr, mNot, mAndV, mOrV, mIf, mNil, mCons, mCallB, mUn, mIsi, mTup, mLst, mStrM, mSl, mNoP, mPart, mCall_eq, callR_ok, retR_ok, retR_er, retR_no, toCell, callMd, clA, ofO, Rs.bind, hAdd, hSub, hMul, hMod, hIx, hLt, hLe, hGt, hGe, hLen, hInt, hStr, itMode, isCl, itCl, okEl, shr, sFor, forL])
      · refine ⟨l1.take a ++ [signN (c + k)] ++ r, okw _ ht, .inr (.inl ⟨by rw [← ey0, y1]; rfl, k, by rw [hz, ← ea0]; exact get_mid (by omega), .inl rfl⟩), run (ρ := ρ) ?_⟩
        have s7 : b__law_word_by_7 ρ = .nx ρ := by
          unfold b__law_word_by_7
          rw [sIf_ok (mAnd_ok c1 fun _ => mCmp_ok (mk1 (c + k) _ (mBin_ok v0 v1 hAdd_int)) mK_ok (hEq_str _ _ _ _)), if_neg (by simp only [Bool.and_eq_true, decide_eq_true_eq]; exact fun z => ht z.2)]
          rfl
        rw [start, sSeq_nx s7]
        refine sSeq_rt ?_
        unfold b__law_word_by_8
        rw [sIf_ok c1, if_pos (by simp [runB, fin, sSeq, oSeq, sSet, setK, sIf, sRet, sRetOwn, sRetN, sNx, mBin, mVar, mK, mCmp, mVal, mChain, mBool, mAnd, mOr, mNot, mAndV, mOrV, mIf, mNil, mCons, mCallB, mUn, mIsi, mTup, mLst, mStrM, mSl, mNoP, mPart, mCall_eq, callR_ok, retR_ok, retR_er, retR_no, toCell, callMd, clA, ofO, Rs.bind, hAdd, hSub, hMul, hMod, hIx, hLt, hLe, hGt, hGe, hLen, hInt, hStr, itMode, isCl, itCl, okEl, shr, sFor, forL, y1])]
        unfold b__law_word_by_8_1
        exact sRet_ok (mk1 (c + k) _ (mBin_ok v0 v1 hAdd_int)) (by simp [runB, fin, sSeq, oSeq, sSet, setK, sIf, sRet, sRetOwn, sRetN, sNx, mBin, mVar, mK, mCmp, mVal, mChain, mBool, mAnd, mOr, mNot, mAndV, mOrV, mIf, mNil, mCons, mCallB, mUn, mIsi, mTup, mLst, mStrM, mSl, mNoP, mPart, mCall_eq, callR_ok, retR_ok, retR_er, retR_no, toCell, callMd, clA, ofO, Rs.bind, hAdd, hSub, hMul, hMod, hIx, hLt, hLe, hGt, hGe, hLen, hInt, hStr, itMode, isCl, itCl, okEl, shr, sFor, forL])
    · have s7 : b__law_word_by_7 ρ = .nx ρ := by
        unfold b__law_word_by_7
        rw [sIf_ok (mAnd_ok (b := false) c1 fun z => absurd (of_decide_eq_true z) (by omega)), Bool.and_false, if_neg Bool.false_ne_true]
        rfl
      have s8 : b__law_word_by_8 ρ = .nx ρ := by
        unfold b__law_word_by_8
        rw [sIf_ok c1, if_neg (fun z => absurd (of_decide_eq_true z) (by omega))]
        rfl
      rw [sSeq_nx s7, sSeq_nx s8] at start
      obtain ⟨q, eq, q1, q2, q3, _⟩ := cut_mid l1 k (k + (z + k) % 8)
      have ek : ((k + (z + k) % 8 : Nat) : Int) = (k : Int) + ((z : Int) + (k : Int)) % 8 := by omega
      rw [ek] at eq
      have qall : q.all (inB "();") = true := by
        rw [List.all_eq_true] at g1 ⊢
        exact fun x hx => g1 x (q3 x hx)
      have s9 : b__law_word_by_9 ρ = .nx (ρ.set 6 (.val (.str (tS0 ([signN (c + k)] ++ q))))) := by
        unfold b__law_word_by_9
        exact (sSet_ok (mBin_ok ((mCall_ok (mCons_ok (mBin_ok v0 v1 hAdd_int) mNil_ok) (sgn _)).trans rfl) (mSl_ok v2 (mPart_ok v1) (mPart_ok (mBin_ok v1 (mBin_ok (mBin_ok v3 v1 hAdd_int) mK_ok (hMod_ok (by omega))) hAdd_int)) (hSl_to l1000 eq)) (hAdd_str (by rw [List.length_singleton]; omega)))).trans rfl
      rw [sSeq_nx s9] at start
      have ln : ρ.length = 8 := by rw [← hρ]; rfl
      generalize hw : [signN (c + k)] ++ q = w at start
      have g6 : (ρ.set 6 (.val (.str (tS0 w))))[6]? = some (.val (.str (tS0 w))) := List.getElem?_set_self (by omega)
      have v6 := mVar_val g6
      have ix : mBin hIx (mLst (mCons (mVar 6) (mCons (mK (.str "t")) (mNil)))) (mCallB hInt (mCons (mVal (mCmp hEq (mVar 6) (mK (.str "tell")))) (mNil))) (ρ.set 6 (.val (.str (tS0 w)))) = .ok (if tS0 w = "tell" then .str "t" else .str (tS0 w), .cl) := by
        refine mBin_ok (mLst_ok (mCons_ok v6 (mCons_ok mK_ok mNil_ok)) ⟨rfl, by show 2 ≤ 1000; omega⟩) (mCallB_ok (mCons_ok (mVal_ok (mCmp_ok v6 mK_ok (hEq_str _ _ _ _))) mNil_ok) (y := (.int (if decide (tS0 w = "tell") then 1 else 0), .cl)) rfl) ?_
        by_cases ht : tS0 w = "tell"
        · rw [if_pos ht, decide_eq_true ht]
          rfl
        · rw [if_neg ht, decide_eq_false ht]
          rfl
      have fin10 : b__law_word_by_10 (ρ.set 6 (.val (.str (tS0 w)))) = .rt (if tS0 w = "tell" then .str "t" else .str (tS0 w)) .cl (ρ.set 6 (.val (.str (tS0 w)))) := by
        unfold b__law_word_by_10
        unfold sShr
        rw [shr_val g6]
        exact sRet_ok ix (by decide)
      by_cases ht : tS0 w = "tell"
      · refine ⟨[116], ⟨by decide, by decide, by decide +kernel, by rw [tell_eq, Ne, tS0_eq]; decide⟩, .inr (.inr ⟨by rw [← ey0]; omega, ?_⟩), run (ρ := ρ.set 6 (.val (.str (tS0 w)))) ?_⟩
        · rw [tell_eq, tS0_eq] at ht
          rw [ht] at hw
          show some 116 = _
          rw [(List.cons.inj hw).1]
        rw [start, fin10, if_pos ht]
        have : ("t" : Str) = tS0 [116] := by decide +kernel
        rw [this]
      · refine ⟨w, ⟨?_, ?_, ?_, ht⟩, .inr (.inr ⟨by rw [← ey0]; omega, by rw [← hw]; rfl⟩), run (ρ := ρ.set 6 (.val (.str (tS0 w)))) ?_⟩
        · rw [← hw, List.length_append, List.length_singleton]; omega
        · rw [← hw, List.length_append, List.length_singleton]; omega
        · rw [← hw, List.all_append, qall]
          simp only [List.all_cons, List.all_nil, signN_in, Bool.and_self]
        · rw [start, fin10, if_neg ht]
theorem word_ok (c : Int) (k : Nat) (hk : k < 8) : ∃ l : List Nat, wordOk l ∧ retR (m__law_word_by [.val (.int c), .val (.int (k : Int))]) = .ok (.str (tS0 l), .cl) :=
  let ⟨l, h1, _, h2⟩ := word_ok2 c k hk
  ⟨l, h1, h2⟩
/-! eight words -/
abbrev strsD (ws : List (List Nat)) : List D := ws.map fun w => PyData.str (tS0 w)
theorem strs_fl (ws : List (List Nat)) : (strsD ws).all flD = true := by
  rw [List.all_map, List.all_eq_true]
  intro w _
  rfl
theorem strs_lfs : ∀ ws : List (List Nat), lfs (strsD ws) = true
  | [] => rfl
  | w :: r => by
    have := strs_lfs r
    show lfs (PyData.str (tS0 w) :: strsD r) = true
    simpa [lfs, lf] using this
theorem hNotIn_strs {w : Str} {ws : List (List Nat)} {m m2 : Md} : ∃ b, hNotIn (.str w, m) (.list (strsD ws), m2) = some b := by
  unfold hNotIn hIn
  dsimp only
  rw [if_pos ⟨rfl, strs_fl ws⟩]
  exact ⟨_, rfl⟩
def specials : List (List Nat) := [[108, 101, 102, 116], [114, 105, 103, 104, 116], [110, 111, 110, 101], [98, 101, 102, 111, 114, 101], [98, 101, 104, 105, 110, 100], [116, 101, 108, 108, 115], [54], [76, 101, 102, 116]]
theorem specials_eq : ([.str "left", .str "right", .str "none", .str "before", .str "behind", .str "tells", .str "6", .str "Left"] : List D) = strsD specials := by
  have e1 : ("left" : Str) = tS0 [108, 101, 102, 116] := by decide +kernel
  have e2 : ("right" : Str) = tS0 [114, 105, 103, 104, 116] := by decide +kernel
  have e3 : ("none" : Str) = tS0 [110, 111, 110, 101] := by decide +kernel
  have e4 : ("before" : Str) = tS0 [98, 101, 102, 111, 114, 101] := by decide +kernel
  have e5 : ("behind" : Str) = tS0 [98, 101, 104, 105, 110, 100] := by decide +kernel
  have e6 : ("tells" : Str) = tS0 [116, 101, 108, 108, 115] := by decide +kernel
  have e7 : ("6" : Str) = tS0 [54] := by decide +kernel
  have e8 : ("Left" : Str) = tS0 [76, 101, 102, 116] := by decide +kernel
  rw [e1, e2, e3, e4, e5, e6, e7, e8]
  rfl
theorem specials_ok : ∀ w ∈ specials, wordOk w := by
  have h : ∀ w ∈ specials, (1 ≤ w.length ∧ w.length ≤ 8 ∧ w.all (inB "();") = true) ∧ w ≠ [116, 101, 108, 108] := by decide +kernel
  intro w hw
  obtain ⟨⟨h1, h2, h3⟩, h4⟩ := h w hw
  exact ⟨h1, h2, h3, by rw [tell_eq, Ne, tS0_eq]; exact h4⟩
theorem hIx_strs {ws : List (List Nat)} {m m2 : Md} {k : Nat} {w : List Nat} (hm : itCl m = true) (e : ws[k]? = some w) : hIx (.list (strsD ws), m) (.int (k : Int), m2) = some (.str (tS0 w), .cl) := by
  have ea : atI (strsD ws) (k : Int) = some (.str (tS0 w)) := atI_nat (by rw [List.getElem?_map, e]; rfl)
  unfold hIx
  dsimp only
  rw [ea]
  unfold itMode
  simp only [Option.map_some]
  rw [if_pos hm]
theorem nodup_set {α : Type} : ∀ {l : List α} {i : Nat} {x : α}, l.Nodup → x ∉ l → (l.set i x).Nodup
  | [], _, _, h, _ => h
  | y :: l, 0, x, h, hx => List.nodup_cons.mpr ⟨fun z => hx (List.mem_cons_of_mem _ z), (List.nodup_cons.mp h).2⟩
  | y :: l, i + 1, x, h, hx => by
    have ⟨h1, h2⟩ := List.nodup_cons.mp h
    refine List.nodup_cons.mpr ⟨fun z => ?_, nodup_set h2 fun z => hx (List.mem_cons_of_mem _ z)⟩
    rcases List.mem_or_eq_of_mem_set z with w | w
    · exact h1 w
    · exact hx (by rw [w]; exact List.mem_cons_self)
theorem notIn_strs {w : List Nat} {ws : List (List Nat)} {m m2 : Md} (h : hNotIn (.str (tS0 w), m) (.list (strsD ws), m2) = some true) : w ∉ ws := by
  intro hw
  unfold hNotIn hIn at h
  dsimp only at h
  rw [if_pos ⟨rfl, strs_fl ws⟩] at h
  have h2 : inF (PyData.str (tS0 w)) (strsD ws) = false := by simpa using h
  have h3 : ∀ l : List (List Nat), w ∈ l → inF (PyData.str (tS0 w)) (strsD l) = true := by
    intro l
    induction l with
    | nil => intro z; simp [runB, fin, sSeq, oSeq, sSet, setK, sIf, sRet, sRetOwn, sRetN, sNx, mBin, mVar, mK, mCmp, mVal, mChain, mBool, mAnd, mOr, mNot, mAndV, mOrV, mIf, mNil, mCons, mCallB, mUn, mIsi, mTup, mLst, mStrM, mSl, mNoP, mPart, mCall_eq, callR_ok, retR_ok, retR_er, retR_no, toCell, callMd, clA, ofO, Rs.bind, hAdd, hSub, hMul, hMod, hIx, hLt, hLe, hGt, hGe, hLen, hInt, hStr, itMode, isCl, itCl, okEl, shr, sFor, forL] at z
    | cons x l ih =>
      intro z
      show (_ || _) = true
      rcases List.mem_cons.mp z with (z | z)
      · rw [z, Bool.or_eq_true]
        left
        show eqF (PyData.str (tS0 x)) (PyData.str (tS0 x)) = true
        unfold eqF
        first | rfl | exact beq_self_eq_true _ | simp [runB, fin, sSeq, oSeq, sSet, setK, sIf, sRet, sRetOwn, sRetN, sNx, mBin, mVar, mK, mCmp, mVal, mChain, mBool, mAnd, mOr, mNot, mAndV, mOrV, mIf, mNil, mCons, mCallB, mUn, mIsi, mTup, mLst, mStrM, mSl, mNoP, mPart, mCall_eq, callR_ok, retR_ok, retR_er, retR_no, toCell, callMd, clA, ofO, Rs.bind, hAdd, hSub, hMul, hMod, hIx, hLt, hLe, hGt, hGe, hLen, hInt, hStr, itMode, isCl, itCl, okEl, shr, sFor, forL, eqS] | simp [runB, fin, sSeq, oSeq, sSet, setK, sIf, sRet, sRetOwn, sRetN, sNx, mBin, mVar, mK, mCmp, mVal, mChain, mBool, mAnd, mOr, mNot, mAndV, mOrV, mIf, mNil, mCons, mCallB, mUn, mIsi, mTup, mLst, mStrM, mSl, mNoP, mPart, mCall_eq, callR_ok, retR_ok, retR_er, retR_no, toCell, callMd, clA, ofO, Rs.bind, hAdd, hSub, hMul, hMod, hIx, hLt, hLe, hGt, hGe, hLen, hInt, hStr, itMode, isCl, itCl, okEl, shr, sFor, forL]
      · rw [Bool.or_eq_true]
        right
        exact ih z
  rw [h3 ws hw] at h2
  cases h2
def WordsOk (ws : List (List Nat)) : Prop := ws.length = 8 ∧ ∀ w ∈ ws, wordOk w
theorem words_ok2 (c : Int) : ∃ ws, WordsOk ws ∧ ws.Nodup ∧ retR (m__law_words_by [.val (.int c)]) = .ok (.list (strsD ws), .ow) := by
  -- the eight
  have hw : ∀ k : Nat, ∃ l : List Nat, k < 8 → (wordOk l ∧ Tag c k l) ∧ retR (m__law_word_by [.val (.int c), .val (.int (k : Int))]) = .ok (.str (tS0 l), .cl) := fun k => by
    by_cases h : k < 8
    · obtain ⟨l, h1, h3, h2⟩ := word_ok2 c k h
      exact ⟨l, fun _ => ⟨⟨h1, h3⟩, h2⟩⟩
    · exact ⟨[], fun z => absurd z h⟩
  obtain ⟨W, hW⟩ := Classical.axiomOfChoice hw
  have s1 : b__law_words_by_1 [.val (.int c), .un, .un, .un, .un] = .nx [.val (.int c), .own (strsD ((List.range 8).map W)), .un, .un, .un] := by
    have hr : mRange1 (mCons (mK (.int 8)) mNil) [.val (.int c), .un, .un, .un, .un] = .ok (rangeD 0 8) := mRange1_ok (m := .cl) rfl (by omega)
    have hl := mLc_ok (i := 3) (el := mCall m__law_word_by (mCons (mVar 0) (mCons (mVar 3) mNil))) (g := fun d => match d with | .int i => .str (tS0 (W i.toNat)) | _ => .none) hr (by rw [rangeD_len]; omega) (fun x hx => by
      obtain ⟨j, hj, rfl⟩ := mem_range0 hx
      refine ⟨.cl, ?_, rfl⟩
      have ea : mCons (mVar 0) (mCons (mVar 3) mNil) (([Cell.val (.int c), .un, .un, .un, .un].set 3 .un).set 3 (.val (.int (j : Int)))) = .ok [(.int c, .cl), (.int (j : Int), .cl)] := mCons_ok rfl (mCons_ok rfl mNil_ok)
      exact (mCall_ok ea (hW j hj).2).trans rfl)
    unfold b__law_words_by_1
    refine (sSet_ok hl).trans ?_
    have ej : ((rangeD 0 8).map fun d => match d with | .int i => PyData.str (tS0 (W i.toNat)) | _ => .none) = strsD ((List.range 8).map W) := by
      rw [range0_map, show strsD ((List.range 8).map W) = ((List.range 8).map W).map (fun w => PyData.str (tS0 w)) from rfl, List.map_map]
      exact List.map_congr_left fun k _ => rfl
    rw [ej]
    rfl
  have s2 : b__law_words_by_2 [.val (.int c), .own (strsD ((List.range 8).map W)), .un, .un, .un] = .nx [.val (.int c), .own (strsD ((List.range 8).map W)), .own (strsD specials), .un, .un] := by
    rw [← specials_eq]
    rfl
  -- the loop
  let I : CV → Prop := fun ρ => ∃ ws x y, (WordsOk ws ∧ ws.Nodup) ∧ ρ = [.val (.int c), .own (strsD ws), .own (strsD specials), x, y]
  have body : ∀ d ∈ rangeD 0 2, ∀ ρ, I ρ → ∃ ρ', sSeq b__law_words_by_3_1 b__law_words_by_3_2 (ρ.set 3 (.val d)) = .nx ρ' ∧ I ρ' := by
    intro d hd ρ ⟨ws, x, y, ⟨hws, hnd⟩, hρ⟩
    obtain ⟨k, hk, rfl⟩ := mem_range0 hd
    subst hρ
    have p1 := Int.emod_nonneg (c / 28 + 3 * (k : Int)) (show (8 : Int) ≠ 0 by decide)
    have p2 := Int.emod_lt_of_pos (c / 28 + 3 * (k : Int)) (show (0 : Int) < 8 by decide)
    have p3 := Int.emod_nonneg (c / 224 + 5 * (k : Int)) (show (8 : Int) ≠ 0 by decide)
    have p4 := Int.emod_lt_of_pos (c / 224 + 5 * (k : Int)) (show (0 : Int) < 8 by decide)
    have i1 : ((c / 28 + 3 * (k : Int)) % 8).toNat < specials.length := by show _ < 8; omega
    have t1 : b__law_words_by_3_1 [.val (.int c), .own (strsD ws), .own (strsD specials), .val (.int (k : Int)), y] = .nx [.val (.int c), .own (strsD ws), .own (strsD specials), .val (.int (k : Int)), .val (.str (tS0 specials[((c / 28 + 3 * (k : Int)) % 8).toNat]))] := by
      unfold b__law_words_by_3_1
      have ix := hIx_strs (ws := specials) (m := .ow) (m2 := .cl) rfl (List.getElem?_eq_getElem i1)
      rw [Int.toNat_of_nonneg p1] at ix
      exact (sSet_ok (mBin_ok (x := (.list (strsD specials), .ow)) rfl (mBin_ok (mBin_ok (mBin_ok (x := (.int c, .cl)) rfl mK_ok (hDiv_big (by omega))) (mBin_ok mK_ok (y := (.int (k : Int), .cl)) rfl (hMul_int (mulOk_l (by omega)))) hAdd_int) mK_ok (hMod_ok (by omega))) ix)).trans rfl
    have hsp := specials_ok _ (List.getElem_mem i1)
    generalize specials[((c / 28 + 3 * (k : Int)) % 8).toNat] = w at t1 hsp
    obtain ⟨b, hb⟩ := hNotIn_strs (w := tS0 w) (ws := ws) (m := .cl) (m2 := .ow)
    have tb : mCmp hNotIn (mVar 4) (mVar 1) [.val (.int c), .own (strsD ws), .own (strsD specials), .val (.int (k : Int)), .val (.str (tS0 w))] = .ok b := mCmp_ok (x := (.str (tS0 w), .cl)) rfl (y := (.list (strsD ws), .ow)) rfl hb
    show ∃ ρ', sSeq b__law_words_by_3_1 b__law_words_by_3_2 [.val (.int c), .own (strsD ws), .own (strsD specials), .val (.int (k : Int)), y] = .nx ρ' ∧ I ρ'
    rw [sSeq_nx t1]
    unfold b__law_words_by_3_2
    rw [sIf_ok tb]
    cases b with
    | false => exact ⟨_, rfl, ws, _, _, ⟨hws, hnd⟩, rfl⟩
    | true =>
      have e3 : b__law_words_by_3_2_1 [.val (.int c), .own (strsD ws), .own (strsD specials), .val (.int (k : Int)), .val (.str (tS0 w))] = .nx [.val (.int c), .own (strsD (ws.set ((c / 224 + 5 * (k : Int)) % 8).toNat w)), .own (strsD specials), .val (.int (k : Int)), .val (.str (tS0 w))] := by
        unfold b__law_words_by_3_2_1
        unfold sShr
        rw [shr_val rfl]
        have ek : mBin hMod (mBin hAdd (mBin hDiv (mVar 0) (mK (.int 224))) (mBin hMul (mK (.int 5)) (mVar 3))) (mK (.int 8)) [.val (.int c), .own (strsD ws), .own (strsD specials), .val (.int (k : Int)), .val (.str (tS0 w))] = .ok (.int ((((c / 224 + 5 * (k : Int)) % 8).toNat : Nat) : Int), .cl) := by
          rw [Int.toNat_of_nonneg p3]
          exact mBin_ok (mBin_ok (mBin_ok (x := (.int c, .cl)) rfl mK_ok (hDiv_big (by omega))) (mBin_ok mK_ok (y := (.int (k : Int), .cl)) rfl (hMul_int (mulOk_l (by omega)))) hAdd_int) mK_ok (hMod_ok (by omega))
        refine (sSetIx_ok (x := (.str (tS0 w), .cl)) rfl rfl ek (ds := strsD ws) rfl (by rw [List.length_map, hws.1]; omega)).trans ?_
        rw [← List.map_set]
        rfl
      refine ⟨_, (if_pos rfl).trans e3, ws.set ((c / 224 + 5 * (k : Int)) % 8).toNat w, _, _, ⟨⟨by rw [List.length_set]; exact hws.1, fun v hv => ?_⟩, nodup_set hnd (notIn_strs hb)⟩, rfl⟩
      rcases List.mem_or_eq_of_mem_set hv with z | z
      · exact hws.2 v z
      · rw [z]; exact hsp
  have ws0 : WordsOk ((List.range 8).map W) := ⟨by simp only [List.length_map, List.length_range], fun w h => by
    obtain ⟨k, hk, rfl⟩ := List.mem_map.mp h
    exact (hW k (List.mem_range.mp hk)).1.1⟩
  have nd0 : ((List.range 8).map W).Nodup := List.pairwise_map.mpr ((List.nodup_range (n := 8)).imp_of_mem fun {i j} hi hj n z => n (tag_inj (List.mem_range.mp hi) (List.mem_range.mp hj) (hW i (List.mem_range.mp hi)).1.2 (by rw [z]; exact (hW j (List.mem_range.mp hj)).1.2)))
  -- how often
  have s3 : ∃ ρ', b__law_words_by_3 [.val (.int c), .own (strsD ((List.range 8).map W)), .own (strsD specials), .un, .un] = .nx ρ' ∧ I ρ' := by
    have hb : mCmp hEq (mBin hMod (mBin hDiv (mVar 0) (mK (.int 7))) (mK (.int 4))) (mK (.int 1)) [.val (.int c), .own (strsD ((List.range 8).map W)), .own (strsD specials), .un, .un] = .ok (decide (c / 7 % 4 = 1)) :=
      mCmp_ok (mBin_ok (mBin_ok (x := (.int c, .cl)) rfl mK_ok (hDiv_big (by omega))) mK_ok (hMod_ok (by omega))) mK_ok (hEq_int _ _ _ _)
    unfold b__law_words_by_3
    by_cases h : c / 7 % 4 = 1
    · rw [decide_eq_true h] at hb
      have hr := mRange1_ok (n := 2) (m := .cl) (mCons_ok (mBin_ok (f := mK (.int 2)) mK_ok (mCallB_ok (h := hInt) (mCons_ok (mVal_ok hb) mNil_ok) rfl) (hMul_int (mulOk_l (by omega)))) mNil_ok) (by omega)
      rw [sFor_ok hr]
      exact forL_inv body _ ⟨_, _, _, ⟨ws0, nd0⟩, rfl⟩
    · rw [decide_eq_false h] at hb
      have hr := mRange1_ok (n := 0) (m := .cl) (mCons_ok (mBin_ok (f := mK (.int 2)) mK_ok (mCallB_ok (h := hInt) (mCons_ok (mVal_ok hb) mNil_ok) rfl) (hMul_int (mulOk_l (by omega)))) mNil_ok) (by omega)
      rw [sFor_ok hr]
      exact ⟨_, rfl, _, _, _, ⟨ws0, nd0⟩, rfl⟩
  obtain ⟨ρ', e3, ws, x, y, ⟨hws, hnd⟩, rfl⟩ := s3
  refine ⟨ws, hws, hnd, ?_⟩
  have all : b__law_words_by [.val (.int c), .un, .un, .un, .un] = .rt (.list (strsD ws)) .ow [.val (.int c), .own (strsD ws), .own (strsD specials), x, y] := by
    unfold b__law_words_by
    rw [sSeq_nx s1, sSeq_nx s2, sSeq_nx e3]
    exact sRetOwn_own rfl
  unfold m__law_words_by runB
  have all' : b__law_words_by ([Cell.val (.int c)] ++ List.replicate (5 - [Cell.val (.int c)].length) Cell.un) = .rt (.list (strsD ws)) .ow [.val (.int c), .own (strsD ws), .own (strsD specials), x, y] := all
  rw [all']
  rfl
theorem words_ok (c : Int) : ∃ ws, WordsOk ws ∧ retR (m__law_words_by [.val (.int c)]) = .ok (.list (strsD ws), .ow) :=
  let ⟨ws, h1, _, h2⟩ := words_ok2 c
  ⟨ws, h1, h2⟩
/-! tellings and tables -/
structure R4 where
  k : Str
  p : Int
  w : List Nat
def rowD (r : R4) : D := .tuple [.str "tell", .str r.k, .int r.p, .str (tS0 r.w)]
def hits (w : Str) (ah : Bool) (r : R4) : Bool := decide (tS0 r.w = w) && decide (decide (r.k = "before") = ah)
def roleR (t : List R4) (w : Str) (ah : Bool) : Option R4 := t.find? (hits w ah)
def optD : Option R4 → D
  | some r => rowD r
  | none => .none
theorem ix_row (r : R4) {m m2 : Md} (hm : itCl m = true) : hIx (rowD r, m) (.int 0, m2) = some (.str "tell", .cl) ∧ hIx (rowD r, m) (.int 1, m2) = some (.str r.k, .cl) ∧ hIx (rowD r, m) (.int 2, m2) = some (.int r.p, .cl) ∧ hIx (rowD r, m) (.int 3, m2) = some (.str (tS0 r.w), .cl) := by
  have go : ∀ d : D, itMode m d = .cl := fun d => by unfold itMode; rw [if_pos hm]
  unfold hIx rowD
  refine ⟨?_, ?_, ?_, ?_⟩
  · exact congrArg some (congrArg (Prod.mk _) (go _))
  · exact congrArg some (congrArg (Prod.mk _) (go _))
  · exact congrArg some (congrArg (Prod.mk _) (go _))
  · exact congrArg some (congrArg (Prod.mk _) (go _))
theorem hEq_bool (a b : Bool) (m m2 : Md) : hEq (.bool a, m) (.bool b, m2) = some (decide (a = b)) := rfl
/-- a loop that gives back the first row that hits -/
theorem find_loop {u : CV → Out} {a b c : Cell} {hit : R4 → Bool} (hu : ∀ r, u [a, b, c, .val (rowD r)] = if hit r then .rt (rowD r) .cl [a, b, c, .val (rowD r)] else .nx [a, b, c, .val (rowD r)]) :
    ∀ (t : List R4) (x : Cell), ∃ y, forL 3 u (t.map rowD) [a, b, c, x] = match t.find? hit with
      | some r => .rt (rowD r) .cl [a, b, c, y]
      | none => .nx [a, b, c, y]
  | [], x => ⟨x, rfl⟩
  | r :: t, x => by
    have e : forL 3 u ((r :: t).map rowD) [a, b, c, x] = match u [a, b, c, .val (rowD r)] with
      | .nx ρ' => forL 3 u (t.map rowD) ρ'
      | .ct ρ' => forL 3 u (t.map rowD) ρ'
      | .bk ρ' => .nx ρ'
      | o => o := rfl
    rw [e, hu r]
    cases h : hit r with
    | true =>
      refine ⟨.val (rowD r), ?_⟩
      rw [List.find?_cons_of_pos h]
      rfl
    | false =>
      obtain ⟨y, ih⟩ := find_loop hu t (.val (rowD r))
      refine ⟨y, ?_⟩
      rw [List.find?_cons_of_neg (by rw [h]; exact Bool.false_ne_true)]
      exact ih
theorem law_role_ok (t : List R4) (w : Str) (ah : Bool) : retR (m__law_role [.val (.list (t.map rowD)), .val (.str w), .val (.bool ah)]) = .ok (optD (roleR t w ah), .cl) := by
  have hu : ∀ r : R4, b__law_role_1_1 [.val (.list (t.map rowD)), .val (.str w), .val (.bool ah), .val (rowD r)] = if hits w ah r then .rt (rowD r) .cl [.val (.list (t.map rowD)), .val (.str w), .val (.bool ah), .val (rowD r)] else .nx [.val (.list (t.map rowD)), .val (.str w), .val (.bool ah), .val (rowD r)] := fun r => by
    obtain ⟨_, i1, _, i3⟩ := ix_row r (m := .cl) (m2 := .cl) rfl
    unfold b__law_role_1_1
    rw [sIf_ok (mAnd_ok (mCmp_ok (mBin_ok (x := (rowD r, .cl)) rfl mK_ok i3) (y := (.str w, .cl)) rfl (hEq_str _ _ _ _)) fun _ => mCmp_ok (mVal_ok (mCmp_ok (mBin_ok (x := (rowD r, .cl)) rfl mK_ok i1) mK_ok (hEq_str _ _ _ _))) (y := (.bool ah, .cl)) rfl (hEq_bool _ _ _ _))]
    rfl
  obtain ⟨y, e⟩ := find_loop hu t .un
  have s1 : b__law_role_1 [.val (.list (t.map rowD)), .val (.str w), .val (.bool ah), .un] = forL 3 b__law_role_1_1 (t.map rowD) [.val (.list (t.map rowD)), .val (.str w), .val (.bool ah), .un] := by
    unfold b__law_role_1
    exact sFor_ok rfl
  have all : ∃ ρ, fin (b__law_role [.val (.list (t.map rowD)), .val (.str w), .val (.bool ah), .un]) = .ok ((optD (roleR t w ah), .cl), ρ) := by
    unfold b__law_role
    cases h : roleR t w ah with
    | some r =>
      have h' : t.find? (hits w ah) = some r := h
      rw [h'] at e
      rw [sSeq_rt (s1.trans e)]
      exact ⟨_, rfl⟩
    | none =>
      have h' : t.find? (hits w ah) = none := h
      rw [h'] at e
      rw [sSeq_nx (s1.trans e)]
      exact ⟨_, rfl⟩
  obtain ⟨ρ, all⟩ := all
  unfold m__law_role runB
  have all' : fin (b__law_role ([Cell.val (.list (t.map rowD)), .val (.str w), .val (.bool ah)] ++ List.replicate (4 - [Cell.val (.list (t.map rowD)), .val (.str w), .val (.bool ah)].length) Cell.un)) = .ok ((optD (roleR t w ah), .cl), ρ) := all
  rw [all']
  rfl
theorem is_ahead_ok (r : R4) : retR (m_is_ahead [.val (rowD r)]) = .ok (.bool (decide (r.k = "before")), .cl) := by
  obtain ⟨_, i1, _, _⟩ := ix_row r (m := .cl) (m2 := .cl) rfl
  have e : b_is_ahead [.val (rowD r)] = .rt (.bool (decide (r.k = "before"))) .cl [.val (rowD r)] := by
    unfold b_is_ahead b_is_ahead_1
    exact sRet_ok (mVal_ok (mCmp_ok (mBin_ok (x := (rowD r, .cl)) rfl mK_ok i1) mK_ok (hEq_str _ _ _ _))) (by decide)
  unfold m_is_ahead runB
  have e' : b_is_ahead ([Cell.val (rowD r)] ++ List.replicate (1 - [Cell.val (rowD r)].length) Cell.un) = .rt (.bool (decide (r.k = "before"))) .cl [.val (rowD r)] := e
  rw [e']
  rfl
theorem role_ok (t : List R4) (w : Str) (ah : Bool) : retR (m_role [.val (.list (t.map rowD)), .val (.str w), .val (.bool ah)]) = .ok (optD (roleR t w ah), .cl) := by
  have hu : ∀ r : R4, b_role_1_1 [.val (.list (t.map rowD)), .val (.str w), .val (.bool ah), .val (rowD r)] = if hits w ah r then .rt (rowD r) .cl [.val (.list (t.map rowD)), .val (.str w), .val (.bool ah), .val (rowD r)] else .nx [.val (.list (t.map rowD)), .val (.str w), .val (.bool ah), .val (rowD r)] := fun r => by
    obtain ⟨_, i1, _, i3⟩ := ix_row r (m := .cl) (m2 := .cl) rfl
    unfold b_role_1_1
    have ca : mCall m_is_ahead (mCons (mVar 3) mNil) [.val (.list (t.map rowD)), .val (.str w), .val (.bool ah), .val (rowD r)] = .ok (.bool (decide (r.k = "before")), .cl) := (mCall_ok (mCons_ok (x := (rowD r, .cl)) rfl mNil_ok) (is_ahead_ok r)).trans rfl
    rw [sIf_ok (mAnd_ok (mCmp_ok (mBin_ok (x := (rowD r, .cl)) rfl mK_ok i3) (y := (.str w, .cl)) rfl (hEq_str _ _ _ _)) fun _ => mCmp_ok ca (y := (.bool ah, .cl)) rfl (hEq_bool _ _ _ _))]
    rfl
  obtain ⟨y, e⟩ := find_loop hu t .un
  have s1 : b_role_1 [.val (.list (t.map rowD)), .val (.str w), .val (.bool ah), .un] = forL 3 b_role_1_1 (t.map rowD) [.val (.list (t.map rowD)), .val (.str w), .val (.bool ah), .un] := by
    unfold b_role_1
    exact sFor_ok rfl
  have all : ∃ ρ, fin (b_role [.val (.list (t.map rowD)), .val (.str w), .val (.bool ah), .un]) = .ok ((optD (roleR t w ah), .cl), ρ) := by
    unfold b_role
    cases h : roleR t w ah with
    | some r =>
      have h' : t.find? (hits w ah) = some r := h
      rw [h'] at e
      rw [sSeq_rt (s1.trans e)]
      exact ⟨_, rfl⟩
    | none =>
      have h' : t.find? (hits w ah) = none := h
      rw [h'] at e
      rw [sSeq_nx (s1.trans e)]
      exact ⟨_, rfl⟩
  obtain ⟨ρ, all⟩ := all
  unfold m_role runB
  have all' : fin (b_role ([Cell.val (.list (t.map rowD)), .val (.str w), .val (.bool ah)] ++ List.replicate (4 - [Cell.val (.list (t.map rowD)), .val (.str w), .val (.bool ah)].length) Cell.un)) = .ok ((optD (roleR t w ah), .cl), ρ) := all
  rw [all']
  rfl
/-! clashes, tellings -/
theorem hNe_str (a b : Str) (m m2 : Md) : hNe (.str a, m) (.str b, m2) = some (!decide (a = b)) := rfl
def clashH (r x : R4) : Bool := decide (x.p = r.p) && !decide (x.k = r.k)
def clashR (t : List R4) (r : R4) : Bool := t.any (clashH r) || (roleR t (tS0 r.w) (decide (r.k = "before"))).isSome
theorem any_loop {u : CV → Out} {a b : Cell} {hit : R4 → Bool} (hu : ∀ r, u [a, b, .val (rowD r)] = if hit r then .rt (.bool true) .cl [a, b, .val (rowD r)] else .nx [a, b, .val (rowD r)]) :
    ∀ (t : List R4) (x : Cell), ∃ y, forL 2 u (t.map rowD) [a, b, x] = if t.any hit then .rt (.bool true) .cl [a, b, y] else .nx [a, b, y]
  | [], x => ⟨x, rfl⟩
  | r :: t, x => by
    have e : forL 2 u ((r :: t).map rowD) [a, b, x] = match u [a, b, .val (rowD r)] with
      | .nx ρ' => forL 2 u (t.map rowD) ρ'
      | .ct ρ' => forL 2 u (t.map rowD) ρ'
      | .bk ρ' => .nx ρ'
      | o => o := rfl
    rw [e, hu r, List.any_cons]
    cases h : hit r with
    | true => exact ⟨.val (rowD r), rfl⟩
    | false =>
      obtain ⟨y, ih⟩ := any_loop hu t (.val (rowD r))
      exact ⟨y, ih⟩
theorem clash_ok (t : List R4) (r : R4) : retR (m__law_clash [.val (.list (t.map rowD)), .val (rowD r)]) = .ok (.bool (clashR t r), .cl) := by
  obtain ⟨_, r1, r2, r3⟩ := ix_row r (m := .cl) (m2 := .cl) rfl
  have hu : ∀ x : R4, b__law_clash_1_1 [.val (.list (t.map rowD)), .val (rowD r), .val (rowD x)] = if clashH r x then .rt (.bool true) .cl [.val (.list (t.map rowD)), .val (rowD r), .val (rowD x)] else .nx [.val (.list (t.map rowD)), .val (rowD r), .val (rowD x)] := fun x => by
    obtain ⟨_, i1, i2, _⟩ := ix_row x (m := .cl) (m2 := .cl) rfl
    unfold b__law_clash_1_1
    rw [sIf_ok (mAnd_ok (mCmp_ok (mBin_ok (x := (rowD x, .cl)) rfl mK_ok i2) (mBin_ok (x := (rowD r, .cl)) rfl mK_ok r2) (hEq_int _ _ _ _)) fun _ => mCmp_ok (mBin_ok (x := (rowD x, .cl)) rfl mK_ok i1) (mBin_ok (x := (rowD r, .cl)) rfl mK_ok r1) (hNe_str _ _ _ _))]
    rfl
  obtain ⟨y, e⟩ := any_loop hu t .un
  have s1 : b__law_clash_1 [.val (.list (t.map rowD)), .val (rowD r), .un] = forL 2 b__law_clash_1_1 (t.map rowD) [.val (.list (t.map rowD)), .val (rowD r), .un] := by
    unfold b__law_clash_1
    exact sFor_ok rfl
  have all : ∃ ρ, fin (b__law_clash [.val (.list (t.map rowD)), .val (rowD r), .un]) = .ok ((.bool (clashR t r), .cl), ρ) := by
    unfold b__law_clash clashR
    cases h : t.any (clashH r) with
    | true =>
      rw [h] at e
      rw [sSeq_rt (s1.trans (e.trans (if_pos rfl)))]
      exact ⟨_, rfl⟩
    | false =>
      rw [h] at e
      rw [sSeq_nx (s1.trans (e.trans (if_neg Bool.false_ne_true)))]
      have lr := law_role_ok t (tS0 r.w) (decide (r.k = "before"))
      have ca : mCall m__law_role (mCons (mVar 0) (mCons (mBin hIx (mVar 1) (mK (.int 3))) (mCons (mVal (mCmp hEq (mBin hIx (mVar 1) (mK (.int 1))) (mK (.str "before")))) (mNil)))) [.val (.list (t.map rowD)), .val (rowD r), y] = .ok (optD (roleR t (tS0 r.w) (decide (r.k = "before"))), .cl) := by
        refine (mCall_ok (mCons_ok (x := (.list (t.map rowD), .cl)) rfl (mCons_ok (mBin_ok (x := (rowD r, .cl)) rfl mK_ok r3) (mCons_ok (mVal_ok (mCmp_ok (mBin_ok (x := (rowD r, .cl)) rfl mK_ok r1) mK_ok (hEq_str _ _ _ _))) mNil_ok))) lr).trans ?_
        rfl
      have nn : ∀ o : Option R4, hNotN (optD o, .cl) (.none, .cl) = some o.isSome := fun o => by cases o <;> rfl
      have e2 : b__law_clash_2 [.val (.list (t.map rowD)), .val (rowD r), y] = .rt (.bool (roleR t (tS0 r.w) (decide (r.k = "before"))).isSome) .cl [.val (.list (t.map rowD)), .val (rowD r), y] := by
        unfold b__law_clash_2
        exact sRet_ok (mVal_ok (mCmp_ok ca mK_ok (nn _))) (by decide)
      rw [e2]
      exact ⟨_, rfl⟩
  obtain ⟨ρ, all⟩ := all
  unfold m__law_clash runB
  have all' : fin (b__law_clash ([Cell.val (.list (t.map rowD)), .val (rowD r)] ++ List.replicate (3 - [Cell.val (.list (t.map rowD)), .val (rowD r)].length) Cell.un)) = .ok ((.bool (clashR t r), .cl), ρ) := all
  rw [all']
  rfl
def kindsL : List Str := ["left", "right", "none", "before", "behind"]
def TellOk (r : R4) : Prop := r.k ∈ kindsL ∧ 1 ≤ r.p ∧ r.p ≤ 30 ∧ wordOk r.w
theorem hGt_int (a b : Int) (m m2 : Md) : hGt (.int a, m) (.int b, m2) = some (decide (b < a)) := rfl
theorem kind_at (i : Int) : ∃ kd ∈ kindsL, hIx (.list [.str "left", .str "right", .str "none", .str "before", .str "behind"], .fr) (.int (i % 5), .cl) = some (.str kd, .cl) := by
  have p1 := Int.emod_nonneg i (show (5 : Int) ≠ 0 by decide)
  have p2 := Int.emod_lt_of_pos i (show (0 : Int) < 5 by decide)
  have h : i % 5 = 0 ∨ i % 5 = 1 ∨ i % 5 = 2 ∨ i % 5 = 3 ∨ i % 5 = 4 := by omega
  rcases h with h | h | h | h | h
  · exact ⟨"left", by simp [runB, fin, sSeq, oSeq, sSet, setK, sIf, sRet, sRetOwn, sRetN, sNx, mBin, mVar, mK, mCmp, mVal, mChain, mBool, mAnd, mOr, mNot, mAndV, mOrV, mIf, mNil, mCons, mCallB, mUn, mIsi, mTup, mLst, mStrM, mSl, mNoP, mPart, mCall_eq, callR_ok, retR_ok, retR_er, retR_no, toCell, callMd, clA, ofO, Rs.bind, hAdd, hSub, hMul, hMod, hIx, hLt, hLe, hGt, hGe, hLen, hInt, hStr, itMode, isCl, itCl, okEl, shr, sFor, forL, kindsL], by rw [h]; rfl⟩
  · exact ⟨"right", by simp [runB, fin, sSeq, oSeq, sSet, setK, sIf, sRet, sRetOwn, sRetN, sNx, mBin, mVar, mK, mCmp, mVal, mChain, mBool, mAnd, mOr, mNot, mAndV, mOrV, mIf, mNil, mCons, mCallB, mUn, mIsi, mTup, mLst, mStrM, mSl, mNoP, mPart, mCall_eq, callR_ok, retR_ok, retR_er, retR_no, toCell, callMd, clA, ofO, Rs.bind, hAdd, hSub, hMul, hMod, hIx, hLt, hLe, hGt, hGe, hLen, hInt, hStr, itMode, isCl, itCl, okEl, shr, sFor, forL, kindsL], by rw [h]; rfl⟩
  · exact ⟨"none", by simp [runB, fin, sSeq, oSeq, sSet, setK, sIf, sRet, sRetOwn, sRetN, sNx, mBin, mVar, mK, mCmp, mVal, mChain, mBool, mAnd, mOr, mNot, mAndV, mOrV, mIf, mNil, mCons, mCallB, mUn, mIsi, mTup, mLst, mStrM, mSl, mNoP, mPart, mCall_eq, callR_ok, retR_ok, retR_er, retR_no, toCell, callMd, clA, ofO, Rs.bind, hAdd, hSub, hMul, hMod, hIx, hLt, hLe, hGt, hGe, hLen, hInt, hStr, itMode, isCl, itCl, okEl, shr, sFor, forL, kindsL], by rw [h]; rfl⟩
  · exact ⟨"before", by simp [runB, fin, sSeq, oSeq, sSet, setK, sIf, sRet, sRetOwn, sRetN, sNx, mBin, mVar, mK, mCmp, mVal, mChain, mBool, mAnd, mOr, mNot, mAndV, mOrV, mIf, mNil, mCons, mCallB, mUn, mIsi, mTup, mLst, mStrM, mSl, mNoP, mPart, mCall_eq, callR_ok, retR_ok, retR_er, retR_no, toCell, callMd, clA, ofO, Rs.bind, hAdd, hSub, hMul, hMod, hIx, hLt, hLe, hGt, hGe, hLen, hInt, hStr, itMode, isCl, itCl, okEl, shr, sFor, forL, kindsL], by rw [h]; rfl⟩
  · exact ⟨"behind", by simp [runB, fin, sSeq, oSeq, sSet, setK, sIf, sRet, sRetOwn, sRetN, sNx, mBin, mVar, mK, mCmp, mVal, mChain, mBool, mAnd, mOr, mNot, mAndV, mOrV, mIf, mNil, mCons, mCallB, mUn, mIsi, mTup, mLst, mStrM, mSl, mNoP, mPart, mCall_eq, callR_ok, retR_ok, retR_er, retR_no, toCell, callMd, clA, ofO, Rs.bind, hAdd, hSub, hMul, hMod, hIx, hLt, hLe, hGt, hGe, hLen, hInt, hStr, itMode, isCl, itCl, okEl, shr, sFor, forL, kindsL], by rw [h]; rfl⟩
/-! what `==` may compare -/
theorem strOk_of {l : List Nat} (h : ∀ c ∈ l, c < 128) : PyData.strOk (tS0 l) = true := by
  unfold PyData.strOk
  (rw [← Array.all_toList, List.all_eq_true])
  intro c hc
  exact decide_eq_true (Nat.lt_trans (h c hc) (by decide))
theorem in_lt {c : Nat} (h : inB "();" c = true) : c < 128 := by
  unfold inB at h
  rw [Bool.and_eq_true, Bool.and_eq_true] at h
  have h2 := h.2.1
  by_cases z : c < 128
  · exact z
  · exfalso
    have : decide ([126] < [c]) = true := decide_eq_true (List.Lex.rel (by omega))
    rw [this] at h2
    cases h2
theorem strOk_word {l : List Nat} (h : wordOk l) : PyData.strOk (tS0 l) = true := strOk_of fun c hc => in_lt (List.all_eq_true.mp h.2.2.1 c hc)
theorem strOk_kind {k : Str} (h : k ∈ kindsL) : PyData.strOk k = true := by
  have : ∀ k ∈ kindsL, PyData.strOk k = true := by decide +kernel
  exact this k h
theorem row_lay {r : R4} (h : TellOk r) : (rowD r).canLay0 = true := by
  have h1 : PyData.strOk ("tell" : Str) = true := by decide +kernel
  have h2 := strOk_kind h.1
  have h3 := strOk_word h.2.2.2
  simp only [rowD, PyData.canLay0, PyData.canLayAll0, h1, h2, h3, Bool.and_self]
theorem rows_lay : ∀ {t : List R4}, (∀ r ∈ t, TellOk r) → PyData.canLayAll0 (t.map rowD) = true
  | [], _ => by simp only [List.map_nil, PyData.canLayAll0]
  | r :: t, h => by
    simp only [List.map_cons, PyData.canLayAll0, row_lay (h r List.mem_cons_self), rows_lay fun x hx => h x (List.mem_cons_of_mem _ hx), Bool.and_self]
theorem row_depth (r : R4) : (rowD r).depth = 1 := by
  simp only [rowD, PyData.depth, PyData.depthAll, Nat.max_self]
theorem rows_depth : ∀ t : List R4, PyData.depthAll (t.map rowD) ≤ 1
  | [] => by simp only [List.map_nil, PyData.depthAll]; omega
  | r :: t => by
    have := rows_depth t
    simp only [List.map_cons, PyData.depthAll, row_depth]
    omega
theorem shaped_rows {t : List R4} (h : ∀ r ∈ t, TellOk r) : SeqAt.shaped (.list (t.map rowD)) = true := by
  unfold SeqAt.shaped
  rw [Bool.and_eq_true]
  refine ⟨by simp only [PyData.canLay0]; exact rows_lay h, decide_eq_true ?_⟩
  have := rows_depth t
  simp only [PyData.depth]
  omega
theorem hNe_nil {ds : List D} {m m2 : Md} (h : SeqAt.shaped (.list ds) = true) : hNe (.list ds, m) (.list [], m2) = some (!ds.isEmpty) := by
  have h0 : SeqAt.shaped (.list []) = true := by decide +kernel
  unfold hNe hEq
  dsimp only
  rw [if_neg (by simp [runB, fin, sSeq, oSeq, sSet, setK, sIf, sRet, sRetOwn, sRetN, sNx, mBin, mVar, mK, mCmp, mVal, mChain, mBool, mAnd, mOr, mNot, mAndV, mOrV, mIf, mNil, mCons, mCallB, mUn, mIsi, mTup, mLst, mStrM, mSl, mNoP, mPart, mCall_eq, callR_ok, retR_ok, retR_er, retR_no, toCell, callMd, clA, ofO, Rs.bind, hAdd, hSub, hMul, hMod, hIx, hLt, hLe, hGt, hGe, hLen, hInt, hStr, itMode, isCl, itCl, okEl, shr, sFor, forL, scD]), if_pos ⟨h, h0⟩]
  cases ds with
  | nil => simp [runB, fin, sSeq, oSeq, sSet, setK, sIf, sRet, sRetOwn, sRetN, sNx, mBin, mVar, mK, mCmp, mVal, mChain, mBool, mAnd, mOr, mNot, mAndV, mOrV, mIf, mNil, mCons, mCallB, mUn, mIsi, mTup, mLst, mStrM, mSl, mNoP, mPart, mCall_eq, callR_ok, retR_ok, retR_er, retR_no, toCell, callMd, clA, ofO, Rs.bind, hAdd, hSub, hMul, hMod, hIx, hLt, hLe, hGt, hGe, hLen, hInt, hStr, itMode, isCl, itCl, okEl, shr, sFor, forL, PyData.eqv, PyData.eqvAll]
  | cons d ds => simp [runB, fin, sSeq, oSeq, sSet, setK, sIf, sRet, sRetOwn, sRetN, sNx, mBin, mVar, mK, mCmp, mVal, mChain, mBool, mAnd, mOr, mNot, mAndV, mOrV, mIf, mNil, mCons, mCallB, mUn, mIsi, mTup, mLst, mStrM, mSl, mNoP, mPart, mCall_eq, callR_ok, retR_ok, retR_er, retR_no, toCell, callMd, clA, ofO, Rs.bind, hAdd, hSub, hMul, hMod, hIx, hLt, hLe, hGt, hGe, hLen, hInt, hStr, itMode, isCl, itCl, okEl, shr, sFor, forL, PyData.eqv, PyData.eqvAll]
theorem hNe_int (a b : Int) (m m2 : Md) : hNe (.int a, m) (.int b, m2) = some (!decide (a = b)) := rfl
abbrev pairD (d : D) : D := .tuple [d, d]
theorem ix_pair (d : D) : hIx (pairD d, .cl) (.int 0, .cl) = some (d, .cl) ∧ hIx (pairD d, .cl) (.int 1, .cl) = some (d, .cl) := ⟨rfl, rfl⟩
theorem pair_shaped {ds : List D} (h : ∀ d ∈ ds, d.canLay0 = true ∧ d.depth ≤ 10) : SeqAt.shaped (.list (ds.map pairD)) = true := by
  have go : ∀ ds : List D, (∀ d ∈ ds, d.canLay0 = true ∧ d.depth ≤ 10) → PyData.canLayAll0 (ds.map pairD) = true ∧ PyData.depthAll (ds.map pairD) ≤ 11 := by
    intro ds
    induction ds with
    | nil => intro _; exact ⟨by simp only [List.map_nil, PyData.canLayAll0], by simp only [List.map_nil, PyData.depthAll]; omega⟩
    | cons d ds ih =>
      intro h
      obtain ⟨i1, i2⟩ := ih fun x hx => h x (List.mem_cons_of_mem _ hx)
      obtain ⟨j1, j2⟩ := h d List.mem_cons_self
      refine ⟨by simp only [List.map_cons, PyData.canLayAll0, pairD, PyData.canLay0, i1, j1, Bool.and_self], ?_⟩
      simp only [List.map_cons, PyData.depthAll, pairD, PyData.depth]
      omega
  obtain ⟨g1, g2⟩ := go ds h
  unfold SeqAt.shaped
  rw [Bool.and_eq_true]
  refine ⟨by simp only [PyData.canLay0]; exact g1, decide_eq_true ?_⟩
  simp only [PyData.depth]
  omega
/-! running a mirror -/
theorem toCell_cl {d : D} : toCell (d, .cl) = .val d := rfl
theorem toCell_fr {d : D} : toCell (d, .fr) = .val d := rfl
theorem toCell_ow {d : D} : toCell (d, .ow) = .val d := rfl
theorem toCell_vw {d : D} : toCell (d, .vw) = .val d := rfl
theorem toCell_fz {d : D} : toCell (d, .fz) = .fz d := rfl
section
variable {f g : CV → Rs (D × Md)} {ρ ρ' ρ'' : CV} {x y : D × Md} {t t2 : CV → Rs Bool} {u w : CV → Out} {i j : Nat} {d : D} {ds : List D} {m : Md} {o : Out} {M : CV → RF} {fa : CV → Rs (List (D × Md))} {as : List (D × Md)} {cs : CV} {b b2 : Bool}
theorem rCall (e : fa ρ = .ok as) (hc : as.map toCell = cs) (h : (as.all fun x => clA x.2) = true) (e2 : retR (M cs) = .ok (d, .cl)) : mCall M fa ρ = .ok (d, .cl) := by
  subst hc
  rw [mCall_ok e e2, h]
  rfl
theorem rCallF (e : fa ρ = .ok as) (hc : as.map toCell = cs) (h : (as.all fun x => clA x.2) = true) (e2 : retR (M cs) = .ok (.list ds, m)) (hm : m = .fr ∨ m = .ow) : mCall M fa ρ = .ok (.list ds, .fr) := by
  subst hc
  rw [mCall_ok e e2, h]
  rcases hm with rfl | rfl <;> rfl
/-- the arguments may reach lists that are owned: what comes back is a leaf -/
theorem rCallL (e : fa ρ = .ok as) (hc : as.map toCell = cs) (e2 : retR (M cs) = .ok (d, .cl)) (hl : lf d = true) : mCall M fa ρ = .ok (d, .cl) := by
  subst hc
  rw [mCall_ok e e2]
  unfold callMd
  dsimp only
  rw [if_pos (.inr hl)]
  rfl
theorem sSet_cl (h : f ρ = .ok (d, .cl)) (hs : ρ.set i (.val d) = ρ') : sSet i f ρ = .nx ρ' := by
  rw [sSet_ok h, ← hs]
  exact setK_cl
theorem sSet_fr (h : f ρ = .ok (.list ds, .fr)) (hs : ρ.set i (.own ds) = ρ') : sSet i f ρ = .nx ρ' := by
  rw [sSet_ok h, ← hs]
  rfl
theorem sSeq_go (h : u ρ = .nx ρ') (h2 : w ρ' = o) : sSeq u w ρ = o := (sSeq_nx h).trans h2
theorem sSeq_end (h : u ρ = .rt d m ρ') : sSeq u w ρ = .rt d m ρ' := sSeq_rt h
theorem sIf_t (h : t ρ = .ok true) (h2 : u ρ = o) : sIf t u w ρ = o := by rw [sIf_ok h]; exact h2
theorem sIf_f (h : t ρ = .ok false) (h2 : w ρ = o) : sIf t u w ρ = o := by rw [sIf_ok h]; exact h2
theorem sApp_go (h : ρ[i]? = some (.own ds)) (e : mLift f ρ = .ok (d, ρ)) (hl : ds.length ≤ 1000) (hs : ρ.set i (.own (ds ++ [d])) = ρ') : sApp i (mLift f) ρ = .nx ρ' := (sApp_ok h e hl).trans (by rw [hs])
theorem mLift_go (e : f ρ = .ok (d, m)) (ok : okEl (d, m) = true) : mLift f ρ = .ok (d, ρ) := mLift_ok e ok
theorem sSetX_go {fx : CV → Rs (D × CV)} (e : fx ρ = .ok (d, ρ')) (hs : ρ'.set i (.val d) = ρ'') : sSetX i fx ρ = .nx ρ'' := by
  rw [sSetX_ok e, hs]
theorem mPop_go (h : ρ[i]? = some (.own (ds ++ [d]))) (hs : ρ.set i (.own ds) = ρ') : mPop i ρ = .ok (d, ρ') := by
  rw [mPop_ok h, hs]
theorem sExprX_go {fx : CV → Rs (D × CV)} (e : fx ρ = .ok (d, ρ')) : sExprX fx ρ = .nx ρ' := by
  unfold sExprX
  rw [e]
theorem retR_rt {n : Nat} {bd : CV → Out} (h : bd (cs ++ List.replicate (n - cs.length) .un) = .rt d m ρ') : retR (runB n bd cs) = .ok (d, m) := by
  unfold runB
  rw [h]
  rfl
theorem retR_nx {n : Nat} {bd : CV → Out} (h : bd (cs ++ List.replicate (n - cs.length) .un) = .nx ρ') : retR (runB n bd cs) = .ok (.none, .cl) := by
  unfold runB
  rw [h]
  rfl
theorem run_rt {n : Nat} {bd : CV → Out} (h : bd (cs ++ List.replicate (n - cs.length) .un) = .rt d m ρ') : runB n bd cs = .ok ((d, m), ρ') := by
  unfold runB
  rw [h]
  rfl
theorem run_nx {n : Nat} {bd : CV → Out} (h : bd (cs ++ List.replicate (n - cs.length) .un) = .nx ρ') : runB n bd cs = .ok ((.none, .cl), ρ') := by
  unfold runB
  rw [h]
  rfl
theorem mMax2 {i j : Int} {m m2 : Md} : hMax2 [(.int i, m), (.int j, m2)] = some (.int (max i j), .cl) := by
  show some (PyData.int (if j > i then j else i), Md.cl) = _
  have : (if j > i then j else i) = max i j := by omega
  rw [this]
theorem mMin2 {i j : Int} {m m2 : Md} : hMin2 [(.int i, m), (.int j, m2)] = some (.int (min i j), .cl) := by
  show some (PyData.int (if j < i then j else i), Md.cl) = _
  have : (if j < i then j else i) = min i j := by omega
  rw [this]
theorem hLt_int (a b : Int) (m m2 : Md) : hLt (.int a, m) (.int b, m2) = some (decide (a < b)) := rfl
theorem hLe_int (a b : Int) (m m2 : Md) : hLe (.int a, m) (.int b, m2) = some (decide (a ≤ b)) := rfl
theorem hGe_int (a b : Int) (m m2 : Md) : hGe (.int a, m) (.int b, m2) = some (decide (b ≤ a)) := rfl
theorem hLen_list {m : Md} : hLen [(.list ds, m)] = some (.int ds.length, .cl) := rfl
theorem hLen_tuple {m : Md} : hLen [(.tuple ds, m)] = some (.int ds.length, .cl) := rfl
theorem hIsN_n (d : D) (m m2 : Md) : hIsN (d, m) (.none, m2) = some (isNoneD d) := rfl
theorem hNotN_n (d : D) (m m2 : Md) : hNotN (d, m) (.none, m2) = some (!isNoneD d) := rfl
end
theorem shr_succ {i : Nat} {c : Cell} {ρ : CV} : shr (i + 1) (c :: ρ) = c :: shr i ρ := by
  unfold shr
  rw [List.getElem?_cons_succ]
  cases ρ[i]? with
  | none => rfl
  | some c2 => cases c2 <;> rfl
theorem shr_v {d : D} {ρ : CV} : shr 0 (.val d :: ρ) = .val d :: ρ := rfl
theorem shr_o {ds : List D} {ρ : CV} : shr 0 (.own ds :: ρ) = .val (.list ds) :: ρ := rfl
theorem shr_u {ρ : CV} : shr 0 (.un :: ρ) = .un :: ρ := rfl
theorem shr_f {d : D} {ρ : CV} : shr 0 (.fz d :: ρ) = .fz d :: ρ := rfl
theorem forL_by {i : Nat} {u : CV → Out} {I : List D → CV → Prop} {R : Out → Prop} (h0 : ∀ ρ, I [] ρ → R (.nx ρ)) (h1 : ∀ d ds ρ, I (d :: ds) ρ → (∃ ρ', u (ρ.set i (.val d)) = .nx ρ' ∧ I ds ρ') ∨ (∃ x m ρ', u (ρ.set i (.val d)) = .rt x m ρ' ∧ R (.rt x m ρ')) ∨ ∃ c ρ', u (ρ.set i (.val d)) = .er c ρ' ∧ R (.er c ρ')) :
    ∀ ds ρ, I ds ρ → R (forL i u ds ρ)
  | [], ρ, h => h0 ρ h
  | d :: ds, ρ, h => by
    unfold forL
    rcases h1 d ds ρ h with ⟨ρ', e, h'⟩ | ⟨x, m, ρ', e, r⟩ | ⟨c, ρ', e, r⟩
    · rw [e]
      exact forL_by h0 h1 ds ρ' h'
    · rw [e]
      exact r
    · rw [e]
      exact r
/-- a loop, done: R of its outcome -/
theorem forL_to {i : Nat} {u : CV → Out} {I : List D → CV → Prop} {R : Out → Prop} {ds : List D} {ρ : CV} (h : I ds ρ) (h0 : ∀ ρ, I [] ρ → R (.nx ρ)) (h1 : ∀ d ds ρ, I (d :: ds) ρ → (∃ ρ', u (ρ.set i (.val d)) = .nx ρ' ∧ I ds ρ') ∨ (∃ x m ρ', u (ρ.set i (.val d)) = .rt x m ρ' ∧ R (.rt x m ρ')) ∨ ∃ c ρ', u (ρ.set i (.val d)) = .er c ρ' ∧ R (.er c ρ')) : R (forL i u ds ρ) := forL_by h0 h1 ds ρ h
theorem mLst_go {fa : CV → Rs (List (D × Md))} {ρ : CV} {ds : List (D × Md)} {es : List D} (e : fa ρ = .ok ds) (h : ds.all okEl = true ∧ ds.length ≤ 1000) (hs : ds.map (·.1) = es) : mLst fa ρ = .ok (.list es, .fr) := by
  rw [mLst_ok e h, hs]
theorem mTup_go {fa : CV → Rs (List (D × Md))} {ρ : CV} {ds : List (D × Md)} {d : D} (e : fa ρ = .ok ds) (h : ds.all okEl = true ∧ ds.length ≤ 1000) (hs : PyData.tuple (ds.map (·.1)) = d) : mTup fa ρ = .ok (d, .cl) := by
  rw [mTup_ok e h, hs]
theorem sShr_go {i : Nat} {u : CV → Out} {ρ ρ' : CV} {o : Out} (h : shr i ρ = ρ') (h2 : u ρ' = o) : sShr i u ρ = o := by
  subst h
  exact h2
theorem sApp_pop {i : Nat} {fx : CV → Rs (D × CV)} {ρ ρ' ρ'' : CV} {d : D} {ds ds0 : List D} (h : ρ[i]? = some (.own ds0)) (e : fx ρ = .ok (d, ρ')) (h2 : ρ'[i]? = some (.own ds)) (hl : ds.length ≤ 1000) (hs : ρ'.set i (.own (ds ++ [d])) = ρ'') : sApp i fx ρ = .nx ρ'' := by
  unfold sApp
  rw [h]
  simp only
  rw [e]
  simp only
  rw [h2]
  simp only
  rw [if_pos (by omega), hs]
theorem mConsX_go {fx : CV → Rs (D × CV)} {fxa : CV → Rs (List D × CV)} {ρ ρ1 ρ2 : CV} {d : D} {ds : List D} (e : fx ρ = .ok (d, ρ1)) (e2 : fxa ρ1 = .ok (ds, ρ2)) : mConsX fx fxa ρ = .ok (d :: ds, ρ2) := by
  unfold mConsX
  rw [e]
  simp only [Rs.bind]
  rw [e2]
theorem mNilX_go {ρ : CV} : mNilX ρ = .ok ([], ρ) := rfl
theorem mTupX_go {fxa : CV → Rs (List D × CV)} {ρ ρ1 : CV} {ds : List D} {d : D} (e : fxa ρ = .ok (ds, ρ1)) (hl : ds.length ≤ 1000) (hd : PyData.tuple ds = d) : mTupX fxa ρ = .ok (d, ρ1) := by
  unfold mTupX
  rw [e]
  simp only [Rs.bind]
  rw [if_pos hl, hd]
theorem whL_by {t : CV → Rs Bool} {u : CV → Out} {I : Nat → CV → Prop} {R : CV → Prop} (step : ∀ n ρ, I n ρ → (t ρ = .ok false ∧ R ρ) ∨ ∃ n' ρ', n' < n ∧ t ρ = .ok true ∧ u ρ = .nx ρ' ∧ I n' ρ') : ∀ (f n : Nat) (ρ : CV), I n ρ → n < f → ∃ ρ', whL t u f ρ = .nx ρ' ∧ R ρ'
  | 0, n, ρ, _, h => by omega
  | f + 1, n, ρ, hi, h => by
    rcases step n ρ hi with ⟨e, r⟩ | ⟨n', ρ', hn, e, e2, hi'⟩
    · exact ⟨ρ, whL_done e, r⟩
    · obtain ⟨ρ2, e3, r⟩ := whL_by step f n' ρ' hi' (by omega)
      exact ⟨ρ2, (whL_step e e2).trans e3, r⟩
theorem beq_swap (a k : Str) : (a == k) = decide (k = a) := by
  by_cases h : k = a
  · subst h
    rw [decide_eq_true rfl]
    exact beq_self_eq_true k
  · rw [decide_eq_false h]
    exact beq_eq_false_iff_ne.mpr fun z => h z.symm
theorem hIn2 (k a b : Str) (m m2 : Md) : hIn (.str k, m) (.list [.str a, .str b], m2) = some (decide (k = a) || decide (k = b)) := by
  unfold hIn
  dsimp only
  rw [if_pos ⟨rfl, rfl⟩]
  show some (((a == k) || ((b == k) || false))) = _
  rw [Bool.or_false, beq_swap, beq_swap]
theorem hIn3 (k a b c : Str) (m m2 : Md) : hIn (.str k, m) (.list [.str a, .str b, .str c], m2) = some (decide (k = a) || (decide (k = b) || decide (k = c))) := by
  unfold hIn
  dsimp only
  rw [if_pos ⟨rfl, rfl⟩]
  show some (((a == k) || ((b == k) || ((c == k) || false)))) = _
  rw [Bool.or_false, beq_swap, beq_swap, beq_swap]
theorem mCallIo_go {ios : List Nat} {M : CV → RF} {fa : CV → Rs (List Eng.Arg)} {ρ ρ2 ρ' cs : CV} {as : List Eng.Arg} {d : D} (e : fa ρ = .ok as) (h : as.all (clI ρ) = true ∧ (ioOf as 0).map (·.1) = ios ∧ nodupB ((ioOf as 0).map (·.2)) = true) (hc : as.map (cellOf ρ) = cs) (e2 : M cs = .ok ((d, .cl), ρ2)) (hs : ioSet (ioOf as 0) ρ ρ2 = ρ') : mCallIo ios M fa ρ = .ok (d, ρ') := by
  subst hc hs
  unfold mCallIo
  rw [e]
  dsimp only
  rw [if_pos h, e2]
  rfl
theorem ioSet_one {j i : Nat} {ρ ρ2 : CV} {c : Cell} (h : ρ2[j]? = some c) : ioSet [(j, i)] ρ ρ2 = ρ.set i c := by
  show ρ.set i (ρ2.getD j .un) = _
  rw [List.getD_eq_getElem?_getD, h]
  rfl
theorem mConsV_go {f : CV → Rs (D × Md)} {g : CV → Rs (List Eng.Arg)} {ρ : CV} {x : D × Md} {xs : List Eng.Arg} (e : f ρ = .ok x) (e2 : g ρ = .ok xs) : mConsV f g ρ = .ok (.v x :: xs) := by
  unfold mConsV
  rw [e]
  simp only [Rs.bind]
  rw [e2]
theorem mConsIo_go {i : Nat} {g : CV → Rs (List Eng.Arg)} {ρ : CV} {ds : List D} {xs : List Eng.Arg} (e : ρ[i]? = some (.own ds)) (e2 : g ρ = .ok xs) : mConsIo i g ρ = .ok (.io i :: xs) := by
  unfold mConsIo
  rw [e]
  simp only
  rw [e2]
  rfl
theorem mNilI_go {ρ : CV} : mNilI ρ = .ok [] := rfl
theorem ix_end (l : List D) (x : D) {m m2 : Md} (hm : itCl m = true) : hIx (.list (l ++ [x]), m) (.int (-1), m2) = some (x, .cl) := by
  have e : atI (l ++ [x]) (-1) = some x := atI_last l x
  unfold hIx
  dsimp only
  rw [e]
  unfold itMode
  simp only [Option.map_some]
  rw [if_pos hm]
theorem mIsi_go {ty : String} {f : CV → Rs (D × Md)} {ρ : CV} {d : D} {m : Md} (e : f ρ = .ok (d, m)) : mIsi ty f ρ = .ok (.bool (isD ty d), .cl) := mIsi_ok e
local macro_rules | `(tactic| walk_at "l") => `(tactic| ((try simp only [List.map_cons, List.map_nil, toCell_cl, toCell_fr, toCell_ow, toCell_vw, toCell_fz, List.set_cons_zero, List.set_cons_succ, shr_succ, shr_v, shr_o, shr_u, shr_f]); try exact rfl))
local macro_rules | `(tactic| walk_at "c") => `(tactic| with_reducible assumption)
local macro_rules | `(tactic| walk_at "o") => `(tactic| first
  | with_reducible exact hAdd_int
  | with_reducible exact hSub_int
  | with_reducible exact hMod_ok (by omega)
  | with_reducible exact hDiv_big (by omega)
  | with_reducible exact hMul_int (mulOk_r (by omega))
  | with_reducible exact hMul_int (mulOk_l (by omega))
  | with_reducible exact hEq_int _ _ _ _
  | with_reducible exact hEq_str _ _ _ _
  | with_reducible exact hEq_bool _ _ _ _
  | with_reducible exact hNe_int _ _ _ _
  | with_reducible exact hNe_str _ _ _ _
  | with_reducible exact hLt_int _ _ _ _
  | with_reducible exact hGt_int _ _ _ _
  | with_reducible exact hLe_int _ _ _ _
  | with_reducible exact hGe_int _ _ _ _
  | with_reducible exact hIsN_n _ _ _
  | with_reducible exact hNotN_n _ _ _
  | with_reducible exact mMax2
  | with_reducible exact hIn2 _ _ _ _ _
  | with_reducible exact hIn3 _ _ _ _ _ _
  | with_reducible exact mMin2
  | with_reducible exact hLen_list
  | with_reducible exact hLen_tuple
  | with_reducible exact (ix_row _ rfl).1
  | with_reducible exact (ix_row _ rfl).2.1
  | with_reducible exact (ix_row _ rfl).2.2.1
  | with_reducible exact (ix_row _ rfl).2.2.2
  | with_reducible assumption
  | exact rfl)
local macro_rules | `(tactic| walk_at "e") => `(tactic| first
  | with_reducible exact mK_ok
  | with_reducible exact mNilI_go
  | ((with_reducible refine' mConsV_go ?a ?b); (case a => walk_at "e"); (case b => walk_at "e"))
  | ((with_reducible refine' mConsIo_go ?a ?b); (case a => exact rfl); (case b => walk_at "e"))
  | with_reducible exact mNil_ok
  | with_reducible exact mNoP_ok
  | with_reducible assumption
  | exact (rfl : mVar _ _ = _)
  | ((with_reducible refine' mBin_ok ?a ?b ?c); (case a => walk_at "e"); (case b => walk_at "e"); (case c => walk_at "o"))
  | ((with_reducible refine' mVal_ok ?a); (case a => walk_at "e"))
  | ((with_reducible refine' mCmp_ok ?a ?b ?c); (case a => walk_at "e"); (case b => walk_at "e"); (case c => walk_at "o"))
  | ((with_reducible refine' mBool_ok ?a); (case a => walk_at "e"))
  | ((with_reducible refine' mNot_ok ?a); (case a => walk_at "e"))
  | ((with_reducible refine' mCons_ok ?a ?b); (case a => walk_at "e"); (case b => walk_at "e"))
  | ((with_reducible refine' mPart_ok ?a); (case a => walk_at "e"))
  | ((with_reducible refine' mUn_ok ?a ?b); (case a => walk_at "e"); (case b => walk_at "o"))
  | ((with_reducible refine' mIsi_go ?a); (case a => walk_at "e"))
  | ((with_reducible refine' mCallB_ok ?a ?b); (case a => walk_at "e"); (case b => walk_at "o"))
  | ((with_reducible refine' mLst_go ?a ?b ?c); (case a => walk_at "e"); (case b => exact ⟨rfl, Nat.le_of_ble_eq_true rfl⟩); (case c => walk_at "l"))
  | ((with_reducible refine' mTup_go ?a ?b ?c); (case a => walk_at "e"); (case b => exact ⟨rfl, Nat.le_of_ble_eq_true rfl⟩); (case c => walk_at "l"))
  | ((with_reducible refine' rCall ?a ?b ?c ?d); (case a => walk_at "e"); (case b => walk_at "l"); (case c => exact rfl); (case d => walk_at "c"))
  | ((with_reducible refine' rCallL ?a ?b ?c ?d); (case a => walk_at "e"); (case b => walk_at "l"); (case c => walk_at "c"); (case d => exact rfl))
  | ((with_reducible refine' rCallF ?a ?b ?c ?d ?e); (case a => walk_at "e"); (case b => walk_at "l"); (case c => exact rfl); (case d => walk_at "c"); (case e => first | exact .inl rfl | exact .inr rfl))
  | (simp only [shr_succ, shr_v, shr_o, shr_u, shr_f]; walk_at "e"))
local macro_rules | `(tactic| walk_at "s") => `(tactic| first
  | ((with_reducible refine' sSeq_go ?a ?b); (case a => walk_at "s"); (case b => walk_at "s"))
  | ((with_reducible refine' sShr_go ?a ?b); (case a => walk_at "l"); (case b => walk_at "s"))
  | ((with_reducible refine' sSet_cl ?a ?b); (case a => walk_at "e"); (case b => walk_at "l"))
  | ((with_reducible refine' sSet_fr ?a ?b); (case a => walk_at "e"); (case b => walk_at "l"))
  | ((with_reducible refine' sSetX_go (mPop_go ?a ?b) ?c); (case a => exact rfl); (case b => walk_at "l"); (case c => walk_at "l"))
  | ((with_reducible refine' sApp_go ?a (mLift_go ?b ?c) ?d ?e); (case a => exact rfl); (case b => walk_at "e"); (case c => exact rfl); (case d => first | omega | (simp; done) | (simp; omega)); (case e => walk_at "l"))
  | ((with_reducible refine' sRet_ok ?a ?b); (case a => walk_at "e"); (case b => decide))
  | ((with_reducible refine' sRetOwn_val ?a); (case a => exact rfl))
  | ((with_reducible refine' sRetOwn_own ?a); (case a => exact rfl))
  | with_reducible exact sNx_ok
  | (simp only [shr_succ, shr_v, shr_o, shr_u, shr_f]; walk_at "s"))
/-! names -/
def untold (t : List R4) (w : List Nat) : Prop := roleR t (tS0 w) true = none ∧ roleR t (tS0 w) false = none
local macro_rules | `(tactic| walk_at "c") => `(tactic| with_reducible exact law_role_ok _ _ _)
theorem hIx_w {ws : List (List Nat)} {m m2 : Md} {k : Int} (hm : itCl m = true) (h0 : 0 ≤ k) (h1 : k < ws.length) : ∃ w, ws[k.toNat]? = some w ∧ hIx (.list (strsD ws), m) (.int k, m2) = some (.str (tS0 w), .cl) := by
  have i1 : k.toNat < ws.length := by omega
  have iw := hIx_strs (ws := ws) (m := m) (m2 := m2) hm (List.getElem?_eq_getElem i1)
  rw [Int.toNat_of_nonneg h0] at iw
  exact ⟨_, List.getElem?_eq_getElem i1, iw⟩
theorem isNone_opt (o : Option R4) : isNoneD (optD o) = o.isNone := by cases o <;> rfl
theorem untold_iff {t : List R4} {w : List Nat} : ((roleR t (tS0 w) true).isNone && (roleR t (tS0 w) false).isNone) = true ↔ untold t w := by
  unfold untold
  rw [Bool.and_eq_true, Option.isNone_iff_eq_none, Option.isNone_iff_eq_none]
theorem name_ok (t : List R4) {ws : List (List Nat)} (hws : ws.length = 8) (c : Int) : ∃ w ∈ ws, (untold t w ∨ ws[6]? = some w ∨ ws[7]? = some w) ∧ retR (m__law_name_by [.val (.list (t.map rowD)), .val (.int c), .val (.list (strsD ws))]) = .ok (.str (tS0 w), .cl) := by
  let R : Out → Prop := fun o => (∃ w ∈ ws, untold t w ∧ ∃ ρ, o = .rt (.str (tS0 w)) .cl ρ) ∨ ∃ a b, o = .nx [.val (.list (t.map rowD)), .val (.int c), .val (.list (strsD ws)), a, b]
  have loop : R (forL 3 (sSeq b__law_name_by_1_1 b__law_name_by_1_2) (rangeD 0 6) [.val (.list (t.map rowD)), .val (.int c), .val (.list (strsD ws)), .un, .un]) := by
    refine forL_to (I := fun ds ρ => (∀ d ∈ ds, ∃ k : Nat, k < 6 ∧ d = .int k) ∧ ∃ a b, ρ = [.val (.list (t.map rowD)), .val (.int c), .val (.list (strsD ws)), a, b]) ⟨fun d hd => mem_range0 hd, _, _, rfl⟩ ?_ ?_
    · rintro ρ ⟨_, a, b, rfl⟩
      exact .inr ⟨a, b, rfl⟩
    · rintro d ds ρ ⟨hds, a, b, rfl⟩
      obtain ⟨k, hk, rfl⟩ := hds d List.mem_cons_self
      have p1 := Int.emod_nonneg (c + (k : Int)) (show (8 : Int) ≠ 0 by decide)
      have p2 := Int.emod_lt_of_pos (c + (k : Int)) (show (0 : Int) < 8 by decide)
      obtain ⟨w, hw, iw⟩ := hIx_w (ws := ws) (m := .cl) (m2 := .cl) (k := (c + (k : Int)) % 8) rfl p1 (by rw [hws]; exact p2)
      have t1 : b__law_name_by_1_1 [.val (.list (t.map rowD)), .val (.int c), .val (.list (strsD ws)), .val (.int (k : Int)), b] = .nx [.val (.list (t.map rowD)), .val (.int c), .val (.list (strsD ws)), .val (.int (k : Int)), .val (.str (tS0 w))] := by walk_at "s"
      have tc : mAnd (mCmp hIsN (mCall m__law_role (mCons (mVar 0) (mCons (mVar 4) (mCons (mK (.bool true)) (mNil))))) (mK .none)) (mCmp hIsN (mCall m__law_role (mCons (mVar 0) (mCons (mVar 4) (mCons (mK (.bool false)) (mNil))))) (mK .none)) [.val (.list (t.map rowD)), .val (.int c), .val (.list (strsD ws)), .val (.int (k : Int)), .val (.str (tS0 w))] = .ok ((roleR t (tS0 w) true).isNone && (roleR t (tS0 w) false).isNone) := by
        rw [← isNone_opt, ← isNone_opt]
        refine mAnd_ok ?_ fun _ => ?_ <;> walk_at "e"
      by_cases h : untold t w
      · refine .inr (.inl ⟨.str (tS0 w), .cl, [.val (.list (t.map rowD)), .val (.int c), .val (.list (strsD ws)), .val (.int (k : Int)), .val (.str (tS0 w))], ?_, .inl ⟨w, List.mem_of_getElem? hw, h, _, rfl⟩⟩)
        refine sSeq_go t1 (sIf_t (tc.trans (by rw [untold_iff.mpr h])) ?_)
        walk_at "s"
      · refine .inl ⟨_, sSeq_go t1 (sIf_f (tc.trans ?_) rfl), fun x hx => hds x (List.mem_cons_of_mem _ hx), _, _, rfl⟩
        cases e : ((roleR t (tS0 w) true).isNone && (roleR t (tS0 w) false).isNone) with
        | false => rfl
        | true => exact absurd (untold_iff.mp e) h
  have s1 : b__law_name_by_1 [.val (.list (t.map rowD)), .val (.int c), .val (.list (strsD ws)), .un, .un] = forL 3 (sSeq b__law_name_by_1_1 b__law_name_by_1_2) (rangeD 0 6) [.val (.list (t.map rowD)), .val (.int c), .val (.list (strsD ws)), .un, .un] := sFor_ok (mRange1_ok (n := 6) (m := .cl) rfl (by omega))
  rcases loop with ⟨w, h1, h2, ρ, e⟩ | ⟨a, b, e⟩
  · refine ⟨w, h1, .inl h2, retR_rt (ρ' := ρ) ?_⟩
    show b__law_name_by [.val (.list (t.map rowD)), .val (.int c), .val (.list (strsD ws)), .un, .un] = _
    exact sSeq_end (s1.trans e)
  · have p1 := Int.emod_nonneg c (show (2 : Int) ≠ 0 by decide)
    have p2 := Int.emod_lt_of_pos c (show (0 : Int) < 2 by decide)
    obtain ⟨w, hw, iw⟩ := hIx_w (ws := ws) (m := .cl) (m2 := .cl) (k := 6 + c % 2) rfl (by omega) (by rw [hws]; omega)
    refine ⟨w, List.mem_of_getElem? hw, .inr ?_, retR_rt (ρ' := [.val (.list (t.map rowD)), .val (.int c), .val (.list (strsD ws)), a, b]) ?_⟩
    · have : c % 2 = 0 ∨ c % 2 = 1 := by omega
      rcases this with h | h
      · left; rw [h] at hw; exact hw
      · right; rw [h] at hw; exact hw
    · show b__law_name_by [.val (.list (t.map rowD)), .val (.int c), .val (.list (strsD ws)), .un, .un] = _
      refine sSeq_go (s1.trans e) ?_
      walk_at "s"
/-! tables, whole -/
structure TabOk (t : List R4) : Prop where
  ok : ∀ r ∈ t, TellOk r
  uni : ∀ r ∈ t, roleR t (tS0 r.w) (decide (r.k = "before")) = some r
  kin : ∀ r ∈ t, ∀ s ∈ t, r.p = s.p → r.k = s.k
theorem roleR_append (t : List R4) (r : R4) (w : Str) (ah : Bool) : roleR (t ++ [r]) w ah = (roleR t w ah).or (if hits w ah r then some r else none) := by
  unfold roleR
  rw [List.find?_append]
  congr 1
  unfold List.find?
  cases hits w ah r <;> rfl
theorem TabOk.nil : TabOk [] := ⟨fun _ h => by simp at h, fun _ h => by simp at h, fun _ h => by simp at h⟩
theorem hits_self (r : R4) : hits (tS0 r.w) (decide (r.k = "before")) r = true := by
  unfold hits
  rw [decide_eq_true rfl, decide_eq_true rfl]
  rfl
theorem TabOk.add {t : List R4} {r : R4} (h : TabOk t) (hr : TellOk r) (hc : clashR t r = false) : TabOk (t ++ [r]) := by
  unfold clashR at hc
  rw [Bool.or_eq_false_iff] at hc
  obtain ⟨hc1, hc2⟩ := hc
  have no : roleR t (tS0 r.w) (decide (r.k = "before")) = none := by
    cases e : roleR t (tS0 r.w) (decide (r.k = "before")) with
    | none => rfl
    | some x => rw [e] at hc2; cases hc2
  have kn : ∀ x ∈ t, x.p = r.p → x.k = r.k := fun x hx hp => by
    have := List.any_eq_false.mp hc1 x hx
    unfold clashH at this
    rw [decide_eq_true hp, Bool.true_and] at this
    simpa using this
  refine ⟨fun x hx => ?_, fun x hx => ?_, fun x hx y hy hp => ?_⟩
  · rcases List.mem_append.mp hx with (hx | hx)
    · exact h.ok x hx
    · rw [List.mem_singleton.mp hx]; exact hr
  · rcases List.mem_append.mp hx with (hx | hx)
    · rw [roleR_append, h.uni x hx]; rfl
    · rw [List.mem_singleton.mp hx, roleR_append, no, hits_self]; rfl
  · rcases List.mem_append.mp hx with (hx | hx) <;> rcases List.mem_append.mp hy with (hy | hy)
    · exact h.kin x hx y hy hp
    · rw [List.mem_singleton.mp hy] at hp ⊢; exact kn x hx hp
    · rw [List.mem_singleton.mp hx] at hp ⊢; exact (kn y hy hp.symm).symm
    · rw [List.mem_singleton.mp hx, List.mem_singleton.mp hy]
theorem roleR_mem {t : List R4} {w : Str} {ah : Bool} {r : R4} (h : roleR t w ah = some r) : r ∈ t := List.mem_of_find?_eq_some h
theorem roleR_hits {t : List R4} {w : Str} {ah : Bool} {r : R4} (h : roleR t w ah = some r) : tS0 r.w = w ∧ decide (r.k = "before") = ah := by
  have := List.find?_some h
  unfold hits at this
  rw [Bool.and_eq_true, decide_eq_true_eq, decide_eq_true_eq] at this
  exact this
/-- a telling, with its word's place -/
theorem telling_ok2 (c : Int) {ws : List (List Nat)} (hws : WordsOk ws) : ∃ r, TellOk r ∧ r.w ∈ ws.take 6 ∧ retR (m__law_telling_by [.val (.int c), .val (.list (strsD ws))]) = .ok (rowD r, .cl) := by
  obtain ⟨kd, hk, ek⟩ := kind_at c
  have p1 := Int.emod_nonneg (c / 600) (show (6 : Int) ≠ 0 by decide)
  have p2 := Int.emod_lt_of_pos (c / 600) (show (0 : Int) < 6 by decide)
  obtain ⟨w, hw, iw⟩ := hIx_w (ws := ws) (m := .cl) (m2 := .cl) (k := c / 600 % 6) rfl p1 (by rw [hws.1]; omega)
  have q1 := Int.emod_nonneg (c / 20) (show (30 : Int) ≠ 0 by decide)
  have q2 := Int.emod_lt_of_pos (c / 20) (show (0 : Int) < 30 by decide)
  have q3 := Int.emod_nonneg (c / 20) (show (6 : Int) ≠ 0 by decide)
  have q4 := Int.emod_lt_of_pos (c / 20) (show (0 : Int) < 6 by decide)
  have w6 : w ∈ ws.take 6 := by
    refine List.mem_of_getElem? (i := (c / 600 % 6).toNat) ?_
    (rw [List.getElem?_take_of_lt (by omega)])
    exact hw
  have t1 : b__law_telling_by_1 [.val (.int c), .val (.list (strsD ws)), .un, .un] = .nx [.val (.int c), .val (.list (strsD ws)), .val (.str kd), .un] := by walk_at "s"
  have t2 : b__law_telling_by_2 [.val (.int c), .val (.list (strsD ws)), .val (.str kd), .un] = .nx [.val (.int c), .val (.list (strsD ws)), .val (.str kd), .val (.int (1 + c / 20 % 30))] := by walk_at "s"
  have tc : mCmp hGt (mBin hMod (mBin hDiv (mVar 0) (mK (.int 5))) (mK (.int 4))) (mK (.int 0)) [.val (.int c), .val (.list (strsD ws)), .val (.str kd), .val (.int (1 + c / 20 % 30))] = .ok (decide (0 < c / 5 % 4)) := by walk_at "e"
  have t4 : ∀ p : Int, b__law_telling_by_4 [.val (.int c), .val (.list (strsD ws)), .val (.str kd), .val (.int p)] = .rt (rowD ⟨kd, p, w⟩) .cl [.val (.int c), .val (.list (strsD ws)), .val (.str kd), .val (.int p)] := fun p => by walk_at "s"
  by_cases h : 0 < c / 5 % 4
  · refine ⟨⟨kd, 1 + c / 20 % 6, w⟩, ⟨hk, by show (1 : Int) ≤ 1 + c / 20 % 6; omega, by show 1 + c / 20 % 6 ≤ (30 : Int); omega, hws.2 w (List.mem_of_getElem? hw)⟩, w6, ?_⟩
    have t3 : b__law_telling_by_3 [.val (.int c), .val (.list (strsD ws)), .val (.str kd), .val (.int (1 + c / 20 % 30))] = .nx [.val (.int c), .val (.list (strsD ws)), .val (.str kd), .val (.int (1 + c / 20 % 6))] := sIf_t (tc.trans (by rw [decide_eq_true h])) (by walk_at "s")
    refine retR_rt (ρ' := [.val (.int c), .val (.list (strsD ws)), .val (.str kd), .val (.int (1 + c / 20 % 6))]) ?_
    show b__law_telling_by [.val (.int c), .val (.list (strsD ws)), .un, .un] = _
    exact sSeq_go t1 (sSeq_go t2 (sSeq_go t3 (t4 _)))
  · refine ⟨⟨kd, 1 + c / 20 % 30, w⟩, ⟨hk, by show (1 : Int) ≤ 1 + c / 20 % 30; omega, by show 1 + c / 20 % 30 ≤ (30 : Int); omega, hws.2 w (List.mem_of_getElem? hw)⟩, w6, ?_⟩
    have t3 : b__law_telling_by_3 [.val (.int c), .val (.list (strsD ws)), .val (.str kd), .val (.int (1 + c / 20 % 30))] = .nx [.val (.int c), .val (.list (strsD ws)), .val (.str kd), .val (.int (1 + c / 20 % 30))] := sIf_f (tc.trans (by rw [decide_eq_false h])) rfl
    refine retR_rt (ρ' := [.val (.int c), .val (.list (strsD ws)), .val (.str kd), .val (.int (1 + c / 20 % 30))]) ?_
    show b__law_telling_by [.val (.int c), .val (.list (strsD ws)), .un, .un] = _
    exact sSeq_go t1 (sSeq_go t2 (sSeq_go t3 (t4 _)))
/-- a table -/
theorem table_ok2 {ws : List (List Nat)} (hws : WordsOk ws) (cs : List Int) (hc : cs.length ≤ 60) : ∃ t : List R4, TabOk t ∧ t.length ≤ cs.length ∧ (∀ r ∈ t, r.w ∈ ws.take 6) ∧ retR (m__law_table_by [.val (.list (cs.map PyData.int)), .val (.list (strsD ws))]) = .ok (.list (t.map rowD), .ow) := by
  let R : Out → Prop := fun o => ∃ (t : List R4) (x y : Cell), TabOk t ∧ t.length ≤ cs.length ∧ (∀ r ∈ t, r.w ∈ ws.take 6) ∧ o = .nx [.val (.list (cs.map PyData.int)), .val (.list (strsD ws)), .own (t.map rowD), x, y]
  have loop : R (forL 3 (sSeq b__law_table_by_2_1 b__law_table_by_2_2) (cs.map PyData.int) [.val (.list (cs.map PyData.int)), .val (.list (strsD ws)), .own [], .un, .un]) := by
    refine forL_to (I := fun ds ρ => (∃ es : List Int, ds = es.map PyData.int ∧ es.length ≤ cs.length ∧ ∃ (t : List R4) (x y : Cell), TabOk t ∧ t.length + es.length ≤ cs.length ∧ (∀ r ∈ t, r.w ∈ ws.take 6) ∧ ρ = [.val (.list (cs.map PyData.int)), .val (.list (strsD ws)), .own (t.map rowD), x, y])) ⟨cs, rfl, Nat.le_refl _, [], .un, .un, TabOk.nil, by simp, fun _ h => by simp at h, rfl⟩ ?_ ?_
    · rintro ρ ⟨es, _, _, t, x, y, h1, h2, h3, rfl⟩
      exact ⟨t, x, y, h1, by omega, h3, rfl⟩
    · rintro d ds ρ ⟨es, he, hel, t, x, y, h1, h2, h3, rfl⟩
      cases es with
      | nil => cases he
      | cons c es =>
        cases he
        rw [List.length_cons] at h2 hel
        obtain ⟨r, hr, h6, er⟩ := telling_ok2 c hws
        have cl := clash_ok t r
        have t1 : b__law_table_by_2_1 [.val (.list (cs.map PyData.int)), .val (.list (strsD ws)), .own (t.map rowD), .val (.int c), y] = .nx [.val (.list (cs.map PyData.int)), .val (.list (strsD ws)), .own (t.map rowD), .val (.int c), .val (rowD r)] := by walk_at "s"
        have tc : mNot (mBool (mCall m__law_clash (mCons (mVar 2) (mCons (mVar 4) (mNil))))) [.val (.list (cs.map PyData.int)), .val (.list (strsD ws)), .own (t.map rowD), .val (.int c), .val (rowD r)] = .ok (!clashR t r) := by walk_at "e"
        cases h : clashR t r with
        | true =>
          refine .inl ⟨_, sSeq_go t1 (sIf_f (tc.trans (by rw [h]; rfl)) rfl), es, rfl, by omega, t, _, _, h1, by omega, h3, rfl⟩
        | false =>
          have t2 : b__law_table_by_2_2 [.val (.list (cs.map PyData.int)), .val (.list (strsD ws)), .own (t.map rowD), .val (.int c), .val (rowD r)] = .nx [.val (.list (cs.map PyData.int)), .val (.list (strsD ws)), .own ((t ++ [r]).map rowD), .val (.int c), .val (rowD r)] := by
            refine sIf_t (tc.trans (by rw [h]; rfl)) ?_
            rw [List.map_append]
            walk_at "s"
          refine .inl ⟨_, sSeq_go t1 t2, es, rfl, by omega, t ++ [r], _, _, h1.add hr h, by rw [List.length_append, List.length_singleton]; omega, fun x hx => ?_, rfl⟩
          rcases List.mem_append.mp hx with (hx | hx)
          · exact h3 x hx
          · rw [List.mem_singleton.mp hx]; exact h6
  obtain ⟨t, x, y, h1, h2, h3, e⟩ := loop
  refine ⟨t, h1, h2, h3, retR_rt (ρ' := [.val (.list (cs.map PyData.int)), .val (.list (strsD ws)), .own (t.map rowD), x, y]) ?_⟩
  show b__law_table_by [.val (.list (cs.map PyData.int)), .val (.list (strsD ws)), .un, .un, .un] = _
  refine sSeq_go (ρ' := [.val (.list (cs.map PyData.int)), .val (.list (strsD ws)), .own [], .un, .un]) (by walk_at "s") (sSeq_go ((sFor_ok rfl).trans e) ?_)
  walk_at "s"
/-! trees -/
inductive Tree where
  | nm (w : List Nat)
  | be (w : List Nat) (x : Tree)
  | bh (w : List Nat) (x : Tree)
  | bt (w : List Nat) (l r : Tree)
def treeD : Tree → D
  | .nm w => .str (tS0 w)
  | .be w x => .tuple [.str "before", .str (tS0 w), treeD x]
  | .bh w x => .tuple [.str "behind", .str (tS0 w), treeD x]
  | .bt w l r => .tuple [.str "between", .str (tS0 w), treeD l, treeD r]
def Tree.ops : Tree → Nat
  | .nm _ => 0
  | .be _ x => x.ops + 1
  | .bh _ x => x.ops + 1
  | .bt _ l r => l.ops + r.ops + 1
/-- a tree of the table, its names in N -/
def OkT (t : List R4) (N : List Nat → Prop) : Tree → Prop
  | .nm w => N w
  | .be w x => (∃ r, roleR t (tS0 w) true = some r) ∧ OkT t N x
  | .bh w x => (∃ r, roleR t (tS0 w) false = some r ∧ r.k = "behind") ∧ OkT t N x
  | .bt w l r => (∃ r, roleR t (tS0 w) false = some r ∧ r.k ≠ "behind") ∧ OkT t N l ∧ OkT t N r
def opsL (ts : List Tree) : Nat := (ts.map Tree.ops).sum
theorem opsL_append (a b : List Tree) : opsL (a ++ b) = opsL a + opsL b := by
  unfold opsL
  rw [List.map_append, List.sum_append]
theorem opsL_one (x : Tree) : opsL [x] = x.ops := by simp [opsL]
theorem lf_tree : ∀ T : Tree, lf (treeD T) = true
  | .nm w => rfl
  | .be w x => by
    have := lf_tree x
    simp [treeD, lf, lfs, this]
  | .bh w x => by
    have := lf_tree x
    simp [treeD, lf, lfs, this]
  | .bt w l r => by
    have h1 := lf_tree l
    have h2 := lf_tree r
    simp [treeD, lf, lfs, h1, h2]
theorem kind_of {t : List R4} (ht : TabOk t) {r : R4} (h : r ∈ t) : r.k = "left" ∨ r.k = "right" ∨ r.k = "none" ∨ r.k = "before" ∨ r.k = "behind" := by
  have := (ht.ok r h).1
  simpa [kindsL] using this
theorem row_be {t : List R4} (ht : TabOk t) {r : R4} (h : r ∈ t) (hk : r.k = "before") : roleR t (tS0 r.w) true = some r := by
  have := ht.uni r h
  rwa [decide_eq_true hk] at this
theorem row_not {t : List R4} (ht : TabOk t) {r : R4} (h : r ∈ t) (hk : r.k ≠ "before") : roleR t (tS0 r.w) false = some r := by
  have := ht.uni r h
  rwa [decide_eq_false hk] at this
theorem ix_rows {t : List R4} (hne : t ≠ []) (i : Int) {m m2 : Md} (hm : itCl m = true) : ∃ r ∈ t, hIx (.list (t.map rowD), m) (.int (i % (((t.map rowD).length : Nat) : Int)), m2) = some (rowD r, .cl) := by
  have hl : 0 < t.length := List.length_pos_iff.mpr hne
  have e0 : (((t.map rowD).length : Nat) : Int) = (t.length : Int) := by rw [List.length_map]
  rw [e0]
  have p1 := Int.emod_nonneg i (show (t.length : Int) ≠ 0 by omega)
  have p2 := Int.emod_lt_of_pos i (show (0 : Int) < t.length by omega)
  obtain ⟨j, hj, e1⟩ : ∃ j : Nat, j < t.length ∧ i % (t.length : Int) = (j : Int) := ⟨(i % (t.length : Int)).toNat, by omega, by omega⟩
  rw [e1]
  refine ⟨t[j], List.getElem_mem hj, ?_⟩
  have ea : atI (t.map rowD) (j : Int) = some (rowD t[j]) := atI_nat (by rw [List.getElem?_map, List.getElem?_eq_getElem hj]; rfl)
  unfold hIx
  dsimp only
  rw [ea]
  unfold itMode
  simp only [Option.map_some]
  rw [if_pos hm]
theorem hEq_nil {ds : List D} {m m2 : Md} (h : SeqAt.shaped (.list ds) = true) : hEq (.list ds, m) (.list [], m2) = some ds.isEmpty := by
  have := hNe_nil (m := m) (m2 := m2) h
  unfold hNe at this
  cases e : hEq (.list ds, m) (.list [], m2) with
  | none => rw [e] at this; cases this
  | some b =>
    rw [e] at this
    have h2 : (!b) = !ds.isEmpty := Option.some.inj this
    generalize ds.isEmpty = z at h2 ⊢
    cases b <;> cases z <;> first | rfl | cases h2
theorem snoc {α : Type} {l : List α} (h : l ≠ []) : ∃ a x, l = a ++ [x] := ⟨l.dropLast, l.getLast h, (List.dropLast_concat_getLast h).symm⟩
theorem okT_join {t : List R4} {N : List Nat → Prop} (ht : TabOk t) {r : R4} (hr : r ∈ t) (h1 : r.k ≠ "before") (h2 : r.k ≠ "behind") {x y : Tree} (hx : OkT t N x) (hy : OkT t N y) : OkT t N (.bt r.w x y) := ⟨⟨r, row_not ht hr h1, h2⟩, hx, hy⟩
section
variable {t : List R4} {ws : List (List Nat)} {N : List Nat → Prop}
theorem pop2 {ts : List Tree} (h : 2 ≤ ts.length) : ∃ a x y, ts = a ++ [x] ++ [y] := by
  obtain ⟨b, y, rfl⟩ := snoc (l := ts) (by intro z; rw [z] at h; simp at h)
  rw [List.length_append, List.length_singleton] at h
  obtain ⟨a, x, rfl⟩ := snoc (l := b) (by intro z; rw [z] at h; simp at h)
  exact ⟨a, x, y, rfl⟩
theorem snoc_map (a : List Tree) (x : Tree) : (a ++ [x]).map treeD = a.map treeD ++ [treeD x] := by rw [List.map_append]; rfl
theorem grown_ok (ht : TabOk t) (hne : t ≠ []) (hws : ws.length = 8) (hN : ∀ w ∈ ws, (untold t w ∨ ws[6]? = some w ∨ ws[7]? = some w) → N w) (c : Int) {ts : List Tree} (h1 : ts ≠ []) (h2 : ∀ x ∈ ts, OkT t N x) (hl : ts.length ≤ 900) :
    ∃ ts', ts' ≠ [] ∧ (∀ x ∈ ts', OkT t N x) ∧ opsL ts' + ts'.length ≤ opsL ts + ts.length + 1 ∧ ∃ ρ', m__law_grown_by [.val (.list (t.map rowD)), .own (ts.map treeD), .val (.int c), .val (.list (strsD ws))] = .ok ((.none, .cl), ρ') ∧ ρ'[1]? = some (.own (ts'.map treeD)) := by
  obtain ⟨r, hr, ir⟩ := ix_rows hne (c / 4) (m := .cl) (m2 := .cl) rfl
  have hp : (0 : Int) < (((t.map rowD).length : Nat) : Int) := by
    have := List.length_pos_iff.mpr hne
    rw [List.length_map]
    omega
  have s1 : b__law_grown_by_1 [.val (.list (t.map rowD)), .own (ts.map treeD), .val (.int c), .val (.list (strsD ws)), .un, .un, .un] = .nx [.val (.list (t.map rowD)), .own (ts.map treeD), .val (.int c), .val (.list (strsD ws)), .val (rowD r), .un, .un] := by walk_at "s"
  have t2 : mCmp hIn (mBin hIx (mVar 4) (mK (.int 1))) (mLst (mCons (mK (.str "before")) (mCons (mK (.str "behind")) (mNil)))) [.val (.list (t.map rowD)), .own (ts.map treeD), .val (.int c), .val (.list (strsD ws)), .val (rowD r), .un, .un] = .ok (decide (r.k = "before") || decide (r.k = "behind")) := by walk_at "e"
  by_cases hk : r.k = "before" ∨ r.k = "behind"
  · -- an operator of one operand
    have ht2 : (decide (r.k = "before") || decide (r.k = "behind")) = true := by simpa using hk
    obtain ⟨a, x, rfl⟩ := snoc h1
    have hx : OkT t N x := h2 x (by simp)
    have la : a.length ≤ 900 := by rw [List.length_append] at hl; omega
    obtain ⟨T, hT, eT, oT⟩ : ∃ T, OkT t N T ∧ treeD T = .tuple [.str r.k, .str (tS0 r.w), treeD x] ∧ T.ops = x.ops + 1 := by
      rcases hk with hk | hk
      · exact ⟨.be r.w x, ⟨⟨r, row_be ht hr hk⟩, hx⟩, by rw [hk]; rfl, rfl⟩
      · exact ⟨.bh r.w x, ⟨⟨r, row_not ht hr (by rw [hk]; decide), hk⟩, hx⟩, by rw [hk]; rfl, rfl⟩
    refine ⟨a ++ [T], by simp, fun y hy => ?_, ?_, ?_⟩
    · rcases List.mem_append.mp hy with (hy | hy)
      · exact h2 y (List.mem_append_left _ hy)
      · rw [List.mem_singleton.mp hy]; exact hT
    · rw [opsL_append, opsL_append, opsL_one, opsL_one, oT, List.length_append, List.length_append, List.length_singleton, List.length_singleton]; omega
    · rw [snoc_map] at s1 t2 ⊢
      have s2 : b__law_grown_by_2_1 [.val (.list (t.map rowD)), .own (a.map treeD ++ [treeD x]), .val (.int c), .val (.list (strsD ws)), .val (rowD r), .un, .un] = .nx [.val (.list (t.map rowD)), .own (a.map treeD ++ [treeD T]), .val (.int c), .val (.list (strsD ws)), .val (rowD r), .un, .un] := by
        rw [eT]
        refine sApp_pop (ds := a.map treeD) rfl (mTupX_go (mConsX_go (mLift_go (m := .cl) (by walk_at "e") rfl) (mConsX_go (mLift_go (m := .cl) (by walk_at "e") rfl) (mConsX_go (mPop_go rfl (by walk_at "l")) mNilX_go))) (Nat.le_of_ble_eq_true rfl) rfl) rfl (by rw [List.length_map]; omega) (by walk_at "l")
      refine ⟨_, run_rt (d := .none) (m := .cl) (ρ' := [.val (.list (t.map rowD)), .own (a.map treeD ++ [treeD T]), .val (.int c), .val (.list (strsD ws)), .val (rowD r), .un, .un]) ?_, by rw [snoc_map]; rfl⟩
      show b__law_grown_by [.val (.list (t.map rowD)), .own (a.map treeD ++ [treeD x]), .val (.int c), .val (.list (strsD ws)), .un, .un, .un] = _
      exact sSeq_go s1 (sSeq_end (sIf_t (t2.trans (by rw [ht2])) (sSeq_go s2 rfl)))
  · have ht2 : (decide (r.k = "before") || decide (r.k = "behind")) = false := by simpa using hk
    have s2 : b__law_grown_by_2 [.val (.list (t.map rowD)), .own (ts.map treeD), .val (.int c), .val (.list (strsD ws)), .val (rowD r), .un, .un] = .nx [.val (.list (t.map rowD)), .own (ts.map treeD), .val (.int c), .val (.list (strsD ws)), .val (rowD r), .un, .un] := sIf_f (t2.trans (by rw [ht2])) rfl
    -- two at least
    have s3 : ∃ a x y, (∀ z ∈ a ++ [x] ++ [y], OkT t N z) ∧ (a ++ [x] ++ [y]).length ≤ ts.length + 1 ∧ opsL (a ++ [x] ++ [y]) + (a ++ [x] ++ [y]).length ≤ opsL ts + ts.length + 1 ∧ b__law_grown_by_3 [.val (.list (t.map rowD)), .own (ts.map treeD), .val (.int c), .val (.list (strsD ws)), .val (rowD r), .un, .un] = .nx [.val (.list (t.map rowD)), .own ((a ++ [x] ++ [y]).map treeD), .val (.int c), .val (.list (strsD ws)), .val (rowD r), .un, .un] := by
      have t3 : mCmp hLt (mCallB hLen (mCons (mVar 1) (mNil))) (mK (.int 2)) [.val (.list (t.map rowD)), .own (ts.map treeD), .val (.int c), .val (.list (strsD ws)), .val (rowD r), .un, .un] = .ok (decide (((ts.map treeD).length : Int) < 2)) := by walk_at "e"
      rw [List.length_map] at t3
      by_cases h : 2 ≤ ts.length
      · obtain ⟨a, x, y, rfl⟩ := pop2 h
        exact ⟨a, x, y, h2, by omega, by omega, sIf_f (t3.trans (by rw [decide_eq_false (by omega)])) rfl⟩
      · obtain ⟨a, x, rfl⟩ := snoc h1
        have ha : a = [] := by
          cases a with
          | nil => rfl
          | cons b a => rw [List.length_append, List.length_cons, List.length_singleton] at h; omega
        subst ha
        obtain ⟨w, hw, hu, en⟩ := name_ok t hws (c / 7)
        refine ⟨[], x, .nm w, fun z hz => ?_, by simp, ?_, sIf_t (t3.trans (by rw [decide_eq_true (by simp)])) ?_⟩
        · simp only [List.nil_append, List.cons_append, List.mem_cons, List.not_mem_nil, or_false] at hz
          rcases hz with rfl | rfl
          · exact h2 z (by simp)
          · exact hN w hw hu
        · simp [opsL, Tree.ops]
        · have tw : treeD (.nm w) = .str (tS0 w) := rfl
          show b__law_grown_by_3_1 [.val (.list (t.map rowD)), .own [treeD x], .val (.int c), .val (.list (strsD ws)), .val (rowD r), .un, .un] = .nx [.val (.list (t.map rowD)), .own ([treeD x] ++ [.str (tS0 w)]), .val (.int c), .val (.list (strsD ws)), .val (rowD r), .un, .un]
          walk_at "s"
    obtain ⟨a, x, y, h3, hl3, ho3, s3⟩ := s3
    have la : a.length ≤ 900 := by simp only [List.length_append, List.length_singleton] at hl3; omega
    have nb : r.k ≠ "before" := fun z => hk (.inl z)
    have nh : r.k ≠ "behind" := fun z => hk (.inr z)
    refine ⟨a ++ [.bt r.w x y], by simp, fun z hz => ?_, ?_, ?_⟩
    · rcases List.mem_append.mp hz with (hz | hz)
      · exact h3 z (by simp [hz])
      · (rw [List.mem_singleton.mp hz])
        exact okT_join ht hr nb nh (h3 x (by simp)) (h3 y (by simp))
    · simp only [opsL_append, opsL_one, List.length_append, List.length_singleton, Tree.ops] at ho3 ⊢
      omega
    · have e3 : (a ++ [x] ++ [y]).map treeD = a.map treeD ++ [treeD x] ++ [treeD y] := by rw [snoc_map, snoc_map]
      rw [e3] at s3
      have eT : treeD (.bt r.w x y) = .tuple [.str "between", .str (tS0 r.w), treeD x, treeD y] := rfl
      refine ⟨_, run_nx (ρ' := [.val (.list (t.map rowD)), .own (a.map treeD ++ [treeD (.bt r.w x y)]), .val (.int c), .val (.list (strsD ws)), .val (rowD r), .val (treeD y), .val (treeD x)]) ?_, by rw [snoc_map]; rfl⟩
      show b__law_grown_by [.val (.list (t.map rowD)), .own (ts.map treeD), .val (.int c), .val (.list (strsD ws)), .un, .un, .un] = _
      rw [eT]
      refine sSeq_go s1 (sSeq_go s2 (sSeq_go s3 ?_))
      have hla : (a.map treeD).length ≤ 1000 := by rw [List.length_map]; omega
      walk_at "s"
end
/-! a tree, grown -/
section
variable {t : List R4} {ws : List (List Nat)} {N : List Nat → Prop}
def GoodL (t : List R4) (N : List Nat → Prop) (n : Nat) (ts : List Tree) : Prop := ts ≠ [] ∧ (∀ x ∈ ts, OkT t N x) ∧ opsL ts + ts.length ≤ n + 1
theorem tree_ok (ht : TabOk t) (hws : ws.length = 8) (hN : ∀ w ∈ ws, (untold t w ∨ ws[6]? = some w ∨ ws[7]? = some w) → N w) (cs : List Int) (hc : cs.length ≤ 60) :
    ∃ T, OkT t N T ∧ T.ops ≤ cs.length ∧ retR (m__law_tree_by [.val (.list (t.map rowD)), .val (.list (cs.map PyData.int)), .val (.list (strsD ws))]) = .ok (treeD T, .cl) := by
  obtain ⟨w7, h7, i7⟩ := hIx_w (ws := ws) (m := .cl) (m2 := .cl) (k := 7) rfl (by omega) (by rw [hws]; omega)
  have h7' : ws[7]? = some w7 := h7
  have s1 : b__law_tree_by_1 [.val (.list (t.map rowD)), .val (.list (cs.map PyData.int)), .val (.list (strsD ws)), .un, .un, .un, .un, .un] = .nx [.val (.list (t.map rowD)), .val (.list (cs.map PyData.int)), .val (.list (strsD ws)), .own ([Tree.nm w7].map treeD), .un, .un, .un, .un] := by
    show _ = Out.nx [.val (.list (t.map rowD)), .val (.list (cs.map PyData.int)), .val (.list (strsD ws)), .own [.str (tS0 w7)], .un, .un, .un, .un]
    walk_at "s"
  -- the cells
  let R : Out → Prop := fun o => ∃ ts x, GoodL t N cs.length ts ∧ o = .nx [.val (.list (t.map rowD)), .val (.list (cs.map PyData.int)), .val (.list (strsD ws)), .own (ts.map treeD), x, .un, .un, .un]
  have loop : R (forL 4 b__law_tree_by_2_1 (cs.map PyData.int) [.val (.list (t.map rowD)), .val (.list (cs.map PyData.int)), .val (.list (strsD ws)), .own ([Tree.nm w7].map treeD), .un, .un, .un, .un]) := by
    refine forL_to (I := fun ds ρ => ∃ (es : List Int) (n : Nat) (ts : List Tree) (x : Cell), ds = es.map PyData.int ∧ n + es.length = cs.length ∧ GoodL t N n ts ∧ ρ = [.val (.list (t.map rowD)), .val (.list (cs.map PyData.int)), .val (.list (strsD ws)), .own (ts.map treeD), x, .un, .un, .un])
      ⟨cs, 0, [.nm w7], .un, rfl, by omega, ⟨by simp, fun x hx => ?_, by simp [opsL, Tree.ops]⟩, rfl⟩ ?_ ?_
    · rw [List.mem_singleton.mp hx]
      exact hN w7 (List.mem_of_getElem? h7') (.inr (.inr h7'))
    · rintro ρ ⟨es, n, ts, x, he, hn, hg, rfl⟩
      cases es with
      | cons e es => cases he
      | nil => exact ⟨ts, x, by simpa using hn ▸ hg, rfl⟩
    · rintro d ds ρ ⟨es, n, ts, x, he, hn, hg, rfl⟩
      cases es with
      | nil => cases he
      | cons c es =>
        cases he
        rw [List.length_cons] at hn
        obtain ⟨g1, g2, g3⟩ := hg
        have hlt : ts.length ≤ 100 := by omega
        have hlm : (ts.map treeD).length ≤ 1000 := by rw [List.length_map]; omega
        have tc : mOr (mCmp hEq (mBin hMod (mVar 4) (mK (.int 4))) (mK (.int 0))) (mCmp hEq (mVar 0) (mLst (mNil))) [.val (.list (t.map rowD)), .val (.list (cs.map PyData.int)), .val (.list (strsD ws)), .own (ts.map treeD), .val (.int c), .un, .un, .un] = .ok (decide (c % 4 = 0) || (t.map rowD).isEmpty) := by
          have hn := hEq_nil (m := .cl) (m2 := .fr) (shaped_rows ht.ok)
          refine mOr_ok ?_ fun _ => ?_ <;> walk_at "e"
        have put : ∀ (ts' : List Tree), GoodL t N (n + 1) ts' → b__law_tree_by_2_1 [.val (.list (t.map rowD)), .val (.list (cs.map PyData.int)), .val (.list (strsD ws)), .own (ts.map treeD), .val (.int c), .un, .un, .un] = .nx [.val (.list (t.map rowD)), .val (.list (cs.map PyData.int)), .val (.list (strsD ws)), .own (ts'.map treeD), .val (.int c), .un, .un, .un] →
            ∃ ρ', b__law_tree_by_2_1 (([.val (.list (t.map rowD)), .val (.list (cs.map PyData.int)), .val (.list (strsD ws)), .own (ts.map treeD), x, .un, .un, .un] : CV).set 4 (.val (.int c))) = .nx ρ' ∧ ∃ (es' : List Int) (n : Nat) (ts : List Tree) (x : Cell), es.map PyData.int = es'.map PyData.int ∧ n + es'.length = cs.length ∧ GoodL t N n ts ∧ ρ' = [.val (.list (t.map rowD)), .val (.list (cs.map PyData.int)), .val (.list (strsD ws)), .own (ts.map treeD), x, .un, .un, .un] :=
          fun ts' hg' e => ⟨_, e, es, n + 1, ts', _, rfl, by omega, hg', rfl⟩
        by_cases hb : (decide (c % 4 = 0) || (t.map rowD).isEmpty) = true
        · obtain ⟨w, hw, hu, en⟩ := name_ok t hws (c / 4)
          refine .inl (put (ts ++ [.nm w]) ⟨by simp, fun y hy => ?_, ?_⟩ (sIf_t (tc.trans (by rw [hb])) ?_))
          · rcases List.mem_append.mp hy with (hy | hy)
            · exact g2 y hy
            · rw [List.mem_singleton.mp hy]; exact hN w hw hu
          · simp only [opsL_append, opsL_one, List.length_append, List.length_singleton, Tree.ops]; omega
          · have tw : treeD (.nm w) = .str (tS0 w) := rfl
            rw [snoc_map, tw]
            walk_at "s"
        · have hb' : (decide (c % 4 = 0) || (t.map rowD).isEmpty) = false := by simpa using hb
          have hne : t ≠ [] := by
            rintro rfl
            rw [List.map_nil, List.isEmpty_nil, Bool.or_true] at hb'
            cases hb'
          obtain ⟨ts', k1, k2, k3, ρ2, ek, e1⟩ := grown_ok ht hne hws hN c g1 g2 (by omega)
          refine .inl (put ts' ⟨k1, k2, by omega⟩ (sIf_f (tc.trans (by rw [hb'])) (sExprX_go (mCallIo_go (as := [.v (.list (t.map rowD), .cl), .io 3, .v (.int c, .cl), .v (.list (strsD ws), .cl)]) (by walk_at "e") ⟨rfl, rfl, rfl⟩ rfl ek (ioSet_one e1)))))
  obtain ⟨ts, x, hg, e2⟩ := loop
  -- the last joins
  let R3 : Out → Prop := fun o => ∃ ts a b c, GoodL t N cs.length ts ∧ o = .nx [.val (.list (t.map rowD)), .val (.list (cs.map PyData.int)), .val (.list (strsD ws)), .own (ts.map treeD), x, a, b, c]
  have loop3 : R3 (forL 5 b__law_tree_by_3_1 (t.map rowD) [.val (.list (t.map rowD)), .val (.list (cs.map PyData.int)), .val (.list (strsD ws)), .own (ts.map treeD), x, .un, .un, .un]) := by
    refine forL_to (I := fun ds ρ => ∃ (rs : List R4) (ts : List Tree) (a b c : Cell), ds = rs.map rowD ∧ (∀ r ∈ rs, r ∈ t) ∧ GoodL t N cs.length ts ∧ ρ = [.val (.list (t.map rowD)), .val (.list (cs.map PyData.int)), .val (.list (strsD ws)), .own (ts.map treeD), x, a, b, c])
      ⟨t, ts, .un, .un, .un, rfl, fun _ h => h, hg, rfl⟩ ?_ ?_
    · rintro ρ ⟨rs, ts, a, b, c, _, _, hg, rfl⟩
      exact ⟨ts, a, b, c, hg, rfl⟩
    · rintro d ds ρ ⟨rs, ts, a, b, c, he, hrs, hg, rfl⟩
      cases rs with
      | nil => cases he
      | cons r rs =>
        cases he
        have hr := hrs r List.mem_cons_self
        obtain ⟨ρ', e, ts', b', c', hg', rfl⟩ := whL_by (t := mAnd (mCmp hIn (mBin hIx (mVar 5) (mK (.int 1))) (mLst (mCons (mK (.str "left")) (mCons (mK (.str "right")) (mCons (mK (.str "none")) (mNil)))))) (mCmp hGt (mCallB hLen (mCons (mVar 3) (mNil))) (mK (.int 1)))) (u := sSeq b__law_tree_by_3_1_1 (sSeq b__law_tree_by_3_1_2 b__law_tree_by_3_1_3))
          (I := fun n ρ => ∃ ts b c, GoodL t N cs.length ts ∧ n = ts.length ∧ ρ = [.val (.list (t.map rowD)), .val (.list (cs.map PyData.int)), .val (.list (strsD ws)), .own (ts.map treeD), x, .val (rowD r), b, c])
          (R := fun ρ => ∃ ts b c, GoodL t N cs.length ts ∧ ρ = [.val (.list (t.map rowD)), .val (.list (cs.map PyData.int)), .val (.list (strsD ws)), .own (ts.map treeD), x, .val (rowD r), b, c])
          (fun n ρ hi => by
            obtain ⟨ts, b, c, hg, rfl, rfl⟩ := hi
            obtain ⟨g1, g2, g3⟩ := hg
            have t1 : mCmp hIn (mBin hIx (mVar 5) (mK (.int 1))) (mLst (mCons (mK (.str "left")) (mCons (mK (.str "right")) (mCons (mK (.str "none")) (mNil))))) [.val (.list (t.map rowD)), .val (.list (cs.map PyData.int)), .val (.list (strsD ws)), .own (ts.map treeD), x, .val (rowD r), b, c] = .ok (decide (r.k = "left") || (decide (r.k = "right") || decide (r.k = "none"))) := by walk_at "e"
            have t2 : mCmp hGt (mCallB hLen (mCons (mVar 3) (mNil))) (mK (.int 1)) [.val (.list (t.map rowD)), .val (.list (cs.map PyData.int)), .val (.list (strsD ws)), .own (ts.map treeD), x, .val (rowD r), b, c] = .ok (decide ((1 : Int) < ((ts.map treeD).length : Nat))) := by walk_at "e"
            have tc := mAnd_ok t1 fun _ => t2
            rw [List.length_map] at tc
            by_cases hb : ((decide (r.k = "left") || (decide (r.k = "right") || decide (r.k = "none"))) && decide ((1 : Int) < (ts.length : Nat))) = true
            · rw [hb] at tc
              rw [Bool.and_eq_true] at hb
              have hk : r.k ≠ "before" ∧ r.k ≠ "behind" := by
                have h1 := hb.1
                (simp only [Bool.or_eq_true, decide_eq_true_eq] at h1)
                rcases h1 with h1 | h1 | h1 <;> (rw [h1]; decide)
              have h2 : 2 ≤ ts.length := by have := of_decide_eq_true hb.2; omega
              obtain ⟨a, y, z, rfl⟩ := pop2 h2
              have e3 : (a ++ [y] ++ [z]).map treeD = a.map treeD ++ [treeD y] ++ [treeD z] := by rw [snoc_map, snoc_map]
              rw [e3] at tc ⊢
              have hla : (a.map treeD).length ≤ 1000 := by rw [List.length_map]; simp only [List.length_append, List.length_singleton] at g3; omega
              refine .inr ⟨(a ++ [Tree.bt r.w y z]).length, [.val (.list (t.map rowD)), .val (.list (cs.map PyData.int)), .val (.list (strsD ws)), .own ((a ++ [Tree.bt r.w y z]).map treeD), x, .val (rowD r), .val (treeD z), .val (treeD y)], ?_, tc, ?_, a ++ [.bt r.w y z], _, _, ⟨by simp, fun q hq => ?_, ?_⟩, rfl, rfl⟩
              · simp only [List.length_append, List.length_singleton]; omega
              · have eT : treeD (.bt r.w y z) = .tuple [.str "between", .str (tS0 r.w), treeD y, treeD z] := rfl
                rw [snoc_map, eT]
                walk_at "s"
              · rcases List.mem_append.mp hq with (hq | hq)
                · exact g2 q (by simp [hq])
                · (rw [List.mem_singleton.mp hq])
                  exact okT_join ht hr hk.1 hk.2 (g2 y (by simp)) (g2 z (by simp))
              · simp only [opsL_append, opsL_one, List.length_append, List.length_singleton, Tree.ops] at g3 ⊢
                omega
            · have hb' : ((decide (r.k = "left") || (decide (r.k = "right") || decide (r.k = "none"))) && decide ((1 : Int) < (ts.length : Nat))) = false := by simpa using hb
              exact .inl ⟨tc.trans (by rw [hb']), ts, b, c, ⟨g1, g2, g3⟩, rfl⟩) 100000 ts.length [.val (.list (t.map rowD)), .val (.list (cs.map PyData.int)), .val (.list (strsD ws)), .own (ts.map treeD), x, .val (rowD r), b, c] ⟨ts, b, c, hg, rfl, rfl⟩ (by have := hg.2.2; omega)
        exact .inl ⟨_, e, rs, ts', _, _, _, rfl, fun q hq => hrs q (List.mem_cons_of_mem _ hq), hg', rfl⟩
  obtain ⟨ts3, a, b, c, hg3, e3⟩ := loop3
  obtain ⟨f1, f2, f3⟩ := hg3
  obtain ⟨l, T, rfl⟩ := snoc f1
  have hT : T.ops ≤ cs.length := by
    simp only [opsL_append, opsL_one, List.length_append, List.length_singleton] at f3
    omega
  refine ⟨T, f2 T (by simp), hT, retR_rt (ρ' := [.val (.list (t.map rowD)), .val (.list (cs.map PyData.int)), .val (.list (strsD ws)), .own ((l ++ [T]).map treeD), x, a, b, c]) ?_⟩
  show b__law_tree_by [.val (.list (t.map rowD)), .val (.list (cs.map PyData.int)), .val (.list (strsD ws)), .un, .un, .un, .un, .un] = _
  refine sSeq_go s1 (sSeq_go ((sFor_ok rfl).trans e2) (sSeq_go ((sFor_ok rfl).trans e3) ?_))
  have ie := ix_end (l.map treeD) (treeD T) (m := .ow) (m2 := .cl) rfl
  rw [snoc_map]
  exact sRet_ok (mBin_ok rfl (mUn_ok (h := hNeg) mK_ok rfl) ie) (by decide)
end
/-! the program's names -/
theorem hLe_str (a b : Str) (m m2 : Md) : hLe (.str a, m) (.str b, m2) = some (!decide (b.cps.toList < a.cps.toList)) := rfl
def wordT (l : List Nat) : Bool := !decide (tS0 l = "tell") && ((decide ((1 : Int) ≤ (l.length : Int)) && decide ((l.length : Int) ≤ 8)) && l.all (inB "();"))
theorem wordT_iff {l : List Nat} : wordT l = true ↔ wordOk l := by
  unfold wordT wordOk
  rw [Bool.and_eq_true, Bool.and_eq_true, Bool.and_eq_true, Bool.not_eq_true', decide_eq_false_iff_not, decide_eq_true_eq, decide_eq_true_eq]
  constructor
  · rintro ⟨h1, ⟨h2, h3⟩, h4⟩
    exact ⟨by omega, by omega, h4, h1⟩
  · rintro ⟨h1, h2, h3, h4⟩
    exact ⟨h4, ⟨by omega, by omega⟩, h3⟩
theorem hLen_text {l : List Nat} {m : Md} (h : l.length ≤ 1000) : hLen [(.str (tS0 l), m)] = some (.int l.length, .cl) := by
  unfold hLen
  dsimp only
  have e : (tS0 l).length = l.length := tS0_len l
  first
    | rw [if_pos (le_line (by rw [e]; exact h)), e]
    | rw [e]
theorem is_word_ok {l : List Nat} (h : l.length ≤ 1000) : retR (m_is_word [.val (.str (tS0 l))]) = .ok (.bool (wordT l), .cl) := by
  refine retR_rt (ρ' := [.val (.str (tS0 l))]) ?_
  show b_is_word [.val (.str (tS0 l))] = _
  have t1 : mOr (mNot (mBool (mIsi "str" (mVar 0)))) (mCmp hEq (mVar 0) (mK (.str "tell"))) [.val (.str (tS0 l))] = .ok ((!(isD "str" (PyData.str (tS0 l)))) || decide (tS0 l = "tell")) := mOr_ok (by walk_at "e") fun _ => by walk_at "e"
  have hl := hLen_text (m := .cl) h
  have e0 : mCallB hLen (mCons (mVar 0) (mNil)) [.val (.str (tS0 l))] = .ok (.int l.length, .cl) := by walk_at "e"
  by_cases ht : tS0 l = "tell"
  · have w : wordT l = false := by unfold wordT; rw [decide_eq_true ht]; rfl
    rw [w]
    exact sSeq_end (sIf_t (t1.trans (by rw [decide_eq_true ht]; rfl)) (by walk_at "s"))
  · have w : wordT l = ((decide ((1 : Int) ≤ (l.length : Int)) && decide ((l.length : Int) ≤ 8)) && l.all (inB "();")) := by unfold wordT; rw [decide_eq_false ht]; rfl
    rw [w]
    refine sSeq_go (sIf_f (t1.trans (by rw [decide_eq_false ht]; rfl)) rfl) (sRet_ok ?_ (by decide))
    have c1 : mVal (mChain hLe hLe (mK (.int 1)) (mCallB hLen (mCons (mVar 0) (mNil))) (mK (.int 8))) [.val (.str (tS0 l))] = .ok (.bool (decide ((1 : Int) ≤ (l.length : Int)) && decide ((l.length : Int) ≤ 8)), .cl) := by
      refine mVal_ok ?_
      unfold mChain
      rw [mK_ok, e0]
      simp only [Rs.bind, hLe_int, ofO]
      cases decide ((1 : Int) ≤ (l.length : Int)) <;> rfl
    unfold mAndV
    rw [mBool_ok c1]
    simp only [Rs.bind]
    cases hb : (decide ((1 : Int) ≤ (l.length : Int)) && decide ((l.length : Int) ≤ 8)) with
    | false => rfl
    | true => exact rfl
/-- a thing that may be compared -/
def Nice (d : D) : Prop := d.canLay0 = true ∧ d.depth ≤ 60
def isS (d : D) (k : Str) : Bool := match d with
  | .str s => decide (s = k)
  | _ => false
theorem Nice.shaped {d : D} (h : Nice d) : SeqAt.shaped d = true := by
  unfold SeqAt.shaped
  rw [Bool.and_eq_true]
  exact ⟨h.1, decide_eq_true (Nat.le_trans h.2 (by decide))⟩
theorem shaped_str {k : Str} (h : PyData.strOk k = true) : SeqAt.shaped (.str k) = true := by
  unfold SeqAt.shaped
  rw [Bool.and_eq_true]
  refine ⟨by simpa [PyData.canLay0] using h, decide_eq_true ?_⟩
  simp [PyData.depth]
theorem hEq_isS {d : D} {k : Str} {m m2 : Md} (h : Nice d) (hk : PyData.strOk k = true) : hEq (d, m) (.str k, m2) = some (isS d k) := by
  have hs := h.shaped
  have ks := shaped_str hk
  cases d with
  | dict x => exact absurd h.1 (by simp [PyData.canLay0])
  | list x =>
    unfold hEq
    dsimp only
    rw [if_neg (by simp [scD]), if_pos ⟨hs, ks⟩]
    simp [PyData.eqv, isS]
  | tuple x =>
    unfold hEq
    dsimp only
    rw [if_neg (by simp [scD]), if_pos ⟨hs, ks⟩]
    simp [PyData.eqv, isS]
  | bool b => rfl
  | none => rfl
  | int i => rfl
  | str s => rfl
theorem hEq_isS2 {d : D} {k : Str} {m m2 : Md} (h : Nice d) (hk : PyData.strOk k = true) : hEq (.str k, m) (d, m2) = some (isS d k) := by
  have hs := h.shaped
  have ks := shaped_str hk
  cases d with
  | dict x => exact absurd h.1 (by simp [PyData.canLay0])
  | list x =>
    unfold hEq
    dsimp only
    rw [if_neg (by simp [scD]), if_pos ⟨ks, hs⟩]
    simp [PyData.eqv, isS]
  | tuple x =>
    unfold hEq
    dsimp only
    rw [if_neg (by simp [scD]), if_pos ⟨ks, hs⟩]
    simp [PyData.eqv, isS]
  | bool b => rfl
  | none => rfl
  | int i => rfl
  | str s =>
    rw [hEq_str]
    unfold isS
    congr 1
    exact decide_eq_decide.mpr ⟨fun z => z.symm, fun z => z.symm⟩
/-- role, of any thing -/
def roleX (t : List R4) (b : D) (ah : Bool) : Option R4 := match b with
  | .str s => roleR t s ah
  | _ => none
theorem role_any {t : List R4} (ht : TabOk t) {b : D} (hb : Nice b) (ah : Bool) : retR (m_role [.val (.list (t.map rowD)), .val b, .val (.bool ah)]) = .ok (optD (roleX t b ah), .cl) := by
  by_cases hs : ∃ s, b = .str s
  · obtain ⟨s, rfl⟩ := hs
    exact role_ok t s ah
  have e0 : roleX t b ah = none := by
    unfold roleX
    split
    · exact absurd ⟨_, rfl⟩ hs
    · rfl
  rw [e0]
  have i0 : ∀ k, isS b k = false := fun k => by
    unfold isS
    split
    · exact absurd ⟨_, rfl⟩ hs
    · rfl
  have loop : ∀ (rs : List R4), (∀ r ∈ rs, r ∈ t) → ∀ x, ∃ y, forL 3 b_role_1_1 (rs.map rowD) [.val (.list (t.map rowD)), .val b, .val (.bool ah), x] = .nx [.val (.list (t.map rowD)), .val b, .val (.bool ah), y] := by
    intro rs
    induction rs with
    | nil => intro _ x; exact ⟨x, rfl⟩
    | cons r rs ih =>
      intro hr x
      have q := hEq_isS2 (m := .cl) (m2 := .cl) hb (strOk_word (ht.ok r (hr r List.mem_cons_self)).2.2.2)
      rw [i0] at q
      have tc : mAnd (mCmp hEq (mBin hIx (mVar 3) (mK (.int 3))) (mVar 1)) (mCmp hEq (mCall m_is_ahead (mCons (mVar 3) (mNil))) (mVar 2)) [.val (.list (t.map rowD)), .val b, .val (.bool ah), .val (rowD r)] = .ok (false && true) :=
        mAnd_ok (mCmp_ok (mBin_ok (x := (rowD r, .cl)) rfl mK_ok (ix_row r rfl).2.2.2) (y := (b, .cl)) rfl q) fun z => by cases z
      have b1 : b_role_1_1 [.val (.list (t.map rowD)), .val b, .val (.bool ah), .val (rowD r)] = .nx [.val (.list (t.map rowD)), .val b, .val (.bool ah), .val (rowD r)] := sIf_f tc rfl
      obtain ⟨y, e⟩ := ih (fun z hz => hr z (List.mem_cons_of_mem _ hz)) (.val (rowD r))
      refine ⟨y, ?_⟩
      have u : forL 3 b_role_1_1 ((r :: rs).map rowD) [.val (.list (t.map rowD)), .val b, .val (.bool ah), x] = match b_role_1_1 [.val (.list (t.map rowD)), .val b, .val (.bool ah), .val (rowD r)] with
        | .nx ρ' => forL 3 b_role_1_1 (rs.map rowD) ρ'
        | .ct ρ' => forL 3 b_role_1_1 (rs.map rowD) ρ'
        | .bk ρ' => .nx ρ'
        | o => o := rfl
      rw [u, b1]
      exact e
  obtain ⟨y, e⟩ := loop t (fun _ h => h) .un
  refine retR_rt (ρ' := [.val (.list (t.map rowD)), .val b, .val (.bool ah), y]) ?_
  show b_role [.val (.list (t.map rowD)), .val b, .val (.bool ah), .un] = _
  exact sSeq_go ((sFor_ok rfl).trans e) (sRet_ok mK_ok (by decide))
/-! fits -/
def formS (r : R4) : Str := if r.k = "before" ∨ r.k = "behind" then r.k else "between"
def countR (r : R4) : Int := if r.k = "before" ∨ r.k = "behind" then 1 else 2
theorem hIn2t (k a b : Str) (m m2 : Md) : hIn (.str k, m) (.tuple [.str a, .str b], m2) = some (decide (k = a) || decide (k = b)) := by
  unfold hIn
  dsimp only
  rw [if_pos ⟨rfl, rfl⟩]
  show some (((a == k) || ((b == k) || false))) = _
  rw [Bool.or_false, beq_swap, beq_swap]
local macro_rules | `(tactic| walk_at "o") => `(tactic| with_reducible exact hIn2t _ _ _ _ _)
theorem form_ok (r : R4) : retR (m_form [.val (rowD r)]) = .ok (.str (formS r), .cl) := by
  refine retR_rt (ρ' := [.val (rowD r)]) ?_
  show b_form [.val (rowD r)] = _
  have t1 : mCmp hIn (mBin hIx (mVar 0) (mK (.int 1))) (mTup (mCons (mK (.str "before")) (mCons (mK (.str "behind")) (mNil)))) [.val (rowD r)] = .ok (decide (r.k = "before") || decide (r.k = "behind")) := by walk_at "e"
  by_cases h : r.k = "before" ∨ r.k = "behind"
  · have e : formS r = r.k := if_pos h
    rw [e]
    exact sSeq_end (sIf_t (t1.trans (by have : (decide (r.k = "before") || decide (r.k = "behind")) = true := by simpa using h
                                        rw [this])) (by walk_at "s"))
  · have e : formS r = "between" := if_neg h
    rw [e]
    exact sSeq_go (sIf_f (t1.trans (by have : (decide (r.k = "before") || decide (r.k = "behind")) = false := by simpa using h
                                       rw [this])) rfl) (by walk_at "s")
theorem count_ok (r : R4) : retR (m_operand_count [.val (rowD r)]) = .ok (.int (countR r), .cl) := by
  refine retR_rt (ρ' := [.val (rowD r)]) ?_
  show b_operand_count [.val (rowD r)] = _
  have fo := form_ok r
  have t1 : mCmp hEq (mCall m_form (mCons (mVar 0) (mNil))) (mK (.str "between")) [.val (rowD r)] = .ok (decide (formS r = "between")) := by walk_at "e"
  by_cases h : r.k = "before" ∨ r.k = "behind"
  · have e : countR r = 1 := if_pos h
    have e2 : decide (formS r = "between") = false := by
      have : formS r = r.k := if_pos h
      rw [this]
      rcases h with h | h <;> rw [h] <;> decide +kernel
    rw [e]
    exact sSeq_go (sIf_f (t1.trans (by rw [e2])) rfl) (by walk_at "s")
  · have e : countR r = 2 := if_neg h
    have e2 : decide (formS r = "between") = true := decide_eq_true (if_neg h)
    rw [e]
    exact sSeq_end (sIf_t (t1.trans (by rw [e2])) (by walk_at "s"))
/-- a text fits where it is a name -/
def nameB (t : List R4) (l : List Nat) : Bool := wordT l && ((roleR t (tS0 l) true).isNone && (roleR t (tS0 l) false).isNone)
theorem is_name_ok (t : List R4) {l : List Nat} (h : l.length ≤ 1000) : retR (m_is_name [.val (.list (t.map rowD)), .val (.str (tS0 l))]) = .ok (.bool (nameB t l), .cl) := by
  refine retR_rt (ρ' := [.val (.list (t.map rowD)), .val (.str (tS0 l))]) ?_
  show b_is_name [.val (.list (t.map rowD)), .val (.str (tS0 l))] = _
  have w1 := is_word_ok h
  have r1 := role_ok t (tS0 l) true
  have r2 := role_ok t (tS0 l) false
  have a1 : mCall m_is_word (mCons (mVar 1) (mNil)) [.val (.list (t.map rowD)), .val (.str (tS0 l))] = .ok (.bool (wordT l), .cl) := by walk_at "e"
  have a2 : mVal (mCmp hIsN (mCall m_role (mCons (mVar 0) (mCons (mVar 1) (mCons (mK (.bool true)) (mNil))))) (mK .none)) [.val (.list (t.map rowD)), .val (.str (tS0 l))] = .ok (.bool (isNoneD (optD (roleR t (tS0 l) true))), .cl) := by walk_at "e"
  have a3 : mVal (mCmp hIsN (mCall m_role (mCons (mVar 0) (mCons (mVar 1) (mCons (mK (.bool false)) (mNil))))) (mK .none)) [.val (.list (t.map rowD)), .val (.str (tS0 l))] = .ok (.bool (isNoneD (optD (roleR t (tS0 l) false))), .cl) := by walk_at "e"
  rw [isNone_opt] at a2 a3
  refine sRet_ok ?_ (by decide)
  unfold mAndV nameB
  rw [mBool_ok a1]
  simp only [Rs.bind]
  cases wordT l with
  | false => rfl
  | true =>
    rw [if_pos rfl, mBool_ok a2]
    simp only [Rs.bind]
    cases (roleR t (tS0 l) true).isNone with
    | false => rfl
    | true =>
      rw [if_pos rfl, a3]
      rfl
theorem fits_str (t : List R4) {l : List Nat} (h : l.length ≤ 1000) : retR (m_fits [.val (.list (t.map rowD)), .val (.str (tS0 l))]) = .ok (.bool (nameB t l), .cl) := by
  have n1 := is_name_ok t h
  refine retR_rt (ρ' := [.val (.list (t.map rowD)), .val (.str (tS0 l)), .un]) ?_
  show b_fits [.val (.list (t.map rowD)), .val (.str (tS0 l)), .un] = _
  have t1 : mBool (mIsi "str" (mVar 1)) [.val (.list (t.map rowD)), .val (.str (tS0 l)), .un] = .ok (isD "str" (.str (tS0 l))) := by walk_at "e"
  exact sSeq_end (sIf_t t1 (by walk_at "s"))
theorem fits_other (t : List R4) {d : D} (h1 : isD "str" d = false) (h2 : isD "tuple" d = false) : retR (m_fits [.val (.list (t.map rowD)), .val d]) = .ok (.bool false, .cl) := by
  refine retR_rt (ρ' := [.val (.list (t.map rowD)), .val d, .un]) ?_
  show b_fits [.val (.list (t.map rowD)), .val d, .un] = _
  have t1 : mBool (mIsi "str" (mVar 1)) [.val (.list (t.map rowD)), .val d, .un] = .ok (isD "str" d) := by walk_at "e"
  have t2 : mNot (mBool (mIsi "tuple" (mVar 1))) [.val (.list (t.map rowD)), .val d, .un] = .ok (!(isD "tuple" d)) := by walk_at "e"
  rw [h1] at t1
  rw [h2] at t2
  exact sSeq_go (sIf_f t1 rfl) (sSeq_end (sIf_t (mOr_ok (b := true) t2 fun z => by cases z) (by walk_at "s")))
theorem ix_tup {l : List D} {k : Nat} {x : D} {m2 : Md} (h : l[k]? = some x) : hIx (.tuple l, .cl) (.int (k : Int), m2) = some (x, .cl) := by
  have e : atI l (k : Int) = some x := atI_nat h
  unfold hIx
  dsimp only
  rw [e]
  rfl
def fitsT (t : List R4) (a b : D) (n : Nat) : Bool := match roleX t b (isS a "before") with
  | none => false
  | some r => isS a (formS r) && decide ((n : Int) = countR r)
theorem fits_tup {t : List R4} (ht : TabOk t) {a b : D} {ds : List D} (ha : Nice a) (hb : Nice b) : retR (m_fits [.val (.list (t.map rowD)), .val (.tuple (a :: b :: ds))]) = .ok (.bool (fitsT t a b ds.length), .cl) := by
  have kb : PyData.strOk ("before" : Str) = true := by decide +kernel
  have i0 : hIx (.tuple (a :: b :: ds), .cl) (.int 0, .cl) = some (a, .cl) := ix_tup (k := 0) rfl
  have i1 : hIx (.tuple (a :: b :: ds), .cl) (.int 1, .cl) = some (b, .cl) := ix_tup (k := 1) rfl
  have q1 := hEq_isS (m := .cl) (m2 := .cl) ha kb
  have r1 := role_any ht hb (isS a "before")
  have tp : retR (m_top [.val (.list (t.map rowD)), .val (.tuple (a :: b :: ds))]) = .ok (optD (roleX t b (isS a "before")), .cl) := by
    refine retR_rt (ρ' := [.val (.list (t.map rowD)), .val (.tuple (a :: b :: ds))]) ?_
    show b_top [.val (.list (t.map rowD)), .val (.tuple (a :: b :: ds))] = _
    have ea : mCons (mVar 0) (mCons (mBin hIx (mVar 1) (mK (.int 1))) (mCons (mVal (mCmp hEq (mBin hIx (mVar 1) (mK (.int 0))) (mK (.str "before")))) (mNil))) [.val (.list (t.map rowD)), .val (.tuple (a :: b :: ds))] = .ok [(.list (t.map rowD), .cl), (b, .cl), (.bool (isS a "before"), .cl)] := by walk_at "e"
    exact sRet_ok (rCall ea rfl rfl r1) (by decide)
  have t1 : mBool (mIsi "str" (mVar 1)) [.val (.list (t.map rowD)), .val (.tuple (a :: b :: ds)), .un] = .ok (isD "str" (.tuple (a :: b :: ds))) := by walk_at "e"
  have t2 : mOr (mNot (mBool (mIsi "tuple" (mVar 1)))) (mCmp hLt (mCallB hLen (mCons (mVar 1) (mNil))) (mK (.int 2))) [.val (.list (t.map rowD)), .val (.tuple (a :: b :: ds)), .un] = .ok ((!(isD "tuple" (.tuple (a :: b :: ds)))) || decide ((((a :: b :: ds).length : Nat) : Int) < 2)) :=
    mOr_ok (by walk_at "e") fun _ => by walk_at "e"
  have f2 : ((!(isD "tuple" (.tuple (a :: b :: ds)))) || decide ((((a :: b :: ds).length : Nat) : Int) < 2)) = false := by
    have : ¬ ((((a :: b :: ds).length : Nat) : Int) < 2) := by simp only [List.length_cons]; omega
    rw [decide_eq_false this]
    rfl
  have s3 : b_fits_3 [.val (.list (t.map rowD)), .val (.tuple (a :: b :: ds)), .un] = .nx [.val (.list (t.map rowD)), .val (.tuple (a :: b :: ds)), .val (optD (roleX t b (isS a "before")))] := by walk_at "s"
  cases hr : roleX t b (isS a "before") with
  | none =>
    rw [hr] at s3
    have e : fitsT t a b ds.length = false := by unfold fitsT; rw [hr]
    rw [e]
    refine retR_rt (ρ' := [.val (.list (t.map rowD)), .val (.tuple (a :: b :: ds)), .val .none]) ?_
    show b_fits [.val (.list (t.map rowD)), .val (.tuple (a :: b :: ds)), .un] = _
    refine sSeq_go (sIf_f t1 rfl) (sSeq_go (sIf_f (t2.trans (by rw [f2])) rfl) (sSeq_go s3 (sSeq_end (sIf_t (mCmp_ok (x := (.none, .cl)) rfl mK_ok rfl) (sRet_ok mK_ok (by decide))))))
  | some r =>
    rw [hr] at s3
    have e : fitsT t a b ds.length = (isS a (formS r) && decide ((ds.length : Int) = countR r)) := by unfold fitsT; rw [hr]
    rw [e]
    have fo := form_ok r
    have co := count_ok r
    have kf : PyData.strOk (formS r) = true := by
      unfold formS
      split
      · rename_i h
        rcases h with h | h <;> rw [h] <;> decide +kernel
      · decide +kernel
    have q2 := hEq_isS (m := .cl) (m2 := .cl) ha kf
    refine retR_rt (ρ' := [.val (.list (t.map rowD)), .val (.tuple (a :: b :: ds)), .val (rowD r)]) ?_
    show b_fits [.val (.list (t.map rowD)), .val (.tuple (a :: b :: ds)), .un] = _
    refine sSeq_go (sIf_f t1 rfl) (sSeq_go (sIf_f (t2.trans (by rw [f2])) rfl) (sSeq_go s3 (sSeq_go (sIf_f (mCmp_ok (x := (rowD r, .cl)) rfl mK_ok rfl) rfl) (sShr_go (ρ := [.val (.list (t.map rowD)), .val (.tuple (a :: b :: ds)), .val (rowD r)]) (ρ' := [.val (.list (t.map rowD)), .val (.tuple (a :: b :: ds)), .val (rowD r)]) (by walk_at "l") (sRet_ok ?_ (by decide))))))
    · have c1 : mVal (mCmp hEq (mBin hIx (mVar 1) (mK (.int 0))) (mCall m_form (mCons (mVar 2) (mNil)))) [.val (.list (t.map rowD)), .val (.tuple (a :: b :: ds)), .val (rowD r)] = .ok (.bool (isS a (formS r)), .cl) := by walk_at "e"
      have c2 : mVal (mCmp hEq (mCallB hLen (mCons (mVar 1) (mNil))) (mBin hAdd (mK (.int 2)) (mCall m_operand_count (mCons (mVar 2) (mNil))))) [.val (.list (t.map rowD)), .val (.tuple (a :: b :: ds)), .val (rowD r)] = .ok (.bool (decide ((((a :: b :: ds).length : Nat) : Int) = 2 + countR r)), .cl) := by walk_at "e"
      have e3 : decide ((((a :: b :: ds).length : Nat) : Int) = 2 + countR r) = decide ((ds.length : Int) = countR r) := by
        apply decide_eq_decide.mpr
        simp only [List.length_cons]
        omega
      rw [e3] at c2
      unfold mAndV
      rw [mBool_ok c1]
      simp only [Rs.bind]
      cases isS a (formS r) with
      | false => rfl
      | true =>
        rw [if_pos rfl, c2]
        rfl
/-! levels -/
theorem ret_ex {e : RF} {x : D × Md} (h : retR e = .ok x) : ∃ ρ, e = .ok (x, ρ) := by
  unfold retR at h
  cases e with
  | ok y => 
    obtain ⟨a, ρ⟩ := y
    cases h
    exact ⟨ρ, rfl⟩
  | er c => cases h
  | no => cases h
theorem lay_all : ∀ {ds : List D}, (∀ d ∈ ds, Nice d) → PyData.canLayAll0 ds = true
  | [], _ => by simp only [PyData.canLayAll0]
  | d :: ds, h => by
    have := lay_all fun x hx => h x (List.mem_cons_of_mem _ hx)
    simp only [PyData.canLayAll0, (h d List.mem_cons_self).1, this, Bool.and_self]
theorem cut_mem {α : Type} {l : List α} {lo hi : Option Int} {x : α} (h : x ∈ Eng.cut l lo hi) : x ∈ l := List.mem_of_mem_drop (List.mem_of_mem_take h)
def wrF (acc : List D) (d : D) : List D := if ((Eng.cut acc (some (-64)) none).any fun z => PyData.eqv z d) = true then acc else acc ++ [d]
theorem wr_sub : ∀ (ds acc : List D), (ds.foldl wrF acc).Sublist (acc ++ ds)
  | [], acc => by simp
  | d :: ds, acc => by
    refine (wr_sub ds (wrF acc d)).trans ?_
    unfold wrF
    split
    · exact List.Sublist.append (List.Sublist.refl _) (List.sublist_cons_self _ _)
    · rw [List.append_assoc]
      exact List.Sublist.refl _
theorem without_ok {ds : List D} (hn : ∀ d ∈ ds, Nice d) (hl : ds.length ≤ 900) : retR (m_without_repeats [.val (.list ds)]) = .ok (.list (ds.foldl wrF []), .ow) := by
  let R : Out → Prop := fun o => ∃ x, o = .nx [.val (.list ds), .own (ds.foldl wrF []), x]
  have loop : R (forL 2 b_without_repeats_2_1 ds [.val (.list ds), .own [], .un]) := by
    refine forL_to (I := fun es ρ => ∃ (a : List D) (x : Cell), (∀ d ∈ a, d ∈ ds) ∧ (∀ d ∈ es, d ∈ ds) ∧ a.length + es.length ≤ ds.length ∧ es.foldl wrF a = ds.foldl wrF [] ∧ ρ = [.val (.list ds), .own a, x]) ⟨[], .un, by simp, fun _ h => h, by simp, rfl, rfl⟩ ?_ ?_
    · rintro ρ ⟨a, x, _, _, _, h, rfl⟩
      exact ⟨x, by rw [← h]; rfl⟩
    · rintro d es ρ ⟨a, x, h1, h2, h3, h4, rfl⟩
      rw [List.length_cons] at h3
      have nd := hn d (h2 d List.mem_cons_self)
      have hi : hNotInW (d, .cl) (.list (Eng.cut a (some (-64)) none), .fr) = some (!((Eng.cut a (some (-64)) none).any fun z => PyData.eqv z d)) := by
        unfold hNotInW hInW inW
        dsimp only
        have d60 := nd.2
        rw [if_pos ⟨nd.1, lay_all fun z hz => hn z (h1 z (cut_mem hz)), Nat.le_trans (Nat.min_le_right _ _) (Nat.le_trans d60 (by decide))⟩]
        rfl
      have sl : hSl (.list a, .ow) (some (-64)) none = some (.list (Eng.cut a (some (-64)) none), .fr) := by
        unfold hSl
        dsimp only
        rw [if_pos (.inl rfl)]
      have e1 : mSl (mVar 1) (mPart (mUn hNeg (mK (.int 64)))) (mNoP) [.val (.list ds), .own a, .val d] = .ok (.list (Eng.cut a (some (-64)) none), .fr) := mSl_ok (x := (.list a, .ow)) rfl (mPart_ok (mUn_ok mK_ok rfl)) mNoP_ok sl
      have tc : mCmp hNotInW (mVar 2) (mSl (mVar 1) (mPart (mUn hNeg (mK (.int 64)))) (mNoP)) [.val (.list ds), .own a, .val d] = .ok (!((Eng.cut a (some (-64)) none).any fun z => PyData.eqv z d)) := mCmp_ok (x := (d, .cl)) rfl e1 hi
      refine .inl ?_
      show ∃ ρ', b_without_repeats_2_1 [.val (.list ds), .own a, .val d] = .nx ρ' ∧ _
      cases hb : (Eng.cut a (some (-64)) none).any fun z => PyData.eqv z d with
      | true =>
        rw [hb] at tc
        refine ⟨_, sIf_f tc rfl, a, _, h1, fun z hz => h2 z (List.mem_cons_of_mem _ hz), by omega, ?_, rfl⟩
        rw [← h4, List.foldl_cons]
        have : wrF a d = a := if_pos hb
        rw [this]
      | false =>
        rw [hb] at tc
        refine ⟨[.val (.list ds), .own (a ++ [d]), .val d], sIf_t tc ?_, a ++ [d], _, fun z hz => ?_, fun z hz => h2 z (List.mem_cons_of_mem _ hz), by rw [List.length_append, List.length_singleton]; omega, ?_, rfl⟩
        · exact sApp_go (ds := a) rfl (mLift_go (d := d) (m := .cl) rfl rfl) (by omega) rfl
        · rcases List.mem_append.mp hz with hz | hz
          · exact h1 z hz
          · rw [List.mem_singleton.mp hz]; exact h2 d List.mem_cons_self
        · rw [← h4, List.foldl_cons]
          have : wrF a d = a ++ [d] := if_neg (by rw [hb]; exact Bool.false_ne_true)
          rw [this]
  obtain ⟨x, e⟩ := loop
  refine retR_rt (ρ' := [.val (.list ds), .own (ds.foldl wrF []), x]) ?_
  show b_without_repeats [.val (.list ds), .un, .un] = _
  exact sSeq_go (ρ' := [.val (.list ds), .own [], .un]) (by walk_at "s") (sSeq_go ((sFor_ok rfl).trans e) (by walk_at "s"))
def below (d : D) : List D := match d with
  | .tuple l => l.drop 2
  | _ => []
theorem cut_drop2 (l : List D) : Eng.cut l (some 2) none = l.drop 2 := by
  unfold Eng.cut
  have e : HT.sIx l.length 0 (some 2) = min 2 l.length := HT.sIx_nat l.length 0 2
  rw [e, HT.sIx_none]
  by_cases h : 2 ≤ l.length
  · rw [Nat.min_eq_left h, List.take_of_length_le (by rw [List.length_drop]; exact Nat.le_refl _)]
  · rw [Nat.min_eq_right (by omega), List.drop_of_length_le (Nat.le_refl _), List.drop_of_length_le (by omega), List.take_nil]
theorem below_ok {ds : List D} (hl : ∀ d ∈ ds, (below d).length ≤ 9) (hk : ds.length ≤ 900) : retR (m_operands_below [.val (.list ds)]) = .ok (.list (ds.map below).flatten, .ow) := by
  let R : Out → Prop := fun o => ∃ x, o = .nx [.val (.list ds), .own (ds.map below).flatten, x]
  have loop : R (forL 2 b_operands_below_2_1 ds [.val (.list ds), .own [], .un]) := by
    refine forL_to (I := fun es ρ => ∃ (a : List D) (x : Cell), (∀ d ∈ es, (below d).length ≤ 9) ∧ a.length + 9 * es.length ≤ 9 * ds.length ∧ a ++ (es.map below).flatten = (ds.map below).flatten ∧ ρ = [.val (.list ds), .own a, x]) ⟨[], .un, hl, by simp, by simp, rfl⟩ ?_ ?_
    · rintro ρ ⟨a, x, _, _, h, rfl⟩
      exact ⟨x, by rw [← h]; simp⟩
    · rintro d es ρ ⟨a, x, h1, h2, h3, rfl⟩
      rw [List.length_cons] at h2
      have ld := h1 d List.mem_cons_self
      have t1 : mBool (mIsi "tuple" (mVar 2)) [.val (.list ds), .own a, .val d] = .ok (isD "tuple" d) := by walk_at "e"
      refine .inl ?_
      show ∃ ρ', b_operands_below_2_1 [.val (.list ds), .own a, .val d] = .nx ρ' ∧ _
      have fin : ∀ b : List D, below d = b → a.length + b.length + 9 * es.length ≤ 9 * ds.length ∧ (a ++ b) ++ (es.map below).flatten = (ds.map below).flatten := by
        rintro b rfl
        refine ⟨by omega, ?_⟩
        rw [← h3, List.map_cons, List.flatten_cons, List.append_assoc]
      by_cases ht : ∃ l, d = .tuple l
      · obtain ⟨l, rfl⟩ := ht
        obtain ⟨f1, f2⟩ := fin (l.drop 2) rfl
        have ld : (l.drop 2).length ≤ 9 := ld
        have sl : mSlT (mVar 2) (mPart (mK (.int 2))) (mNoP) [.val (.list ds), .own a, .val (.tuple l)] = .ok (.tuple (l.drop 2), .cl) := by
          rw [← cut_drop2]
          rfl
        refine ⟨[.val (.list ds), .own (a ++ l.drop 2), .val (.tuple l)], sIf_t t1 ?_, a ++ l.drop 2, _, fun z hz => h1 z (List.mem_cons_of_mem _ hz), by rw [List.length_append]; exact f1, f2, rfl⟩
        show sExt 1 _ _ = _
        unfold sExt
        rw [sl]
        dsimp only [List.getElem?_cons_succ, List.getElem?_cons_zero]
        rw [if_pos (by omega)]
        rfl
      · have e0 : below d = [] := by
          unfold below
          split
          · exact absurd ⟨_, rfl⟩ ht
          · rfl
        have e1 : isD "tuple" d = false := by
          cases d <;> first | rfl | exact absurd ⟨_, rfl⟩ ht
        rw [e1] at t1
        obtain ⟨f1, f2⟩ := fin [] e0
        rw [List.append_nil] at f2
        exact ⟨_, sIf_f t1 rfl, a, _, fun z hz => h1 z (List.mem_cons_of_mem _ hz), by simpa using f1, f2, rfl⟩
  obtain ⟨x, e⟩ := loop
  refine retR_rt (ρ' := [.val (.list ds), .own (ds.map below).flatten, x]) ?_
  show b_operands_below [.val (.list ds), .un, .un] = _
  exact sSeq_go (ρ' := [.val (.list ds), .own [], .un]) (by walk_at "s") (sSeq_go ((sFor_ok rfl).trans e) (by walk_at "s"))
/-! belongs -/
section
variable {t : List R4}
/-- one turn of the walk, all things fit -/
theorem turn_ok {tr : D} {ds : List D} (g : D → Bool) (hn : ∀ d ∈ ds, Nice d) (hl : ds.length ≤ 900) (hf : ∀ d ∈ ds, retR (m_fits [.val (.list (t.map rowD)), .val d]) = .ok (.bool (g d), .cl)) :
    mNot (mBool (mAllG m_fits 0 (mVar 2))) [.val (.list (t.map rowD)), .val tr, .own ds] = .ok (!((ds.map g).all fun b => b)) := by
  have e1 : mAllG m_fits 0 (mVar 2) [.val (.list (t.map rowD)), .val tr, .own ds] = .ok (.bool ((ds.map g).all fun b => b), .cl) := by
    have hb := bits_make (f := fun d => m_fits [.val (.list (t.map rowD)), .val d]) (g := g) (ds := ds) fun d hd => by
      obtain ⟨ρ, e⟩ := ret_ex (hf d hd)
      exact ⟨_, ρ, e⟩
    unfold mAllG
    have ev : mVar 2 [.val (.list (t.map rowD)), .val tr, .own ds] = .ok (.list ds, .ow) := rfl
    rw [ev]
    simp only [Rs.bind, List.getElem?_cons_zero]
    rw [if_neg (by decide), hb]
  exact mNot_ok (mBool_ok e1)
theorem next_ok {tr : D} {ds : List D} (hn : ∀ d ∈ ds, Nice d) (hl : ds.length ≤ 900) (hk : ∀ d ∈ ds, (below d).length ≤ 9) :
    b_belongs_2_2 [.val (.list (t.map rowD)), .val tr, .own ds] = .nx [.val (.list (t.map rowD)), .val tr, .own ((ds.foldl wrF []).map below).flatten] := by
  have sub := wr_sub ds []
  rw [List.nil_append] at sub
  have w := without_ok hn hl
  have b := below_ok (ds := ds.foldl wrF []) (fun d hd => hk d (sub.subset hd)) (Nat.le_trans sub.length_le hl)
  refine sShr_go (ρ' := [.val (.list (t.map rowD)), .val tr, .val (.list ds)]) rfl ?_
  have e1 : mCall m_without_repeats (mCons (mVar 2) (mNil)) [.val (.list (t.map rowD)), .val tr, .val (.list ds)] = .ok (.list (ds.foldl wrF []), .fr) := rCallF (mCons_ok rfl mNil_ok) rfl rfl w (.inr rfl)
  have e2 : mCall m_operands_below (mCons (mCall m_without_repeats (mCons (mVar 2) (mNil))) (mNil)) [.val (.list (t.map rowD)), .val tr, .val (.list ds)] = .ok (.list ((ds.foldl wrF []).map below).flatten, .fr) := rCallF (mCons_ok e1 mNil_ok) rfl rfl b (.inr rfl)
  exact sSet_fr e2 rfl
theorem truth_own {tr : D} {ds : List D} : mTruth (mVar 2) [.val (.list (t.map rowD)), .val tr, .own ds] = .ok (!ds.isEmpty) := rfl
theorem first_ok {tr : D} (h : okEl (tr, .cl) = true) : b_belongs_1 [.val (.list (t.map rowD)), .val tr, .un] = .nx [.val (.list (t.map rowD)), .val tr, .own [tr]] :=
  sSet_fr (mLst_go (mCons_ok (x := (tr, .cl)) rfl mNil_ok) ⟨by simp [h], by simp⟩ rfl) rfl
/-! true -/
def Tree.nodes : Tree → Nat
  | .nm _ => 1
  | .be _ x => x.nodes + 1
  | .bh _ x => x.nodes + 1
  | .bt _ l r => l.nodes + r.nodes + 1
def kids : Tree → List Tree
  | .nm _ => []
  | .be _ x => [x]
  | .bh _ x => [x]
  | .bt _ l r => [l, r]
def nodesL (ts : List Tree) : Nat := (ts.map Tree.nodes).sum
theorem nodes_pos : ∀ T : Tree, 1 ≤ T.nodes
  | .nm _ => Nat.le_refl _
  | .be _ _ => Nat.succ_le_succ (Nat.zero_le _)
  | .bh _ _ => Nat.succ_le_succ (Nat.zero_le _)
  | .bt _ _ _ => Nat.succ_le_succ (Nat.zero_le _)
theorem nodes_ops : ∀ T : Tree, T.nodes ≤ 2 * T.ops + 1
  | .nm _ => by simp [Tree.nodes, Tree.ops]
  | .be _ x => by have := nodes_ops x; simp only [Tree.nodes, Tree.ops]; omega
  | .bh _ x => by have := nodes_ops x; simp only [Tree.nodes, Tree.ops]; omega
  | .bt _ l r => by have h1 := nodes_ops l; have h2 := nodes_ops r; simp only [Tree.nodes, Tree.ops]; omega
theorem nodesL_cons (x : Tree) (ts : List Tree) : nodesL (x :: ts) = x.nodes + nodesL ts := rfl
theorem nodesL_append (a b : List Tree) : nodesL (a ++ b) = nodesL a + nodesL b := by
  unfold nodesL
  rw [List.map_append, List.sum_append]
theorem kids_nodes (T : Tree) : nodesL (kids T) + 1 = T.nodes := by
  cases T <;> simp [kids, nodesL, Tree.nodes]
theorem kidsL_nodes : ∀ ts : List Tree, nodesL (ts.map kids).flatten + ts.length = nodesL ts
  | [] => rfl
  | x :: ts => by
    have h1 := kidsL_nodes ts
    have h2 := kids_nodes x
    rw [List.map_cons, List.flatten_cons, nodesL_append, nodesL_cons, List.length_cons]
    omega
theorem nodesL_sub : ∀ {a b : List Tree}, a.Sublist b → nodesL a ≤ nodesL b
  | _, _, .slnil => Nat.le_refl _
  | _, _, .cons x h => by have := nodesL_sub h; rw [nodesL_cons]; omega
  | _, _, .cons₂ x h => by have := nodesL_sub h; rw [nodesL_cons, nodesL_cons]; omega
theorem len_nodes : ∀ ts : List Tree, ts.length ≤ nodesL ts
  | [] => Nat.le_refl _
  | x :: ts => by
    have h1 := len_nodes ts
    have h2 := nodes_pos x
    rw [List.length_cons, nodesL_cons]
    omega
theorem mem_nodes {x : Tree} : ∀ {ts : List Tree}, x ∈ ts → x.nodes ≤ nodesL ts
  | y :: ts, h => by
    rw [nodesL_cons]
    rcases List.mem_cons.mp h with (rfl | h)
    · omega
    · have := mem_nodes h
      omega
theorem below_tree (T : Tree) : below (treeD T) = (kids T).map treeD := by cases T <;> rfl
theorem belowL_tree : ∀ ts : List Tree, ((ts.map treeD).map below).flatten = ((ts.map kids).flatten).map treeD
  | [] => rfl
  | x :: ts => by
    rw [List.map_cons, List.map_cons, List.flatten_cons, belowL_tree ts, below_tree, List.map_cons, List.flatten_cons, List.map_append]
/-- names of the table -/
def NmT (t : List R4) (w : List Nat) : Prop := wordOk w ∧ untold t w
theorem ht_depth : ∀ T : Tree, (treeD T).depth ≤ T.ops
  | .nm _ => by simp [treeD, PyData.depth]
  | .be _ x => by have := ht_depth x; simp [treeD, PyData.depth, PyData.depthAll, Tree.ops]; omega
  | .bh _ x => by have := ht_depth x; simp [treeD, PyData.depth, PyData.depthAll, Tree.ops]; omega
  | .bt _ l r => by have h1 := ht_depth l; have h2 := ht_depth r; simp [treeD, PyData.depth, PyData.depthAll, Tree.ops]; omega
theorem kids_ops {T x : Tree} (h : x ∈ kids T) : x.ops ≤ T.ops := by
  cases T with
  | nm w => simp [kids] at h
  | be w y => simp [kids] at h; subst h; simp only [Tree.ops]; omega
  | bh w y => simp [kids] at h; subst h; simp only [Tree.ops]; omega
  | bt w l r => simp [kids] at h; rcases h with rfl | rfl <;> (simp only [Tree.ops]; omega)
theorem tree_lay (ht : TabOk t) : ∀ {T : Tree}, OkT t (NmT t) T → (treeD T).canLay0 = true
  | .nm w, h => by
    have := strOk_word h.1
    simpa [treeD, PyData.canLay0] using this
  | .be w x, h => by
    obtain ⟨⟨r, hr⟩, hx⟩ := h
    have h1 := tree_lay ht hx
    have h2 := strOk_word (ht.ok r (roleR_mem hr)).2.2.2
    rw [(roleR_hits hr).1] at h2
    have h3 : PyData.strOk ("before" : Str) = true := by decide +kernel
    simp only [treeD, PyData.canLay0, PyData.canLayAll0, h1, h2, h3, Bool.and_self]
  | .bh w x, h => by
    obtain ⟨⟨r, hr, _⟩, hx⟩ := h
    have h1 := tree_lay ht hx
    have h2 := strOk_word (ht.ok r (roleR_mem hr)).2.2.2
    rw [(roleR_hits hr).1] at h2
    have h3 : PyData.strOk ("behind" : Str) = true := by decide +kernel
    simp only [treeD, PyData.canLay0, PyData.canLayAll0, h1, h2, h3, Bool.and_self]
  | .bt w l r', h => by
    obtain ⟨⟨r, hr, _⟩, hx, hy⟩ := h
    have h1 := tree_lay ht hx
    have h4 := tree_lay ht hy
    have h2 := strOk_word (ht.ok r (roleR_mem hr)).2.2.2
    rw [(roleR_hits hr).1] at h2
    have h3 : PyData.strOk ("between" : Str) = true := by decide +kernel
    simp only [treeD, PyData.canLay0, PyData.canLayAll0, h1, h2, h3, h4, Bool.and_self]
theorem nice_word {w : List Nat} (h : wordOk w) : Nice (.str (tS0 w)) := ⟨by simpa [PyData.canLay0] using strOk_word h, by simp [PyData.depth]⟩
theorem nice_lit {k : Str} (h : PyData.strOk k = true) : Nice (.str k) := ⟨by simpa [PyData.canLay0] using h, by simp [PyData.depth]⟩
theorem nice_told (ht : TabOk t) {w : List Nat} {ah : Bool} {r : R4} (h : roleR t (tS0 w) ah = some r) : Nice (.str (tS0 w)) := by
  have := nice_word (ht.ok r (roleR_mem h)).2.2.2
  rwa [(roleR_hits h).1] at this
theorem name_fits {w : List Nat} (h : NmT t w) : retR (m_fits [.val (.list (t.map rowD)), .val (.str (tS0 w))]) = .ok (.bool true, .cl) := by
  rw [fits_str t (Nat.le_trans h.1.2.1 (by decide))]
  have : nameB t w = true := by
    unfold nameB
    rw [wordT_iff.mpr h.1, untold_iff.mpr h.2]
    rfl
  rw [this]
theorem tree_fits (ht : TabOk t) {T : Tree} (h : OkT t (NmT t) T) : retR (m_fits [.val (.list (t.map rowD)), .val (treeD T)]) = .ok (.bool true, .cl) := by
  cases T with
  | nm w => exact name_fits h
  | be w x =>
    obtain ⟨⟨r, hr⟩, hx⟩ := h
    have hk : r.k = "before" := of_decide_eq_true (roleR_hits hr).2
    have e := fits_tup ht (ds := [treeD x]) (nice_lit (k := "before") (by decide +kernel)) (nice_told ht hr)
    have f : fitsT t (.str "before") (.str (tS0 w)) 1 = true := by
      unfold fitsT
      have : roleX t (.str (tS0 w)) (isS (.str "before") "before") = some r := hr
      rw [this]
      dsimp only
      have f1 : formS r = "before" := by unfold formS; rw [if_pos (.inl hk), hk]
      have f2 : countR r = 1 := if_pos (.inl hk)
      rw [f1, f2]
      rfl
    exact e.trans (by rw [show [treeD x].length = 1 from rfl, f])
  | bh w x =>
    obtain ⟨⟨r, hr, hk⟩, hx⟩ := h
    have e := fits_tup ht (ds := [treeD x]) (nice_lit (k := "behind") (by decide +kernel)) (nice_told ht hr)
    have f : fitsT t (.str "behind") (.str (tS0 w)) 1 = true := by
      unfold fitsT
      have i0 : isS (.str "behind") "before" = false := by decide +kernel
      rw [i0]
      have : roleX t (.str (tS0 w)) false = some r := hr
      rw [this]
      dsimp only
      have f1 : formS r = "behind" := by unfold formS; rw [if_pos (.inr hk), hk]
      have f2 : countR r = 1 := if_pos (.inr hk)
      rw [f1, f2]
      rfl
    exact e.trans (by rw [show [treeD x].length = 1 from rfl, f])
  | bt w l r' =>
    obtain ⟨⟨r, hr, hk⟩, hx⟩ := h
    have hb : r.k ≠ "before" := of_decide_eq_false (roleR_hits hr).2
    have e := fits_tup ht (ds := [treeD l, treeD r']) (nice_lit (k := "between") (by decide +kernel)) (nice_told ht hr)
    have f : fitsT t (.str "between") (.str (tS0 w)) 2 = true := by
      unfold fitsT
      have i0 : isS (.str "between") "before" = false := by decide +kernel
      rw [i0]
      have : roleX t (.str (tS0 w)) false = some r := hr
      rw [this]
      dsimp only
      have f1 : formS r = "between" := if_neg (fun z => z.elim hb hk)
      have f2 : countR r = 2 := if_neg (fun z => z.elim hb hk)
      rw [f1, f2]
      rfl
    exact e.trans (by rw [show [treeD l, treeD r'].length = 2 from rfl, f])
theorem kids_ok {T x : Tree} {N : List Nat → Prop} (h : OkT t N T) (hx : x ∈ kids T) : OkT t N x := by
  cases T with
  | nm w => simp [kids] at hx
  | be w y => simp [kids] at hx; subst hx; exact h.2
  | bh w y => simp [kids] at hx; subst hx; exact h.2
  | bt w l r => simp [kids] at hx; rcases hx with rfl | rfl; exact h.2.1; exact h.2.2
theorem belongs_tree (ht : TabOk t) {T : Tree} (h : OkT t (NmT t) T) (hs : T.ops ≤ 60) : retR (m_belongs [.val (.list (t.map rowD)), .val (treeD T)]) = .ok (.bool true, .cl) := by
  have loop := whL_by (t := mTruth (mVar 2)) (u := sSeq b_belongs_2_1 b_belongs_2_2) (I := fun n ρ => ∃ Ts : List Tree, (∀ x ∈ Ts, OkT t (NmT t) x ∧ x.ops ≤ 60) ∧ nodesL Ts = n ∧ n ≤ 200 ∧ ρ = [.val (.list (t.map rowD)), .val (treeD T), .own (Ts.map treeD)]) (R := fun ρ => ∃ Ts : List Tree, ρ = [.val (.list (t.map rowD)), .val (treeD T), .own (Ts.map treeD)]) (by
    rintro n ρ ⟨Ts, h1, h2, h3, rfl⟩
    have tt := truth_own (t := t) (tr := treeD T) (ds := Ts.map treeD)
    cases Ts with
    | nil => exact .inl ⟨tt, [], rfl⟩
    | cons x xs =>
      right
      generalize hTs : x :: xs = Ts at h1 h2 tt
      have hpos : 1 ≤ Ts.length := by rw [← hTs, List.length_cons]; omega
      have hl : (Ts.map treeD).length ≤ 900 := by have := len_nodes Ts; rw [List.length_map]; omega
      have hn : ∀ d ∈ Ts.map treeD, Nice d := fun d hd => by
        obtain ⟨y, hy, rfl⟩ := List.mem_map.mp hd
        exact ⟨tree_lay ht (h1 y hy).1, Nat.le_trans (ht_depth y) (h1 y hy).2⟩
      have hk : ∀ d ∈ Ts.map treeD, (below d).length ≤ 9 := fun d hd => by
        obtain ⟨y, hy, rfl⟩ := List.mem_map.mp hd
        rw [below_tree, List.length_map]
        cases y <;> simp [kids]
      have tn := turn_ok (t := t) (tr := treeD T) (ds := Ts.map treeD) (fun _ => true) hn hl fun d hd => by
        obtain ⟨y, hy, rfl⟩ := List.mem_map.mp hd
        exact tree_fits ht (h1 y hy).1
      have al : (((Ts.map treeD).map fun _ => true).all fun b => b) = true := by simp
      rw [al] at tn
      have nx := next_ok (t := t) (tr := treeD T) hn hl hk
      have sub := wr_sub (Ts.map treeD) []
      rw [List.nil_append] at sub
      obtain ⟨Us, hu, eu⟩ := List.sublist_map_iff.mp sub
      rw [eu, belowL_tree] at nx
      have hne : Us ≠ [] ∨ True := .inr trivial
      have q1 := kidsL_nodes Us
      have q2 := nodesL_sub hu
      by_cases hU : Us = []
      · refine ⟨0, _, ?_, ?_, sSeq_go (sIf_f tn rfl) nx, [], by simp, by rfl, by omega, by rw [hU]; rfl⟩
        · have := len_nodes Ts
          omega
        · rw [tt, ← hTs]; rfl
      · have hp := List.length_pos_iff.mpr hU
        refine ⟨nodesL (Us.map kids).flatten, _, by omega, by rw [tt, ← hTs]; rfl, sSeq_go (sIf_f tn rfl) nx, (Us.map kids).flatten, fun y hy => ?_, rfl, by omega, rfl⟩
        obtain ⟨l, hl2, hy2⟩ := List.mem_flatten.mp hy
        obtain ⟨z, hz, rfl⟩ := List.mem_map.mp hl2
        exact ⟨kids_ok (h1 z (hu.subset hz)).1 hy2, Nat.le_trans (kids_ops hy2) (h1 z (hu.subset hz)).2⟩) 100000 T.nodes [.val (.list (t.map rowD)), .val (treeD T), .own [treeD T]] ⟨[T], fun x hx => by rw [List.mem_singleton.mp hx]; exact ⟨h, hs⟩, by simp [nodesL], by have := nodes_ops T; omega, rfl⟩ (by have := nodes_ops T; omega)
  obtain ⟨ρ', e, Ts, rfl⟩ := loop
  refine retR_rt (ρ' := [.val (.list (t.map rowD)), .val (treeD T), .own (Ts.map treeD)]) ?_
  show b_belongs [.val (.list (t.map rowD)), .val (treeD T), .un] = _
  exact sSeq_go (first_ok (by rfl)) (sSeq_go e (sRet_ok mK_ok (by decide)))
end
/-! false -/
theorem whL_ret {f : CV → Rs Bool} {u : CV → Out} {n : Nat} {ρ ρ' : CV} {d : D} {m : Md} (e : f ρ = .ok true) (e2 : u ρ = .rt d m ρ') : whL f u (n + 1) ρ = .rt d m ρ' := by
  show (match f ρ with | .ok true => _ | .ok false => _ | .er c => _ | .no => _) = _
  rw [e]
  simp only
  rw [e2]
def NiceN (k : Nat) (d : D) : Prop := d.canLay0 = true ∧ d.depth ≤ k
theorem NiceN.nice {k : Nat} {d : D} (h : NiceN k d) (hk : k ≤ 60) : Nice d := ⟨h.1, Nat.le_trans h.2 hk⟩
inductive Wrap where
  | un (r : R4)
  | lf (r : R4) (n : List Nat)
  | rt (r : R4) (n : List Nat)
def Wrap.on : Wrap → D → D
  | .un r, d => .tuple [.str r.k, .str (tS0 r.w), d]
  | .lf r n, d => .tuple [.str "between", .str (tS0 r.w), .str (tS0 n), d]
  | .rt r n, d => .tuple [.str "between", .str (tS0 r.w), d, .str (tS0 n)]
def wrapD : List Wrap → D → D
  | [], d => d
  | w :: ws, d => w.on (wrapD ws d)
def OneK (r : R4) : Prop := r.k = "before" ∨ r.k = "behind"
def WrapOk (t : List R4) : Wrap → Prop
  | .un r => r ∈ t ∧ OneK r
  | .lf r n => r ∈ t ∧ ¬ OneK r ∧ NmT t n
  | .rt r n => r ∈ t ∧ ¬ OneK r ∧ NmT t n
section
variable {t : List R4}
theorem fitsT_own (ht : TabOk t) {r : R4} (hr : r ∈ t) (n : Nat) : fitsT t (.str r.k) (.str (tS0 r.w)) n = (isS (.str r.k) (formS r) && decide ((n : Int) = countR r)) := by
  unfold fitsT
  have : roleX t (.str (tS0 r.w)) (isS (.str r.k) "before") = some r := ht.uni r hr
  rw [this]
theorem between_ne {r : R4} (ht : TabOk t) (hr : r ∈ t) (h : ¬ OneK r) : isS (.str r.k) (formS r) = false := by
  have e : formS r = "between" := if_neg h
  rw [e]
  rcases kind_of ht hr with k | k | k | k | k
  · rw [k]; decide +kernel
  · rw [k]; decide +kernel
  · rw [k]; decide +kernel
  · exact absurd (.inl k) h
  · exact absurd (.inr k) h
theorem fitsT_btw (ht : TabOk t) {r : R4} (hr : r ∈ t) (h : ¬ OneK r) (n : Nat) : fitsT t (.str "between") (.str (tS0 r.w)) n = decide ((n : Int) = 2) := by
  unfold fitsT
  have i0 : isS (.str "between") "before" = false := by decide +kernel
  rw [i0]
  have : roleX t (.str (tS0 r.w)) false = some r := row_not ht hr fun z => h (.inl z)
  rw [this]
  have f1 : formS r = "between" := if_neg h
  have f2 : countR r = 2 := if_neg h
  dsimp only
  rw [f1, f2]
  rfl
theorem nice_row (ht : TabOk t) {r : R4} (hr : r ∈ t) : Nice (.str (tS0 r.w)) := nice_word (ht.ok r hr).2.2.2
theorem nice_kind (ht : TabOk t) {r : R4} (hr : r ∈ t) : Nice (.str r.k) := nice_lit (strOk_kind (ht.ok r hr).1)
theorem wrap_fits (ht : TabOk t) {w : Wrap} (h : WrapOk t w) (d : D) : retR (m_fits [.val (.list (t.map rowD)), .val (w.on d)]) = .ok (.bool true, .cl) := by
  have nb : Nice (.str "between") := nice_lit (by decide +kernel)
  cases w with
  | un r =>
    obtain ⟨hr, hk⟩ := h
    refine (fits_tup ht (ds := [d]) (nice_kind ht hr) (nice_row ht hr)).trans ?_
    rw [fitsT_own ht hr]
    have f1 : formS r = r.k := if_pos hk
    have f2 : countR r = 1 := if_pos hk
    rw [f1, f2]
    have : isS (.str r.k) r.k = true := decide_eq_true rfl
    rw [this]
    rfl
  | lf r n =>
    obtain ⟨hr, hk, hn⟩ := h
    refine (fits_tup ht (ds := [.str (tS0 n), d]) nb (nice_row ht hr)).trans ?_
    rw [fitsT_btw ht hr hk]
    rfl
  | rt r n =>
    obtain ⟨hr, hk, hn⟩ := h
    refine (fits_tup ht (ds := [d, .str (tS0 n)]) nb (nice_row ht hr)).trans ?_
    rw [fitsT_btw ht hr hk]
    rfl
theorem wrap_nice (ht : TabOk t) {w : Wrap} (h : WrapOk t w) {k : Nat} {d : D} (hd : NiceN k d) : NiceN (k + 1) (w.on d) := by
  obtain ⟨d1, d2⟩ := hd
  have kb : PyData.strOk ("between" : Str) = true := by decide +kernel
  cases w with
  | un r =>
    have h1 := (nice_kind ht h.1).1
    have h2 := (nice_row ht h.1).1
    refine ⟨?_, ?_⟩
    · simp only [Wrap.on, PyData.canLay0, PyData.canLayAll0] at h1 h2 ⊢
      rw [h1, h2, d1]
      rfl
    · simp only [Wrap.on, PyData.depth, PyData.depthAll]
      omega
  | lf r n =>
    have h2 := (nice_row ht h.1).1
    have h3 := (nice_word h.2.2.1).1
    refine ⟨?_, ?_⟩
    · simp only [Wrap.on, PyData.canLay0, PyData.canLayAll0] at h2 h3 ⊢
      rw [kb, h2, h3, d1]
      rfl
    · simp only [Wrap.on, PyData.depth, PyData.depthAll]
      omega
  | rt r n =>
    have h2 := (nice_row ht h.1).1
    have h3 := (nice_word h.2.2.1).1
    refine ⟨?_, ?_⟩
    · simp only [Wrap.on, PyData.canLay0, PyData.canLayAll0] at h2 h3 ⊢
      rw [kb, h2, h3, d1]
      rfl
    · simp only [Wrap.on, PyData.depth, PyData.depthAll]
      omega
theorem wraps_nice (ht : TabOk t) {k : Nat} {d : D} (hd : NiceN k d) : ∀ {ws : List Wrap}, (∀ w ∈ ws, WrapOk t w) → NiceN (k + ws.length) (wrapD ws d)
  | [], _ => hd
  | w :: ws, h => wrap_nice ht (h w List.mem_cons_self) (wraps_nice ht hd fun x hx => h x (List.mem_cons_of_mem _ hx))
inductive Lvl (t : List R4) (X : D) : List D → Prop
  | one : Lvl t X [X]
  | two (n : List Nat) : NmT t n → Lvl t X [.str (tS0 n), X]
  | owt (n : List Nat) : NmT t n → Lvl t X [X, .str (tS0 n)]
theorem Lvl.len {X : D} {ds : List D} (h : Lvl t X ds) : ds.length ≤ 2 ∧ ds.isEmpty = false ∧ X ∈ ds ∧ ∀ d ∈ ds, d = X ∨ ∃ n, NmT t n ∧ d = .str (tS0 n) := by
  cases h with
  | one => exact ⟨by simp, rfl, by simp, fun d hd => .inl (List.mem_singleton.mp hd)⟩
  | two n hn =>
    refine ⟨by simp, rfl, by simp, fun d hd => ?_⟩
    rcases List.mem_cons.mp hd with (rfl | hd)
    · exact .inr ⟨n, hn, rfl⟩
    · exact .inl (List.mem_singleton.mp hd)
  | owt n hn =>
    refine ⟨by simp, rfl, by simp, fun d hd => ?_⟩
    rcases List.mem_cons.mp hd with (rfl | hd)
    · exact .inl rfl
    · exact .inr ⟨n, hn, List.mem_singleton.mp hd⟩
theorem cut_one (a : D) : Eng.cut [a] (some (-64)) none = [a] := rfl
theorem Lvl.same {w : Wrap} {d : D} {ds : List D} (h : Lvl t (w.on d) ds) : ds.foldl wrF [] = ds := by
  have e1 : ∀ n : List Nat, PyData.eqv (.str (tS0 n)) (w.on d) = false := fun n => by cases w <;> simp [Wrap.on, PyData.eqv]
  have e2 : ∀ n : List Nat, PyData.eqv (w.on d) (.str (tS0 n)) = false := fun n => by cases w <;> simp [Wrap.on, PyData.eqv]
  have w1 : ∀ x : D, wrF [] x = [x] := fun x => rfl
  cases h with
  | one => exact w1 _
  | two n hn =>
    show wrF (wrF [] _) _ = _
    rw [w1]
    unfold wrF
    rw [cut_one]
    simp only [List.any_cons, List.any_nil, e1, Bool.or_self, Bool.false_eq_true, if_false]
    rfl
  | owt n hn =>
    show wrF (wrF [] _) _ = _
    rw [w1]
    unfold wrF
    rw [cut_one]
    simp only [List.any_cons, List.any_nil, e2, Bool.or_self, Bool.false_eq_true, if_false]
    rfl
theorem Lvl.next {w : Wrap} (hw : WrapOk t w) {d : D} {ds : List D} (h : Lvl t (w.on d) ds) : Lvl t d (ds.map below).flatten := by
  have go : Lvl t d (below (w.on d)) := by
    cases w with
    | un r => exact .one
    | lf r n => exact .two n hw.2.2
    | rt r n => exact .owt n hw.2.2
  cases h with
  | one =>
    have : ([w.on d].map below).flatten = below (w.on d) := by simp
    rw [this]
    exact go
  | two n hn =>
    have : ([.str (tS0 n), w.on d].map below).flatten = below (w.on d) := by simp [below]
    rw [this]
    exact go
  | owt n hn =>
    have : ([w.on d, .str (tS0 n)].map below).flatten = below (w.on d) := by simp [below]
    rw [this]
    exact go
theorem below_wrap (w : Wrap) (d : D) : (below (w.on d)).length ≤ 9 := by cases w <;> simp [Wrap.on, below]
def Bad (t : List R4) (x : D) : Prop := retR (m_fits [.val (.list (t.map rowD)), .val x]) = .ok (.bool false, .cl)
open Classical in
theorem bad_loop (ht : TabOk t) {x tr : D} (hx : NiceN 50 x) (hb : Bad t x) : ∀ (ws : List Wrap), (∀ w ∈ ws, WrapOk t w) → ws.length ≤ 5 → ∀ (ds : List D) (f : Nat), Lvl t (wrapD ws x) ds → ws.length < f →
    ∃ ρ', whL (mTruth (mVar 2)) (sSeq b_belongs_2_1 b_belongs_2_2) f [.val (.list (t.map rowD)), .val tr, .own ds] = .rt (.bool false) .cl ρ'
  | [], _, _, ds, f + 1, lv, _ => by
    obtain ⟨l1, l2, l3, l4⟩ := lv.len
    have tt := truth_own (t := t) (tr := tr) (ds := ds)
    rw [l2] at tt
    have tn := turn_ok (t := t) (tr := tr) (ds := ds) (fun d => decide (d ≠ x)) (fun d hd => by
      rcases l4 d hd with rfl | ⟨n, hn, rfl⟩
      · exact hx.nice (by decide)
      · exact nice_word hn.1) (by omega) (fun d hd => by
      rcases l4 d hd with hdx | ⟨n, hn, rfl⟩
      · have hdx : d = x := hdx
        rw [hdx]
        have : decide (x ≠ x) = false := decide_eq_false fun z => z rfl
        rw [this]
        exact hb
      · have nf := name_fits hn
        have : PyData.str (tS0 n) ≠ x := fun z => by
          rw [z] at nf
          have q := hb
          unfold Bad at q
          rw [nf] at q
          cases q
        rw [decide_eq_true this]
        exact nf)
    have al : ((ds.map fun d => decide (d ≠ x)).all fun b => b) = false := by
      rw [List.all_eq_false]
      exact ⟨false, List.mem_map.mpr ⟨x, l3, decide_eq_false fun z => z rfl⟩, by simp⟩
    rw [al] at tn
    exact ⟨_, whL_ret tt (sSeq_end (sIf_t tn (sRet_ok mK_ok (by decide))))⟩
  | w :: ws, hw, hlen, ds, f + 1, lv, hf => by
    rw [List.length_cons] at hlen hf
    have w0 := hw w List.mem_cons_self
    have hw' : ∀ y ∈ ws, WrapOk t y := fun y hy => hw y (List.mem_cons_of_mem _ hy)
    have lv : Lvl t (w.on (wrapD ws x)) ds := lv
    obtain ⟨l1, l2, l3, l4⟩ := lv.len
    have tt := truth_own (t := t) (tr := tr) (ds := ds)
    rw [l2] at tt
    have nx0 : Nice (w.on (wrapD ws x)) := (wrap_nice ht w0 (wraps_nice ht hx hw')).nice (by omega)
    have hn : ∀ d ∈ ds, Nice d := fun d hd => by
      rcases l4 d hd with rfl | ⟨n, hn, rfl⟩
      · exact nx0
      · exact nice_word hn.1
    have tn := turn_ok (t := t) (tr := tr) (ds := ds) (fun _ => true) hn (by omega) (fun d hd => by
      rcases l4 d hd with rfl | ⟨n, hn, rfl⟩
      · exact wrap_fits ht w0 _
      · exact name_fits hn)
    have al : ((ds.map fun _ => true).all fun b => b) = true := by simp
    rw [al] at tn
    have nx := next_ok (t := t) (tr := tr) (ds := ds) hn (by omega) (fun d hd => by
      rcases l4 d hd with rfl | ⟨n, hn, rfl⟩
      · exact below_wrap _ _
      · simp [below])
    rw [lv.same] at nx
    obtain ⟨ρ', e⟩ := bad_loop ht (tr := tr) hx hb ws hw' (by omega) _ f (lv.next w0) (by omega)
    exact ⟨ρ', (whL_step tt (sSeq_go (sIf_f tn rfl) nx)).trans e⟩
  | [], _, _, _, 0, _, h => absurd h (Nat.not_lt_zero _)
  | _ :: _, _, _, _, 0, _, h => absurd h (Nat.not_lt_zero _)
theorem belongs_bad (ht : TabOk t) {x : D} (hx : NiceN 50 x) (hb : Bad t x) {ws : List Wrap} (hw : ∀ w ∈ ws, WrapOk t w) (hl : ws.length ≤ 5) : retR (m_belongs [.val (.list (t.map rowD)), .val (wrapD ws x)]) = .ok (.bool false, .cl) := by
  obtain ⟨ρ', e⟩ := bad_loop ht (tr := wrapD ws x) hx hb ws hw hl [wrapD ws x] 100000 .one (by omega)
  refine retR_rt (ρ' := ρ') ?_
  show b_belongs [.val (.list (t.map rowD)), .val (wrapD ws x), .un] = _
  exact sSeq_go (first_ok (by rfl)) (sSeq_end e)
/-- wraps about a tree are a tree -/
theorem wraps_tree (ht : TabOk t) {T : Tree} (h : OkT t (NmT t) T) : ∀ {ws : List Wrap}, (∀ w ∈ ws, WrapOk t w) → ∃ T', OkT t (NmT t) T' ∧ treeD T' = wrapD ws (treeD T) ∧ T'.ops ≤ T.ops + ws.length
  | [], _ => ⟨T, h, rfl, by omega⟩
  | w :: ws, hw => by
    obtain ⟨T', h1, h2, h3⟩ := wraps_tree ht h (ws := ws) fun y hy => hw y (List.mem_cons_of_mem _ hy)
    have w0 := hw w List.mem_cons_self
    rw [List.length_cons]
    cases w with
    | un r =>
      obtain ⟨hr, hk | hk⟩ := w0
      · refine ⟨.be r.w T', ⟨⟨r, row_be ht hr hk⟩, h1⟩, ?_, by simp only [Tree.ops]; omega⟩
        show treeD _ = Wrap.on _ _
        simp only [treeD, Wrap.on, h2, hk]
      · refine ⟨.bh r.w T', ⟨⟨r, row_not ht hr (by rw [hk]; decide +kernel), hk⟩, h1⟩, ?_, by simp only [Tree.ops]; omega⟩
        show treeD _ = Wrap.on _ _
        simp only [treeD, Wrap.on, h2, hk]
    | lf r n =>
      obtain ⟨hr, hk, hn⟩ := w0
      refine ⟨.bt r.w (.nm n) T', ⟨⟨r, row_not ht hr fun z => hk (.inl z), fun z => hk (.inr z)⟩, hn, h1⟩, ?_, by simp only [Tree.ops]; omega⟩
      show treeD _ = Wrap.on _ _
      simp only [treeD, Wrap.on, h2]
    | rt r n =>
      obtain ⟨hr, hk, hn⟩ := w0
      refine ⟨.bt r.w T' (.nm n), ⟨⟨r, row_not ht hr fun z => hk (.inl z), fun z => hk (.inr z)⟩, h1, hn⟩, ?_, by simp only [Tree.ops]; omega⟩
      show treeD _ = Wrap.on _ _
      simp only [treeD, Wrap.on, h2]
end
/-! spoiled things -/
theorem nice_all {k : Nat} : ∀ {l : List D}, (∀ d ∈ l, NiceN k d) → PyData.canLayAll0 l = true ∧ PyData.depthAll l ≤ k
  | [], _ => ⟨by simp only [PyData.canLayAll0], by simp only [PyData.depthAll]; omega⟩
  | d :: l, h => by
    obtain ⟨h1, h2⟩ := nice_all (l := l) fun x hx => h x (List.mem_cons_of_mem _ hx)
    obtain ⟨h3, h4⟩ := h d List.mem_cons_self
    refine ⟨by simp only [PyData.canLayAll0, h1, h3, Bool.and_self], ?_⟩
    simp only [PyData.depthAll]
    omega
theorem niceN_tup {k : Nat} {l : List D} (h : ∀ d ∈ l, NiceN k d) : NiceN (k + 1) (.tuple l) := by
  obtain ⟨h1, h2⟩ := nice_all h
  refine ⟨by simpa only [PyData.canLay0] using h1, ?_⟩
  simp only [PyData.depth]
  omega
theorem niceN_lst {k : Nat} {l : List D} (h : ∀ d ∈ l, NiceN k d) : NiceN (k + 1) (.list l) := by
  obtain ⟨h1, h2⟩ := nice_all h
  refine ⟨by simpa only [PyData.canLay0] using h1, ?_⟩
  simp only [PyData.depth]
  omega
theorem niceN_str {k : Nat} {s : Str} (h : PyData.strOk s = true) : NiceN k (.str s) := ⟨by simpa only [PyData.canLay0] using h, by simp only [PyData.depth]; omega⟩
theorem NiceN.mono {j k : Nat} {d : D} (h : NiceN j d) (hk : j ≤ k) : NiceN k d := ⟨h.1, Nat.le_trans h.2 hk⟩
section
variable {t : List R4}
def Sp (t : List R4) (x : D) : Prop := NiceN 50 x ∧ Bad t x
theorem sp_text {l : List Nat} (h : ∀ c ∈ l, c < 128) (hl : l.length ≤ 1000) (hn : ¬ wordOk l) : Sp t (.str (tS0 l)) := by
  refine ⟨niceN_str (strOk_of h), ?_⟩
  unfold Bad
  rw [fits_str t hl]
  have : nameB t l = false := by
    unfold nameB
    have : wordT l = false := by
      cases e : wordT l with
      | false => rfl
      | true => exact absurd (wordT_iff.mp e) hn
    rw [this]
    rfl
  rw [this]
theorem sp_told (ht : TabOk t) {r : R4} (hr : r ∈ t) : Sp t (.str (tS0 r.w)) := by
  have w := (ht.ok r hr).2.2.2
  refine ⟨niceN_str (strOk_word w), ?_⟩
  unfold Bad
  rw [fits_str t (Nat.le_trans w.2.1 (by decide))]
  have u := ht.uni r hr
  have : nameB t r.w = false := by
    unfold nameB
    by_cases h : r.k = "before"
    · rw [decide_eq_true h] at u
      rw [u]
      simp
    · rw [decide_eq_false h] at u
      rw [u]
      simp
  rw [this]
theorem sp_other {d : D} (hn : NiceN 50 d) (h1 : isD "str" d = false) (h2 : isD "tuple" d = false) : Sp t d := ⟨hn, fits_other t h1 h2⟩
theorem sp_tup (ht : TabOk t) {a b : D} {ds : List D} (ha : NiceN 40 a) (hb : NiceN 40 b) (hd : ∀ d ∈ ds, NiceN 40 d) {n : Nat} (hn : ds.length = n) (h : fitsT t a b n = false) : Sp t (.tuple (a :: b :: ds)) := by
  refine ⟨(niceN_tup (k := 40) fun d hd' => ?_).mono (by decide), ?_⟩
  · rcases List.mem_cons.mp hd' with rfl | hd'
    · exact ha
    · rcases List.mem_cons.mp hd' with rfl | hd'
      · exact hb
      · exact hd d hd'
  · unfold Bad
    rw [fits_tup ht (ha.nice (by decide)) (hb.nice (by decide)), hn, h]
theorem fitsT_none {a b : D} {n : Nat} (h : roleX t b (isS a "before") = none) : fitsT t a b n = false := by unfold fitsT; rw [h]
theorem fitsT_a {a b : D} {n : Nat} (h : ∀ k, isS a k = false) : fitsT t a b n = false := by
  unfold fitsT
  split
  · rfl
  · rw [h]; rfl
theorem fitsT_b1 {b : D} : fitsT t (.str "between") b 1 = false := by
  unfold fitsT
  split
  · rfl
  · rename_i r _
    by_cases h : OneK r
    · have f1 : formS r = r.k := if_pos h
      have : isS (.str "between") (formS r) = false := by
        rw [f1]
        rcases h with h | h <;> rw [h] <;> decide +kernel
      rw [this]
      rfl
    · have f2 : countR r = 2 := if_neg h
      rw [f2, Bool.and_eq_false_iff]
      right
      decide
theorem fitsT_own2 (ht : TabOk t) {r : R4} (hr : r ∈ t) {n : Nat} (h : OneK r → n ≠ 1) : fitsT t (.str r.k) (.str (tS0 r.w)) n = false := by
  rw [fitsT_own ht hr]
  by_cases hk : OneK r
  · have f2 : countR r = 1 := if_pos hk
    have := h hk
    rw [f2, Bool.and_eq_false_iff]
    right
    (exact decide_eq_false (by omega))
  · rw [between_ne ht hr hk]
    rfl
theorem fitsT_behind (ht : TabOk t) {r : R4} (hr : r ∈ t) (hk : ¬ OneK r) {n : Nat} : fitsT t (.str "behind") (.str (tS0 r.w)) n = false := by
  unfold fitsT
  have i0 : isS (.str "behind") "before" = false := by decide +kernel
  rw [i0]
  have : roleX t (.str (tS0 r.w)) false = some r := row_not ht hr fun z => hk (.inl z)
  rw [this]
  have f1 : formS r = "between" := if_neg hk
  dsimp only
  rw [f1]
  have : isS (.str "behind") "between" = false := by decide +kernel
  rw [this]
  rfl
theorem fitsT_bb (ht : TabOk t) {r : R4} (hr : r ∈ t) (hk : r.k = "behind") {n : Nat} : fitsT t (.str "between") (.str (tS0 r.w)) n = false := by
  unfold fitsT
  have i0 : isS (.str "between") "before" = false := by decide +kernel
  rw [i0]
  have : roleX t (.str (tS0 r.w)) false = some r := row_not ht hr (by rw [hk]; decide +kernel)
  rw [this]
  have f1 : formS r = "behind" := by unfold formS; rw [if_pos (.inr hk), hk]
  dsimp only
  rw [f1]
  have : isS (.str "between") "behind" = false := by decide +kernel
  rw [this]
  rfl
end
def s1L (w6 w7 : List Nat) (td : D) (c : Int) : List D := [.str (tS0 (w6 ++ [32])), .str "tell", .str "", .str "(", .int c, .none, .list [.str (tS0 w6), .str (tS0 w7)], .tuple [td, td]]
def s2L (r : R4) (w6 w7 : List Nat) (td : D) : List D := [.tuple [.str "between", .str (tS0 w6), td, td], .tuple [.str "before", .str (tS0 w7), td], .tuple [.str r.k, .str (tS0 r.w), td, td, td]]
def abcL : List Nat := [97, 98, 99, 100, 101, 102, 103, 104]
def s3L (r : R4) (w6 w7 : List Nat) (td : D) : List D := [.tuple [.str "between", .str (tS0 r.w), td], .str (tS0 (w6 ++ abcL)), .str (tS0 (w7 ++ [59])), .str (tS0 (w6 ++ [10]))]
def s4L (r : R4) (td : D) : List D := [.tuple [.str r.k, .list [.str (tS0 r.w)], td], .tuple [.list [.str r.k], .str (tS0 r.w), td], .tuple [.str r.k, .none, td], .tuple [.int 5, .str (tS0 r.w), td]]
def someL (r : R4) (w6 w7 : List Nat) (td : D) (c : Int) : List D := s1L w6 w7 td c ++ s2L r w6 w7 td ++ s3L r w6 w7 td ++ s4L r td
section
variable {t : List R4}
theorem some_bad (ht : TabOk t) {r : R4} (hr : r ∈ t ∨ t = []) (hk : PyData.strOk r.k = true) (hw : wordOk r.w) {w6 w7 : List Nat} (h6 : NmT t w6) (h7 : NmT t w7) {td : D} (n1 : NiceN 40 td) (hT : ∀ ah, roleX t td ah = none) {c : Int} : ∀ x ∈ someL r w6 w7 td c, Sp t x := by
  have lt : ∀ {w : List Nat}, wordOk w → ∀ z ∈ w, z < 128 := fun h z hz => in_lt (List.all_eq_true.mp h.2.2.1 z hz)
  have app : ∀ {w v : List Nat}, wordOk w → (∀ z ∈ v, z < 128) → ∀ z ∈ w ++ v, z < 128 := fun h hv z hz => by
    rcases List.mem_append.mp hz with (hz | hz)
    · exact lt h z hz
    · exact hv z hz
  have len : ∀ {w v : List Nat}, wordOk w → v.length ≤ 8 → (w ++ v).length ≤ 1000 := fun h hv => by
    rw [List.length_append]
    have := h.2.1
    omega
  have notIn : ∀ {w : List Nat} {s : Nat}, inB "();" s = false → ¬ wordOk (w ++ [s]) := fun hs h => by
    have := List.all_eq_true.mp h.2.2.1 _ (List.mem_append_right _ List.mem_cons_self)
    rw [hs] at this
    cases this
  have nb : NiceN 40 (.str "between") := niceN_str (by decide +kernel)
  have nf : NiceN 40 (.str "before") := niceN_str (by decide +kernel)
  have nk : NiceN 40 (.str r.k) := niceN_str hk
  have nw : NiceN 40 (.str (tS0 r.w)) := niceN_str (strOk_word hw)
  have m6 : NiceN 40 (.str (tS0 w6)) := niceN_str (strOk_word h6.1)
  have m7 : NiceN 40 (.str (tS0 w7)) := niceN_str (strOk_word h7.1)
  have k6 : ∀ ah, roleX t (.str (tS0 w6)) ah = none := fun ah => by cases ah; exact h6.2.2; exact h6.2.1
  have k7 : ∀ ah, roleX t (.str (tS0 w7)) ah = none := fun ah => by cases ah; exact h7.2.2; exact h7.2.1
  have l0 : NiceN 40 PyData.none := ⟨by simp only [PyData.canLay0], by simp only [PyData.depth]; omega⟩
  have l5 : NiceN 40 (PyData.int 5) := ⟨by simp only [PyData.canLay0], by simp only [PyData.depth]; omega⟩
  have lw : NiceN 40 (.list [.str (tS0 r.w)]) := (niceN_lst (k := 0) fun d hd => by rw [List.mem_singleton.mp hd]; exact niceN_str (strOk_word hw)).mono (by decide)
  have lk : NiceN 40 (.list [.str r.k]) := (niceN_lst (k := 0) fun d hd => by rw [List.mem_singleton.mp hd]; exact niceN_str hk).mono (by decide)
  have d1 : ∀ d ∈ [td], NiceN 40 d := fun d hd => by rw [List.mem_singleton.mp hd]; exact n1
  have d2 : ∀ d ∈ [td, td], NiceN 40 d := fun d hd => by simp at hd; rw [hd]; exact n1
  have d3 : ∀ d ∈ [td, td, td], NiceN 40 d := fun d hd => by simp at hd; rw [hd]; exact n1
  have empty : t = [] → ∀ b ah, roleX t b ah = none := fun e b ah => by
    rw [e]
    unfold roleX
    split <;> rfl
  intro x hx
  simp only [someL, s1L, s2L, s3L, s4L, List.cons_append, List.nil_append, List.mem_cons, List.not_mem_nil, or_false] at hx
  rcases hx with rfl | rfl | rfl | rfl | rfl | rfl | rfl | rfl | rfl | rfl | rfl | rfl | rfl | rfl | rfl | rfl | rfl | rfl | rfl
  · exact sp_text (app h6.1 (by decide)) (len h6.1 (by decide)) (notIn (by decide +kernel))
  · rw [tell_eq]
    exact sp_text (by decide) (by decide) fun h => h.2.2.2 tell_eq.symm
  · have e : ("" : Str) = tS0 [] := by decide +kernel
    rw [e]
    exact sp_text (by decide) (by decide) fun h => absurd h.1 (by decide)
  · have e : ("(" : Str) = tS0 [40] := by decide +kernel
    rw [e]
    exact sp_text (by decide) (by decide) (notIn (w := []) (by decide +kernel))
  · exact sp_other ⟨by simp only [PyData.canLay0], by simp only [PyData.depth]; omega⟩ rfl rfl
  · exact sp_other (l0.mono (k := 50) (by decide)) rfl rfl
  · refine sp_other ((niceN_lst (k := 40) fun d hd => ?_).mono (by decide)) rfl rfl
    simp at hd
    rcases hd with rfl | rfl
    · exact m6
    · exact m7
  · exact sp_tup ht n1 n1 (by simp) rfl (fitsT_none (hT _))
  · exact sp_tup ht nb m6 d2 rfl (fitsT_none (k6 _))
  · exact sp_tup ht nf m7 d1 rfl (fitsT_none (k7 _))
  · rcases hr with hr | hr
    · exact sp_tup ht nk nw d3 rfl (fitsT_own2 (n := 3) ht hr fun _ => by decide)
    · exact sp_tup ht nk nw d3 rfl (fitsT_none (empty hr _ _))
  · exact sp_tup ht nb nw d1 rfl fitsT_b1
  · refine sp_text (app h6.1 (by decide)) (len h6.1 (by decide)) fun h => ?_
    have := h.2.1
    have h1 := h6.1.1
    rw [List.length_append] at this
    have : abcL.length = 8 := rfl
    omega
  · exact sp_text (app h7.1 (by decide)) (len h7.1 (by decide)) (notIn (by decide +kernel))
  · exact sp_text (app h6.1 (by decide)) (len h6.1 (by decide)) (notIn (by decide +kernel))
  · exact sp_tup ht nk lw d1 rfl (fitsT_none rfl)
  · exact sp_tup ht lk nw d1 rfl (fitsT_a fun _ => rfl)
  · exact sp_tup ht nk l0 d1 rfl (fitsT_none rfl)
  · exact sp_tup ht l5 nw d1 rfl (fitsT_a fun _ => rfl)
theorem ix_any {l : List D} (hne : l ≠ []) (i : Int) {m m2 : Md} (hm : itCl m = true) : ∃ x ∈ l, hIx (.list l, m) (.int (i % ((l.length : Nat) : Int)), m2) = some (x, .cl) := by
  have hl : 0 < l.length := List.length_pos_iff.mpr hne
  have p1 := Int.emod_nonneg i (show (l.length : Int) ≠ 0 by omega)
  have p2 := Int.emod_lt_of_pos i (show (0 : Int) < l.length by omega)
  obtain ⟨j, hj, e1⟩ : ∃ j : Nat, j < l.length ∧ i % (l.length : Int) = (j : Int) := ⟨(i % (l.length : Int)).toNat, by omega, by omega⟩
  rw [e1]
  refine ⟨l[j], List.getElem_mem hj, ?_⟩
  have ea : atI l (j : Int) = some l[j] := atI_nat (List.getElem?_eq_getElem hj)
  unfold hIx
  dsimp only
  rw [ea]
  unfold itMode
  simp only [Option.map_some]
  rw [if_pos hm]
theorem hAdd_lst {a b : List D} (h : a.length + b.length ≤ 1000) : hAdd (.list a, .ow) (.list b, .fr) = some (.list (a ++ b), .fr) := by
  unfold hAdd
  dsimp only
  rw [if_pos ⟨by decide, by decide, le_line h, .inl ⟨rfl, rfl⟩⟩]
end
/-! _law_spoiled -/
local macro_rules | `(tactic| walk_at "o") => `(tactic| with_reducible exact hAdd_lst (Nat.le_of_ble_eq_true rfl))
section
variable {t : List R4}
theorem eqv_row (r : R4) : PyData.eqv (rowD r) (rowD r) = true := by simp [rowD, PyData.eqv, PyData.eqvAll]
theorem inW_rows (ht : TabOk t) {r : R4} (hr : TellOk r) {m m2 : Md} : hInW (rowD r, m) (.list (t.map rowD), m2) = some ((t.map rowD).any fun z => PyData.eqv z (rowD r)) := by
  unfold hInW inW
  dsimp only
  have := rows_depth t
  rw [if_pos ⟨row_lay hr, rows_lay ht.ok, Nat.le_trans (Nat.min_le_left _ _) (Nat.le_trans this (by decide))⟩]
theorem spoiled_ok (ht : TabOk t) {ws : List (List Nat)} (hws : WordsOk ws) {w6 w7 : List Nat} (e6 : ws[6]? = some w6) (e7 : ws[7]? = some w7) (h6 : NmT t w6) (h7 : NmT t w7) {td : D} (n1 : NiceN 40 td) (hT : ∀ ah, roleX t td ah = none) (c : Int) :
    ∃ x, Sp t x ∧ retR (m__law_spoiled [.val (.list (t.map rowD)), .val td, .val (.list (strsD ws)), .val (.int c)]) = .ok (x, .cl) := by
  have i6 : hIx (.list (strsD ws), .cl) (.int 6, .cl) = some (.str (tS0 w6), .cl) := hIx_strs (k := 6) rfl e6
  have i7 : hIx (.list (strsD ws), .cl) (.int 7, .cl) = some (.str (tS0 w7), .cl) := hIx_strs (k := 7) rfl e7
  have l6 := h6.1.2.1
  have l7 := h7.1.2.1
  have a1 : hAdd (.str (tS0 w6), .cl) (.str " ", .cl) = some (.str (tS0 (w6 ++ [32])), .cl) := by
    have e : (" " : Str) = tS0 [32] := by decide +kernel
    rw [e]
    exact hAdd_str (by simp; omega)
  have a2 : hAdd (.str (tS0 w6), .cl) (.str "abcdefgh", .cl) = some (.str (tS0 (w6 ++ abcL)), .cl) := by
    have e : ("abcdefgh" : Str) = tS0 abcL := by decide +kernel
    rw [e]
    exact hAdd_str (by simp [abcL]; omega)
  have a3 : hAdd (.str (tS0 w7), .cl) (.str ";", .cl) = some (.str (tS0 (w7 ++ [59])), .cl) := by
    have e : (";" : Str) = tS0 [59] := by decide +kernel
    rw [e]
    exact hAdd_str (by simp; omega)
  have a4 : hAdd (.str (tS0 w6), .cl) (.str "\n", .cl) = some (.str (tS0 (w6 ++ [10])), .cl) := by
    have e : ("\n" : Str) = tS0 [10] := by decide +kernel
    rw [e]
    exact hAdd_str (by simp; omega)
  let r0 : R4 := ⟨"left", 1, w6⟩
  have hr0 : TellOk r0 := ⟨by show ("left" : Str) ∈ kindsL; decide +kernel, by show (1 : Int) ≤ 1; omega, by show (1 : Int) ≤ 30; omega, h6.1⟩
  have s1 : b__law_spoiled_1 [.val (.list (t.map rowD)), .val td, .val (.list (strsD ws)), .val (.int c), .un, .un, .un] = .nx [.val (.list (t.map rowD)), .val td, .val (.list (strsD ws)), .val (.int c), .val (rowD r0), .un, .un] := by walk_at "s"
  -- the row
  have tc : mCmp hNe (mVar 0) (mLst (mNil)) [.val (.list (t.map rowD)), .val td, .val (.list (strsD ws)), .val (.int c), .val (rowD r0), .un, .un] = .ok (!(t.map rowD).isEmpty) := mCmp_ok (x := (.list (t.map rowD), .cl)) rfl (mLst_go (es := []) mNil_ok ⟨rfl, by decide⟩ rfl) (hNe_nil (shaped_rows ht.ok))
  obtain ⟨r, hr, hrt, s2⟩ : ∃ r, (r ∈ t ∨ t = []) ∧ TellOk r ∧ b__law_spoiled_2 [.val (.list (t.map rowD)), .val td, .val (.list (strsD ws)), .val (.int c), .val (rowD r0), .un, .un] = .nx [.val (.list (t.map rowD)), .val td, .val (.list (strsD ws)), .val (.int c), .val (rowD r), .un, .un] := by
    by_cases he : t = []
    · refine ⟨r0, .inr he, hr0, sIf_f (tc.trans ?_) rfl⟩
      rw [he]
      rfl
    · obtain ⟨r, hr, ir⟩ := ix_rows he (c / 32) (m := .cl) (m2 := .cl) rfl
      have hp : (0 : Int) < (((t.map rowD).length : Nat) : Int) := by
        have := List.length_pos_iff.mpr he
        rw [List.length_map]
        omega
      refine ⟨r, .inl hr, ht.ok r hr, sIf_t (tc.trans ?_) ?_⟩
      · cases t with
        | nil => exact absurd rfl he
        | cons _ _ => rfl
      · walk_at "s"
  have s3 : b__law_spoiled_3 [.val (.list (t.map rowD)), .val td, .val (.list (strsD ws)), .val (.int c), .val (rowD r), .un, .un] = .nx [.val (.list (t.map rowD)), .val td, .val (.list (strsD ws)), .val (.int c), .val (rowD r), .val (.str (tS0 r.w)), .un] := by walk_at "s"
  have s4 : b__law_spoiled_4 [.val (.list (t.map rowD)), .val td, .val (.list (strsD ws)), .val (.int c), .val (rowD r), .val (.str (tS0 r.w)), .un] = .nx [.val (.list (t.map rowD)), .val td, .val (.list (strsD ws)), .val (.int c), .val (rowD r), .val (.str (tS0 r.w)), .own (s1L w6 w7 td c)] := by walk_at "s"
  have s5 : b__law_spoiled_5 [.val (.list (t.map rowD)), .val td, .val (.list (strsD ws)), .val (.int c), .val (rowD r), .val (.str (tS0 r.w)), .own (s1L w6 w7 td c)] = .nx [.val (.list (t.map rowD)), .val td, .val (.list (strsD ws)), .val (.int c), .val (rowD r), .val (.str (tS0 r.w)), .own (s1L w6 w7 td c ++ s2L r w6 w7 td)] := by walk_at "s"
  have s6 : b__law_spoiled_6 [.val (.list (t.map rowD)), .val td, .val (.list (strsD ws)), .val (.int c), .val (rowD r), .val (.str (tS0 r.w)), .own (s1L w6 w7 td c ++ s2L r w6 w7 td)] = .nx [.val (.list (t.map rowD)), .val td, .val (.list (strsD ws)), .val (.int c), .val (rowD r), .val (.str (tS0 r.w)), .own (s1L w6 w7 td c ++ s2L r w6 w7 td ++ s3L r w6 w7 td)] := by walk_at "s"
  have s7 : b__law_spoiled_7 [.val (.list (t.map rowD)), .val td, .val (.list (strsD ws)), .val (.int c), .val (rowD r), .val (.str (tS0 r.w)), .own (s1L w6 w7 td c ++ s2L r w6 w7 td ++ s3L r w6 w7 td)] = .nx [.val (.list (t.map rowD)), .val td, .val (.list (strsD ws)), .val (.int c), .val (rowD r), .val (.str (tS0 r.w)), .own (someL r w6 w7 td c)] := by walk_at "s"
  have hk := strOk_kind hrt.1
  have base := some_bad ht hr hk hrt.2.2.2 h6 h7 n1 hT (c := c)
  have iw := inW_rows ht hrt (m := .cl) (m2 := .cl)
  have tw : mCmp hInW (mVar 4) (mVar 0) [.val (.list (t.map rowD)), .val td, .val (.list (strsD ws)), .val (.int c), .val (rowD r), .val (.str (tS0 r.w)), .own (someL r w6 w7 td c)] = .ok ((t.map rowD).any fun z => PyData.eqv z (rowD r)) := mCmp_ok (x := (rowD r, .cl)) rfl (y := (.list (t.map rowD), .cl)) rfl iw
  -- the end, whatever the list is
  have last : ∀ (L : List D) (ρ : CV), (∀ x ∈ L, Sp t x) → L ≠ [] → b__law_spoiled_8 [.val (.list (t.map rowD)), .val td, .val (.list (strsD ws)), .val (.int c), .val (rowD r), .val (.str (tS0 r.w)), .own (someL r w6 w7 td c)] = .nx [.val (.list (t.map rowD)), .val td, .val (.list (strsD ws)), .val (.int c), .val (rowD r), .val (.str (tS0 r.w)), .own L] →
      ∃ x, Sp t x ∧ retR (m__law_spoiled [.val (.list (t.map rowD)), .val td, .val (.list (strsD ws)), .val (.int c)]) = .ok (x, .cl) := by
    intro L ρ hL hne s8
    obtain ⟨x, hx, ix⟩ := ix_any hne c (m := .ow) (m2 := .cl) rfl
    have hp : (0 : Int) < ((L.length : Nat) : Int) := by
      have := List.length_pos_iff.mpr hne
      omega
    refine ⟨x, hL x hx, retR_rt (ρ' := [.val (.list (t.map rowD)), .val td, .val (.list (strsD ws)), .val (.int c), .val (rowD r), .val (.str (tS0 r.w)), .own L]) ?_⟩
    show b__law_spoiled [.val (.list (t.map rowD)), .val td, .val (.list (strsD ws)), .val (.int c), .un, .un, .un] = _
    refine sSeq_go s1 (sSeq_go s2 (sSeq_go s3 (sSeq_go s4 (sSeq_go s5 (sSeq_go s6 (sSeq_go s7 (sSeq_go s8 ?_)))))))
    walk_at "s"
  have one : ∀ L : List D, (∀ x ∈ L, Sp t x) → ∀ (i : Nat) (y : D), Sp t y → ∀ x ∈ L.set i y, Sp t x := fun L hL i y hy x hx => by
    rcases List.mem_or_eq_of_mem_set hx with h | h
    · exact hL x h
    · rw [h]; exact hy
  have two : ∀ L M : List D, (∀ x ∈ L, Sp t x) → (∀ x ∈ M, Sp t x) → ∀ x ∈ L ++ M, Sp t x := fun L M hL hM x hx => by
    rcases List.mem_append.mp hx with h | h
    · exact hL x h
    · exact hM x h
  rcases hr with hr | hr
  · have any : ((t.map rowD).any fun z => PyData.eqv z (rowD r)) = true := List.any_eq_true.mpr ⟨rowD r, List.mem_map.mpr ⟨r, hr, rfl⟩, eqv_row r⟩
    rw [any] at tw
    have hm : hMul (.list [.str (tS0 r.w)], .fr) (.int 4, .cl) = some (.list [.str (tS0 r.w), .str (tS0 r.w), .str (tS0 r.w), .str (tS0 r.w)], .fr) := by
      unfold hMul
      dsimp only
      rw [if_pos ⟨by decide, by decide, by decide, le_line (Nat.le_of_ble_eq_true rfl), .inl rfl⟩]
      rfl
    have nk : NiceN 40 (.str r.k) := niceN_str hk
    have nw : NiceN 40 (.str (tS0 r.w)) := niceN_str (strOk_word hrt.2.2.2)
    have told := sp_told ht hr
    have q1 : b__law_spoiled_8_1 [.val (.list (t.map rowD)), .val td, .val (.list (strsD ws)), .val (.int c), .val (rowD r), .val (.str (tS0 r.w)), .own (someL r w6 w7 td c)] = .nx [.val (.list (t.map rowD)), .val td, .val (.list (strsD ws)), .val (.int c), .val (rowD r), .val (.str (tS0 r.w)), .own (someL r w6 w7 td c ++ [.str (tS0 r.w), .str (tS0 r.w), .str (tS0 r.w), .str (tS0 r.w)])] := by walk_at "s"
    have g1 : ∀ x ∈ someL r w6 w7 td c ++ [.str (tS0 r.w), .str (tS0 r.w), .str (tS0 r.w), .str (tS0 r.w)], Sp t x := two _ _ base fun x hx => by
      simp at hx
      rw [hx]
      exact told
    have n1L : (someL r w6 w7 td c ++ ([PyData.str (tS0 r.w), PyData.str (tS0 r.w), PyData.str (tS0 r.w), PyData.str (tS0 r.w)] : List D)).length = 23 := rfl
    generalize someL r w6 w7 td c ++ ([PyData.str (tS0 r.w), PyData.str (tS0 r.w), PyData.str (tS0 r.w), PyData.str (tS0 r.w)] : List D) = L1 at q1 g1 n1L
    have d1 : ∀ d ∈ [td], NiceN 40 d := fun d hd => by rw [List.mem_singleton.mp hd]; exact n1
    have d2 : ∀ d ∈ [td, td], NiceN 40 d := fun d hd => by simp at hd; rw [hd]; exact n1
    have x7 : Sp t (.tuple [.str r.k, .str (tS0 r.w), td, td]) := sp_tup ht nk nw d2 (n := 2) rfl (fitsT_own2 ht hr fun _ => by decide)
    have q2 : b__law_spoiled_8_2 [.val (.list (t.map rowD)), .val td, .val (.list (strsD ws)), .val (.int c), .val (rowD r), .val (.str (tS0 r.w)), .own L1] = .nx [.val (.list (t.map rowD)), .val td, .val (.list (strsD ws)), .val (.int c), .val (rowD r), .val (.str (tS0 r.w)), .own (L1.set 7 (.tuple [.str r.k, .str (tS0 r.w), td, td]))] := by
      refine sShr_go (ρ' := [.val (.list (t.map rowD)), .val td, .val (.list (strsD ws)), .val (.int c), .val (rowD r), .val (.str (tS0 r.w)), .own L1]) rfl ?_
      refine (sSetIx_ok (x := (.tuple [.str r.k, .str (tS0 r.w), td, td], .cl)) (k := 7) (m := .cl) (by walk_at "e") rfl rfl rfl (by omega)).trans rfl
    have g2 := one L1 g1 7 _ x7
    have n2L : (L1.set 7 (.tuple [.str r.k, .str (tS0 r.w), td, td])).length = 23 := by rw [List.length_set]; exact n1L
    generalize L1.set 7 (PyData.tuple [.str r.k, .str (tS0 r.w), td, td]) = L2 at q2 g2 n2L
    have t3 : ∀ L : List D, mCmp hIn (mBin hIx (mVar 4) (mK (.int 1))) (mLst (mCons (mK (.str "left")) (mCons (mK (.str "right")) (mCons (mK (.str "none")) (mNil))))) [.val (.list (t.map rowD)), .val td, .val (.list (strsD ws)), .val (.int c), .val (rowD r), .val (.str (tS0 r.w)), .own L] = .ok (decide (r.k = "left") || (decide (r.k = "right") || decide (r.k = "none"))) := fun L => by walk_at "e"
    have t4 : ∀ L : List D, mCmp hEq (mBin hIx (mVar 4) (mK (.int 1))) (mK (.str "behind")) [.val (.list (t.map rowD)), .val td, .val (.list (strsD ws)), .val (.int c), .val (rowD r), .val (.str (tS0 r.w)), .own L] = .ok (decide (r.k = "behind")) := fun L => by walk_at "e"
    by_cases ho : OneK r
    · have b3 : (decide (r.k = "left") || (decide (r.k = "right") || decide (r.k = "none"))) = false := by
        rcases ho with h | h <;> rw [h] <;> decide +kernel
      have q3 : b__law_spoiled_8_3 [.val (.list (t.map rowD)), .val td, .val (.list (strsD ws)), .val (.int c), .val (rowD r), .val (.str (tS0 r.w)), .own L2] = .nx [.val (.list (t.map rowD)), .val td, .val (.list (strsD ws)), .val (.int c), .val (rowD r), .val (.str (tS0 r.w)), .own L2] := sIf_f ((t3 L2).trans (by rw [b3])) rfl
      by_cases hb : r.k = "behind"
      · have x8 : Sp t (.tuple [.str "between", .str (tS0 r.w), td, td]) := sp_tup ht (niceN_str (by decide +kernel)) nw d2 (n := 2) rfl (fitsT_bb ht hr hb)
        have q4 : b__law_spoiled_8_4 [.val (.list (t.map rowD)), .val td, .val (.list (strsD ws)), .val (.int c), .val (rowD r), .val (.str (tS0 r.w)), .own L2] = .nx [.val (.list (t.map rowD)), .val td, .val (.list (strsD ws)), .val (.int c), .val (rowD r), .val (.str (tS0 r.w)), .own (L2.set 8 (.tuple [.str "between", .str (tS0 r.w), td, td]))] := by
          refine sIf_t ((t4 L2).trans (by rw [decide_eq_true hb])) ?_
          refine sShr_go (ρ' := [.val (.list (t.map rowD)), .val td, .val (.list (strsD ws)), .val (.int c), .val (rowD r), .val (.str (tS0 r.w)), .own L2]) rfl ?_
          exact (sSetIx_ok (x := (.tuple [.str "between", .str (tS0 r.w), td, td], .cl)) (k := 8) (m := .cl) (by walk_at "e") rfl rfl rfl (by omega)).trans rfl
        refine last _ [] (one L2 g2 8 _ x8) (fun z => ?_) (sIf_t tw (sSeq_go q1 (sSeq_go q2 (sSeq_go q3 q4))))
        have := congrArg List.length z
        rw [List.length_set, n2L] at this
        cases this
      · have q4 : b__law_spoiled_8_4 [.val (.list (t.map rowD)), .val td, .val (.list (strsD ws)), .val (.int c), .val (rowD r), .val (.str (tS0 r.w)), .own L2] = .nx [.val (.list (t.map rowD)), .val td, .val (.list (strsD ws)), .val (.int c), .val (rowD r), .val (.str (tS0 r.w)), .own L2] := sIf_f ((t4 L2).trans (by rw [decide_eq_false hb])) rfl
        refine last _ [] g2 (fun z => ?_) (sIf_t tw (sSeq_go q1 (sSeq_go q2 (sSeq_go q3 q4))))
        have := congrArg List.length z
        rw [n2L] at this
        cases this
    · have b3 : (decide (r.k = "left") || (decide (r.k = "right") || decide (r.k = "none"))) = true := by
        rcases kind_of ht hr with h | h | h | h | h
        · rw [h]; decide +kernel
        · rw [h]; decide +kernel
        · rw [h]; decide +kernel
        · exact absurd (.inl h) ho
        · exact absurd (.inr h) ho
      have x3 : Sp t (.tuple [.str r.k, .str (tS0 r.w), td]) := sp_tup ht nk nw d1 (n := 1) rfl (fitsT_own2 ht hr fun z => absurd z ho)
      have x10 : Sp t (.tuple [.str "behind", .str (tS0 r.w), td]) := sp_tup ht (niceN_str (by decide +kernel)) nw d1 (n := 1) rfl (fitsT_behind ht hr ho)
      have x24 : Sp t (.tuple [.str r.k, .str (tS0 r.w), .str (tS0 w6)]) := sp_tup ht nk nw (fun d hd => by rw [List.mem_singleton.mp hd]; exact niceN_str (strOk_word h6.1)) (n := 1) rfl (fitsT_own2 ht hr fun z => absurd z ho)
      have q31 : b__law_spoiled_8_3_1 [.val (.list (t.map rowD)), .val td, .val (.list (strsD ws)), .val (.int c), .val (rowD r), .val (.str (tS0 r.w)), .own L2] = .nx [.val (.list (t.map rowD)), .val td, .val (.list (strsD ws)), .val (.int c), .val (rowD r), .val (.str (tS0 r.w)), .own (L2.set 3 (.tuple [.str r.k, .str (tS0 r.w), td]))] := by
        refine sShr_go (ρ' := [.val (.list (t.map rowD)), .val td, .val (.list (strsD ws)), .val (.int c), .val (rowD r), .val (.str (tS0 r.w)), .own L2]) rfl ?_
        exact (sSetIx_ok (x := (.tuple [.str r.k, .str (tS0 r.w), td], .cl)) (k := 3) (m := .cl) (by walk_at "e") rfl rfl rfl (by omega)).trans rfl
      have g3 := one L2 g2 3 _ x3
      have n3L : (L2.set 3 (.tuple [.str r.k, .str (tS0 r.w), td])).length = 23 := by rw [List.length_set]; exact n2L
      generalize L2.set 3 (PyData.tuple [.str r.k, .str (tS0 r.w), td]) = L3 at q31 g3 n3L
      have q32 : b__law_spoiled_8_3_2 [.val (.list (t.map rowD)), .val td, .val (.list (strsD ws)), .val (.int c), .val (rowD r), .val (.str (tS0 r.w)), .own L3] = .nx [.val (.list (t.map rowD)), .val td, .val (.list (strsD ws)), .val (.int c), .val (rowD r), .val (.str (tS0 r.w)), .own (L3.set 10 (.tuple [.str "behind", .str (tS0 r.w), td]))] := by
        refine sShr_go (ρ' := [.val (.list (t.map rowD)), .val td, .val (.list (strsD ws)), .val (.int c), .val (rowD r), .val (.str (tS0 r.w)), .own L3]) rfl ?_
        exact (sSetIx_ok (x := (.tuple [.str "behind", .str (tS0 r.w), td], .cl)) (k := 10) (m := .cl) (by walk_at "e") rfl rfl rfl (by omega)).trans rfl
      have g4 := one L3 g3 10 _ x10
      have n4L : (L3.set 10 (.tuple [.str "behind", .str (tS0 r.w), td])).length = 23 := by rw [List.length_set]; exact n3L
      generalize L3.set 10 (PyData.tuple [.str "behind", .str (tS0 r.w), td]) = L4 at q32 g4 n4L
      have ad : hAdd (.list L4, .ow) (.list [.tuple [.str r.k, .str (tS0 r.w), td], .tuple [.str r.k, .str (tS0 r.w), .str (tS0 w6)]], .fr) = some (.list (L4 ++ [.tuple [.str r.k, .str (tS0 r.w), td], .tuple [.str r.k, .str (tS0 r.w), .str (tS0 w6)]]), .fr) := hAdd_lst (by rw [n4L]; simp)
      have q33 : b__law_spoiled_8_3_3 [.val (.list (t.map rowD)), .val td, .val (.list (strsD ws)), .val (.int c), .val (rowD r), .val (.str (tS0 r.w)), .own L4] = .nx [.val (.list (t.map rowD)), .val td, .val (.list (strsD ws)), .val (.int c), .val (rowD r), .val (.str (tS0 r.w)), .own (L4 ++ [.tuple [.str r.k, .str (tS0 r.w), td], .tuple [.str r.k, .str (tS0 r.w), .str (tS0 w6)]])] := by
        refine sShr_go (ρ' := [.val (.list (t.map rowD)), .val td, .val (.list (strsD ws)), .val (.int c), .val (rowD r), .val (.str (tS0 r.w)), .own L4]) rfl ?_
        refine sSet_fr (mBin_ok (x := (.list L4, .ow)) rfl (y := (.list [.tuple [.str r.k, .str (tS0 r.w), td], .tuple [.str r.k, .str (tS0 r.w), .str (tS0 w6)]], .fr)) (by walk_at "e") ad) rfl
      have g5 := two L4 [.tuple [.str r.k, .str (tS0 r.w), td], .tuple [.str r.k, .str (tS0 r.w), .str (tS0 w6)]] g4 fun x hx => by
        simp at hx
        rcases hx with rfl | rfl
        · exact x3
        · exact x24
      have hb : r.k ≠ "behind" := fun z => ho (.inr z)
      refine last _ [] g5 (by simp) (sIf_t tw (sSeq_go q1 (sSeq_go q2 (sSeq_go (sIf_t ((t3 L2).trans (by rw [b3])) (sSeq_go q31 (sSeq_go q32 q33))) (sIf_f ((t4 _).trans (by rw [decide_eq_false hb])) rfl)))))
  · have any : ((t.map rowD).any fun z => PyData.eqv z (rowD r)) = false := by rw [hr]; rfl
    rw [any] at tw
    exact last _ [] base (by simp [someL, s1L]) (sIf_f tw rfl)
end
/-! cells -/
def cellsI (ns : List Int) (lo hi : Nat) : List Int := (List.range (min hi ns.length - lo)).map fun j => cellI ns (lo + j)
theorem cellsI_len (ns : List Int) (lo hi : Nat) : (cellsI ns lo hi).length ≤ hi - lo := by
  unfold cellsI
  (rw [List.length_map, List.length_range])
  omega
section
variable {ns : List Int} {m : Md}
theorem scr_var (hm : m = .fz ∨ m = .cl) (l : CV) : mVar 0 (scrC ns m :: l) = .ok (.list (ns.map PyData.int), m) := by rcases hm with rfl | rfl <;> rfl
theorem scr_clA (hm : m = .fz ∨ m = .cl) : clA m = true := by rcases hm with rfl | rfl <;> rfl
theorem cell_go (hm : m = .fz ∨ m = .cl) {i : Int} (h0 : 0 ≤ i) (l : CV) : mCall m__law_cell_at (mCons (mVar 0) (mCons (mK (.int i)) mNil)) (scrC ns m :: l) = .ok (.int (cellI ns i.toNat), .cl) := by
  have e := cell_at_ok (ns := ns) hm i.toNat
  (rw [Int.toNat_of_nonneg h0] at e)
  refine (mCall_ok (ds := [(.list (ns.map PyData.int), m), (.int i, .cl)]) (mCons_ok (scr_var hm l) (mCons_ok mK_ok mNil_ok)) e).trans ?_
  show ofO (callMd (clA m && true) _ _) = _
  rw [scr_clA hm]
  rfl
theorem cells_ok2 (hm : m = .fz ∨ m = .cl) (lo hi : Nat) (h1 : lo ≤ 1000) (h2 : hi ≤ 1000) : retR (m__law_cells [scrC ns m, .val (.int lo), .val (.int hi)]) = .ok (.list ((cellsI ns lo hi).map PyData.int), .fr) := by
  obtain ⟨z, hz, mz, hmz, hv⟩ : ∃ z, z = scrC ns m ∧ ∃ mz, (mz = .fz ∨ mz = .cl) ∧ ∀ a b c : Cell, mVar 0 [z, a, b, c] = .ok (.list (ns.map PyData.int), mz) := ⟨_, rfl, m, hm, fun a b c => scr_var hm _⟩
  rw [← hz]
  have hlen : mCallB hLen (mCons (mVar 0) mNil) [z, .val (.int lo), .val (.int hi), .un] = .ok (.int (ns.length : Int), .cl) := mCallB_ok (mCons_ok (hv _ _ _) mNil_ok) (by show some (PyData.int ((ns.map PyData.int).length : Int), Md.cl) = _; rw [List.length_map])
  have hr : mRange2 (mCons (mVar 1) (mCons (mCallB hMin2 (mCons (mVar 2) (mCons (mCallB hLen (mCons (mVar 0) (mNil))) (mNil)))) (mNil))) [z, .val (.int lo), .val (.int hi), .un] = .ok (rangeD lo (min hi ns.length - lo)) := by
    have e : min (hi : Int) (ns.length : Int) - (lo : Int) = ((min hi ns.length : Nat) : Int) - (lo : Int) := by omega
    have e2 : (min (hi : Int) (ns.length : Int) - (lo : Int)).toNat = min hi ns.length - lo := by omega
    rw [← e2]
    exact mRange2_int (mCons_ok (x := (.int lo, .cl)) rfl (mCons_ok (mCallB_ok (mCons_ok (x := (.int hi, .cl)) rfl (mCons_ok hlen mNil_ok)) mMin2) mNil_ok)) ⟨by omega, by omega, by omega, by omega⟩
  have hl := mLc_ok (i := 3) (el := mCall m__law_mixed (mCons (mBin hIx (mVar 0) (mVar 3)) (mCons (mVar 3) (mNil)))) (g := fun d => match d with | .int i => .int (cellI ns i.toNat) | _ => .none) hr (by rw [rangeD_len]; omega) (fun x hx => by
    unfold rangeD at hx
    obtain ⟨j, hj, rfl⟩ := List.mem_map.mp hx
    have hj := List.mem_range.mp hj
    have ei : ((lo : Int) + (j : Int)) = ((lo + j : Nat) : Int) := by omega
    have hlt : lo + j < ns.length := by omega
    have ea : atI (ns.map PyData.int) (((lo + j : Nat) : Nat) : Int) = some (.int ns[lo + j]) := atI_nat (by rw [List.getElem?_map, List.getElem?_eq_getElem hlt]; rfl)
    have ix : hIx (.list (ns.map PyData.int), mz) (.int ((lo : Int) + (j : Int)), .cl) = some (.int ns[lo + j], .cl) := by
      unfold hIx
      dsimp only
      rw [ei, ea]
      rcases hmz with rfl | rfl <;> rfl
    refine ⟨.cl, ?_, rfl⟩
    have mx := mixed_ok ns[lo + j] ((lo : Int) + (j : Int))
    have eg : cellI ns ((lo : Int) + (j : Int)).toNat = mixI ns[lo + j] ((lo : Int) + (j : Int)) := by
      rw [ei, Int.toNat_natCast]
      unfold cellI
      rw [List.getElem?_eq_getElem hlt]
    show _ = Rs.ok (PyData.int (cellI ns ((lo : Int) + (j : Int)).toNat), Md.cl)
    rw [eg]
    exact (mCall_ok (mCons_ok (mBin_ok (hv _ _ _) (y := (.int ((lo : Int) + (j : Int)), .cl)) rfl ix) (mCons_ok (x := (.int ((lo : Int) + (j : Int)), .cl)) rfl mNil_ok)) mx).trans rfl)
  refine retR_rt (ρ' := [z, .val (.int lo), .val (.int hi), .un]) ?_
  show b__law_cells [z, .val (.int lo), .val (.int hi), .un] = _
  refine (sRet_ok hl (by decide)).trans ?_
  congr 1
  unfold rangeD cellsI
  (rw [List.map_map, List.map_map])
  congr 1
theorem cells_go (hm : m = .fz ∨ m = .cl) {lo hi : Int} (h0 : 0 ≤ lo ∧ 0 ≤ hi ∧ lo ≤ 1000 ∧ hi ≤ 1000) {f g : CV → Rs (D × Md)} (l : CV) (e1 : f (scrC ns m :: l) = .ok (.int lo, .cl)) (e2 : g (scrC ns m :: l) = .ok (.int hi, .cl)) :
    mCall m__law_cells (mCons (mVar 0) (mCons f (mCons g mNil))) (scrC ns m :: l) = .ok (.list ((cellsI ns lo.toNat hi.toNat).map PyData.int), .fr) := by
  have e := cells_ok2 (ns := ns) hm lo.toNat hi.toNat (by omega) (by omega)
  rw [Int.toNat_of_nonneg h0.1, Int.toNat_of_nonneg h0.2.1] at e
  refine (mCall_ok (ds := [(.list (ns.map PyData.int), m), (.int lo, .cl), (.int hi, .cl)]) (mCons_ok (scr_var hm l) (mCons_ok e1 (mCons_ok e2 mNil_ok))) e).trans ?_
  show ofO (callMd (clA m && true) _ _) = _
  rw [scr_clA hm]
  rfl
end
/-! k06: the law -/
local macro_rules | `(tactic| walk_at "e") => `(tactic| first
  | ((with_reducible refine' cell_go ?a ?b _); (case a => assumption); (case b => omega))
  | ((with_reducible refine' cells_go ?a ?b _ ?c ?d); (case a => assumption); (case c => walk_at "e"); (case d => walk_at "e"); (case b => omega))
  | ((with_reducible refine' mCallB_ok ?a ?b); (case a => walk_at "e"); (case b => with_reducible exact hListOf_ok rfl)))
theorem untold_of {t : List R4} {ws : List (List Nat)} (hnd : ws.Nodup) (ht : ∀ r ∈ t, r.w ∈ ws.take 6) {k : Nat} (hk : 6 ≤ k) {w : List Nat} (h : ws[k]? = some w) : untold t w := by
  have no : ∀ ah, roleR t (tS0 w) ah = none := fun ah => by
    cases e : roleR t (tS0 w) ah with
    | none => rfl
    | some r =>
      exfalso
      have hw := (roleR_hits e).1
      rw [tS0_eq] at hw
      have hm := ht r (roleR_mem e)
      rw [hw] at hm
      obtain ⟨i, hi⟩ := List.mem_iff_getElem?.mp hm
      have i6 : i < 6 := by
        have lt := (List.getElem?_eq_some_iff.mp hi).1
        rw [List.length_take] at lt
        omega
      rw [List.getElem?_take_of_lt i6] at hi
      obtain ⟨h1, e1⟩ := List.getElem?_eq_some_iff.mp hi
      obtain ⟨h2, e2⟩ := List.getElem?_eq_some_iff.mp h
      have := (List.getElem_inj hnd).mp (e1.trans e2.symm)
      omega
  exact ⟨no true, no false⟩
theorem tree_role {t : List R4} {T : Tree} (h : OkT t (NmT t) T) (ah : Bool) : roleX t (treeD T) ah = none := by
  cases T with
  | nm w => cases ah; exact h.2.2; exact h.2.1
  | be w x => rfl
  | bh w x => rfl
  | bt w l r => rfl
theorem cut_pre {α : Type} (l : List α) (n : Nat) : Eng.cut l none (some (n : Int)) = l.take n := by
  unfold Eng.cut
  rw [HT.sIx_none, HT.sIx_nat, List.drop_zero, Nat.sub_zero]
  by_cases h : n ≤ l.length
  · rw [Nat.min_eq_left h]
  · (rw [Nat.min_eq_right (by omega), List.take_of_length_le (Nat.le_refl _), List.take_of_length_le (by omega)])
theorem law_ret {ns : List Int} {m : Md} (hm : m = .fz ∨ m = .cl) (hn : ns.length ≤ 63) : ∃ ρ, m_law [scrC ns m] = .ok ((.bool true, .cl), ρ) := by
  obtain ⟨ws, hws, hnd, ew⟩ := words_ok2 (cellI ns (0 : Int).toNat)
  have hws8 := hws.1
  obtain ⟨t, ht, hl, h6t, et⟩ := table_ok2 hws (cellsI ns (3 : Int).toNat (13 : Int).toNat) (Nat.le_trans (cellsI_len _ _ _) (by decide))
  have hlen : 7 < ws.length := by omega
  have e6 : ws[6]? = some ws[6] := List.getElem?_eq_getElem (by omega)
  have e7 : ws[7]? = some ws[7] := List.getElem?_eq_getElem hlen
  generalize ws[6] = w6 at e6
  generalize ws[7] = w7 at e7
  have n6 : NmT t w6 := ⟨hws.2 _ (List.mem_of_getElem? e6), untold_of hnd h6t (by omega) e6⟩
  have n7 : NmT t w7 := ⟨hws.2 _ (List.mem_of_getElem? e7), untold_of hnd h6t (by omega) e7⟩
  have i6 : hIx (.list (strsD ws), .cl) (.int 6, .cl) = some (.str (tS0 w6), .cl) := hIx_strs (k := 6) rfl e6
  have i7 : hIx (.list (strsD ws), .cl) (.int 7, .cl) = some (.str (tS0 w7), .cl) := hIx_strs (k := 7) rfl e7
  obtain ⟨T, hT, hops, eT⟩ := tree_ok ht hws8 (N := NmT t) (fun w hw h => by
    refine ⟨hws.2 w hw, ?_⟩
    rcases h with h | h | h
    · exact h
    · exact untold_of hnd h6t (by omega) h
    · exact untold_of hnd h6t (by omega) h) (cellsI ns (13 : Int).toNat (43 : Int).toNat) (Nat.le_trans (cellsI_len _ _ _) (by decide))
  have hops30 : T.ops ≤ 30 := Nat.le_trans hops (Nat.le_trans (cellsI_len _ _ _) (by decide))
  have nT : NiceN 40 (treeD T) := ⟨tree_lay ht hT, Nat.le_trans (ht_depth T) (by omega)⟩
  have s1 : b_law_1 [scrC ns m, .un, .un, .un, .un, .un, .un] = .nx [scrC ns m, .own (strsD ws), .un, .un, .un, .un, .un] := by walk_at "s"
  have s2 : b_law_2 [scrC ns m, .own (strsD ws), .un, .un, .un, .un, .un] = .nx [scrC ns m, .val (.list (strsD ws)), .own (t.map rowD), .un, .un, .un, .un] := by
    refine sShr_go (ρ' := [scrC ns m, .val (.list (strsD ws)), .un, .un, .un, .un, .un]) rfl ?_
    walk_at "s"
  have s3 : b_law_3 [scrC ns m, .val (.list (strsD ws)), .own (t.map rowD), .un, .un, .un, .un] = .nx [scrC ns m, .val (.list (strsD ws)), .val (.list (t.map rowD)), .val (treeD T), .un, .un, .un] := by
    refine sShr_go (ρ' := _) rfl (sShr_go (ρ' := [scrC ns m, .val (.list (strsD ws)), .val (.list (t.map rowD)), .un, .un, .un, .un]) rfl ?_)
    walk_at "s"
  have s4 : b_law_4 [scrC ns m, .val (.list (strsD ws)), .val (.list (t.map rowD)), .val (treeD T), .un, .un, .un] = .nx [scrC ns m, .val (.list (strsD ws)), .val (.list (t.map rowD)), .val (treeD T), .val (.bool true), .un, .un] := by walk_at "s"
  -- the thing at the bottom
  obtain ⟨x, due, s5, hx⟩ : ∃ (x : D) (due : Bool), b_law_5 [scrC ns m, .val (.list (strsD ws)), .val (.list (t.map rowD)), .val (treeD T), .val (.bool true), .un, .un] = .nx [scrC ns m, .val (.list (strsD ws)), .val (.list (t.map rowD)), .val x, .val (.bool due), .un, .un] ∧
      ∀ Ws : List Wrap, (∀ w ∈ Ws, WrapOk t w) → Ws.length ≤ 2 → retR (m_belongs [.val (.list (t.map rowD)), .val (wrapD Ws x)]) = .ok (.bool due, .cl) := by
    have tc : mCmp hGt (mBin hMod (mCall m__law_cell_at (mCons (mVar 0) (mCons (mK (.int 1)) (mNil)))) (mK (.int 3))) (mK (.int 0)) [scrC ns m, .val (.list (strsD ws)), .val (.list (t.map rowD)), .val (treeD T), .val (.bool true), .un, .un] = .ok (decide (0 < cellI ns (1 : Int).toNat % 3)) := by walk_at "e"
    by_cases h : 0 < cellI ns (1 : Int).toNat % 3
    · obtain ⟨x, ⟨hx1, hx2⟩, ex⟩ := spoiled_ok ht hws e6 e7 n6 n7 nT (tree_role hT) (cellI ns (2 : Int).toNat)
      refine ⟨x, false, sIf_t (tc.trans (by rw [decide_eq_true h])) ?_, fun Ws hW hl => belongs_bad ht hx1 hx2 hW (by omega)⟩
      refine sSeq_go (ρ' := [scrC ns m, .val (.list (strsD ws)), .val (.list (t.map rowD)), .val x, .val (.bool true), .un, .un]) ?_ (by walk_at "s")
      refine sShr_go (ρ' := _) rfl (sShr_go (ρ' := _) rfl (sShr_go (ρ' := [scrC ns m, .val (.list (strsD ws)), .val (.list (t.map rowD)), .val (treeD T), .val (.bool true), .un, .un]) rfl ?_))
      walk_at "s"
    · refine ⟨treeD T, true, sIf_f (tc.trans (by rw [decide_eq_false h])) rfl, fun Ws hW hl => ?_⟩
      obtain ⟨T', h1, h2, h3⟩ := wraps_tree ht hT hW
      rw [← h2]
      exact belongs_tree ht h1 (by omega)
  -- what stands about it
  obtain ⟨Ws, a, hW, hWl, s6⟩ : ∃ (Ws : List Wrap) (a : Cell), (∀ w ∈ Ws, WrapOk t w) ∧ Ws.length ≤ 2 ∧ b_law_6 [scrC ns m, .val (.list (strsD ws)), .val (.list (t.map rowD)), .val x, .val (.bool due), .un, .un] = .nx [scrC ns m, .val (.list (strsD ws)), .val (.list (t.map rowD)), .val (wrapD Ws x), .val (.bool due), a, .un] := by
    have p1 := Int.emod_nonneg (cellI ns (1 : Int).toNat / 3) (show (3 : Int) ≠ 0 by decide)
    have p2 := Int.emod_lt_of_pos (cellI ns (1 : Int).toNat / 3) (show (0 : Int) < 3 by decide)
    obtain ⟨n, hn2, en⟩ : ∃ n : Nat, n ≤ 2 ∧ cellI ns (1 : Int).toNat / 3 % 3 = (n : Int) := ⟨(cellI ns (1 : Int).toNat / 3 % 3).toNat, by omega, by omega⟩
    have ei : mIterL (mSl (mVar 2) (mNoP) (mPart (mBin hMod (mBin hDiv (mCall m__law_cell_at (mCons (mVar 0) (mCons (mK (.int 1)) (mNil)))) (mK (.int 3))) (mK (.int 3))))) [scrC ns m, .val (.list (strsD ws)), .val (.list (t.map rowD)), .val x, .val (.bool due), .un, .un] = .ok ((t.take n).map rowD) := by
      have sl : hSl (.list (t.map rowD), .cl) none (some (n : Int)) = some (.list ((t.take n).map rowD), .fr) := by
        unfold hSl
        dsimp only
        rw [if_pos (.inl rfl), cut_pre, List.map_take]
      have e1 : mSl (mVar 2) (mNoP) (mPart (mBin hMod (mBin hDiv (mCall m__law_cell_at (mCons (mVar 0) (mCons (mK (.int 1)) (mNil)))) (mK (.int 3))) (mK (.int 3)))) [scrC ns m, .val (.list (strsD ws)), .val (.list (t.map rowD)), .val x, .val (.bool due), .un, .un] = .ok (.list ((t.take n).map rowD), .fr) := by
        refine mSl_ok (x := (.list (t.map rowD), .cl)) rfl mNoP_ok (mPart_ok (m := .cl) ?_) sl
        rw [← en]
        walk_at "e"
      unfold mIterL
      rw [e1]
      rfl
    let R : Out → Prop := fun o => ∃ (Ws : List Wrap) (a : Cell), (∀ w ∈ Ws, WrapOk t w) ∧ Ws.length ≤ 2 ∧ o = .nx [scrC ns m, .val (.list (strsD ws)), .val (.list (t.map rowD)), .val (wrapD Ws x), .val (.bool due), a, .un]
    have loop : R (forL 5 b_law_6_1 ((t.take n).map rowD) [scrC ns m, .val (.list (strsD ws)), .val (.list (t.map rowD)), .val x, .val (.bool due), .un, .un]) := by
      refine forL_to (I := fun ds ρ => ∃ (rs : List R4) (Ws : List Wrap) (a : Cell), ds = rs.map rowD ∧ (∀ r ∈ rs, r ∈ t) ∧ (∀ w ∈ Ws, WrapOk t w) ∧ Ws.length + rs.length ≤ 2 ∧ ρ = [scrC ns m, .val (.list (strsD ws)), .val (.list (t.map rowD)), .val (wrapD Ws x), .val (.bool due), a, .un]) ⟨t.take n, [], .un, rfl, fun r h => List.mem_of_mem_take h, by simp, by rw [List.length_take]; simp; omega, rfl⟩ ?_ ?_
      · rintro ρ ⟨rs, Ws, a, _, _, h1, h2, rfl⟩
        exact ⟨Ws, a, h1, by omega, rfl⟩
      · rintro d ds ρ ⟨rs, Ws, a, he, hr, h1, h2, rfl⟩
        cases rs with
        | nil => cases he
        | cons r rs =>
          cases he
          rw [List.length_cons] at h2
          have rt := hr r List.mem_cons_self
          refine .inl ?_
          show ∃ ρ', b_law_6_1 [scrC ns m, .val (.list (strsD ws)), .val (.list (t.map rowD)), .val (wrapD Ws x), .val (.bool due), .val (rowD r), .un] = .nx ρ' ∧ _
          have fin : ∀ W : Wrap, WrapOk t W → b_law_6_1 [scrC ns m, .val (.list (strsD ws)), .val (.list (t.map rowD)), .val (wrapD Ws x), .val (.bool due), .val (rowD r), .un] = .nx [scrC ns m, .val (.list (strsD ws)), .val (.list (t.map rowD)), .val (W.on (wrapD Ws x)), .val (.bool due), .val (rowD r), .un] →
              ∃ ρ', b_law_6_1 [scrC ns m, .val (.list (strsD ws)), .val (.list (t.map rowD)), .val (wrapD Ws x), .val (.bool due), .val (rowD r), .un] = .nx ρ' ∧ ∃ (rs' : List R4) (Ws : List Wrap) (a : Cell), rs.map rowD = rs'.map rowD ∧ (∀ r ∈ rs', r ∈ t) ∧ (∀ w ∈ Ws, WrapOk t w) ∧ Ws.length + rs'.length ≤ 2 ∧ ρ' = [scrC ns m, .val (.list (strsD ws)), .val (.list (t.map rowD)), .val (wrapD Ws x), .val (.bool due), a, .un] := fun W hW e =>
            ⟨_, e, rs, W :: Ws, _, rfl, fun z hz => hr z (List.mem_cons_of_mem _ hz), fun z hz => by
              rcases List.mem_cons.mp hz with (rfl | hz)
              · exact hW
              · exact h1 z hz, by rw [List.length_cons]; omega, rfl⟩
          have tc : mCmp hIn (mBin hIx (mVar 5) (mK (.int 1))) (mLst (mCons (mK (.str "before")) (mCons (mK (.str "behind")) (mNil)))) [scrC ns m, .val (.list (strsD ws)), .val (.list (t.map rowD)), .val (wrapD Ws x), .val (.bool due), .val (rowD r), .un] = .ok (decide (r.k = "before") || decide (r.k = "behind")) := by walk_at "e"
          by_cases ho : OneK r
          · refine fin (.un r) ⟨rt, ho⟩ (sIf_t (tc.trans (by have : (decide (r.k = "before") || decide (r.k = "behind")) = true := by simpa [OneK] using ho
                                                             rw [this])) ?_)
            refine sShr_go (ρ' := [scrC ns m, .val (.list (strsD ws)), .val (.list (t.map rowD)), .val (wrapD Ws x), .val (.bool due), .val (rowD r), .un]) rfl ?_
            show _ = Out.nx [scrC ns m, .val (.list (strsD ws)), .val (.list (t.map rowD)), .val (.tuple [.str r.k, .str (tS0 r.w), wrapD Ws x]), .val (.bool due), .val (rowD r), .un]
            walk_at "s"
          · have hb : (decide (r.k = "before") || decide (r.k = "behind")) = false := by simpa [OneK] using ho
            have t2 : mCmp hEq (mBin hMod (mBin hDiv (mCall m__law_cell_at (mCons (mVar 0) (mCons (mK (.int 1)) (mNil)))) (mK (.int 9))) (mK (.int 2))) (mK (.int 0)) [scrC ns m, .val (.list (strsD ws)), .val (.list (t.map rowD)), .val (wrapD Ws x), .val (.bool due), .val (rowD r), .un] = .ok (decide (cellI ns (1 : Int).toNat / 9 % 2 = 0)) := by walk_at "e"
            by_cases h9 : cellI ns (1 : Int).toNat / 9 % 2 = 0
            · refine fin (.lf r w7) ⟨rt, ho, n7⟩ (sIf_f (tc.trans (by rw [hb])) (sIf_t (t2.trans (by rw [decide_eq_true h9])) ?_))
              refine sShr_go (ρ' := [scrC ns m, .val (.list (strsD ws)), .val (.list (t.map rowD)), .val (wrapD Ws x), .val (.bool due), .val (rowD r), .un]) rfl ?_
              show _ = Out.nx [scrC ns m, .val (.list (strsD ws)), .val (.list (t.map rowD)), .val (.tuple [.str "between", .str (tS0 r.w), .str (tS0 w7), wrapD Ws x]), .val (.bool due), .val (rowD r), .un]
              walk_at "s"
            · refine fin (.rt r w6) ⟨rt, ho, n6⟩ (sIf_f (tc.trans (by rw [hb])) (sIf_f (t2.trans (by rw [decide_eq_false h9])) ?_))
              refine sShr_go (ρ' := [scrC ns m, .val (.list (strsD ws)), .val (.list (t.map rowD)), .val (wrapD Ws x), .val (.bool due), .val (rowD r), .un]) rfl ?_
              show _ = Out.nx [scrC ns m, .val (.list (strsD ws)), .val (.list (t.map rowD)), .val (.tuple [.str "between", .str (tS0 r.w), wrapD Ws x, .str (tS0 w6)]), .val (.bool due), .val (rowD r), .un]
              walk_at "s"
    obtain ⟨Ws, a, h1, h2, e⟩ := loop
    exact ⟨Ws, a, h1, h2, (sFor_ok ei).trans e⟩
  have eb := hx Ws hW hWl
  have s7 : b_law_7 [scrC ns m, .val (.list (strsD ws)), .val (.list (t.map rowD)), .val (wrapD Ws x), .val (.bool due), a, .un] = .nx [scrC ns m, .val (.list (strsD ws)), .val (.list (t.map rowD)), .val (wrapD Ws x), .val (.bool due), a, .val (.bool due)] := by
    refine sShr_go (ρ' := [scrC ns m, .val (.list (strsD ws)), .val (.list (t.map rowD)), .val (wrapD Ws x), .val (.bool due), a, .un]) rfl ?_
    walk_at "s"
  have s8 : b_law_8 [scrC ns m, .val (.list (strsD ws)), .val (.list (t.map rowD)), .val (wrapD Ws x), .val (.bool due), a, .val (.bool due)] = .rt (.bool true) .cl [scrC ns m, .val (.list (strsD ws)), .val (.list (t.map rowD)), .val (wrapD Ws x), .val (.bool due), a, .val (.bool due)] := by
    refine sRet_ok ?_ (by decide)
    have c1 : mIsi "bool" (mVar 6) [scrC ns m, .val (.list (strsD ws)), .val (.list (t.map rowD)), .val (wrapD Ws x), .val (.bool due), a, .val (.bool due)] = .ok (.bool true, .cl) := rfl
    have c2 : mVal (mCmp hEq (mVar 6) (mVar 4)) [scrC ns m, .val (.list (strsD ws)), .val (.list (t.map rowD)), .val (wrapD Ws x), .val (.bool due), a, .val (.bool due)] = .ok (.bool (decide (due = due)), .cl) := by walk_at "e"
    rw [decide_eq_true rfl] at c2
    unfold mAndV
    rw [mBool_ok c1]
    exact c2
  exact ⟨_, run_rt (sSeq_go s1 (sSeq_go s2 (sSeq_go s3 (sSeq_go s4 (sSeq_go s5 (sSeq_go s6 (sSeq_go s7 s8)))))))⟩
theorem law_true : ∀ ns : List Int, ns.length ≤ 63 → (∀ z ∈ ns, Builtin.Int.intBits z ≤ 1048576) → ∀ m, m = .fz ∨ m = .cl → ∃ ρ, m_law [scrC ns m] = .ok ((.bool true, .cl), ρ) := fun _ hn _ _ hm => law_ret hm hn
end V_k06

open PySem PySem.W
open PyProof.Rows
set_option maxHeartbeats 0 in
theorem PySem.Challenge.cw_precread_k06_trees_belong_holds : PySem.Challenge.rw_precread_k06_trees_belong.Holds := by
  w_on
  o_law
  k_head
  (case hw => w_witness2)
  k_fill
  refine Eng.walk_ofDefs (l := PySem.Challenge.rw_precread_k06_trees_belong) (n := 63) (k := 7) (x := "_law_script") (CX := fun w => L2.CX (PySem.Challenge.rw_precread_k06_trees_belong).prog w) ["is_word", "belongs"] rfl (by decide) rfl ⟨rfl, by decide, by decide⟩ (by decide +kernel) (fun w h Y => PySem.W.kIn_of Y) ?F (fun w H s s' e h => ?cx)
  case cx => exact Eng.cx_false h
  case F =>
    intro w mg fa h Y KX G hmg own
    refine' V_k06.all_mk KX G hmg own ?a_0 ?l_0 ?c_0 ?k_0 ?u_0 ?h_0 ?r_0 ?v_0 ?n_0 ?a_1 ?l_1 ?c_1 ?k_1 ?a_2 ?l_2 ?c_2 ?k_2 ?a_3 ?l_3 ?c_3 ?k_3 ?a_4 ?l_4 ?c_4 ?k_4 ?a_5 ?l_5 ?c_5 ?k_5 ?a_6 ?l_6 ?c_6 ?k_6 ?a_7 ?l_7 ?c_7 ?k_7 ?a_8 ?l_8 ?c_8 ?k_8 ?a_9 ?l_9 ?c_9 ?k_9 ?a_10 ?l_10 ?c_10 ?k_10 ?a_11 ?l_11 ?c_11 ?k_11 ?u_11 ?h_11 ?r_11 ?v_11 ?n_11 ?a_12 ?l_12 ?c_12 ?k_12 ?a_13 ?l_13 ?c_13 ?k_13 ?a_14 ?l_14 ?c_14 ?k_14 ?a_15 ?l_15 ?c_15 ?k_15 ?a_16 ?l_16 ?c_16 ?k_16 ?a_17 ?l_17 ?c_17 ?k_17 ?a_18 ?l_18 ?c_18 ?k_18 ?a_19 ?l_19 ?c_19 ?k_19 ?a_20 ?l_20 ?c_20 ?k_20 ?a_21 ?l_21 ?c_21 ?k_21 ?a_22 ?l_22 ?c_22 ?k_22 ?a_23 ?l_23 ?c_23 ?k_23 ?a_24 ?l_24 ?c_24 ?k_24 ?a_25 ?l_25 ?c_25 ?k_25 ?a_26 ?l_26 ?c_26 ?k_26 ?z_0 ?z_1 ?z_2 ?z_3 ?z_4 ?z_5 ?z_6 ?z_7 ?z_8 ?z_9 ?y_0 ?y_1 ?y_2 ?y_3 ?y_4 V_k06.law_true
    (case a_0 => k_is); (case l_0 => k_is); (case c_0 => k_is); (case k_0 => k_is); (case u_0 => k_is); (case h_0 => exact rfl); (case r_0 => rfl); (case v_0 => rfl); (case n_0 => rfl); (case a_1 => k_is); (case l_1 => k_is); (case c_1 => k_is); (case k_1 => k_is); (case a_2 => k_is); (case l_2 => k_is); (case c_2 => k_is); (case k_2 => k_is); (case a_3 => k_is); (case l_3 => k_is); (case c_3 => k_is); (case k_3 => k_is); (case a_4 => k_is); (case l_4 => k_is); (case c_4 => k_is); (case k_4 => k_is); (case a_5 => k_is); (case l_5 => k_is); (case c_5 => k_is); (case k_5 => k_is); (case a_6 => k_is); (case l_6 => k_is); (case c_6 => k_is); (case k_6 => k_is); (case a_7 => k_is); (case l_7 => k_is); (case c_7 => k_is); (case k_7 => k_is); (case a_8 => k_is); (case l_8 => k_is); (case c_8 => k_is); (case k_8 => k_is); (case a_9 => k_is); (case l_9 => k_is); (case c_9 => k_is); (case k_9 => k_is); (case a_10 => k_is); (case l_10 => k_is); (case c_10 => k_is); (case k_10 => k_is); (case a_11 => k_is); (case l_11 => k_is); (case c_11 => k_is); (case k_11 => k_is); (case u_11 => k_is); (case h_11 => exact rfl); (case r_11 => rfl); (case v_11 => rfl); (case n_11 => rfl); (case a_12 => k_is); (case l_12 => k_is); (case c_12 => k_is); (case k_12 => k_is); (case a_13 => k_is); (case l_13 => k_is); (case c_13 => k_is); (case k_13 => k_is); (case a_14 => k_is); (case l_14 => k_is); (case c_14 => k_is); (case k_14 => k_is); (case a_15 => k_is); (case l_15 => k_is); (case c_15 => k_is); (case k_15 => k_is); (case a_16 => k_is); (case l_16 => k_is); (case c_16 => k_is); (case k_16 => k_is); (case a_17 => k_is); (case l_17 => k_is); (case c_17 => k_is); (case k_17 => k_is); (case a_18 => k_is); (case l_18 => k_is); (case c_18 => k_is); (case k_18 => k_is); (case a_19 => k_is); (case l_19 => k_is); (case c_19 => k_is); (case k_19 => k_is); (case a_20 => k_is); (case l_20 => k_is); (case c_20 => k_is); (case k_20 => k_is); (case a_21 => k_is); (case l_21 => k_is); (case c_21 => k_is); (case k_21 => k_is); (case a_22 => k_is); (case l_22 => k_is); (case c_22 => k_is); (case k_22 => k_is); (case a_23 => k_is); (case l_23 => k_is); (case c_23 => k_is); (case k_23 => k_is); (case a_24 => k_is); (case l_24 => k_is); (case c_24 => k_is); (case k_24 => k_is); (case a_25 => k_is); (case l_25 => k_is); (case c_25 => k_is); (case k_25 => k_is); (case a_26 => k_is); (case l_26 => k_is); (case c_26 => k_is); (case k_26 => k_is); (case z_0 => k_is); (case z_1 => k_is); (case z_2 => k_is); (case z_3 => k_is); (case z_4 => k_is); (case z_5 => k_is); (case z_6 => k_is); (case z_7 => k_is); (case z_8 => k_is); (case z_9 => k_is); (case y_0 => k_is); (case y_1 => k_is); (case y_2 => k_is); (case y_3 => k_is); (case y_4 => k_is)
